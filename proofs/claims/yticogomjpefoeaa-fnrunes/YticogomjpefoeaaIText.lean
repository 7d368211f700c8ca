/- Contract of impl.Text. -/
import Derived.Test.YticogomjpefoeaaText
namespace Go.Proofs.Yticogomjpefoeaa
open Go.ChangeShapes Go.WideShapes Go.ChangeAt Go.RowKit

theorem strCells_nums (s : ByteArray) : Lib.strCells s = (nums s).map (Value.int .u8) := by
  simp [Lib.strCells, nums]

set_option maxHeartbeats 1000000 in
theorem implText_any (v : Value) (xs : List Int) (w : World) (hv : SlI w v xs) (hl : xs.length ≤ 1048576) :
    Calls Try.prog 10 #[v] w fun e w' => e = .returned (.string (textV xs)) ∧ Below w.heap.size w w' := by
  obtain ⟨i0, hi, hz0, hz1, hz2⟩ := info_parts info_u8
  obtain ⟨a, c, rfl, hc⟩ := hv
  generalize hn : xs.length = n at *
  have HN : Hid (xs.length = n) := hn
  clear hn
  go_enter Try.func10, Try.ntmps10
  go_wp2
  go_loopw [3, 9] (fun u i wr => ∃ j : Nat, j ≤ n ∧ i = .int .i64 j ∧ wr.ownsRow w.heap.size 5 1 u (textL (xs.take j)).length ((textL (xs.take j)).map (Value.int .u8)) ∧ Below w.heap.size w wr) (fun _ i _ => n - (intOf i).toNat)
  case atStart =>
    refine ⟨0, Nat.zero_le _, rfl, ?_, (Below.refl _ _).alloc (Nat.le_refl _) _⟩
    exact World.ownsRow_lit (base := w.heap.size) (e := 5) (size := 1) w #[] 0 (Nat.le_refl _) (Nat.zero_le _) rfl
  case round =>
    obtain ⟨j, hj, rfl, ho, hbel⟩ := hrel
    by_cases hlt : j < n
    · rcases hc with hc | ⟨b, off, rfl, hb, hc⟩
      · have := HN.out; rw [hc] at this; simp at this; omega
      · have h0 : wr.cell? ⟨b, off + j, none⟩ = some (.int .i64 (xs.getD j 0)) := (hbel.cell (p := ⟨b, off + j, none⟩) hb).trans (hc j hlt)
        have hsn : Hid (textL (xs.take (j + 1)) = textL (xs.take j) ++ putL (okR (xs.getD j 0))) := textL_snoc xs j (by have := HN.out; omega)
        have hL : (textL (xs.take j)).length ≤ 4 * n := by have h := textL_len (xs.take j); rw [List.length_take] at h; omega
        have hbs := hbel.size
        clear hc
        generalize xs.getD j 0 = x at *
        generalize hT : textL (xs.take j) = T at *
        clear hT
        have hput : ∃ p : ByteArray, p.size ≤ 4 ∧ p.size = (putL (okR x)).length ∧ putS (okR x) = p ∧ Lib.strCells p = (putL (okR x)).map (Value.int .u8) := by
          have hk := okR_ok x
          exact ⟨_, putS_size4 _, putS_size _ hk, rfl, by rw [strCells_nums, nums_putS _ hk]⟩
        obtain ⟨p, hp4, hpl, hpe, hpc⟩ := hput
        have HC : Hid (Lib.strCells p = (putL (okR x)).map (Value.int .u8)) := hpc
        have HL : Hid (p.size = (putL (okR x)).length) := hpl
        clear hpc hpl
        by_cases hr : runeOk x = true
        · have hpi := fun W => implPut_any x W
          rw [okR_yes x hr] at hpe
          rw [hpe] at hpi
          clear hpe
          go_wp2_with (first
            | (go_at_call 22; refine (implRuneOk_any _ _).mono ?_; rintro e w2 ⟨rfl, rfl⟩)
            | (go_at_call 8; refine (hpi _).mono ?_; rintro e w3 ⟨rfl, hb3⟩)
            | (at_builtin; refine Lib.wpList_append_own_string _ rfl _ _ 22 9 rfl w.heap.size 5 i0 Try.underlying22 Try.underlying9 hi hz0 hz1 hz2 _ _ _ rfl (ho.below hb3) p rfl ?c3 ?c4 ?c5 ?_))
          case c3 => unfold maxLen; omega
          case c4 => omega
          case c5 => have := hb3.size; omega
          · intro v' w4 ho4 hg4 _
            have hbel4 : Below w.heap.size w w4 := ((hbel.trans (hb3.mono hbs)).grown hg4 (by have := hb3.size; omega) (fun k hk => (ho.lt k hk).1))
            rw [HC.out, HL.out] at ho4
            clear hg4 ho hpi
            go_wp2
            go_roundw
            case rel => exact ⟨j + 1, by omega, by go_num, by rw [hsn.out]; simpa using ho4, hbel4⟩
            case measure => simp [intOf]; omega
        · have hr : runeOk x = false := by simpa using hr
          have hpi := fun W => implPut_any 65533 W
          rw [okR_no x hr] at hpe
          rw [hpe] at hpi
          clear hpe
          go_wp2_with (first
            | (go_at_call 22; refine (implRuneOk_any _ _).mono ?_; rintro e w2 ⟨rfl, rfl⟩)
            | (go_at_call 8; refine (hpi _).mono ?_; rintro e w3 ⟨rfl, hb3⟩)
            | (at_builtin; refine Lib.wpList_append_own_string _ rfl _ _ 22 9 rfl w.heap.size 5 i0 Try.underlying22 Try.underlying9 hi hz0 hz1 hz2 _ _ _ rfl (ho.below hb3) p rfl ?c3 ?c4 ?c5 ?_))
          case c3 => unfold maxLen; omega
          case c4 => omega
          case c5 => have := hb3.size; omega
          · intro v' w4 ho4 hg4 _
            have hbel4 : Below w.heap.size w w4 := ((hbel.trans (hb3.mono hbs)).grown hg4 (by have := hb3.size; omega) (fun k hk => (ho.lt k hk).1))
            rw [HC.out, HL.out] at ho4
            clear hg4 ho hpi
            go_wp2
            go_roundw
            case rel => exact ⟨j + 1, by omega, by go_num, by rw [hsn.out]; simpa using ho4, hbel4⟩
            case measure => simp [intOf]; omega
    · have hjn : xs.take j = xs := List.take_of_length_le (by have := HN.out; omega)
      rw [hjn] at ho
      have hcv := conv_own ho
      clear hc
      go_wp2
      go_ret
      exact ⟨rfl, hbel⟩
end Go.Proofs.Yticogomjpefoeaa
