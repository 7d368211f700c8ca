/- Contracts of TextWidth. -/
import Derived.Test.YticogomjpefoeahDoorW1
import Derived.Test.YticogomjpefoeahDoorSRunes
namespace Go.Proofs.YticogomjpefoeahDoor
open Go.ChangeShapes Go.WideShapes Go.ChangeAt Go.RowKit

theorem SlI.own_lt {w : World} {base : Nat} {e : TypeId} {v : Value} {xs : List Int} (h : w.ownsRow base e 1 v xs.length (xs.map (Value.int .i64))) : xs = [] ∨ ∃ b off c, v = .slice (some ⟨b, off, none⟩) xs.length c ∧ b < w.heap.size ∧ ∀ i, i < xs.length → w.cell? ⟨b, off + i, none⟩ = some (.int .i64 (xs.getD i 0)) := by
  obtain ⟨a, c, hv, hr⟩ := SlI.of_own h
  rcases hr with hr | ⟨b, off, ha, hlt, hc⟩
  · exact .inl hr
  · exact .inr ⟨b, off, c, by rw [hv, ha], hlt, hc⟩

set_option maxHeartbeats 1000000 in
theorem implTextWidth_any (s : ByteArray) (w : World) (hS : SpansAt w) (hs : s.size ≤ 1048576) :
    Calls Tryd.prog 9 #[.string s] w fun e w' => e = .returned (.int .i64 (textW s)) ∧ Below w.heap.size w w' := by
  have hI := fun w => implRunes_any s w hs
  have hl := runesV_len s
  have hW : Hid (textW s = sumW (runesV s)) := rfl
  generalize runesV s = xs at *
  have hlt := hS.lt
  go_enter Tryd.func9, Tryd.ntmps9
  go_wp2_with fail
  refine (hI _).mono ?_
  clear hI
  rintro e w1 ⟨v, rfl, hb1, ho1⟩
  obtain ⟨a, c, rfl, hr⟩ := SlI.of_own ho1
  have hs1 := hS.below hb1 hlt
  have hlt1 := hs1.lt
  clear ho1
  go_wp2
  go_loopw [3, 9] (fun u i wr => ∃ k : Nat, k ≤ xs.length ∧ i = .int .i64 k ∧ u = .int .i64 (sumW (xs.take k)) ∧ Below w1.heap.size w1 wr) (fun _ i _ => xs.length - (intOf i).toNat)
  case atStart => exact ⟨0, Nat.zero_le _, rfl, by simp [sumW], Below.refl _ _⟩
  case round =>
    obtain ⟨k, hk, rfl, rfl, hbw⟩ := hrel
    by_cases hkl : k < xs.length
    · rcases hr with hr | ⟨b, off, rfl, hbl, hc⟩
      · rw [hr] at hkl; simp at hkl
      · have h0 : wr.cell? ⟨b, off + k, none⟩ = some (.int .i64 (xs.getD k 0)) := (hbw.cell (p := ⟨b, off + k, none⟩) hbl).trans (hc k hkl)
        have hst : Hid (sumW (xs.take (k + 1)) = sumW (xs.take k) + widthV (xs.getD k 0)) := sumW_take xs k hkl
        have hbd := sumW_bd (xs.take k)
        have htl : (xs.take k).length = k := by rw [List.length_take]; omega
        rw [htl] at hbd
        have hki : (k : Int) < (xs.length : Int) := by omega
        have hwr := hs1.below hbw hlt1
        have hwv := widthV_bd (xs.getD k 0)
        clear hc htl
        generalize xs.getD k 0 = x at *
        generalize sumW (xs.take k) = S at *
        go_wp2_with fail
        refine (implWidth_any x _ hwr).mono ?_
        rintro e w2 ⟨rfl, hb2⟩
        have hb3 := hbw.trans (hb2.mono hbw.size)
        generalize widthV x = y at *
        clear hb2 hwr h0 hbw
        go_wp2
        go_roundw
        case rel => exact ⟨k + 1, by omega, by go_num, by rw [hst.out], hb3⟩
        case measure => simp [intOf]; omega
    · have hkn : k = xs.length := by omega
      subst hkn
      rw [List.take_length]
      go_wp2
      go_ret
      exact ⟨ret_i hW.out.symm, hb1.trans (hbw.mono hb1.size)⟩

set_option maxHeartbeats 1000000 in
theorem specTextWidth_any (s : ByteArray) (w : World) (hs : s.size ≤ 1048576) :
    Calls Tryd.prog 8 #[.string s] w fun e w' => e = .returned (.int .i64 (textW s)) ∧ Below w.heap.size w w' := by
  have hI := specRunes_any s w hs
  have hl := runesV_len s
  have hW : Hid (textW s = sumW (runesV s)) := rfl
  generalize runesV s = xs at *
  go_enter Tryd.func8, Tryd.ntmps8
  go_wp2_with fail
  refine hI.mono ?_
  clear hI
  rintro e w1 ⟨v, rfl, hb1, ho1⟩
  obtain ⟨a, c, rfl, hr⟩ := SlI.of_own ho1
  clear ho1
  go_wp2
  go_loopw [3, 5] (fun u i wr => ∃ k : Nat, k ≤ xs.length ∧ i = .int .i64 k ∧ u = .int .i64 (sumW (xs.take k)) ∧ wr = w1) (fun _ i _ => xs.length - (intOf i).toNat)
  case atStart => exact ⟨0, Nat.zero_le _, rfl, by simp [sumW], rfl⟩
  case round =>
    obtain ⟨k, hk, rfl, rfl, rfl⟩ := hrel
    by_cases hkl : k < xs.length
    · rcases hr with hr | ⟨b, off, rfl, hbl, hc⟩
      · rw [hr] at hkl; simp at hkl
      · have h0 := hc k hkl
        have hst : Hid (sumW (xs.take (k + 1)) = sumW (xs.take k) + widthV (xs.getD k 0)) := sumW_take xs k hkl
        have hbd := sumW_bd (xs.take k)
        have htl : (xs.take k).length = k := by rw [List.length_take]; omega
        rw [htl] at hbd
        have hki : (k : Int) < (xs.length : Int) := by omega
        have hwv := widthV_bd (xs.getD k 0)
        clear hc htl
        generalize xs.getD k 0 = x at *
        generalize sumW (xs.take k) = S at *
        go_wp2_with fail
        refine (specWidth_any x _).mono ?_
        rintro e w2 ⟨rfl, hw2⟩
        subst hw2
        generalize widthV x = y at *
        clear h0
        go_wp2
        go_roundw
        case rel => exact ⟨k + 1, by omega, by go_num, by rw [hst.out], trivial⟩
        case measure => simp [intOf]; omega
    · have hkn : k = xs.length := by omega
      subst hkn
      rw [List.take_length]
      go_wp2
      go_ret
      exact ⟨ret_i hW.out.symm, hb1⟩
end Go.Proofs.YticogomjpefoeahDoor
