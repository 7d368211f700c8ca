/- Contracts of Fitting. -/
import Derived.Test.YticogomjpefoeahDoorW2
import Derived.Test.YticogomjpefoeahDoorClone
namespace Go.Proofs.YticogomjpefoeahDoor
open Go.ChangeShapes Go.WideShapes Go.ChangeAt Go.RowKit

theorem ret_s {a b : ByteArray} (h : a = b) : Ending.returned (.string a) = .returned (.string b) := by rw [h]
theorem extract_all (s : ByteArray) : s.extract 0 s.size = s := by
  apply nums_inj; rw [nums_extract, ← nums_len s, List.take_length, List.drop_zero]
theorem fitV_no (s : ByteArray) (c : Int) (h : c < 0 ∨ 1000 < c) : fitV s c = ⟨#[]⟩ := by simp [fitV, h]
theorem fitV_yes (s : ByteArray) (c : Int) (h : 0 ≤ c ∧ c ≤ 1000) : fitV s c = s.extract 0 (fitF s.size (nums s) c) := by unfold fitV; rw [if_neg (by omega)]

set_option maxHeartbeats 1000000 in
theorem implFitting_any (s : ByteArray) (c : Int) (w : World) (hS : SpansAt w) (hs : s.size ≤ 1048576) :
    Calls Tryd.prog 11 #[.string s, .int .i64 c] w fun e w' => e = .returned (.string (fitV s c)) ∧ Below w.heap.size w w' := by
  by_cases hc : 0 ≤ c ∧ c ≤ 1000
  · obtain ⟨hc0, hc1⟩ := hc
    have hV : Hid (fitV s c = s.extract 0 (fitF s.size (nums s) c)) := fitV_yes s c ⟨hc0, hc1⟩
    have hlt := hS.lt
    go_enter Tryd.func11, Tryd.ntmps11
    go_wp2
    go_loopw [1, 5] (fun c' e wr => ∃ (p : Nat) (d : Int), c' = .int .i64 d ∧ e = .int .i64 p ∧ 0 ≤ d ∧ d ≤ 1000 ∧ p ≤ s.size ∧ Hid (p + fitF s.size ((nums s).drop p) d = fitF s.size (nums s) c) ∧ Below w.heap.size w wr) (fun _ e _ => s.size - (intOf e).toNat)
    case atStart => exact ⟨0, c, rfl, rfl, hc0, hc1, Nat.zero_le _, (by show _ = _; simp), Below.refl _ _⟩
    case round =>
      obtain ⟨p, d, rfl, rfl, hd0, hd1, hp, hf, hbw⟩ := hrel
      by_cases hlt2 : p < s.size
      · have hpi : (p : Int) < (s.size : Int) := by omega
        have hgv := getV_dec s p
        have hge := implGet_any (s.extract p s.size)
        have hsz : (s.extract p s.size).size ≤ maxLen := by rw [ByteArray.size_extract]; unfold maxLen; omega
        have hgb := getV_bd (s.extract p s.size) (by rw [ByteArray.size_extract]; omega)
        have hsz2 : (s.extract p s.size).size = s.size - p := by rw [ByteArray.size_extract]; omega
        rw [hsz2] at hgb
        have hgo := fit_go s p hlt2 d
        have hno := fitF_no s.size ((nums s).drop p) d
        rw [hgv] at hge hgb
        generalize dec ((nums s).drop p) = q at *
        obtain ⟨r, k⟩ := q
        simp only at hge hgb hgo hno
        have hwr := hS.below hbw hlt
        have HG : Hid (widthV r ≤ d → fitF s.size ((nums s).drop p) d = k.toNat + fitF s.size ((nums s).drop (p + k.toNat)) (d - widthV r)) := hgo
        have HN : Hid (d < widthV r → fitF s.size ((nums s).drop p) d = 0) := hno
        have hwv := widthV_bd r
        clear hgo hno hgv hsz2
        go_wp2_with fail
        refine (hge _ hsz).mono ?_
        clear hge hsz
        rintro e w1 ⟨rfl, hb1⟩
        have hb1' := hbw.trans (hb1.mono hbw.size)
        have hwr1 := hS.below hb1' hlt
        go_wp2_with fail
        refine (implWidth_any r _ hwr1).mono ?_
        rintro e w2 ⟨rfl, hb2⟩
        have hb2' := hb1'.trans (hb2.mono hb1'.size)
        clear hwr hwr1 hb1 hb1' hb2 hbw
        by_cases hw : d < widthV r
        · have hz := HN.out hw
          have hfp : Hid (fitF s.size (nums s) c = p) := by show _ = _; rw [← hf.out, hz]; rfl
          clear HG HN hz hf
          generalize widthV r = y at *
          generalize fitF s.size (nums s) c = F at *
          go_wp2_with fail
          refine (clone_any (s.extract 0 p) _ (by rw [ByteArray.size_extract]; omega)).mono ?_
          rintro e w3 ⟨rfl, hb3⟩
          go_wp2
          go_ret
          exact ⟨ret_s (by rw [hV.out, hfp.out]), hb2'.trans (hb3.mono hb2'.size)⟩
        · have hg := HG.out (by omega)
          have hf2 : Hid (p + k.toNat + fitF s.size ((nums s).drop (p + k.toNat)) (d - widthV r) = fitF s.size (nums s) c) := by
            show _ = _; rw [← hf.out, hg, Nat.add_assoc]
          clear HG HN hg hf
          obtain ⟨kn, rfl⟩ : ∃ kn : Nat, k = kn := ⟨k.toNat, by omega⟩
          rw [Int.toNat_natCast] at hf2
          generalize widthV r = y at *
          go_wp2
          go_roundw
          case rel => exact ⟨p + kn, d - y, rfl, by go_num, by omega, by omega, by omega, hf2, hb2'⟩
          case measure => simp [intOf]; omega
      · have hps : p = s.size := by omega
        have hfp : Hid (fitF s.size (nums s) c = p) := by show _ = _; rw [← hf.out, fit_end s p (by omega)]; rfl
        have hx : Hid (fitV s c = s) := by show _ = _; rw [hV.out, hfp.out, hps]; exact extract_all s
        clear hf hfp hV
        go_wp2_with fail
        refine (clone_any s _ (by omega)).mono ?_
        rintro e w3 ⟨rfl, hb3⟩
        go_wp2
        go_ret
        exact ⟨ret_s hx.out.symm, hbw.trans (hb3.mono hbw.size)⟩
  · have hV : Hid (fitV s c = ⟨#[]⟩) := fitV_no s c (by omega)
    go_enter Tryd.func11, Tryd.ntmps11
    go_wp2
    all_goals
      go_ret
      exact ⟨ret_s hV.out.symm, Below.refl _ _⟩

set_option maxHeartbeats 1000000 in
theorem specFitting_any (s : ByteArray) (c : Int) (w : World) (hs : s.size ≤ 1048576) :
    Calls Tryd.prog 10 #[.string s, .int .i64 c] w fun e w' => e = .returned (.string (fitV s c)) ∧ Below w.heap.size w w' := by
  by_cases hc : 0 ≤ c ∧ c ≤ 1000
  · have hin : decide ((0 : Int) ≤ c ∧ c ≤ 1000) = true := by simpa using hc
    obtain ⟨hc0, hc1⟩ := hc
    have hV : Hid (fitV s c = s.extract 0 (fitF s.size (nums s) c)) := fitV_yes s c ⟨hc0, hc1⟩
    go_enter Tryd.func10, Tryd.ntmps10
    go_wp2_with fail
    refine (l1In_any _ _ _ _).mono ?_
    rw [hin]
    rintro e w0 ⟨rfl, hw0⟩
    subst hw0
    go_wp2
    go_loopw [5, 6] (fun e u wr => ∃ (p : Nat) (S : Int), u = .int .i64 S ∧ e = .int .i64 p ∧ 0 ≤ S ∧ S ≤ c ∧ p ≤ s.size ∧ Hid (p + fitF s.size ((nums s).drop p) (c - S) = fitF s.size (nums s) c) ∧ Below w0.heap.size w0 wr) (fun e _ _ => s.size - (intOf e).toNat)
    case atStart => exact ⟨0, 0, rfl, rfl, by omega, hc0, Nat.zero_le _, (by show _ = _; simp), Below.refl _ _⟩
    case round =>
      obtain ⟨p, S, rfl, rfl, hd0, hd1, hp, hf, hbw⟩ := hrel
      by_cases hlt2 : p < s.size
      · have hpi : (p : Int) < (s.size : Int) := by omega
        have hgv := getV_dec s p
        have hge := specGet_any (s.extract p s.size)
        have hsz : (s.extract p s.size).size ≤ maxLen := by rw [ByteArray.size_extract]; unfold maxLen; omega
        have hgb := getV_bd (s.extract p s.size) (by rw [ByteArray.size_extract]; omega)
        have hsz2 : (s.extract p s.size).size = s.size - p := by rw [ByteArray.size_extract]; omega
        rw [hsz2] at hgb
        have hgo := fit_go s p hlt2 (c - S)
        have hno := fitF_no s.size ((nums s).drop p) (c - S)
        rw [hgv] at hge hgb
        generalize dec ((nums s).drop p) = q at *
        obtain ⟨r, k⟩ := q
        simp only at hge hgb hgo hno
        have HG : Hid (widthV r ≤ c - S → fitF s.size ((nums s).drop p) (c - S) = k.toNat + fitF s.size ((nums s).drop (p + k.toNat)) (c - S - widthV r)) := hgo
        have HN : Hid (c - S < widthV r → fitF s.size ((nums s).drop p) (c - S) = 0) := hno
        have hwv := widthV_bd r
        clear hgo hno hgv hsz2
        go_wp2_with fail
        refine (hge _ hsz).mono ?_
        clear hge hsz
        rintro e w1 ⟨rfl, hb1⟩
        have hb1' := hbw.trans (hb1.mono hbw.size)
        go_wp2_with fail
        refine (specWidth_any r _).mono ?_
        rintro e w2 ⟨rfl, hw2⟩
        subst hw2
        clear hb1 hbw
        by_cases hw : c - S < widthV r
        · have hz := HN.out hw
          have hfp : Hid (fitF s.size (nums s) c = p) := by show _ = _; rw [← hf.out, hz]; rfl
          clear HG HN hz hf
          generalize widthV r = y at *
          generalize fitF s.size (nums s) c = F at *
          go_wp2
          go_ret
          exact ⟨ret_s (by rw [hV.out, hfp.out]), hb1'⟩
        · have hg := HG.out (by omega)
          have hf2 : Hid (p + k.toNat + fitF s.size ((nums s).drop (p + k.toNat)) (c - (S + widthV r)) = fitF s.size (nums s) c) := by
            show _ = _; rw [← hf.out, hg, Nat.add_assoc, Int.sub_sub]
          clear HG HN hg hf
          obtain ⟨kn, rfl⟩ : ∃ kn : Nat, k = kn := ⟨k.toNat, by omega⟩
          rw [Int.toNat_natCast] at hf2
          generalize widthV r = y at *
          go_wp2
          go_roundw
          case rel => exact ⟨p + kn, S + y, rfl, by go_num, by omega, by omega, by omega, hf2, hb1'⟩
          case measure => simp [intOf]; omega
      · have hps : p = s.size := by omega
        have hfp : Hid (fitF s.size (nums s) c = p) := by show _ = _; rw [← hf.out, fit_end s p (by omega)]; rfl
        have hx : Hid (fitV s c = s) := by show _ = _; rw [hV.out, hfp.out, hps]; exact extract_all s
        clear hf hfp hV
        go_wp2
        go_ret
        exact ⟨ret_s hx.out.symm, hbw⟩
  · have hV : Hid (fitV s c = ⟨#[]⟩) := fitV_no s c (by omega)
    have hin : decide ((0 : Int) ≤ c ∧ c ≤ 1000) = false := by simpa using hc
    go_enter Tryd.func10, Tryd.ntmps10
    go_wp2_with fail
    refine (l1In_any _ _ _ _).mono ?_
    rw [hin]
    rintro e w0 ⟨rfl, hw0⟩
    subst hw0
    go_wp2
    go_ret
    exact ⟨ret_s hV.out.symm, Below.refl _ _⟩
end Go.Proofs.YticogomjpefoeahDoor
