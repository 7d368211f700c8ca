/- The walk of the law of runes. -/
import Derived.Test.YticogomjpefoeaaDrawS
import Derived.Test.YticogomjpefoeaaDraw3
import Derived.Test.YticogomjpefoeaaBig
import Derived.Test.YticogomjpefoeaaMR
import Derived.Test.YticogomjpefoeaaStarts
import Derived.Test.YticogomjpefoeaaIText
import Derived.Test.YticogomjpefoeaaLike
import Derived.Test.YticogomjpefoeaaSRunes
namespace Go.Proofs.Yticogomjpefoeaa
open Go.ChangeShapes Go.WideShapes Go.ChangeAt Go.RowKit

theorem bdR {B : Nat} {a w : World} (h : Below B a w) (n : Nat) : Below B a (w.drewN n) := ⟨h.os, h.tape, h.output, h.size, h.block⟩
set_option maxRecDepth 20000 in
set_option maxHeartbeats 8000000 in
theorem walk_FnRunes (w : World) (a : Option Addr) (len cap : Nat) (zs : List Int) (hr : IsRow .u8 w a len cap zs) :
    Calls Try.prog 3 #[.slice a len cap] w fun e w' => e = .returned (.bool true) ∧ Below w.heap.size w w' := by
  by_cases h4 : len ≤ 4096
  · obtain ⟨hv, _⟩ := SlB.of_row hr h4
    have hbig : decide (4096 < (len : Int)) = false := by simp; omega
    clear hr
    go_enter Try.func3, Try.ntmps3
    go_wp2_with fail
    refine (big_a a len cap _).mono ?_
    rw [hbig]
    rintro e w0 ⟨rfl, hw0⟩
    subst hw0
    go_wp2_with fail
    refine (drawPut_a _ _ _ hv).mono ?_
    rintro e w1 ⟨r, rfl, hb1⟩
    go_wp2_with fail
    refine (implPut_any r _).mono ?_
    rintro e w2 ⟨rfl, hb2⟩
    have hb2' := hb1.trans (hb2.mono hb1.size)
    clear hb1 hb2
    go_wp2_with fail
    refine (drawText_a _ _ _ (hv.below hb2')).mono ?_
    rintro e w3 ⟨ul, l, rfl, hl, hol, hb3⟩
    have hb3' := hb2'.trans (hb3.mono hb2'.size)
    have hL3 := SlI.of_own hol
    clear hb3 hb2' hol
    go_wp2_with fail
    refine (implText_any ul l _ hL3 (by omega)).mono ?_
    rintro e w4 ⟨rfl, hb4⟩
    have hb4' := hb3'.trans (hb4.mono hb3'.size)
    have hL4 := hL3.below hb4
    clear hb4 hb3' hL3
    go_wp2_with fail
    refine (drawRunes_a _ _ _ (hv.below hb4')).mono ?_
    rintro e w5 ⟨s, rfl, hs, hb5⟩
    have hb5' := hb4'.trans (hb5.mono hb4'.size)
    have hL5 := hL4.below hb5
    clear hb5 hb4' hL4
    go_wp2_with fail
    refine (implRunes_any s _ (by omega)).mono ?_
    rintro e w6 ⟨ux, rfl, hb6, hox⟩
    have hb6' := hb5'.trans (hb6.mono hb5'.size)
    have hL6 := hL5.below hb6
    have hX6 := SlI.of_own hox
    clear hb6 hb5' hL5 hox
    go_wp2_with fail
    refine (implGet_any s _ (by unfold maxLen; omega)).mono ?_
    rintro e w7 ⟨rfl, hb7⟩
    have hb7' := hb6'.trans (hb7.mono hb6'.size)
    have hL7 := hL6.below hb7
    have hX7 := hX6.below hb7
    clear hb7 hb6' hL6 hX6
    go_wp2_with fail
    refine (drawStarts_a _ _ _ (hv.below hb7')).mono ?_
    rintro e w8 ⟨b, rfl, hb8⟩
    have hb8' := hb7'.trans (hb8.mono hb7'.size)
    have hL8 := hL7.below hb8
    have hX8 := hX7.below hb8
    clear hb8 hb7' hL7 hX7
    go_wp2_with fail
    refine (specGet_any s _ (by unfold maxLen; omega)).mono ?_
    rintro e w9 ⟨rfl, hb9⟩
    have hb9' := hb8'.trans (hb9.mono hb8'.size)
    have hL9 := hL8.below hb9
    have hX9 := hX8.below hb9
    clear hb9 hb8' hL8 hX8
    go_wp2_with fail
    refine (specPut_any r _).mono ?_
    rintro e w10 ⟨rfl, hb10⟩
    have hb10' := hb9'.trans (hb10.mono hb9'.size)
    have hL10 := hL9.below hb10
    have hX10 := hX9.below hb10
    clear hb10 hb9' hL9 hX9
    go_wp2_with fail
    refine (specText_any ul l _ hL10 (by omega)).mono ?_
    rintro e w11 ⟨rfl, hb11⟩
    have hb11' := hb10'.trans (hb11.mono hb10'.size)
    have hL11 := hL10.below hb11
    have hX11 := hX10.below hb11
    clear hb11 hb10' hL10 hX10
    go_wp2_with fail
    refine (specRunes_any s _ (by omega)).mono ?_
    rintro e w12 ⟨uy, rfl, hb12, hoy⟩
    have hb12' := hb11'.trans (hb12.mono hb11'.size)
    have hL12 := hL11.below hb12
    have hX12 := hX11.below hb12
    have hY12 := SlI.of_own hoy
    have hxl : (runesV s).length ≤ 40 := Nat.le_trans (runesV_len s) hs
    clear hb12 hb11' hL11 hX11 hoy
    go_wp2_with fail
    refine (like_same ux uy (runesV s) _ hX12 hY12 (by omega)).mono ?_
    rintro e w13 ⟨rfl, n13, hw13⟩
    have hb13' : Below w0.heap.size w0 w13 := by rw [hw13]; exact bdR hb12' n13
    have hL13 : SlI w13 ul l := by rw [hw13]; exact hL12.drewN n13
    have hX13 : SlI w13 ux (runesV s) := by rw [hw13]; exact hX12.drewN n13
    clear hb12' hL12 hX12 hY12 hw13
    go_wp2_with fail
    refine (implStarts_s b _).mono ?_
    rintro e w14 ⟨rfl, hw14⟩
    subst hw14
    go_wp2_with fail
    refine (specStarts_s b _).mono ?_
    rintro e w15 ⟨rfl, hw15⟩
    subst hw15
    go_wp2_with fail
    refine (implRuneOk_any r _).mono ?_
    rintro e w16 ⟨rfl, hw16⟩
    subst hw16
    go_wp2_with fail
    refine (specRuneOk_any r _).mono ?_
    rintro e w17 ⟨rfl, hw17⟩
    subst hw17
    have hxx := runes_back (runesV s)
    rw [map_okR _ (runesV_ok s)] at hxx
    generalize runesV s = xs at *
    obtain ⟨al, cl, rfl, hrl⟩ := hL13
    have HL : Hid (SlI w17 (.slice al l.length cl) l) := ⟨al, cl, rfl, hrl⟩
    have HX : Hid (SlI w17 ux xs) := hX13
    have hbZ := hb13'
    clear hb13' hX13 hv
    by_cases hrr : runeOk r = true
    · obtain ⟨h0, hst⟩ := put_first r hrr
      have hgx := get_putx r hrr
      have hp4 := putS_size4 r
      have hgg := fun W => implGet_any (putS r ++ ⟨#[120]⟩) W (by rw [ByteArray.size_append]; show (putS r).size + 1 ≤ maxLen; unfold maxLen; omega)
      rw [hgx] at hgg
      rw [hrr]
      generalize putS r = P at *
      have he := isEmpty_no P h0
      have hxb : (P[0].toNat : Int) < 256 := by have := P[0].toNat_lt; omega
      clear hgx
      go_wp2_with fail
      refine (hgg _).mono ?_
      clear hgg
      rintro e w18 ⟨rfl, hb18⟩
      have hbZ2 := hbZ.trans (hb18.mono hbZ.size)
      have HL2 : Hid (SlI w18 (.slice al l.length cl) l) := HL.out.below hb18
      have HX2 : Hid (SlI w18 ux xs) := HX.out.below hb18
      clear hb18 hbZ HL HX hrl
      go_wp2_with fail
      refine (implStarts_s _ _).mono ?_
      rw [hst]
      rintro e w19 ⟨rfl, hw19⟩
      subst hw19
      have HL := HL2
      have HX := HX2
      have hbZ := hbZ2
      obtain ⟨al', cl', hvl, hrl⟩ := HL2.out
      simp only [Value.slice.injEq] at hvl
      obtain ⟨h1, _, h2⟩ := hvl
      subst h1; subst h2
      clear HL2 HX2 hbZ2
      go_wp2
      go_loopw [16, 17] (fun f i wr => ∃ k : Nat, k ≤ l.length ∧ i = .int .i64 k ∧ f = .bool (okAll (l.take k)) ∧ wr = w19) (fun _ i _ => l.length - (intOf i).toNat)
      case atStart => exact ⟨0, Nat.zero_le _, rfl, rfl, rfl⟩
      case round =>
        obtain ⟨k, hk, rfl, rfl, rfl⟩ := hrel
        by_cases hkl : k < l.length
        · rcases hrl with hrl | ⟨bl, off, rfl, hbl, hcl⟩
          · rw [hrl] at hkl; simp at hkl
          · have hcell := hcl k hkl
            have hsn : Hid (okAll (l.take (k + 1)) = (okAll (l.take k) && runeOk (l.getD k 0))) := okAll_snoc l k hkl
            have hki : (k : Int) < (l.length : Int) := by omega
            clear hcl HL HX
            generalize l.getD k 0 = y at *
            generalize okAll (l.take k) = f at *
            cases f
            · go_wp2
              go_roundw
              case rel => exact ⟨k + 1, by omega, by go_num, by rw [hsn.out]; rfl, trivial⟩
              case measure => simp [intOf]; omega
            · go_wp2_with fail
              refine (specRuneOk_any y _).mono ?_
              rintro e wk ⟨rfl, hwk⟩
              subst hwk
              go_wp2
              go_roundw
              case rel => exact ⟨k + 1, by omega, by go_num, by rw [hsn.out]; simp, trivial⟩
              case measure => simp [intOf]; omega
        · have hkn : k = l.length := by omega
          subst hkn
          rw [List.take_length]
          by_cases hok : okAll l = true
          · rw [hok]
            have hmap := okAll_map l hok
            have hrt := runes_back l
            rw [hmap] at hrt
            have hri := fun W => implRunes_any (textV l) W (Nat.le_trans (textV_len l) (by omega))
            rw [hrt] at hri
            go_wp2_with fail
            refine (hri _).mono ?_
            clear hri hrt hmap
            rintro e wa ⟨ua, rfl, hba, hoa⟩
            have hbA := hbZ.trans (hba.mono hbZ.size)
            go_wp2_with fail
            refine (like_same ua _ l _ (SlI.of_own hoa) (HL.out.below hba) (by omega)).mono ?_
            rintro e wb ⟨rfl, nb, hwb⟩
            have hbB : Below w0.heap.size w0 wb := by rw [hwb]; exact bdR hbA nb
            have hXB : SlI wb ux xs := by rw [hwb]; exact (HX.out.below hba).drewN nb
            clear hba hoa hbA hwb hbZ HX HL
            go_wp2_with fail
            refine (implText_any ux xs _ hXB (by omega)).mono ?_
            rintro e wc ⟨rfl, hbc⟩
            have hbC := hbB.trans (hbc.mono hbB.size)
            have hXC := hXB.below hbc
            have hrx := fun W => implRunes_any (textV xs) W (Nat.le_trans (textV_len xs) (by omega))
            rw [hxx] at hrx
            clear hbc hbB hXB
            go_wp2_with fail
            refine (hrx _).mono ?_
            clear hrx
            rintro e wd ⟨ud, rfl, hbd, hod⟩
            have hbD := hbC.trans (hbd.mono hbC.size)
            go_wp2_with fail
            refine (like_same ud ux xs _ (SlI.of_own hod) (hXC.below hbd) (by omega)).mono ?_
            rintro e we ⟨rfl, ne, hwe⟩
            have hbE : Below w0.heap.size w0 we := by rw [hwe]; exact bdR hbD ne
            clear hbd hod hbD hXC hbC hwe
            go_wp2_with fail
            refine (implRuneOk_any r _).mono ?_
            rw [hrr]
            rintro e wf ⟨rfl, hwf⟩
            subst hwf
            go_wp2
            go_ret
            exact ⟨rfl, hbE⟩
          · have hok : okAll l = false := by simpa using hok
            rw [hok]
            have hbB := hbZ
            have hXB := HX.out
            clear hbZ HX HL
            go_wp2_with fail
            refine (implText_any ux xs _ hXB (by omega)).mono ?_
            rintro e wc ⟨rfl, hbc⟩
            have hbC := hbB.trans (hbc.mono hbB.size)
            have hXC := hXB.below hbc
            have hrx := fun W => implRunes_any (textV xs) W (Nat.le_trans (textV_len xs) (by omega))
            rw [hxx] at hrx
            clear hbc hbB hXB
            go_wp2_with fail
            refine (hrx _).mono ?_
            clear hrx
            rintro e wd ⟨ud, rfl, hbd, hod⟩
            have hbD := hbC.trans (hbd.mono hbC.size)
            go_wp2_with fail
            refine (like_same ud ux xs _ (SlI.of_own hod) (hXC.below hbd) (by omega)).mono ?_
            rintro e we ⟨rfl, ne, hwe⟩
            have hbE : Below w0.heap.size w0 we := by rw [hwe]; exact bdR hbD ne
            clear hbd hod hbD hXC hbC hwe
            go_wp2_with fail
            refine (implRuneOk_any r _).mono ?_
            rw [hrr]
            rintro e wf ⟨rfl, hwf⟩
            subst hwf
            go_wp2
            go_ret
            exact ⟨rfl, hbE⟩
    · have hrr : runeOk r = false := by simpa using hrr
      rw [hrr, putS_no r hrr]
      have he := isEmpty_yes (⟨#[]⟩ : ByteArray) (by decide)
      go_wp2
      go_loopw [16, 17] (fun f i wr => ∃ k : Nat, k ≤ l.length ∧ i = .int .i64 k ∧ f = .bool (okAll (l.take k)) ∧ wr = w17) (fun _ i _ => l.length - (intOf i).toNat)
      case atStart => exact ⟨0, Nat.zero_le _, rfl, rfl, rfl⟩
      case round =>
        obtain ⟨k, hk, rfl, rfl, rfl⟩ := hrel
        by_cases hkl : k < l.length
        · rcases hrl with hrl | ⟨bl, off, rfl, hbl, hcl⟩
          · rw [hrl] at hkl; simp at hkl
          · have hcell := hcl k hkl
            have hsn : Hid (okAll (l.take (k + 1)) = (okAll (l.take k) && runeOk (l.getD k 0))) := okAll_snoc l k hkl
            have hki : (k : Int) < (l.length : Int) := by omega
            clear hcl HL HX
            generalize l.getD k 0 = y at *
            generalize okAll (l.take k) = f at *
            cases f
            · go_wp2
              go_roundw
              case rel => exact ⟨k + 1, by omega, by go_num, by rw [hsn.out]; rfl, trivial⟩
              case measure => simp [intOf]; omega
            · go_wp2_with fail
              refine (specRuneOk_any y _).mono ?_
              rintro e wk ⟨rfl, hwk⟩
              subst hwk
              go_wp2
              go_roundw
              case rel => exact ⟨k + 1, by omega, by go_num, by rw [hsn.out]; simp, trivial⟩
              case measure => simp [intOf]; omega
        · have hkn : k = l.length := by omega
          subst hkn
          rw [List.take_length]
          by_cases hok : okAll l = true
          · rw [hok]
            have hmap := okAll_map l hok
            have hrt := runes_back l
            rw [hmap] at hrt
            have hri := fun W => implRunes_any (textV l) W (Nat.le_trans (textV_len l) (by omega))
            rw [hrt] at hri
            go_wp2_with fail
            refine (hri _).mono ?_
            clear hri hrt hmap
            rintro e wa ⟨ua, rfl, hba, hoa⟩
            have hbA := hbZ.trans (hba.mono hbZ.size)
            go_wp2_with fail
            refine (like_same ua _ l _ (SlI.of_own hoa) (HL.out.below hba) (by omega)).mono ?_
            rintro e wb ⟨rfl, nb, hwb⟩
            have hbB : Below w0.heap.size w0 wb := by rw [hwb]; exact bdR hbA nb
            have hXB : SlI wb ux xs := by rw [hwb]; exact (HX.out.below hba).drewN nb
            clear hba hoa hbA hwb hbZ HX HL
            go_wp2_with fail
            refine (implText_any ux xs _ hXB (by omega)).mono ?_
            rintro e wc ⟨rfl, hbc⟩
            have hbC := hbB.trans (hbc.mono hbB.size)
            have hXC := hXB.below hbc
            have hrx := fun W => implRunes_any (textV xs) W (Nat.le_trans (textV_len xs) (by omega))
            rw [hxx] at hrx
            clear hbc hbB hXB
            go_wp2_with fail
            refine (hrx _).mono ?_
            clear hrx
            rintro e wd ⟨ud, rfl, hbd, hod⟩
            have hbD := hbC.trans (hbd.mono hbC.size)
            go_wp2_with fail
            refine (like_same ud ux xs _ (SlI.of_own hod) (hXC.below hbd) (by omega)).mono ?_
            rintro e we ⟨rfl, ne, hwe⟩
            have hbE : Below w0.heap.size w0 we := by rw [hwe]; exact bdR hbD ne
            clear hbd hod hbD hXC hbC hwe
            go_wp2_with fail
            refine (implRuneOk_any r _).mono ?_
            rw [hrr]
            rintro e wf ⟨rfl, hwf⟩
            subst hwf
            go_wp2
            go_ret
            exact ⟨rfl, hbE⟩
          · have hok : okAll l = false := by simpa using hok
            rw [hok]
            have hbB := hbZ
            have hXB := HX.out
            clear hbZ HX HL
            go_wp2_with fail
            refine (implText_any ux xs _ hXB (by omega)).mono ?_
            rintro e wc ⟨rfl, hbc⟩
            have hbC := hbB.trans (hbc.mono hbB.size)
            have hXC := hXB.below hbc
            have hrx := fun W => implRunes_any (textV xs) W (Nat.le_trans (textV_len xs) (by omega))
            rw [hxx] at hrx
            clear hbc hbB hXB
            go_wp2_with fail
            refine (hrx _).mono ?_
            clear hrx
            rintro e wd ⟨ud, rfl, hbd, hod⟩
            have hbD := hbC.trans (hbd.mono hbC.size)
            go_wp2_with fail
            refine (like_same ud ux xs _ (SlI.of_own hod) (hXC.below hbd) (by omega)).mono ?_
            rintro e we ⟨rfl, ne, hwe⟩
            have hbE : Below w0.heap.size w0 we := by rw [hwe]; exact bdR hbD ne
            clear hbd hod hbD hXC hbC hwe
            go_wp2_with fail
            refine (implRuneOk_any r _).mono ?_
            rw [hrr]
            rintro e wf ⟨rfl, hwf⟩
            subst hwf
            go_wp2
            go_ret
            exact ⟨rfl, hbE⟩
  · have hbig : decide (4096 < (len : Int)) = true := by simp; omega
    go_enter Try.func3, Try.ntmps3
    go_wp2_with fail
    refine (big_a a len cap _).mono ?_
    rw [hbig]
    rintro e w0 ⟨rfl, hw0⟩
    subst hw0
    go_wp2
    go_ret
    exact ⟨rfl, Below.refl _ _⟩
end Go.Proofs.Yticogomjpefoeaa
