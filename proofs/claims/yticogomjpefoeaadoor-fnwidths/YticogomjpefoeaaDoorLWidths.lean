/- The walk of the law of widths. -/
import Derived.Test.YticogomjpefoeaaDoorW3
import Derived.Test.YticogomjpefoeaaDoorDrawW
import Derived.Test.YticogomjpefoeaaDoorBig
import Derived.Test.YticogomjpefoeaaDoorM9
import Derived.Deep.RegionHeld3
import Derived.Deep.DrawnRows
namespace Go.Proofs.YticogomjpefoeaaDoor
open Go.ChangeShapes Go.WideShapes Go.ChangeAt Go.RowKit

attribute [local go_sem ↓] Go.wp_at_zero Go.wp_at_succ

/-- The table lies there, and of the world W0 nothing below B has turned. -/
def Kept (B : Nat) (W0 w : World) : Prop := SpansAt w ∧ Below B W0 w ∧ B ≤ w.heap.size ∧ 0 < B
theorem Kept.drew {B : Nat} {W0 w : World} (h : Kept B W0 w) : Kept B W0 w.drew := ⟨h.1, ⟨h.2.1.os, h.2.1.tape, h.2.1.output, h.2.1.size, h.2.1.block⟩, h.2.2.1, h.2.2.2⟩
theorem implTextWidth_kept (B : Nat) (W0 : World) (s : ByteArray) (w : World) (h : Kept B W0 w) (hs : s.size ≤ 1048576) :
    Calls Tryd.prog 11 #[.string s] w fun e w' => e = .returned (.int .i64 (textW s)) ∧ Kept B W0 w' :=
  (implTextWidth_any s w h.1 hs).mono fun _ _ hh => ⟨hh.1, h.1.below hh.2 h.1.lt, h.2.1.trans (hh.2.mono h.2.2.1), Nat.le_trans h.2.2.1 hh.2.size, h.2.2.2⟩

set_option maxRecDepth 20000 in
set_option maxHeartbeats 4000000 in
theorem walk_FnWidths (w : World) (hS : SpansAt w) (a : Option Addr) (len cap : Nat) (zs : List Int) (hr : IsRow .u8 w a len cap zs) :
    Calls Tryd.prog 3 #[.slice a len cap] w fun e w' => e = .returned (.bool true) ∧ Below w.heap.size w w' := by
  have hlt := hS.lt
  by_cases h4 : len ≤ 4096
  · obtain ⟨hv, _⟩ := SlB.of_row hr h4
    have hbig : decide (4096 < (len : Int)) = false := by simp; omega
    clear hr
    go_enter Tryd.func3, Tryd.ntmps3
    go_wp2_with fail
    refine (big_a a len cap _).mono ?_
    rw [hbig]
    rintro e w0 ⟨rfl, hw0⟩
    subst hw0
    go_wp2_with fail
    refine (drawWidth_a _ _ _ hv).mono ?_
    rintro e w1 ⟨r, rfl, hb1⟩
    go_wp2_with fail
    refine (drawTextWidth_a _ _ _ (hv.below hb1)).mono ?_
    rintro e w2 ⟨s, rfl, hs, hb2⟩
    have hb2' := hb1.trans (hb2.mono hb1.size)
    go_wp2_with fail
    refine (drawFitting_a _ _ _ (hv.below hb2')).mono ?_
    rintro e w3 ⟨t, n, rfl, ht, hb3⟩
    have hb3' := hb2'.trans (hb3.mono hb2'.size)
    clear hb1 hb2 hb3 hb2' hv
    go_wp2_with fail
    refine (implFitting_any t n _ (hS.below hb3' hlt) (by omega)).mono ?_
    rintro e w4 ⟨rfl, hb4⟩
    have hb4' := hb3'.trans (hb4.mono hb3'.size)
    clear hb4 hb3'
    go_wp2_with fail
    refine (implWidth_any r _ (hS.below hb4' hlt)).mono ?_
    rintro e w5 ⟨rfl, hb5⟩
    have hb5' := hb4'.trans (hb5.mono hb4'.size)
    clear hb5 hb4'
    go_wp2_with fail
    refine (specWidth_any r _).mono ?_
    rintro e w6 ⟨rfl, hw6⟩
    subst hw6
    go_wp2_with fail
    refine (implTextWidth_any s _ (hS.below hb5' hlt) (by omega)).mono ?_
    rintro e w7 ⟨rfl, hb7⟩
    have hb7' := hb5'.trans (hb7.mono hb5'.size)
    clear hb7 hb5'
    go_wp2_with fail
    refine (specTextWidth_any s _ (by omega)).mono ?_
    rintro e w8 ⟨rfl, hb8⟩
    have hb8' := hb7'.trans (hb8.mono hb7'.size)
    clear hb8 hb7'
    go_wp2_with fail
    refine (specFitting_any t n _ (by omega)).mono ?_
    rintro e w9 ⟨rfl, hb9⟩
    have hb9' := hb8'.trans (hb9.mono hb8'.size)
    clear hb9 hb8'
    by_cases hn : 0 ≤ n ∧ n ≤ 1000
    · obtain ⟨F, hF0, hFl, hF, hw, hsum, hmore⟩ := fitV_facts t n hn
      rw [hF0]
      obtain ⟨hn0, hn1⟩ := hn
      have HM : Hid (F.size < t.size → n < textW (t.extract 0 (F.size + (getV (t.extract F.size t.size)).2.toNat))) := hmore
      have HS : Hid (textW F + textW (t.extract F.size t.size) = textW t) := hsum
      clear hmore hsum hF0
      have hFi : (F.size : Int) ≤ (t.size : Int) := by omega
      have hFs : F.size ≤ 1048576 := by omega
      have hts : t.size ≤ 1048576 := by omega
      go_wp2_with fail
      refine (implTextWidth_any F _ (hS.below hb9' hlt) hFs).mono ?_
      rintro e w10 ⟨rfl, hb10⟩
      have hb10' := hb9'.trans (hb10.mono hb9'.size)
      clear hb10 hb9'
      by_cases hq : F.size = t.size
      · go_wp2
        go_ret
        exact ⟨rfl, hb10'⟩
      · have hFlt : F.size < t.size := by omega
        have hqi : ¬ (F.size : Int) = (t.size : Int) := by omega
        have hgs : (t.extract F.size t.size).size = t.size - F.size := by rw [ByteArray.size_extract]; omega
        have hgb := getV_bd (t.extract F.size t.size) (by omega)
        rw [hgs] at hgb
        have hge := fun W => specGet_any (t.extract F.size t.size) W (by rw [hgs]; unfold maxLen; omega)
        have hM := HM.out hFlt
        clear HM hgs
        generalize getV (t.extract F.size t.size) = q at *
        obtain ⟨r2, k⟩ := q
        simp only at hge hgb hM
        obtain ⟨kn, rfl⟩ : ∃ kn : Nat, k = kn := ⟨k.toNat, by omega⟩
        rw [Int.toNat_natCast] at hM
        have hM' : Hid (n < textW (t.extract 0 (F.size + kn))) := hM
        clear hM
        go_wp2_with fail
        refine (hge _).mono ?_
        clear hge
        rintro e w11 ⟨rfl, hb11⟩
        have hb11' := hb10'.trans (hb11.mono hb10'.size)
        clear hb11 hb10'
        go_wp2
        have hkp : Kept w0.heap.size w0 w11 := ⟨hS.below hb11' hlt, hb11', hb11'.size, hlt⟩
        have hz1 : (t.extract 0 (F.size + kn)).size ≤ 1048576 := by rw [ByteArray.size_extract]; omega
        have hz2 : (t.extract F.size t.size).size ≤ 1048576 := by rw [ByteArray.size_extract]; omega
        have hc1 := hM'.out
        have hc2 := HS.out
        have hbt := textW_bd t
        go_region_held3 (Kept w0.heap.size w0) (first | assumption | exact Kept.drew (by assumption)) (first | (go_at_call 11; refine (implTextWidth_kept _ _ _ _ (by assumption) (by assumption)).mono ?_; rintro e wk ⟨rfl, hk⟩))
        go_wp2
        go_ret
        exact ⟨ret_bool (by simp; first | go_num | (rw [IntKind.wrap_i64]; omega)), hk.2.1⟩
    · have hz := isEmpty_yes (⟨#[]⟩ : ByteArray) (by decide)
      rw [fitV_no t n (by omega)]
      go_wp2
      all_goals
        go_ret
        exact ⟨rfl, hb9'⟩
  · have hbig : decide (4096 < (len : Int)) = true := by simp; omega
    go_enter Tryd.func3, Tryd.ntmps3
    go_wp2_with fail
    refine (big_a a len cap _).mono ?_
    rw [hbig]
    rintro e w0 ⟨rfl, hw0⟩
    subst hw0
    go_wp2
    go_ret
    exact ⟨rfl, Below.refl _ _⟩
end Go.Proofs.YticogomjpefoeaaDoor
