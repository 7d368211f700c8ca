/- The walk of the law of Runes. -/
import Derived.Test.YtmocbhomnmmefagSRunes
import Derived.Test.YtmocbhomnmmefagLists
namespace Go.Proofs.Ytmocbhomnmmefag
open Go.ChangeShapes Go.WideShapes Go.ChangeAt Go.RowKit

theorem bdN {B : Nat} {a w : World} (h : Below B a w) (n : Nat) : Below B a (w.drewN n) := ⟨h.os, h.tape, h.output, h.size, h.block⟩
theorem own_apart {w w' : World} {base base' : Nat} {e e' : TypeId} {v v' : Value} {n n' size size' : Nat} {xs xs' : List Value} (h : w.ownsRow base e size v n xs) (h' : w'.ownsRow base' e' size' v' n' xs') (hb : w.heap.size ≤ base') : v.ownBlock = none ∨ v.ownBlock ≠ v'.ownBlock := by
  cases hv : v.ownBlock with
  | none => exact .inl rfl
  | some g =>
    right
    intro e
    have h1 := h.lt g hv
    have h2 := h'.lt g e.symm
    omega

theorem walk_FnExactRunes (w : World) (s : ByteArray) (_hs : s.size ≤ maxLen) :
    Calls Try.prog 6 #[.string s] w fun e w' => e = .returned (.bool true) ∧ Below w.heap.size w w' := by
  by_cases hL : (s.size : Int) ≤ 1048576
  · have hI := fun w => implRunes_any s w (by omega)
    have hS := specRunes_any s w (by omega)
    have hn := runesV_len s
    generalize runesV s = xs at *
    have hxl : xs.length ≤ 1048576 := by omega
    have hq : ((1 : Int) + (xs.length : Int) < 0) = False := by simp; omega
    go_enter Try.func6, Try.ntmps6
    go_wp2_with fail
    refine hS.mono ?_
    clear hS
    rintro e w1 ⟨v0, rfl, hb1, ho1⟩
    go_wp2_with fail
    refine (hI _).mono ?_
    rintro e w2 ⟨v1, rfl, hb2, ho2⟩
    have ho1' := ho1.below hb2
    go_wp2_with fail
    refine (eqI_same _ _ xs _ (SlI.of_own ho2) (SlI.of_own ho1') (by omega)).mono ?_
    rintro e w3 ⟨rfl, n3, rfl⟩
    go_wp2_with fail
    have ho2d : (w2.drewN n3).ownsRow w1.heap.size 2 1 v1 xs.length (xs.map (Value.int .i64)) := ho2
    refine (markI_own _ _ _ _ _ _ ho2d (by omega) (by omega)).mono ?_
    rintro e w4 ⟨rfl, ho4, hg4⟩
    have ho1d : (w2.drewN n3).ownsRow w.heap.size 2 1 v0 xs.length (xs.map (Value.int .i64)) := ho1'
    have ho14 := ho1d.kept hg4 (own_apart ho1 ho2 (Nat.le_refl _))
    have hb4 : Below w.heap.size w w4 := (bdN (hb1.trans (hb2.mono hb1.size)) n3).trans ((Below.refl w.heap.size (w2.drewN n3)).grown hg4 (Nat.le_trans hb1.size hb2.size) (fun k hk => Nat.le_trans hb1.size (ho2.lt k hk).1))
    go_wp2_with fail
    refine (heldI_marks _ _ _ _ (SlI.of_own (by rw [marksI_len]; exact ho4)) (by omega) (by omega)).mono ?_
    rintro e w5 ⟨rfl, rfl⟩
    go_wp2_with fail
    refine (hI _).mono ?_
    rintro e w6 ⟨v6, rfl, hb6, ho6⟩
    go_wp2_with fail
    refine (eqI_same _ _ xs _ (SlI.of_own ho6) (SlI.of_own (ho14.below hb6)) (by omega)).mono ?_
    rintro e w7 ⟨rfl, n7, rfl⟩
    go_wp2_with fail
    have ho8 : (w6.drewN n7).ownsRow w1.heap.size 2 1 v1 (marksI 1 xs.length).length ((marksI 1 xs.length).map (Value.int .i64)) := by
      rw [marksI_len]; exact ho4.below (bdN hb6 n7)
    refine (heldI_marks _ _ _ _ (SlI.of_own ho8) (by omega) (by omega)).mono ?_
    rintro e w9 ⟨rfl, rfl⟩
    go_wp2
    go_ret
    exact ⟨rfl, hb4.trans (bdN (hb6.mono hb4.size) n7)⟩
  · go_enter Try.func6, Try.ntmps6
    go_wp2
    go_ret
    exact ⟨rfl, Below.refl _ _⟩
end Go.Proofs.Ytmocbhomnmmefag
