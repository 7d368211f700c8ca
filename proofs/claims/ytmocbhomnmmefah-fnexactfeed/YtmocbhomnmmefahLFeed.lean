/- The walk of the law of Feed. -/
import Derived.Test.YtmocbhomnmmefahSFeed
namespace Go.Proofs.Ytmocbhomnmmefah
open Go.ChangeShapes Go.WideShapes Go.ChangeAt Go.RowKit

theorem bdF {B : Nat} {a w : World} (h : Below B a w) (n : Nat) : Below B a (w.drewN n) := ⟨h.os, h.tape, h.output, h.size, h.block⟩
theorem own_apartF {w w' : World} {base base' : Nat} {e e' : TypeId} {v v' : Value} {n n' size size' : Nat} {xs xs' : List Value} (h : w.ownsRow base e size v n xs) (h' : w'.ownsRow base' e' size' v' n' xs') (hb : w.heap.size ≤ base') : v.ownBlock = none ∨ v.ownBlock ≠ v'.ownBlock := by
  cases hv : v.ownBlock with
  | none => exact .inl rfl
  | some g =>
    right
    intro e
    have h1 := h.lt g hv
    have h2 := h'.lt g e.symm
    omega
theorem cell_on {w w' : World} {g : Nat} {v : Value} (hb : Below w.heap.size w w') (hg : g < w.heap.size) (h : w.cell? ⟨g, 0, none⟩ = some v) : w'.cell? ⟨g, 0, none⟩ = some v :=
  (hb.cell (p := ⟨g, 0, none⟩) hg).trans h
theorem al (w : World) (o : Obj) : Below w.heap.size w (w.alloc o) := (Below.refl _ _).alloc (Nat.le_refl _) o

theorem eqFeeder_same (h : ByteArray) (w : World) :
    Calls Try.prog 8 #[.agg #[.string h], .agg #[.string h]] w fun e w' => e = .returned (.bool true) ∧ Below w.heap.size w w' := by
  go_enter Try.func8, Try.ntmps8
  go_wp2
  go_ret
  exact ⟨rfl, ((Below.refl _ _).alloc (Nat.le_refl _) _).alloc (by simp) _⟩

set_option maxHeartbeats 2000000 in
theorem walk_FnExactFeed (w : World) (h : ByteArray) (hs : h.size ≤ maxLen) (b : Int) (_wb : (Lit.int .u8 b).wf = true) :
    Calls Try.prog 3 #[.agg #[.string h], .int .u8 b] w fun e w' => e = .returned (.bool true) ∧ Below w.heap.size w w' := by
  have hsz := fun W => szFeeder_any h 1048576 W hs (by omega)
  by_cases hl : 1048576 - (h.size : Int) < 0
  · have hsz := fun W => by have := hsz W; rw [if_pos hl] at this; exact this
    go_enter Try.func3, Try.ntmps3
    go_wp2_with fail
    refine (hsz _).mono ?_
    rintro e w1 ⟨rfl, hb1⟩
    go_wp2
    go_ret
    exact ⟨rfl, (al w _).trans (hb1.mono (by simp))⟩
  · have hsz := fun W => by have := hsz W; rw [if_neg hl] at this; exact this
    have hS := fun W => specFeed_any h b W
    have hI := fun W => implFeed_any h b W
    have hn := fed_len h b
    generalize fedV h b = d at *
    obtain ⟨xs, t⟩ := d
    simp only at hS hI hn
    go_enter Try.func3, Try.ntmps3
    go_wp2_with fail
    refine (hsz _).mono ?_
    rintro e w1 ⟨rfl, hb1⟩
    have bl1 := (al w (Obj.cells #[Value.string h] 23)).trans (hb1.mono (by simp))
    have c1 : w1.cell? ⟨w.heap.size, 0, none⟩ = some (.string h) := cell_on hb1 (by simp) (by simp [go_sem])
    have z1 : w.heap.size < w1.heap.size := by have := hb1.size; simp at this; omega
    clear hb1 hsz
    go_wp2_with fail
    refine (toFeeder_any h _).mono ?_
    rintro e w2 ⟨rfl, hb2⟩
    have bl2 := bl1.trans (hb2.mono bl1.size)
    have c2 := cell_on hb2 z1 c1
    have z2 := Nat.lt_of_lt_of_le z1 hb2.size
    clear hb2 bl1 c1 z1
    go_wp2_with fail
    refine (hS _).mono ?_
    rintro e w3 ⟨v0, rfl, hb3, ho3⟩
    have ho3a := ho3.below (al w3 (Obj.cells #[Value.string t] 25))
    have bl3 := (bl2.trans (hb3.mono bl2.size)).trans ((al w3 (Obj.cells #[Value.string t] 25)).mono (by have := bl2.size; have := hb3.size; omega))
    have c3 := cell_on (al w3 (Obj.cells #[Value.string t] 25)) (Nat.lt_of_lt_of_le z2 hb3.size) (cell_on hb3 z2 c2)
    have z3 := Nat.lt_of_lt_of_le z2 hb3.size
    have z32 := hb3.size
    clear hb3 bl2 c2 z2 hS ho3
    go_wp2_with fail
    refine (toFeeder_any h _).mono ?_
    rintro e w4 ⟨rfl, hb4⟩
    have ho4 := ho3a.below hb4
    have bl4 := bl3.trans (hb4.mono bl3.size)
    have c4 := cell_on hb4 (by simp; omega) c3
    have d4 : w4.cell? ⟨w3.heap.size, 0, none⟩ = some (.string t) := cell_on hb4 (by simp) (by simp [go_sem])
    have z4 : w3.heap.size < w4.heap.size := by have := hb4.size; simp at this; omega
    clear hb4 bl3 c3 ho3a
    go_wp2_with fail
    refine (hI _).mono ?_
    rintro e w5 ⟨v1, rfl, hb5, ho5⟩
    have bl5 := (bl4.trans (hb5.mono bl4.size)).trans ((al w5 (Obj.cells #[Value.string t] 25)).mono (by have := bl4.size; have := hb5.size; omega))
    have ho05 := (ho4.below hb5).below (al w5 (Obj.cells #[Value.string t] 25))
    have ho55 := ho5.below (al w5 (Obj.cells #[Value.string t] 25))
    have c5 := cell_on (al w5 (Obj.cells #[Value.string t] 25)) (by have := hb5.size; omega) (cell_on hb5 (by omega) c4)
    have d5 := cell_on (al w5 (Obj.cells #[Value.string t] 25)) (by have := hb5.size; omega) (cell_on hb5 z4 d4)
    have z5 := Nat.lt_of_lt_of_le z4 hb5.size
    have hap := own_apartF ho4 ho5 (Nat.le_refl _)
    have z54 := hb5.size
    clear hb5 bl4 c4 d4 ho5 ho4
    go_wp2_with fail
    refine (eqFeeder_same t _).mono ?_
    rintro e w6 ⟨rfl, hb6⟩
    have bl6 := bl5.trans (hb6.mono bl5.size)
    have ho06 := ho05.below hb6
    have ho56 := ho55.below hb6
    have c6 := cell_on hb6 (by simp; omega) c5
    have d6 := cell_on hb6 (by simp; omega) d5
    have z6 : w5.heap.size < w6.heap.size := by have := hb6.size; simp at this; omega
    clear hb6 bl5 ho05 ho55 c5 d5
    go_wp2_with fail
    refine (eqI_same _ _ xs _ (SlI.of_own ho56) (SlI.of_own ho06) (by omega)).mono ?_
    rintro e w7 ⟨rfl, n7, rfl⟩
    go_wp2_with fail
    have ho5d : (w6.drewN n7).ownsRow w4.heap.size 2 1 v1 xs.length (xs.map (Value.int .i64)) := ho56
    have ho0d : (w6.drewN n7).ownsRow w2.heap.size 2 1 v0 xs.length (xs.map (Value.int .i64)) := ho06
    refine (markI_own _ _ _ _ _ _ ho5d (by omega) (by omega)).mono ?_
    rintro e w8 ⟨rfl, ho8, hg8⟩
    have ho08 := ho0d.kept hg8 hap
    have hkeep : ∀ g, g < w4.heap.size → w8.heap[g]? = w6.heap[g]? := fun g hg => by
      rw [hg8.block g (by show g < w6.heap.size; omega) (fun e => by have := (ho56.lt g e.symm).1; omega)]; rfl
    have bl8 := (bdF bl6 n7).grown hg8 (by show _ ≤ w6.heap.size; omega) (fun k hk => by have := (ho56.lt k hk).1; omega)
    have c8 : w8.cell? ⟨w.heap.size, 0, none⟩ = some (.string h) := (World.cell?_of_block (w := w6) (hkeep _ (by dsimp only; omega))).trans c6
    have d8 : w8.cell? ⟨w3.heap.size, 0, none⟩ = some (.string t) := (World.cell?_of_block (w := w6) (hkeep _ (by dsimp only; omega))).trans d6
    have z8 : w5.heap.size < w8.heap.size := Nat.lt_of_lt_of_le z6 hg8.size
    clear hg8 ho5d ho0d bl6 ho06 ho56 c6 d6 hkeep hap
    go_wp2_with fail
    refine (heldI_marks _ _ _ _ (SlI.of_own (by rw [marksI_len]; exact ho8)) (by omega) (by omega)).mono ?_
    rintro e w9 ⟨rfl, rfl⟩
    go_wp2_with fail
    refine (toFeeder_any h _).mono ?_
    rintro e w10 ⟨rfl, hb10⟩
    have ho010 := ho08.below hb10
    have ho10 := ho8.below hb10
    have bl10 := bl8.trans (hb10.mono bl8.size)
    have d10 := cell_on hb10 (by omega) d8
    have z10 := Nat.lt_of_lt_of_le z8 hb10.size
    clear hb10 bl8 d8 c8 ho8 ho08
    go_wp2_with fail
    refine (hI _).mono ?_
    rintro e w11 ⟨v11, rfl, hb11, ho11⟩
    have bl11 := (bl10.trans (hb11.mono bl10.size)).trans ((al w11 (Obj.cells #[Value.string t] 25)).mono (by have := bl10.size; have := hb11.size; omega))
    have ho011 := (ho010.below hb11).below (al w11 (Obj.cells #[Value.string t] 25))
    have ho8_11 := (ho10.below hb11).below (al w11 (Obj.cells #[Value.string t] 25))
    have ho11_11 := ho11.below (al w11 (Obj.cells #[Value.string t] 25))
    have d11 := cell_on (al w11 (Obj.cells #[Value.string t] 25)) (by have := hb11.size; omega) (cell_on hb11 (by omega) d10)
    have z11 := Nat.lt_of_lt_of_le z10 hb11.size
    clear hb11 bl10 d10 ho010 ho10 ho11
    go_wp2_with fail
    refine (eqFeeder_same t _).mono ?_
    rintro e w12 ⟨rfl, hb12⟩
    have bl12 := bl11.trans (hb12.mono bl11.size)
    have ho012 := ho011.below hb12
    have ho8_12 := ho8_11.below hb12
    have ho11_12 := ho11_11.below hb12
    clear hb12 bl11 ho011 ho8_11 ho11_11 d11
    go_wp2_with fail
    refine (eqI_same _ _ xs _ (SlI.of_own ho11_12) (SlI.of_own ho012) (by omega)).mono ?_
    rintro e w13 ⟨rfl, n13, rfl⟩
    go_wp2_with fail
    have ho14 : (w12.drewN n13).ownsRow w4.heap.size 2 1 v1 (marksI 1 xs.length).length ((marksI 1 xs.length).map (Value.int .i64)) := by
      rw [marksI_len]; exact ho8_12
    refine (heldI_marks _ _ _ _ (SlI.of_own ho14) (by omega) (by omega)).mono ?_
    rintro e w14 ⟨rfl, rfl⟩
    go_wp2
    go_ret
    exact ⟨rfl, bdF bl12 n13⟩
end Go.Proofs.Ytmocbhomnmmefah
