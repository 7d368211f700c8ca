/- The walk of the law of Params. -/
import Derived.Test.YtjcoebabipmmhaaKQ
import Derived.Test.YtjcoebabipmmhaaLists
namespace Go.Proofs.Ytjcoebabipmmhaa
open Go.ChangeShapes Go.WideShapes Go.ChangeAt Go.RowKit
attribute [local go_sem ↓] Go.wp_at_zero Go.wp_at_succ
theorem bdP {B : Nat} {a w : World} (h : Below B a w) (n : Nat) : Below B a (w.drewN n) := ⟨h.os, h.tape, h.output, h.size, h.block⟩
theorem apartP {w w' : World} {base base' : Nat} {e e' : TypeId} {v v' : Value} {n n' size size' : Nat} {xs xs' : List Value} (h : w.ownsRow base e size v n xs) (h' : w'.ownsRow base' e' size' v' n' xs') (hb : w.heap.size ≤ base') : v.ownBlock = none ∨ v.ownBlock ≠ v'.ownBlock := by
  cases hv : v.ownBlock with
  | none => exact .inl rfl
  | some g =>
    right
    intro e
    have h1 := h.lt g hv
    have h2 := h'.lt g e.symm
    omega
set_option maxHeartbeats 8000000 in
set_option maxRecDepth 20000 in
theorem walk_FnExactParams (w : World) (a b : St) :
    Calls Try.prog 5 #[stV a, stV b] w fun e w' => e = .returned (.bool true) ∧ Below w.heap.size w w' := by
  have k0 := kq_start a b w 23
  have hl5 : (paramsV a b).length ≤ 5 := by unfold paramsV; split; exact paramsL_len a b; simp
  unfold stV
  go_enter Try.func5, Try.ntmps5
  go_wp2
  generalize (w.alloc (Obj.cells #[.int .i64 a.fore, .int .i64 a.back, .bool a.bold, .bool a.under, .bool a.turned] 23)).alloc (Obj.cells #[.int .i64 b.fore, .int .i64 b.back, .bool b.bold, .bool b.under, .bool b.turned] 23) = W0 at *
  go_region_held3 (fun W => W.cell? ⟨w.heap.size, 0, none⟩ = some (.int .i64 a.fore) ∧ W.cell? ⟨w.heap.size, 1, none⟩ = some (.int .i64 a.back) ∧ W.cell? ⟨w.heap.size, 2, none⟩ = some (.bool a.bold) ∧ W.cell? ⟨w.heap.size, 3, none⟩ = some (.bool a.under) ∧ W.cell? ⟨w.heap.size, 4, none⟩ = some (.bool a.turned) ∧ W.cell? ⟨w.heap.size + 1, 0, none⟩ = some (.int .i64 b.fore) ∧ W.cell? ⟨w.heap.size + 1, 1, none⟩ = some (.int .i64 b.back) ∧ W.cell? ⟨w.heap.size + 1, 2, none⟩ = some (.bool b.bold) ∧ W.cell? ⟨w.heap.size + 1, 3, none⟩ = some (.bool b.under) ∧ W.cell? ⟨w.heap.size + 1, 4, none⟩ = some (.bool b.turned) ∧ KQ w.heap.size (w.heap.size + 1) a b w W) (first | assumption | exact k0.drew)
    (first
      | (go_at_call 7; refine (toStyle_kq w.heap.size (w.heap.size + 1) a b _ w _ (by assumption)).mono ?_; rintro e w1 ⟨rfl, hk⟩)
      | (go_at_call 14; refine (specParams_kq w.heap.size (w.heap.size + 1) a b w _ (by assumption)).mono ?_; rintro e w1 ⟨u1, rfl, hk, hb1, ho1⟩))
  have kA := hk.2.2.2.2.2.2.2.2.2.2
  have kw1 := kA.2.2
  have kq1 : KQ w.heap.size (w.heap.size + 1) a b w1 w1 := ⟨kA.1, kA.2.1, Below.refl _ _⟩
  have hlo1 := kA.1.1
  have hlo1b := kA.2.1.1
  clear hk hb1 kA k0
  go_wp2
  go_region_held3 (fun W => W.cell? ⟨w.heap.size, 0, none⟩ = some (.int .i64 a.fore) ∧ W.cell? ⟨w.heap.size, 1, none⟩ = some (.int .i64 a.back) ∧ W.cell? ⟨w.heap.size, 2, none⟩ = some (.bool a.bold) ∧ W.cell? ⟨w.heap.size, 3, none⟩ = some (.bool a.under) ∧ W.cell? ⟨w.heap.size, 4, none⟩ = some (.bool a.turned) ∧ W.cell? ⟨w.heap.size + 1, 0, none⟩ = some (.int .i64 b.fore) ∧ W.cell? ⟨w.heap.size + 1, 1, none⟩ = some (.int .i64 b.back) ∧ W.cell? ⟨w.heap.size + 1, 2, none⟩ = some (.bool b.bold) ∧ W.cell? ⟨w.heap.size + 1, 3, none⟩ = some (.bool b.under) ∧ W.cell? ⟨w.heap.size + 1, 4, none⟩ = some (.bool b.turned) ∧ KQ w.heap.size (w.heap.size + 1) a b w1 W) (first | assumption | exact kq1.drew)
    (first
      | (go_at_call 7; refine (toStyle_kq w.heap.size (w.heap.size + 1) a b _ w1 _ (by assumption)).mono ?_; rintro e w2 ⟨rfl, hk⟩)
      | (go_at_call 15; refine (implParams_kq w.heap.size (w.heap.size + 1) a b w1 _ (by assumption)).mono ?_; rintro e w2 ⟨u2, rfl, hk, hb2, ho2⟩))
  have kA := hk.2.2.2.2.2.2.2.2.2.2
  have kb2 := kA.2.2
  have hlo2 := hb2.size
  clear hk kq1
  generalize hP : paramsV a b = P at *
  have ho1' := ho1.below kb2
  have kw2 := kw1.trans (kb2.mono kw1.size)
  go_wp2_with fail
  refine (eqI_same _ _ P _ (SlI.of_own ho2) (SlI.of_own ho1') (by omega)).mono ?_
  rintro e w3 ⟨rfl, n3, hw3⟩
  have hb3 : Below w2.heap.size w2 w3 := by rw [hw3]; exact bdP (Below.refl _ _) n3
  have ho2' := ho2.below hb3
  have ho1'' := ho1'.below hb3
  have kA3 := kA.below hb3
  have kw3 := kw2.trans (hb3.mono kw2.size)
  clear hw3 hb3 kA ho1'
  go_wp2_with fail
  refine (markI_own _ _ _ _ _ _ ho2' (by omega) (by omega)).mono ?_
  rintro e w4 ⟨rfl, ho4, hg4⟩
  have hrow : ∀ g, u2.ownBlock = some g → w1.heap.size ≤ g := fun g e => (ho2'.lt g e).1
  have ho14 := ho1''.kept hg4 (apartP ho1 ho2' (Nat.le_refl _))
  have kA4 : StAt w4 w.heap.size a := kA3.1.grown hg4 (fun e => by have := hrow _ e; omega)
  have kB4 : StAt w4 (w.heap.size + 1) b := kA3.2.1.grown hg4 (fun e => by have := hrow _ e; omega)
  have kw4 : Below w.heap.size w w4 := kw3.grown hg4 kw3.size (fun g e => by have := hrow g e; omega)
  clear kA3 kw3 hg4 ho1'' ho2' ho2 ho1
  go_wp2_with fail
  refine (heldI_marks _ _ _ _ (SlI.of_own (by rw [marksI_len]; exact ho4)) (by omega) (by omega)).mono ?_
  rintro e w5 ⟨rfl, hw5⟩
  subst hw5
  have kq5 : KQ w.heap.size (w.heap.size + 1) a b w5 w5 := ⟨kA4, kB4, Below.refl _ _⟩
  have hq : ((1 : Int) + (P.length : Int) < 0) = False := by simp; omega
  clear kA4 kB4
  go_wp2
  go_region_held3 (fun W => W.cell? ⟨w.heap.size, 0, none⟩ = some (.int .i64 a.fore) ∧ W.cell? ⟨w.heap.size, 1, none⟩ = some (.int .i64 a.back) ∧ W.cell? ⟨w.heap.size, 2, none⟩ = some (.bool a.bold) ∧ W.cell? ⟨w.heap.size, 3, none⟩ = some (.bool a.under) ∧ W.cell? ⟨w.heap.size, 4, none⟩ = some (.bool a.turned) ∧ W.cell? ⟨w.heap.size + 1, 0, none⟩ = some (.int .i64 b.fore) ∧ W.cell? ⟨w.heap.size + 1, 1, none⟩ = some (.int .i64 b.back) ∧ W.cell? ⟨w.heap.size + 1, 2, none⟩ = some (.bool b.bold) ∧ W.cell? ⟨w.heap.size + 1, 3, none⟩ = some (.bool b.under) ∧ W.cell? ⟨w.heap.size + 1, 4, none⟩ = some (.bool b.turned) ∧ KQ w.heap.size (w.heap.size + 1) a b w5 W) (first | assumption | exact kq5.drew)
    (first
      | (go_at_call 7; refine (toStyle_kq w.heap.size (w.heap.size + 1) a b _ w5 _ (by assumption)).mono ?_; rintro e w6 ⟨rfl, hk⟩)
      | (go_at_call 15; refine (implParams_kq w.heap.size (w.heap.size + 1) a b w5 _ (by assumption)).mono ?_; rintro e w6 ⟨u6, hu6, hk, hb6, ho6⟩; subst hu6))
  have kb6 := hk.2.2.2.2.2.2.2.2.2.2.2.2
  clear hk kq5 hb6
  rw [hP] at ho6
  have ho16 := ho14.below kb6
  have ho46 := ho4.below kb6
  have kw6 := kw4.trans (kb6.mono kw4.size)
  clear ho14 ho4 kb6 kw4
  go_wp2_with fail
  refine (eqI_same _ _ P _ (SlI.of_own ho6) (SlI.of_own ho16) (by omega)).mono ?_
  rintro e w7 ⟨rfl, n7, hw7⟩
  have hb7 : Below w6.heap.size w6 w7 := by rw [hw7]; exact bdP (Below.refl _ _) n7
  have ho47 := ho46.below hb7
  have kw7 := kw6.trans (hb7.mono kw6.size)
  clear hw7 hb7 ho46 kw6 ho6 ho16
  go_wp2_with fail
  refine (heldI_marks _ _ _ _ (SlI.of_own (by rw [marksI_len]; exact ho47)) (by omega) (by omega)).mono ?_
  rintro e w8 ⟨rfl, hw8⟩
  subst hw8
  go_wp2
  go_ret
  exact ⟨rfl, kw7⟩
end Go.Proofs.Ytjcoebabipmmhaa
