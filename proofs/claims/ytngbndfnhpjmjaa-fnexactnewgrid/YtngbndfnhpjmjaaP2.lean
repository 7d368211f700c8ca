/- The walk of the exact law of NewGrid. -/
import Derived.Test.YtngbndfnhpjmjaaP1
namespace Go.Proofs.Ytngbndfnhpjmjaa
open Go.ChangeShapes Go.WideShapes Go.ChangeAt Go.RowKit
theorem sumG_le (rows : List (List Ce)) (m : Nat) (h : ∀ i, i < rows.length → (rowX rows i).length ≤ m) : ∀ j, j ≤ rows.length → sumG rows j ≤ j * m
  | 0, _ => Nat.zero_le _
  | j + 1, hj => by
    have := sumG_le rows m h j (by omega)
    have := h j (by omega)
    rw [sumG, Nat.add_mul]; omega
theorem slShape {w : World} {v : Value} {rows : List (List Ce)} (h : SlG w v rows) : ∃ a n c, v = Value.slice a n c := by
  obtain ⟨a, c, vs, rfl, _⟩ := h
  exact ⟨_, _, _, rfl⟩
set_option maxHeartbeats 4000000 in
set_option maxRecDepth 20000 in
theorem walk_FnExactNewGrid' (w : World) (a0 a1 C : Int) (Y : List (List Ce)) (bd : Bool) (hn : Y.length ≤ 60) (hx : ∀ i, i < Y.length → (rowX Y i).length ≤ 60)
    (hsp : ∀ W, Calls Try.prog 4 #[.int .i64 a0, .int .i64 a1] W fun e w' => ∃ u, e = .returned (.tuple #[gridV C u, .bool bd]) ∧ OwnG w' W.heap.size w'.heap.size u Y ∧ Below W.heap.size W w')
    (him : ∀ W, Calls Try.prog 5 #[.int .i64 a0, .int .i64 a1] W fun e w' => ∃ u, e = .returned (.tuple #[gridV C u, .bool bd]) ∧ OwnG w' W.heap.size w'.heap.size u Y ∧ Below W.heap.size W w') :
    Calls Try.prog 3 #[.int .i64 a0, .int .i64 a1] w fun e w' => e = .returned (.bool true) ∧ Below w.heap.size w w' := by
  have hne : (bd != bd) = false := by simp
  have hsum : sumG Y Y.length ≤ 1048576 := by have := sumG_le Y 60 hx Y.length (Nat.le_refl _); have := Nat.mul_le_mul_right 60 hn; omega
  have heq := fun va vb W h1 h2 => eqGrid_same C va vb Y W h1 h2 (by omega) (fun i hi => by have := hx i hi; omega)
  have hmk := fun lo hi v W h => markGrid_own lo hi C v 1 Y W h (by decide) hsum (by omega)
  have hhd := fun v W h => heldGrid_marks C v 1 Y W h (by decide) hsum (by omega)
  have hq : ¬ (((1 + 7 * sumG Y Y.length : Nat) : Int) < 0) := by omega
  generalize 1 + 7 * sumG Y Y.length = q at *
  clear hn hx hsum
  unfold gridV at *
  go_enter Try.func3, Try.ntmps3
  go_wp2_with fail
  refine (hsp _).mono ?_
  rintro e w1 ⟨u0, rfl, ho, hb⟩
  have hal := bal' w1 (Obj.cells #[.int .i64 C, u0] 24)
  have hG0 := GrN.new w1 C u0 24
  have ho0 := (OwnR.of ho).below hal
  have kb1 := hb.trans (hal.mono hb.size)
  obtain ⟨p0, p1, p2, rfl⟩ := slShape (SlG.of_own ho)
  clear hsp ho hb hal
  have c0 := hG0.2.1
  have c1 := hG0.2.2
  go_wp2_with fail
  have hs1 : w1.heap.size + 1 = (w1.alloc (Obj.cells #[.int .i64 C, .slice p0 p1 p2] 24)).heap.size := by simp
  generalize w1.alloc (Obj.cells #[.int .i64 C, .slice p0 p1 p2] 24) = W1 at *
  have hs0 := kb1.size
  refine (him _).mono ?_
  rintro e w2 ⟨u1, rfl, ho, hb⟩
  have hal := bal' w2 (Obj.cells #[.int .i64 C, u1] 24)
  have hG1 := GrN.new w2 C u1 24
  have ho1 := (OwnR.of ho).below hal
  have hG0' := (hG0.below hb).below hal
  have ho0' := (ho0.below hb).below hal
  have kb2 := (kb1.trans (hb.mono kb1.size)).trans (hal.mono (Nat.le_trans kb1.size hb.size))
  have hs2 := hb.size
  obtain ⟨q0, q1, q2, rfl⟩ := slShape (SlG.of_own ho)
  clear ho hb hal hG0 ho0 kb1 c0 c1
  have c0 := hG0'.2.1
  have c1 := hG0'.2.2
  have d0 := hG1.2.1
  have d1 := hG1.2.2
  go_wp2_with fail
  have hs3 : w2.heap.size + 1 = (w2.alloc (Obj.cells #[.int .i64 C, .slice q0 q1 q2] 24)).heap.size := by simp
  generalize w2.alloc (Obj.cells #[.int .i64 C, .slice q0 q1 q2] 24) = W2 at *
  refine (heq _ _ _ ho1.sl ho0'.sl).mono ?_
  rintro e w3 ⟨rfl, hb⟩
  have hG03 := hG0'.below hb
  have hG13 := hG1.below hb
  have ho03 := ho0'.below hb
  have ho13 := ho1.below hb
  have kb3 := kb2.trans (hb.mono kb2.size)
  have hs4 := hb.size
  clear hG0' hG1 ho0' ho1 kb2 hb c0 c1 d0 d1
  have c0 := hG03.2.1
  have c1 := hG03.2.2
  have d0 := hG13.2.1
  have d1 := hG13.2.2
  go_wp2_with fail
  refine (hmk _ _ _ _ ho13).mono ?_
  rintro e w4 ⟨rfl, ho14, hg⟩
  have hl0 := ho03.2.2
  have hG04 := hG03.gr hg (.inl (by omega))
  have hG14 := hG13.gr hg (.inr (by omega))
  have ho04 := ho03.gr hg (.inl (by omega))
  have kb4 := kb3.trans (hg.to_below (by have := kb3.size; omega) kb3.size)
  have hs5 := hg.size
  clear hG03 hG13 ho03 ho13 kb3 hg c0 c1 d0 d1
  have c0 := hG04.2.1
  have c1 := hG04.2.2
  have d0 := hG14.2.1
  have d1 := hG14.2.2
  go_wp2_with fail
  refine (hhd _ _ ho14.sl).mono ?_
  rintro e w5 ⟨rfl, hb⟩
  have hG05 := hG04.below hb
  have hG15 := hG14.below hb
  have ho05 := ho04.below hb
  have ho15 := ho14.below hb
  have kb5 := kb4.trans (hb.mono kb4.size)
  have hs6 := hb.size
  clear hG04 hG14 ho04 ho14 kb4 hb c0 c1 d0 d1
  have c0 := hG05.2.1
  have c1 := hG05.2.2
  have d0 := hG15.2.1
  have d1 := hG15.2.2
  go_wp2_with fail
  refine (him _).mono ?_
  rintro e w6 ⟨u2, rfl, ho, hb⟩
  have hal := bal' w6 (Obj.cells #[.int .i64 C, u2] 24)
  have hG2 := GrN.new w6 C u2 24
  have ho2 := (OwnR.of ho).below hal
  have hG06 := (hG05.below hb).below hal
  have hG16 := (hG15.below hb).below hal
  have ho06 := (ho05.below hb).below hal
  have ho16 := (ho15.below hb).below hal
  have kb6 := (kb5.trans (hb.mono kb5.size)).trans (hal.mono (Nat.le_trans kb5.size hb.size))
  obtain ⟨r0, r1, r2, rfl⟩ := slShape (SlG.of_own ho)
  clear ho hb hal hG05 hG15 ho05 ho15 kb5 c0 c1 d0 d1
  have c0 := hG06.2.1
  have c1 := hG06.2.2
  have d0 := hG16.2.1
  have d1 := hG16.2.2
  have e0 := hG2.2.1
  have e1 := hG2.2.2
  go_wp2_with fail
  generalize w6.alloc (Obj.cells #[.int .i64 C, .slice r0 r1 r2] 24) = W6 at *
  refine (heq _ _ _ ho2.sl ho06.sl).mono ?_
  rintro e w7 ⟨rfl, hb⟩
  have hG17 := hG16.below hb
  have ho17 := ho16.below hb
  have kb7 := kb6.trans (hb.mono kb6.size)
  clear hG06 hG16 hG2 ho06 ho16 ho2 kb6 hb c0 c1 d0 d1 e0 e1
  have d0 := hG17.2.1
  have d1 := hG17.2.2
  go_wp2_with fail
  refine (hhd _ _ ho17.sl).mono ?_
  rintro e w8 ⟨rfl, hb⟩
  go_wp2
  go_ret
  exact ⟨rfl, kb7.trans (hb.mono kb7.size)⟩
theorem walk_FnExactNewGrid (w : World) (a0 : Int) (_h0 : (Lit.int .i64 a0).wf = true) (a1 : Int) (_h1 : (Lit.int .i64 a1).wf = true) :
    Calls Try.prog 3 #[.int .i64 a0, .int .i64 a1] w fun e w' => e = .returned (.bool true) ∧ Below w.heap.size w w' := by
  have hl : (if newOk a0 a1 then newR a0.toNat a1.toNat else []).length ≤ 60 := by
    split
    · rename_i h; rw [newR_len]; have := h.2; omega
    · simp
  refine walk_FnExactNewGrid' w a0 a1 _ (if newOk a0 a1 then newR a0.toNat a1.toNat else []) _ hl (fun i hi => ?_) (fun W => specNewGrid_any a0 a1 W) (fun W => implNewGrid_any a0 a1 W)
  by_cases h : newOk a0 a1
  · rw [if_pos h] at hi ⊢
    rw [newR_len] at hi
    rw [newR_at _ _ _ hi, rowL_len]
    have := h.1; omega
  · rw [if_neg h] at hi; simp at hi
end Go.Proofs.Ytngbndfnhpjmjaa
