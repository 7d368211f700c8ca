/- Contract of Params as the program has it: the turns. Contract of Params as the program has it: all cases. What a sign's bytes are made of. Contracts of listSign and Sign as the program has them (from 2fb1364 on). The program's drawing: contracts of cellSign, drawnCells and restyle. The program's drawing: contracts of cells and rows. The program's drawing: contracts of places and Drawn. The walk of the exact law of Drawn. -/
import Derived.Test.YtlmnhlfklbgjdaaGreatDoorP6
import Derived.Deep.RegionHeld3
namespace Go.Proofs.YtlmnhlfklbgjdaaGreatDoor
open Go.ChangeShapes Go.WideShapes Go.ChangeAt Go.RowKit
attribute [local go_sem ↓] eq_st
attribute [local go_sem ↓] Go.wp_at_zero Go.wp_at_succ
theorem PK.below {base A B : Nat} {a b : St} {v : Value} {L : List Int} {w0 W W' : World} (k : PK base A B a b v L w0 W) (hb : Below W.heap.size W W') : PK base A B a b v L w0 W' := by
  obtain ⟨ka, kb, ko, kw, k1, k2, k3, k4, k5⟩ := k
  exact ⟨ka.below hb, kb.below hb, ko.below hb, kw.trans (hb.mono kw.size), Nat.le_trans k1 hb.size, k2, k3, k4, k5⟩
theorem PK.cells {base A B : Nat} {a b : St} {v : Value} {L : List Int} {w0 W : World} (k : PK base A B a b v L w0 W) : W.cell? ⟨A, 0, none⟩ = some (.int .i64 a.fore) ∧ W.cell? ⟨A, 1, none⟩ = some (.int .i64 a.back) ∧ W.cell? ⟨A, 2, none⟩ = some (.bool a.bold) ∧ W.cell? ⟨A, 3, none⟩ = some (.bool a.under) ∧ W.cell? ⟨A, 4, none⟩ = some (.bool a.turned) ∧ W.cell? ⟨B, 0, none⟩ = some (.int .i64 b.fore) ∧ W.cell? ⟨B, 1, none⟩ = some (.int .i64 b.back) ∧ W.cell? ⟨B, 2, none⟩ = some (.bool b.bold) ∧ W.cell? ⟨B, 3, none⟩ = some (.bool b.under) ∧ W.cell? ⟨B, 4, none⟩ = some (.bool b.turned) ∧ PK base A B a b v L w0 W :=
  ⟨k.1.2.1.1, k.1.2.1.2.1, k.1.2.1.2.2.1, k.1.2.1.2.2.2.1, k.1.2.1.2.2.2.2, k.2.1.2.1.1, k.2.1.2.1.2.1, k.2.1.2.1.2.2.1, k.2.1.2.1.2.2.2.1, k.2.1.2.1.2.2.2.2, k⟩
theorem PK.put {base A B : Nat} {a b : St} {v : Value} {L : List Int} {w0 W W' : World} {g : Nat} (k : PK base A B a b v L w0 W) (hg : W.grownBy W' (some g)) (h1 : base < g) (h2 : ∀ q, v.ownBlock = some q → q < g) : PK base A B a b v L w0 W' := by
  obtain ⟨ka, kb, ko, kw, k1, k2, k3, k4, k5⟩ := k
  refine ⟨ka.grown hg (by simp; omega), kb.grown hg (by simp; omega), ko.kept hg ?_, kw.grown hg kw.size (fun j hj => by cases hj; omega), Nat.le_trans k1 hg.size, k2, k3, k4, k5⟩
  cases hq : v.ownBlock with
  | none => exact .inl rfl
  | some q => right; intro e; have := h2 q hq; cases e; omega
theorem turn_ix0 (x0 x1 x2 x3 x4 x5 x6 x7 x8 x9 : Value) (w : World) : (Instr.index 191 (.agg #[x0, x1, x2, x3, x4, x5, x6, x7, x8, x9]) (.int .i64 0)).run Tryz.prog w = .ok (.agg #[x0, x1]) w := by kernel_rfl
theorem turn_ix1 (x0 x1 x2 x3 x4 x5 x6 x7 x8 x9 : Value) (w : World) : (Instr.index 191 (.agg #[x0, x1, x2, x3, x4, x5, x6, x7, x8, x9]) (.int .i64 1)).run Tryz.prog w = .ok (.agg #[x2, x3]) w := by kernel_rfl
theorem turn_ix2 (x0 x1 x2 x3 x4 x5 x6 x7 x8 x9 : Value) (w : World) : (Instr.index 191 (.agg #[x0, x1, x2, x3, x4, x5, x6, x7, x8, x9]) (.int .i64 2)).run Tryz.prog w = .ok (.agg #[x4, x5]) w := by kernel_rfl
theorem turn_ix3 (x0 x1 x2 x3 x4 x5 x6 x7 x8 x9 : Value) (w : World) : (Instr.index 191 (.agg #[x0, x1, x2, x3, x4, x5, x6, x7, x8, x9]) (.int .i64 3)).run Tryz.prog w = .ok (.agg #[x6, x7]) w := by kernel_rfl
theorem turn_ix4 (x0 x1 x2 x3 x4 x5 x6 x7 x8 x9 : Value) (w : World) : (Instr.index 191 (.agg #[x0, x1, x2, x3, x4, x5, x6, x7, x8, x9]) (.int .i64 4)).run Tryz.prog w = .ok (.agg #[x8, x9]) w := by kernel_rfl
/-- The ways through a region that come to one end are one. -/
theorem wp_meet {P : Program} {c : Code} {Q : Exit → Act → World → Prop} {a : Act} {w : World} (fa : Act) (fw : World) (h : c.wp P (fun e a' w' => e = Exit.normal ∧ a' = fa ∧ w' = fw) a w) (hq : Q .normal fa fw) : c.wp P Q a w :=
  Code.wp_mono (fun _ _ _ ⟨h1, h2, h3⟩ => by rw [h1, h2, h3]; exact hq) h
def turnsV (a b : St) : List (Bool × Int) := [(!a.bold == b.bold, flagV b.bold 1 22), (!a.under == b.under, flagV b.under 4 24), (!a.turned == b.turned, flagV b.turned 7 27), (a.fore != b.fore, flagV (decide (b.fore = 0)) 39 (29 + b.fore)), (a.back != b.back, flagV (decide (b.back = 0)) 49 (39 + b.back))]
def preV (a b : St) (j : Nat) : List Int := ((turnsV a b).take j).flatMap fun t => if t.1 then [t.2] else []
theorem preV_len (a b : St) (j : Nat) : (preV a b j).length ≤ 5 := by
  have h : ∀ l : List (Bool × Int), (l.flatMap fun t => if t.1 then [t.2] else []).length ≤ l.length := by
    intro l
    induction l with
    | nil => simp
    | cons t l ih =>
      rw [List.flatMap_cons, List.length_append, List.length_cons]
      have : (if t.1 then [t.2] else []).length ≤ 1 := by split <;> simp
      omega
  have := h ((turnsV a b).take j)
  have h5 : ((turnsV a b).take j).length ≤ 5 := by rw [List.length_take]; simp [turnsV]; omega
  exact Nat.le_trans this h5
theorem preV_5 (a b : St) (h : b ≠ St.zero) : paramsL a b = preV a b 5 := by
  have q1 : ∀ (x y : Bool) (n : Int), (if x = y then [] else [n]) = if (!x == y) then [n] else [] := by intro x y n; cases x <;> cases y <;> simp
  have q2 : ∀ (x y : Int) (n : Int), (if x = y then [] else [n]) = if (x != y) then [n] else [] := by intro x y n; by_cases e : x = y <;> simp [e]
  unfold paramsL preV turnsV
  rw [if_neg (fun hh => h hh.1), q1, q1, q1, q2, q2]
  simp [List.flatMap_cons]
set_option maxRecDepth 20000 in
set_option maxHeartbeats 16000000 in
theorem implParams_ne (a b : St) (w : World) (hoa : a.ok = true) (hob : b.ok = true) (hab : a ≠ b) (hz : b ≠ St.zero) :
    Calls Tryz.prog 138 #[stV a, stV b] w fun e w' => ∃ v, e = .returned v ∧ Below w.heap.size w w' ∧ w'.ownsRow w.heap.size 2 1 v (paramsL a b).length ((paramsL a b).map (Value.int .i64)) := by
  have ha := StAt.new w a 28
  have hb := StAt.new (w.alloc (Obj.cells #[.int .i64 a.fore, .int .i64 a.back, .bool a.bold, .bool a.under, .bool a.turned] 28)) b 28
  have e1 : (w.alloc (Obj.cells #[.int .i64 a.fore, .int .i64 a.back, .bool a.bold, .bool a.under, .bool a.turned] 28)).heap.size = w.heap.size + 1 := by simp
  rw [e1] at hb
  have ho := World.ownsRow_lit (base := w.heap.size + 1 + 1) (e := 2) (size := 1) ((w.alloc (Obj.cells #[.int .i64 a.fore, .int .i64 a.back, .bool a.bold, .bool a.under, .bool a.turned] 28)).alloc (Obj.cells #[.int .i64 b.fore, .int .i64 b.back, .bool b.bold, .bool b.under, .bool b.turned] 28)) #[] 0 (by simp) (Nat.zero_le _) rfl
  have k0 : PK (w.heap.size + 1 + 1) w.heap.size (w.heap.size + 1) a b (.slice (some ⟨w.heap.size + 1 + 1, 0, none⟩) 0 0) [] w (((w.alloc (Obj.cells #[.int .i64 a.fore, .int .i64 a.back, .bool a.bold, .bool a.under, .bool a.turned] 28)).alloc (Obj.cells #[.int .i64 b.fore, .int .i64 b.back, .bool b.bold, .bool b.under, .bool b.turned] 28)).alloc (Obj.cells #[] 2)) :=
    ⟨(ha.below (bal' _ _)).below (bal' _ _), hb.below (bal' _ _), by simpa using ho, (((Below.refl _ _).alloc (Nat.le_refl _) _).alloc (by simp) _).alloc (by simp; omega) _, by simp, by omega, by omega, by omega, by simp⟩
  have hs0 : w.heap.size + 1 + 1 < (((w.alloc (Obj.cells #[.int .i64 a.fore, .int .i64 a.back, .bool a.bold, .bool a.under, .bool a.turned] 28)).alloc (Obj.cells #[.int .i64 b.fore, .int .i64 b.back, .bool b.bold, .bool b.under, .bool b.turned] 28)).alloc (Obj.cells #[] 2)).heap.size := by simp
  clear ha hb e1 ho
  have oka := implStyleOk_any a
  have okb := implStyleOk_any b
  rw [hoa] at oka
  rw [hob] at okb
  have hab' : decide (a = b) = false := decide_eq_false hab
  have hz' : decide (b = St.zero) = false := decide_eq_false hz
  have hq : ∀ W, (Op.equalIn 10000 28 (.agg #[.int .i64 b.fore, .int .i64 b.back, .bool b.bold, .bool b.under, .bool b.turned]) (.agg #[.int .i64 0, .int .i64 0, .bool false, .bool false, .bool false])).run Tryz.prog W = .ok false W := fun W => by
    have := eq_st b St.zero W
    rw [hz'] at this
    exact this
  unfold stV at *
  go_enter Tryz.func138, Tryz.ntmps138
  go_wp2_with fail
  refine (oka _).mono ?_
  rintro e w2 ⟨rfl, hb2⟩
  have k1 := k0.below hb2
  have hs1 := Nat.lt_of_lt_of_le hs0 hb2.size
  clear k0 hs0 hb2 oka
  have hc1 := k1.cells
  go_wp2_with fail
  refine (okb _).mono ?_
  rintro e w3 ⟨rfl, hb3⟩
  have k2 := k1.below hb3
  have hs2 := Nat.lt_of_lt_of_le hs1 hb3.size
  clear k1 hc1 hs1 hb3 okb
  have hc2 := k2.cells
  go_wp2
  have hS2 : ∀ q, (Value.slice (some ⟨w.heap.size + 1 + 1, 0, none⟩) 0 0).ownBlock = some q → q < w3.heap.size := fun q e => by simp [Value.ownBlock] at e; omega
  have hfa := (St.ok_iff b).1 hob
  have hF8 : 0 ≤ b.fore ∧ b.fore ≤ 8 := ⟨hfa.1, hfa.2.1⟩
  have hB8 : 0 ≤ b.back ∧ b.back ≤ 8 := ⟨hfa.2.2.1, hfa.2.2.2⟩
  have HZ : Hid (b ≠ St.zero) := hz
  clear hc2 hq hz' hab' hoa hob hab hz hfa
  refine wp_meet { tmps := #[Value.agg #[Value.int IntKind.i64 a.fore, Value.int IntKind.i64 a.back, Value.bool a.bold, Value.bool a.under, Value.bool a.turned], Value.agg #[Value.int IntKind.i64 b.fore, Value.int IntKind.i64 b.back, Value.bool b.bold, Value.bool b.under, Value.bool b.turned], Value.pointer (some { block := w.heap.size, off := 0 }), Value.pointer (some { block := w.heap.size + 1, off := 0 }), Value.slice none 0 0, Value.slice (some { block := w.heap.size + 1 + 1, off := 0 }) 0 0, Value.pointer (some { block := w3.heap.size, off := 0 }), undef, undef, Value.slice (some { block := w.heap.size + 1 + 1, off := 0 }) 0 0, Value.agg #[Value.int IntKind.i64 a.fore, Value.int IntKind.i64 a.back, Value.bool a.bold, Value.bool a.under, Value.bool a.turned], Value.bool true, Value.bool false, Value.bool false, Value.agg #[Value.int IntKind.i64 b.fore, Value.int IntKind.i64 b.back, Value.bool b.bold, Value.bool b.under, Value.bool b.turned], Value.bool true, Value.bool false, Value.bool false, Value.bool false, Value.agg #[Value.int IntKind.i64 a.fore, Value.int IntKind.i64 a.back, Value.bool a.bold, Value.bool a.under, Value.bool a.turned], Value.agg #[Value.int IntKind.i64 b.fore, Value.int IntKind.i64 b.back, Value.bool b.bold, Value.bool b.under, Value.bool b.turned], Value.bool false, Value.bool false, undef, Value.agg #[Value.int IntKind.i64 b.fore, Value.int IntKind.i64 b.back, Value.bool b.bold, Value.bool b.under, Value.bool b.turned], Value.agg #[Value.int IntKind.i64 0, Value.int IntKind.i64 0, Value.bool false, Value.bool false, Value.bool false], Value.bool false, undef, undef, undef, Value.pointer (some { block := w.heap.size, off := 2 }), Value.bool a.bold, Value.pointer (some { block := w.heap.size + 1, off := 2 }), Value.bool b.bold, Value.bool !a.bold == b.bold, Value.pointer (some { block := w.heap.size + 1, off := 2 }), Value.bool b.bold, Value.int IntKind.i64 (flagV b.bold 1 22), Value.agg #[Value.bool !a.bold == b.bold, Value.int IntKind.i64 (flagV b.bold 1 22)], Value.pointer (some { block := w.heap.size, off := 3 }), Value.bool a.under, Value.pointer (some { block := w.heap.size + 1, off := 3 }), Value.bool b.under, Value.bool !a.under == b.under, Value.pointer (some { block := w.heap.size + 1, off := 3 }), Value.bool b.under, Value.int IntKind.i64 (flagV b.under 4 24), Value.agg #[Value.bool !a.under == b.under, Value.int IntKind.i64 (flagV b.under 4 24)], Value.pointer (some { block := w.heap.size, off := 4 }), Value.bool a.turned, Value.pointer (some { block := w.heap.size + 1, off := 4 }), Value.bool b.turned, Value.bool !a.turned == b.turned, Value.pointer (some { block := w.heap.size + 1, off := 4 }), Value.bool b.turned, Value.int IntKind.i64 (flagV b.turned 7 27), Value.agg #[Value.bool !a.turned == b.turned, Value.int IntKind.i64 (flagV b.turned 7 27)], Value.pointer (some { block := w.heap.size, off := 0 }), Value.int IntKind.i64 a.fore, Value.pointer (some { block := w.heap.size + 1, off := 0 }), Value.int IntKind.i64 b.fore, Value.bool (a.fore != b.fore), Value.pointer (some { block := w.heap.size + 1, off := 0 }), Value.int IntKind.i64 b.fore, Value.int IntKind.i64 (flagV (decide (b.fore = 0)) 39 (29 + b.fore)), Value.agg #[Value.bool (a.fore != b.fore), Value.int IntKind.i64 (flagV (decide (b.fore = 0)) 39 (29 + b.fore))], Value.pointer (some { block := w.heap.size, off := 1 }), Value.int IntKind.i64 a.back, Value.pointer (some { block := w.heap.size + 1, off := 1 }), Value.int IntKind.i64 b.back, Value.bool (a.back != b.back), Value.pointer (some { block := w.heap.size + 1, off := 1 }), Value.int IntKind.i64 b.back, Value.int IntKind.i64 (flagV (decide (b.back = 0)) 49 (39 + b.back)), Value.agg #[Value.bool (a.back != b.back), Value.int IntKind.i64 (flagV (decide (b.back = 0)) 49 (39 + b.back))], Value.agg #[Value.bool !a.bold == b.bold, Value.int IntKind.i64 (flagV b.bold 1 22), Value.bool !a.under == b.under, Value.int IntKind.i64 (flagV b.under 4 24), Value.bool !a.turned == b.turned, Value.int IntKind.i64 (flagV b.turned 7 27), Value.bool (a.fore != b.fore), Value.int IntKind.i64 (flagV (decide (b.fore = 0)) 39 (29 + b.fore)), Value.bool (a.back != b.back), Value.int IntKind.i64 (flagV (decide (b.back = 0)) 49 (39 + b.back))], undef, undef, undef, undef, undef, undef, undef, undef, undef, undef, undef, undef, undef], defers := [] } ((w3.alloc (Obj.cells #[.bool (!a.bold == b.bold), .int .i64 (flagV b.bold 1 22), .bool (!a.under == b.under), .int .i64 (flagV b.under 4 24), .bool (!a.turned == b.turned), .int .i64 (flagV b.turned 7 27), .bool (a.fore != b.fore), .int .i64 (flagV (decide (b.fore = 0)) 39 (29 + b.fore)), .bool (a.back != b.back), .int .i64 (flagV (decide (b.back = 0)) 49 (39 + b.back))] 191)).drew) ?reg ?imp
  case reg =>
    go_region_held3 (fun W => W.cell? ⟨w.heap.size, 0, none⟩ = some (.int .i64 a.fore) ∧ W.cell? ⟨w.heap.size, 1, none⟩ = some (.int .i64 a.back) ∧ W.cell? ⟨w.heap.size, 2, none⟩ = some (.bool a.bold) ∧ W.cell? ⟨w.heap.size, 3, none⟩ = some (.bool a.under) ∧ W.cell? ⟨w.heap.size, 4, none⟩ = some (.bool a.turned) ∧ W.cell? ⟨w.heap.size + 1, 0, none⟩ = some (.int .i64 b.fore) ∧ W.cell? ⟨w.heap.size + 1, 1, none⟩ = some (.int .i64 b.back) ∧ W.cell? ⟨w.heap.size + 1, 2, none⟩ = some (.bool b.bold) ∧ W.cell? ⟨w.heap.size + 1, 3, none⟩ = some (.bool b.under) ∧ W.cell? ⟨w.heap.size + 1, 4, none⟩ = some (.bool b.turned) ∧ PK (w.heap.size + 1 + 1) w.heap.size (w.heap.size + 1) a b (.slice (some ⟨w.heap.size + 1 + 1, 0, none⟩) 0 0) [] w W) (first | with_reducible assumption | with_reducible exact PK.cells (PK.below k2 (bdr _)) | with_reducible exact PK.cells (PK.below (PK.below k2 (bal' _ _)) (bdr _)))
      (first
        | (go_at_call 164; refine (flagParam_any _ _ _ _).mono ?_; rintro e wf ⟨rfl, hw⟩; subst hw)
        | (go_at_call 165; refine (colorParam_any _ _ _ (by assumption) (by simp)).mono ?_; rintro e wf ⟨rfl, hw⟩; subst hw))
    all_goals exact ⟨rfl, rfl, rfl⟩
  case imp =>
    have hk := (k2.below (bal' w3 (Obj.cells #[.bool (!a.bold == b.bold), .int .i64 (flagV b.bold 1 22), .bool (!a.under == b.under), .int .i64 (flagV b.under 4 24), .bool (!a.turned == b.turned), .int .i64 (flagV b.turned 7 27), .bool (a.fore != b.fore), .int .i64 (flagV (decide (b.fore = 0)) 39 (29 + b.fore)), .bool (a.back != b.back), .int .i64 (flagV (decide (b.back = 0)) 49 (39 + b.back))] 191))).below (bdr _)
    have hp0 : preV a b 0 = [] := rfl
    clear k2 hs2 hS2 hF8 hB8
    go_wp2
    go_loopw [5, 77] (fun u i wr => ∃ j : Nat, i = .int .i64 j ∧ j ≤ 5 ∧ PK (w.heap.size + 1 + 1) w.heap.size (w.heap.size + 1) a b u (preV a b j) w wr) (fun _ i _ => 5 - (intOf i).toNat)
    case atStart => exact ⟨0, rfl, by omega, hk⟩
    case round =>
      clear hk hp0
      obtain ⟨j, rfl, hj, hk⟩ := hrel
      rcases (show j = 0 ∨ j = 1 ∨ j = 2 ∨ j = 3 ∨ j = 4 ∨ j = 5 from by omega) with rfl | rfl | rfl | rfl | rfl | rfl
      · have hix := turn_ix0
        have hl := preV_len a b 0
        have hnx : Hid (preV a b 1 = preV a b 0 ++ (if (!a.bold == b.bold) then [flagV b.bold 1 22] else [])) := by show _ = _; simp [preV, turnsV, List.flatMap_cons]
        generalize preV a b 0 = L at *
        generalize hy : flagV b.bold 1 22 = y at *
        cases e : (!a.bold == b.bold)
        · rw [e] at hnx
          have hnx' : Hid (preV a b 1 = L) := by show _ = _; rw [hnx.out]; simp
          have hkA := hk.below (bal' wr (Obj.cells #[.bool false, .int .i64 y] 190))
          clear hk hnx e hy
          go_wp2
          go_roundw
          case rel => exact ⟨1, rfl, by omega, by rw [hnx'.out]; exact hkA⟩
          case measure => simp [intOf]
        · rw [e] at hnx
          have hnx' : Hid (preV a b 1 = L ++ [y]) := by show _ = _; rw [hnx.out]; simp
          have hkA := hk.below (bal' wr (Obj.cells #[.bool true, .int .i64 y] 190))
          clear hk hnx e hy
          go_wp2_with (at_builtin; refine append_pk rfl _ _ rfl (w.heap.size + 1 + 1) w.heap.size (w.heap.size + 1) a b _ _ w _ rfl (by exact hkA) (by omega) _ (by simp) rfl ?_; intro v' w' hk0)
          go_roundw
          case rel => exact ⟨1, rfl, by omega, by rw [hnx'.out]; exact hk0⟩
          case measure => simp [intOf]
      · have hix := turn_ix1
        have hl := preV_len a b 1
        have hnx : Hid (preV a b 2 = preV a b 1 ++ (if (!a.under == b.under) then [flagV b.under 4 24] else [])) := by show _ = _; simp [preV, turnsV, List.flatMap_cons]
        generalize preV a b 1 = L at *
        generalize hy : flagV b.under 4 24 = y at *
        cases e : (!a.under == b.under)
        · rw [e] at hnx
          have hnx' : Hid (preV a b 2 = L) := by show _ = _; rw [hnx.out]; simp
          have hkA := hk.below (bal' wr (Obj.cells #[.bool false, .int .i64 y] 190))
          clear hk hnx e hy
          go_wp2
          go_roundw
          case rel => exact ⟨2, rfl, by omega, by rw [hnx'.out]; exact hkA⟩
          case measure => simp [intOf]
        · rw [e] at hnx
          have hnx' : Hid (preV a b 2 = L ++ [y]) := by show _ = _; rw [hnx.out]; simp
          have hkA := hk.below (bal' wr (Obj.cells #[.bool true, .int .i64 y] 190))
          clear hk hnx e hy
          go_wp2_with (at_builtin; refine append_pk rfl _ _ rfl (w.heap.size + 1 + 1) w.heap.size (w.heap.size + 1) a b _ _ w _ rfl (by exact hkA) (by omega) _ (by simp) rfl ?_; intro v' w' hk0)
          go_roundw
          case rel => exact ⟨2, rfl, by omega, by rw [hnx'.out]; exact hk0⟩
          case measure => simp [intOf]
      · have hix := turn_ix2
        have hl := preV_len a b 2
        have hnx : Hid (preV a b 3 = preV a b 2 ++ (if (!a.turned == b.turned) then [flagV b.turned 7 27] else [])) := by show _ = _; simp [preV, turnsV, List.flatMap_cons]
        generalize preV a b 2 = L at *
        generalize hy : flagV b.turned 7 27 = y at *
        cases e : (!a.turned == b.turned)
        · rw [e] at hnx
          have hnx' : Hid (preV a b 3 = L) := by show _ = _; rw [hnx.out]; simp
          have hkA := hk.below (bal' wr (Obj.cells #[.bool false, .int .i64 y] 190))
          clear hk hnx e hy
          go_wp2
          go_roundw
          case rel => exact ⟨3, rfl, by omega, by rw [hnx'.out]; exact hkA⟩
          case measure => simp [intOf]
        · rw [e] at hnx
          have hnx' : Hid (preV a b 3 = L ++ [y]) := by show _ = _; rw [hnx.out]; simp
          have hkA := hk.below (bal' wr (Obj.cells #[.bool true, .int .i64 y] 190))
          clear hk hnx e hy
          go_wp2_with (at_builtin; refine append_pk rfl _ _ rfl (w.heap.size + 1 + 1) w.heap.size (w.heap.size + 1) a b _ _ w _ rfl (by exact hkA) (by omega) _ (by simp) rfl ?_; intro v' w' hk0)
          go_roundw
          case rel => exact ⟨3, rfl, by omega, by rw [hnx'.out]; exact hk0⟩
          case measure => simp [intOf]
      · have hix := turn_ix3
        have hl := preV_len a b 3
        have hnx : Hid (preV a b 4 = preV a b 3 ++ (if (a.fore != b.fore) then [flagV (decide (b.fore = 0)) 39 (29 + b.fore)] else [])) := by show _ = _; simp [preV, turnsV, List.flatMap_cons]
        generalize preV a b 3 = L at *
        generalize hy : flagV (decide (b.fore = 0)) 39 (29 + b.fore) = y at *
        cases e : (a.fore != b.fore)
        · rw [e] at hnx
          have hnx' : Hid (preV a b 4 = L) := by show _ = _; rw [hnx.out]; simp
          have hkA := hk.below (bal' wr (Obj.cells #[.bool false, .int .i64 y] 190))
          clear hk hnx e hy
          go_wp2
          go_roundw
          case rel => exact ⟨4, rfl, by omega, by rw [hnx'.out]; exact hkA⟩
          case measure => simp [intOf]
        · rw [e] at hnx
          have hnx' : Hid (preV a b 4 = L ++ [y]) := by show _ = _; rw [hnx.out]; simp
          have hkA := hk.below (bal' wr (Obj.cells #[.bool true, .int .i64 y] 190))
          clear hk hnx e hy
          go_wp2_with (at_builtin; refine append_pk rfl _ _ rfl (w.heap.size + 1 + 1) w.heap.size (w.heap.size + 1) a b _ _ w _ rfl (by exact hkA) (by omega) _ (by simp) rfl ?_; intro v' w' hk0)
          go_roundw
          case rel => exact ⟨4, rfl, by omega, by rw [hnx'.out]; exact hk0⟩
          case measure => simp [intOf]
      · have hix := turn_ix4
        have hl := preV_len a b 4
        have hnx : Hid (preV a b 5 = preV a b 4 ++ (if (a.back != b.back) then [flagV (decide (b.back = 0)) 49 (39 + b.back)] else [])) := by show _ = _; simp [preV, turnsV, List.flatMap_cons]
        generalize preV a b 4 = L at *
        generalize hy : flagV (decide (b.back = 0)) 49 (39 + b.back) = y at *
        cases e : (a.back != b.back)
        · rw [e] at hnx
          have hnx' : Hid (preV a b 5 = L) := by show _ = _; rw [hnx.out]; simp
          have hkA := hk.below (bal' wr (Obj.cells #[.bool false, .int .i64 y] 190))
          clear hk hnx e hy
          go_wp2
          go_roundw
          case rel => exact ⟨5, rfl, by omega, by rw [hnx'.out]; exact hkA⟩
          case measure => simp [intOf]
        · rw [e] at hnx
          have hnx' : Hid (preV a b 5 = L ++ [y]) := by show _ = _; rw [hnx.out]; simp
          have hkA := hk.below (bal' wr (Obj.cells #[.bool true, .int .i64 y] 190))
          clear hk hnx e hy
          go_wp2_with (at_builtin; refine append_pk rfl _ _ rfl (w.heap.size + 1 + 1) w.heap.size (w.heap.size + 1) a b _ _ w _ rfl (by exact hkA) (by omega) _ (by simp) rfl ?_; intro v' w' hk0)
          go_roundw
          case rel => exact ⟨5, rfl, by omega, by rw [hnx'.out]; exact hk0⟩
          case measure => simp [intOf]
      · go_wp2
        go_ret
        exact pk_fin hk (preV_5 a b HZ.out)
end Go.Proofs.YtlmnhlfklbgjdaaGreatDoor
namespace Go.Proofs.YtlmnhlfklbgjdaaGreatDoor
open Go.ChangeShapes Go.WideShapes Go.ChangeAt Go.RowKit
attribute [local go_sem ↓] eq_st
theorem pk_zero (a b : St) (w : World) : PK (w.heap.size + 1 + 1) w.heap.size (w.heap.size + 1) a b (.slice (some ⟨w.heap.size + 1 + 1, 0, none⟩) 0 0) [] w (((w.alloc (Obj.cells #[.int .i64 a.fore, .int .i64 a.back, .bool a.bold, .bool a.under, .bool a.turned] 28)).alloc (Obj.cells #[.int .i64 b.fore, .int .i64 b.back, .bool b.bold, .bool b.under, .bool b.turned] 28)).alloc (Obj.cells #[] 2)) := by
  have ha := StAt.new w a 28
  have hb := StAt.new (w.alloc (Obj.cells #[.int .i64 a.fore, .int .i64 a.back, .bool a.bold, .bool a.under, .bool a.turned] 28)) b 28
  have e1 : (w.alloc (Obj.cells #[.int .i64 a.fore, .int .i64 a.back, .bool a.bold, .bool a.under, .bool a.turned] 28)).heap.size = w.heap.size + 1 := by simp
  rw [e1] at hb
  have ho := World.ownsRow_lit (base := w.heap.size + 1 + 1) (e := 2) (size := 1) ((w.alloc (Obj.cells #[.int .i64 a.fore, .int .i64 a.back, .bool a.bold, .bool a.under, .bool a.turned] 28)).alloc (Obj.cells #[.int .i64 b.fore, .int .i64 b.back, .bool b.bold, .bool b.under, .bool b.turned] 28)) #[] 0 (by simp) (Nat.zero_le _) rfl
  exact ⟨(ha.below (bal' _ _)).below (bal' _ _), hb.below (bal' _ _), by simpa using ho, (((Below.refl _ _).alloc (Nat.le_refl _) _).alloc (by simp) _).alloc (by simp; omega) _, by simp, by omega, by omega, by omega, by simp⟩
theorem pk_end {base A B : Nat} {a b : St} {v : Value} {L : List Int} {w0 W : World} (k : PK base A B a b v L w0 W) {N : List Int} (hp : N = L) :
    ∃ u, Ending.returned v = .returned u ∧ Below w0.heap.size w0 W ∧ W.ownsRow w0.heap.size 2 1 u N.length (N.map (Value.int .i64)) := by
  subst hp
  exact ⟨v, rfl, k.2.2.2.1, own_low k.2.2.1 k.2.2.2.2.2.2.2.1⟩
set_option maxRecDepth 20000 in
set_option maxHeartbeats 4000000 in
theorem implParams_any (a b : St) (w : World) :
    Calls Tryz.prog 138 #[stV a, stV b] w fun e w' => ∃ v, e = .returned v ∧ Below w.heap.size w w' ∧ w'.ownsRow w.heap.size 2 1 v (paramsV a b).length ((paramsV a b).map (Value.int .i64)) := by
  by_cases hmain : a.ok = true ∧ b.ok = true ∧ a ≠ b ∧ b ≠ St.zero
  · obtain ⟨h1, h2, h3, h4⟩ := hmain
    have := implParams_ne a b w h1 h2 h3 h4
    rwa [show paramsV a b = paramsL a b by unfold paramsV; rw [if_pos ⟨h1, h2⟩]]
  · have k0 := pk_zero a b w
    have oka := implStyleOk_any a
    have okb := implStyleOk_any b
    cases hoa : a.ok
    · have hp : Hid (paramsV a b = []) := by show _ = _; unfold paramsV; rw [hoa]; simp
      rw [hoa] at oka
      clear hmain okb
      unfold stV at *
      go_enter Tryz.func138, Tryz.ntmps138
      go_wp2_with fail
      refine (oka _).mono ?_
      rintro e w2 ⟨rfl, hb2⟩
      have k1 := k0.below hb2
      clear k0 hb2 oka
      go_wp2
      go_ret
      exact pk_end k1 hp.out
    · rw [hoa] at oka
      cases hob : b.ok
      · have hp : Hid (paramsV a b = []) := by show _ = _; unfold paramsV; rw [hob]; simp
        rw [hob] at okb
        clear hmain
        unfold stV at *
        go_enter Tryz.func138, Tryz.ntmps138
        go_wp2_with fail
        refine (oka _).mono ?_
        rintro e w2 ⟨rfl, hb2⟩
        have k1 := k0.below hb2
        clear k0 hb2 oka
        have hc1 := k1.cells
        go_wp2_with fail
        refine (okb _).mono ?_
        rintro e w3 ⟨rfl, hb3⟩
        have k2 := k1.below hb3
        clear k1 hc1 hb3 okb
        go_wp2
        go_ret
        exact pk_end k2 hp.out
      · rw [hob] at okb
        by_cases hab : a = b
        · have hp : Hid (paramsV a b = []) := by show _ = _; subst hab; unfold paramsV; rw [if_pos ⟨hoa, hoa⟩]; exact paramsL_self a
          have hab' : decide (a = b) = true := decide_eq_true hab
          clear hmain hab
          unfold stV at *
          go_enter Tryz.func138, Tryz.ntmps138
          go_wp2_with fail
          refine (oka _).mono ?_
          rintro e w2 ⟨rfl, hb2⟩
          have k1 := k0.below hb2
          clear k0 hb2 oka
          have hc1 := k1.cells
          go_wp2_with fail
          refine (okb _).mono ?_
          rintro e w3 ⟨rfl, hb3⟩
          have k2 := k1.below hb3
          clear k1 hc1 hb3 okb
          have hc2 := k2.cells
          go_wp2
          go_ret
          exact pk_end k2 hp.out
        · have hz : b = St.zero := Classical.byContradiction fun h => hmain ⟨hoa, hob, hab, h⟩
          have hp : Hid (paramsV a b = [] ++ [0]) := by show _ = _; subst hz; unfold paramsV; rw [if_pos ⟨hoa, hob⟩]; unfold paramsL; rw [if_pos ⟨rfl, hab⟩]; rfl
          have hab' : decide (a = b) = false := decide_eq_false hab
          have hq : ∀ W, (Op.equalIn 10000 28 (.agg #[.int .i64 b.fore, .int .i64 b.back, .bool b.bold, .bool b.under, .bool b.turned]) (.agg #[.int .i64 0, .int .i64 0, .bool false, .bool false, .bool false])).run Tryz.prog W = .ok true W := fun W => by
            have := eq_st b St.zero W
            rw [decide_eq_true hz] at this
            exact this
          clear hmain hab hz
          unfold stV at *
          go_enter Tryz.func138, Tryz.ntmps138
          go_wp2_with fail
          refine (oka _).mono ?_
          rintro e w2 ⟨rfl, hb2⟩
          have k1 := k0.below hb2
          clear k0 hb2 oka
          have hc1 := k1.cells
          go_wp2_with fail
          refine (okb _).mono ?_
          rintro e w3 ⟨rfl, hb3⟩
          have k2 := k1.below hb3
          clear k1 hc1 hb3 okb
          have hc2 := k2.cells
          go_wp2_with (at_builtin; refine append_pk rfl _ _ rfl (w.heap.size + 1 + 1) w.heap.size (w.heap.size + 1) a b _ _ w _ rfl (by exact k2) (by simp) _ (by simp) rfl ?_; intro v' w' hk0)
          go_ret
          exact pk_end hk0 hp.out
end Go.Proofs.YtlmnhlfklbgjdaaGreatDoor
namespace Go.Proofs.YtlmnhlfklbgjdaaGreatDoor
open Go.ChangeShapes Go.WideShapes Go.ChangeAt Go.RowKit
/-- A row of bytes of this call's own. -/
def BK (base : Nat) (v : Value) (L : List Int) (w0 W : World) : Prop := W.ownsRow base 5 1 v L.length (L.map (Value.int .u8)) ∧ Below w0.heap.size w0 W ∧ base ≤ W.heap.size ∧ w0.heap.size ≤ base
theorem BK.below {base : Nat} {v : Value} {L : List Int} {w0 W W' : World} (k : BK base v L w0 W) (hb : Below W.heap.size W W') : BK base v L w0 W' :=
  ⟨k.1.below hb, k.2.1.trans (hb.mono k.2.1.size), Nat.le_trans k.2.2.1 hb.size, k.2.2.2⟩
theorem BK.own {base : Nat} {v v' : Value} {L L' : List Int} {w0 W W' : World} (k : BK base v L w0 W) (ho : W'.ownsRow base 5 1 v' L'.length (L'.map (Value.int .u8))) (hg : W.grownBy W' v.ownBlock) : BK base v' L' w0 W' :=
  ⟨ho, k.2.1.grown hg k.2.1.size (fun g e => Nat.le_trans k.2.2.2 (k.1.lt g e).1), Nat.le_trans k.2.2.1 hg.size, k.2.2.2⟩
/-- The same, or a row without room. -/
def BR (base : Nat) (v : Value) (L : List Int) (w0 W : World) : Prop := RowB base v L W ∧ Below w0.heap.size w0 W ∧ base ≤ W.heap.size ∧ w0.heap.size ≤ base
theorem BK.br {base : Nat} {v : Value} {L : List Int} {w0 W : World} (k : BK base v L w0 W) : BR base v L w0 W := ⟨.inl k.1, k.2⟩
theorem BR.own {base : Nat} {v v' : Value} {L L' : List Int} {w0 W W' : World} (k : BR base v L w0 W) (ho : W'.ownsRow base 5 1 v' L'.length (L'.map (Value.int .u8))) (hg : W.grownBy W' v.ownBlock) : BK base v' L' w0 W' :=
  ⟨ho, k.2.1.grown hg k.2.1.size (fun g e => Nat.le_trans k.2.2.2 (k.1.lt g e)), Nat.le_trans k.2.2.1 hg.size, k.2.2.2⟩
theorem append_bk {w : World} {ops : Array Oper} {rest : List Oper} {o : Oper} {ac : Act} {Q : Exit → Act → World → Prop} (hgd : o.guard = none) (s x : Operand)
    (ho : o.op = .call { callee := .builtin .append, args := #[s, x], argTypes := #[22, 22] })
    (base : Nat) (v : Value) (L : List Int) (w0 : World) (y : Int) (hs : ac.eval s = v) (k : BK base v L w0 w) (hl : L.length < 1000000)
    (g : Nat) (hg0 : w.heap.size = g) (hx : ac.eval x = .slice (some ⟨g, 0, none⟩) 1 1)
    (h : ∀ v' w', BK base v' (L ++ [y]) w0 w' → wpList Tryz.prog ops Q rest (ac.put o.dst v') w') :
    wpList Tryz.prog ops Q (o :: rest) ac (w.alloc (.cells #[.int .u8 y] 5)) := by
  subst hg0
  obtain ⟨i0, hi, hz0, hz1, hz2⟩ := info_parts info_u8s
  have kb := k.below (bal' w (Obj.cells #[.int .u8 y] 5))
  refine wpList_append_own _ hgd s x _ ho base 5 i0 (.int .u8 0) 1 1 Tryz.underlying22 hi hz0 hz1 hz2 rfl (by decide) v L.length _ hs kb.1 ⟨w.heap.size, 0, none⟩ 1 1 [.int .u8 y] hx rfl ?_ (by intro u hu; simp at hu; subst hu; rfl) (by unfold maxLen; omega) (by omega) kb.2.2.1 (fun v' w' ho' hg' _ => ?_)
  · intro j u hj
    match j, hj with
    | 0, hj => simp at hj; subst hj; simp [Addr.add]
  · refine h v' w' (kb.own ?_ hg')
    rw [List.length_append, List.map_append]
    simpa using ho'
theorem conv_bk {base : Nat} {v : Value} {L : List Int} {w0 W : World} (h : BK base v L w0 W) :
    (convert 22 9 v).run Tryz.prog W = .ok (.string (strOfNums L)) W := by
  rcases h.1.2 with ⟨rfl, h2⟩ | ⟨g, cap, cur, rfl, _⟩
  · have : L = [] := List.eq_nil_of_length_eq_zero h2
    subst this
    exact run_convert_bytes_nil W _ _ Tryz.underlying22 Tryz.underlying5 0 0 _ Tryz.underlying9
  · refine run_convert_bytes_arg W _ _ Tryz.underlying22 Tryz.underlying5 g 0 L.length cap L rfl ?_ _ Tryz.underlying9
    intro i hi
    rw [Nat.zero_add, h.1.cellAt i (by omega)]
    simp [hi]
theorem appendInt_bk (base : Nat) (v : Value) (L : List Int) (n : Int) (w0 w : World) (h : 0 ≤ n ∧ n < 100) (k : BR base v L w0 w) (hl : L.length ≤ 1048576) :
    Calls Tryz.prog 111 #[v, .int .i64 n, .int .i64 10] w fun e w' => ∃ v', e = .returned v' ∧ BK base v' (L ++ digL n) w0 w' :=
  (appendInt_s base v L n w h k.1 hl k.2.2.1).mono fun _ _ ⟨v', he, ho, hg⟩ => ⟨v', he, k.own ho hg⟩
theorem digL_bd (n : Int) (h : 0 ≤ n ∧ n < 100) : ∀ x ∈ digL n, 0 ≤ x ∧ x < 256 := by
  unfold digL
  intro x hx
  split at hx <;> simp at hx <;> omega
theorem sepL_bd (l : List Int) (h : ∀ n ∈ l, 0 ≤ n ∧ n < 100) : ∀ x ∈ sepL l, 0 ≤ x ∧ x < 256 := by
  intro x hx
  cases l with
  | nil => simp [sepL] at hx
  | cons n t =>
    simp only [sepL, List.mem_append, List.mem_flatMap, List.mem_cons] at hx
    rcases hx with hx | ⟨m, hm, rfl | hx⟩
    · exact digL_bd n (h n (by simp)) x hx
    · omega
    · exact digL_bd m (h m (by simp [hm])) x hx
theorem signN_is (a b : St) : signN a b = signL (paramsV a b) := by
  unfold signN paramsV
  split
  · rfl
  · simp [signL]
theorem paramsV_bd (a b : St) : ∀ n ∈ paramsV a b, 0 ≤ n ∧ n < 100 := by
  intro n hn
  unfold paramsV at hn
  split at hn
  · rename_i h; have := paramsL_bd a b h.2 n hn; omega
  · simp at hn
end Go.Proofs.YtlmnhlfklbgjdaaGreatDoor
namespace Go.Proofs.YtlmnhlfklbgjdaaGreatDoor
open Go.ChangeShapes Go.WideShapes Go.ChangeAt Go.RowKit
set_option maxHeartbeats 4000000 in
set_option maxRecDepth 20000 in
theorem listSign_any (last : Int) (hla : 0 ≤ last ∧ last < 256) (v : Value) (L : List Int) (w : World) (hL : SlI w v L) (hne : L ≠ []) (hl5 : L.length ≤ 5) (hbd : ∀ n ∈ L, 0 ≤ n ∧ n < 100) :
    Calls Tryz.prog 77 #[.int .u8 last, v] w fun e w' => ∃ t, e = .returned (.string t) ∧ nums t = [27, 91] ++ sepL L ++ [last] ∧ Below w.heap.size w w' := by
  have HB : Hid (∀ x ∈ [27, 91] ++ sepL L ++ [last], (0 : Int) ≤ x ∧ x < 256) := by
    show ∀ x ∈ _, _
    intro x hx
    simp only [List.mem_append, List.mem_cons, List.not_mem_nil, or_false] at hx
    rcases hx with ((rfl | rfl) | hx) | rfl
    · omega
    · omega
    · exact sepL_bd L hbd x hx
    · exact hla
  obtain ⟨aa, c, rfl, hr⟩ := hL
  rcases hr with rfl | ⟨bb, off, rfl, hbb, hcl⟩
  · exact absurd rfl hne
  have k0 : BR w.heap.size (.slice (some ⟨w.heap.size, 0, none⟩) 2 2) [27, 91] w (w.alloc (Obj.cells #[.int .u8 27, .int .u8 91] 5 (2, 3))) := by
    refine ⟨.inr ⟨_, rfl, Nat.le_refl _, by simp, fun j hj => ?_⟩, bal' _ _, by simp, Nat.le_refl _⟩
    match j, hj with
    | 0, _ => rw [cell_of_row _ w.heap.size 0 _ _ (2, 3) (heap_alloc_new w _)]; rfl
    | 1, _ => rw [cell_of_row _ w.heap.size 1 _ _ (2, 3) (heap_alloc_new w _)]; rfl
    | j + 2, hj => exact absurd hj (by simp)
  have kc := fun (w : World) (C : Array Value) (n c : Nat) => Lib.run_convert_bytes_const (P := Tryz.prog) w 22 5 C n c Tryz.underlying22 Tryz.underlying5
  clear hla
  go_enter Tryz.func77, Tryz.ntmps77
  go_wp2
  go_loopw [5, 6, 7, 12] (fun u _ _ i wr => ∃ (j : Nat), i = .int .i64 j ∧ j ≤ L.length ∧ BR w.heap.size u ([27, 91] ++ sepL (L.take j)) w wr ∧ (0 < j → BK w.heap.size u ([27, 91] ++ sepL (L.take j)) w wr)) (fun _ _ _ i _ => L.length - (intOf i).toNat)
  case atStart => exact ⟨0, rfl, Nat.zero_le _, k0, fun h => absurd h (Nat.lt_irrefl 0)⟩
  case round =>
    clear k0 kc
    obtain ⟨j, rfl, hj, hk, hk0⟩ := hrel
    by_cases hlt : j < L.length
    · have hji : (j : Int) < (L.length : Int) := by omega
      have hcj := (hk.2.1.cell (p := ⟨bb, off + j, none⟩) hbb).trans (hcl j hlt)
      have hnj := hbd (L.getD j 0) (by have e : L.getD j 0 = L[j] := by simp [List.getD, hlt]
                                       rw [e]; exact List.getElem_mem hlt)
      have hsn : Hid ([27, 91] ++ sepL (L.take (j + 1)) = ([27, 91] ++ sepL (L.take j)) ++ (if j = 0 then [] else [59]) ++ digL (L.getD j 0)) := by show _ = _; rw [sepL_snoc L j hlt]; simp
      have hlen : ([27, 91] ++ sepL (L.take j)).length ≤ 2 + 3 * j := by have := sepL_len L j (by omega); simp; omega
      have hint := fun v T W hk hl => appendInt_bk w.heap.size v T (L.getD j 0) w W ⟨hnj.1, by omega⟩ hk hl
      generalize L.getD j 0 = n at *
      generalize [27, 91] ++ sepL (L.take j) = T at *
      clear hcl
      by_cases h0 : j = 0
      · have h0i : ¬ 0 < (j : Int) := by omega
        have hsn' : Hid ([27, 91] ++ sepL (L.take (j + 1)) = T ++ digL n) := by show _ = _; rw [hsn.out, if_pos h0]; simp
        clear h0 hsn hk0
        go_wp2_with fail
        refine (hint _ _ _ hk (by omega)).mono ?_
        clear hint
        rintro e w3 ⟨v', rfl, hk3⟩
        clear hk
        go_wp2
        go_roundw
        case rel => exact ⟨j + 1, by go_num, by omega, by rw [hsn'.out]; exact hk3.br, fun _ => by rw [hsn'.out]; exact hk3⟩
        case measure => simp [intOf]; omega
      · have h0i : 0 < (j : Int) := by omega
        have hsn' : Hid ([27, 91] ++ sepL (L.take (j + 1)) = (T ++ [59]) ++ digL n) := by show _ = _; rw [hsn.out, if_neg h0]
        have hkk := hk0 (by omega)
        clear h0 hsn hk0
        go_wp2_with (at_builtin; refine append_bk rfl _ _ rfl w.heap.size _ _ w _ rfl (by exact hkk) (by omega) _ (by simp) rfl ?_; intro v1 w1 hk1)
        refine (hint _ _ _ hk1.br (by simp; omega)).mono ?_
        clear hint
        rintro e w3 ⟨v', rfl, hk3⟩
        clear hk hkk hk1
        go_wp2
        go_roundw
        case rel => exact ⟨j + 1, by go_num, by omega, by rw [hsn'.out]; exact hk3.br, fun _ => by rw [hsn'.out]; exact hk3⟩
        case measure => simp [intOf]; omega
    · have hjn : j = L.length := by omega
      have hji : ¬ (j : Int) < (L.length : Int) := by omega
      have hlen := sepL_len L j (by omega)
      have hkk := hk0 (by have := List.length_pos_iff.2 hne; omega)
      rw [hjn, List.take_length] at hkk hlen
      clear hk hk0
      have hl2 : ([27, 91] ++ sepL L).length < 1000000 := by simp; omega
      have HF : Hid (nums (strOfNums (([27, 91] ++ sepL L) ++ [last])) = [27, 91] ++ sepL L ++ [last]) := by show _ = _; rw [nums_str _ HB.out]
      clear hcl hlen HB
      go_wp2_with (at_builtin; refine append_bk rfl _ _ rfl w.heap.size _ _ w _ rfl (by exact hkk) (by omega) _ (by simp) rfl ?_; intro v1 w1 hk1; have hcv := conv_bk hk1)
      go_ret
      exact ⟨_, rfl, HF.out, hk1.2.1⟩
set_option maxHeartbeats 4000000 in
set_option maxRecDepth 20000 in
theorem implSign_any (a b : St) (w : World) :
    Calls Tryz.prog 110 #[stV a, stV b] w fun e w' => ∃ t, e = .returned (.string t) ∧ nums t = signN a b ∧ Below w.heap.size w w' := by
  rw [signN_is]
  have hall := fun W => implParams_any a b W
  have hbd := paramsV_bd a b
  have hl5 : (paramsV a b).length ≤ 5 := by unfold paramsV; split; exact paramsL_len a b; simp
  have hS : Hid (paramsV a b ≠ [] → signL (paramsV a b) = [27, 91] ++ sepL (paramsV a b) ++ [109]) := by intro h; simp [signL, h]
  have hN : Hid (paramsV a b = [] → signL (paramsV a b) = []) := by intro h; simp [signL, h]
  generalize paramsV a b = L at *
  have hls := fun v W (h : SlI W v L) (hne : L ≠ []) => listSign_any 109 (by decide) v L W h hne hl5 hbd
  have hbA : Below w.heap.size w ((w.alloc (Obj.cells #[.int .i64 a.fore, .int .i64 a.back, .bool a.bold, .bool a.under, .bool a.turned] 28)).alloc (Obj.cells #[.int .i64 b.fore, .int .i64 b.back, .bool b.bold, .bool b.under, .bool b.turned] 28)) := ((Below.refl _ _).alloc (Nat.le_refl _) _).alloc (by simp) _
  clear hbd
  unfold stV at *
  go_enter Tryz.func110, Tryz.ntmps110
  go_wp2_with fail
  refine (hall _).mono ?_
  clear hall
  rintro e w2 ⟨v, rfl, hb2, ho2⟩
  have kw := hbA.trans (hb2.mono hbA.size)
  have hL := SlI.of_own ho2
  clear hbA hb2 ho2
  obtain ⟨aa, c, rfl, _⟩ := id hL
  by_cases hne : L = []
  · have hn := hN.out hne
    subst hne
    clear hS hN hls
    go_wp2
    go_ret
    exact ⟨⟨#[]⟩, rfl, hn.symm, kw⟩
  · have hs := hS.out hne
    have hz : ((L.length : Int) == 0) = false := by simp; exact hne
    replace hs : Hid (signL L = [27, 91] ++ sepL L ++ [109]) := hs
    replace hls := hls _ w2 hL hne
    replace hne := (show Hid _ from hne)
    clear hS hN hL
    go_wp2_with fail
    refine hls.mono ?_
    rintro e w3 ⟨t, rfl, ht, hb⟩
    replace ht := (show Hid _ from ht)
    go_wp2
    go_ret
    exact ⟨t, rfl, by rw [hs.out]; exact ht.out, kw.trans (hb.mono kw.size)⟩
end Go.Proofs.YtlmnhlfklbgjdaaGreatDoor
namespace Go.Proofs.YtlmnhlfklbgjdaaGreatDoor
open Go.ChangeShapes Go.WideShapes Go.ChangeAt Go.RowKit
theorem sl_two (w : World) (a b : Int) : SlI (w.alloc (.cells #[.int .i64 a, .int .i64 b] 2)) (.slice (some ⟨w.heap.size, 0, none⟩) 2 2) [a, b] := by
  refine ⟨_, _, rfl, .inr ⟨w.heap.size, 0, rfl, by simp, fun j hj => ?_⟩⟩
  have hc := fun k => cell_of_row (w.alloc (.cells #[.int .i64 a, .int .i64 b] 2)) w.heap.size k _ _ (0, 0) (heap_alloc_new w (.cells #[.int .i64 a, .int .i64 b] 2))
  match j, hj with
  | 0, _ => rw [hc]; rfl
  | 1, _ => rw [hc]; rfl
  | j + 2, hj => exact absurd hj (by simp)
set_option maxHeartbeats 2000000 in
set_option maxRecDepth 20000 in
theorem cellSign_any (r c : Int) (w : World) (h : 0 ≤ r ∧ r < 99) (h2 : 0 ≤ c ∧ c < 99) :
    Calls Tryz.prog 74 #[.int .i64 r, .int .i64 c] w fun e w' => ∃ t, e = .returned (.string t) ∧ nums t = goL r c ∧ Below w.heap.size w w' := by
  have hw1 : IntKind.i64.wrap (r + 1) = r + 1 := by simp [IntKind.wrap_i64]; omega
  have hw2 : IntKind.i64.wrap (c + 1) = c + 1 := by simp [IntKind.wrap_i64]; omega
  have hls := listSign_any 72 (by decide) _ [r + 1, c + 1] _ (sl_two w (r + 1) (c + 1)) (by simp) (by simp) (by intro n hn; simp at hn; omega)
  have kb := bal' w (Obj.cells #[.int .i64 (r + 1), .int .i64 (c + 1)] 2)
  go_enter Tryz.func74, Tryz.ntmps74
  go_wp2_with fail
  refine hls.mono ?_
  rintro e w2 ⟨t, rfl, ht, hb⟩
  replace ht : Hid (nums t = goL r c) := by show _ = _; rw [ht]; simp [goL, sepL]
  go_wp2
  go_ret
  exact ⟨t, rfl, ht.out, kb.trans (hb.mono kb.size)⟩
theorem SlC.cut {w : World} {a : Option Addr} {n c m : Nat} {xs : List Ce} (h : SlC w (.slice a n c) xs) (hn : xs.length = n) (hm : m ≤ n) : SlC w (.slice a m c) (xs.take m) := by
  obtain ⟨a', c', he, hc, hnn, hr⟩ := h
  simp only [Value.slice.injEq] at he
  obtain ⟨rfl, _, rfl⟩ := he
  have hl : (xs.take m).length = m := by rw [List.length_take]; omega
  refine ⟨a, c, by rw [hl], by omega, hnn, ?_⟩
  rcases hr with rfl | ⟨b, off, rfl, hb, hi⟩
  · left; simp
  · right
    refine ⟨b, off, rfl, hb, fun i hi2 => ?_⟩
    rw [hl] at hi2
    have e : atC (xs.take m) i = atC xs i := by
      rw [atC_lt (by omega), atC_lt (by omega), List.getElem_take]
    rw [e]
    exact hi i (by omega)
set_option maxHeartbeats 2000000 in
set_option maxRecDepth 20000 in
theorem drawnCells_any (a : Option Addr) (c : Nat) (xs : List Ce) (w : World) (h : SlC w (.slice a xs.length c) xs) (hl : xs.length ≤ 1000) :
    Calls Tryz.prog 73 #[.slice a xs.length c] w fun e w' => e = .returned (.slice a (cutT xs xs.length) c) ∧ Below w.heap.size w w' := by
  obtain ⟨a', c', he, hc, hnn, hr⟩ := h
  simp only [Value.slice.injEq] at he
  obtain ⟨rfl, _, rfl⟩ := he
  obtain ⟨rv, hrv⟩ : ∃ rv, Hid (cutT xs xs.length = rv) := ⟨_, rfl⟩
  rw [hrv.out]
  go_enter Tryz.func73, Tryz.ntmps73
  go_wp2
  go_loopw [0] (fun u wr => ∃ m : Nat, u = .slice a m c ∧ m ≤ xs.length ∧ Hid (cutT xs xs.length = cutT xs m) ∧ Below w.heap.size w wr) (fun u _ => match u with | .slice _ m _ => m | _ => 0)
  case atStart => exact ⟨xs.length, rfl, Nat.le_refl _, rfl, Below.refl _ _⟩
  case round =>
    obtain ⟨m, rfl, hm, hcut, kb⟩ := hrel
    by_cases hm0 : m = 0
    case pos =>
      subst hm0
      have e : rv = 0 := by rw [← hrv.out, hcut.out]; rfl
      subst e
      clear hrv hcut
      go_wp2
      go_ret
      exact ⟨rfl, kb⟩
    obtain ⟨q, rfl⟩ : ∃ q, m = q + 1 := ⟨m - 1, by omega⟩
    have hm1 : (0 : Int) < ((q + 1 : Nat) : Int) := by omega
    rcases hr with hr | ⟨b, off, rfl, hbb, hcl⟩
    · exfalso; rw [hr] at hm; simp at hm
    have hq0 : (0 : Int) ≤ (((q + 1 : Nat) : Int) - 1) := by omega
    have hq1 : ((q + 1 : Nat) : Int) - 1 < ((q + 1 : Nat) : Int) := by omega
    have hqe : (((q + 1 : Nat) : Int) - 1).toNat = q := by omega
    have hqw : IntKind.i64.wrap (((q + 1 : Nat) : Int) - 1) = ((q + 1 : Nat) : Int) - 1 := by simp [IntKind.wrap_i64]; omega
    obtain ⟨c0, c1, c2, c3, c4, c5, c6⟩ := (hcl q (by omega)).below kb hbb
    have heq := fun W => eq_ce2 (atC xs q) (blankC St.zero) W
    have hqc : ((q + 1 : Nat) : Int) - 1 ≤ (c : Int) := by omega
    clear hcl
    by_cases hbk : atC xs q = blankC St.zero
    case pos =>
      have hde : decide (atC xs q = blankC St.zero) = true := decide_eq_true hbk
      simp only [hde] at heq
      have hcut2 : Hid (cutT xs xs.length = cutT xs q) := by show _ = _; rw [hcut.out]; exact cutT_step hbk
      clear hde hbk hcut
      generalize atC xs q = x at *
      simp only [blankC, St.zero] at heq
      go_wp2
      go_roundw
      case rel => exact ⟨q, by simp, by omega, hcut2, kb⟩
      case measure => simp
    have hde : decide (atC xs q = blankC St.zero) = false := decide_eq_false hbk
    simp only [hde] at heq
    have e : rv = q + 1 := by rw [← hrv.out, hcut.out]; exact cutT_stop hbk
    subst e
    clear hde hbk hcut hrv
    generalize atC xs q = x at *
    simp only [blankC, St.zero] at heq
    go_wp2
    go_ret
    exact ⟨rfl, kb⟩
theorem inf_sty : (Tryz.prog.info? 28).map (·.size) = some 5 := by kernel_rfl
set_option maxHeartbeats 4000000 in
set_option maxRecDepth 20000 in
theorem drestyle_any (base B : Nat) (v : Value) (L : List Int) (s s2 : St) (w : World) (h : DI w base B v L s) (hok : s.ok = true) (hok2 : s2.ok = true) (hl : L.length ≤ 900000) (hbs : base ≤ w.heap.size) :
    Calls Tryz.prog 76 #[.pointer (some ⟨B, 0, none⟩), stV s2] w fun e w' => e = .returned (.tuple #[]) ∧ GrT base w w' ∧ ∃ v', DI w' base B v' (L ++ sgn s s2) s2 := by
  have hsg := fun W => implSign_any s s2 W
  have hsN := signN_sgn hok hok2
  rw [hsN] at hsg
  have hsl := sgn_len s s2
  have hb1 := bal' w (Obj.cells #[.int .i64 s2.fore, .int .i64 s2.back, .bool s2.bold, .bool s2.under, .bool s2.turned] 28)
  have hX := heap_alloc_new w (Obj.cells #[.int .i64 s2.fore, .int .i64 s2.back, .bool s2.bold, .bool s2.under, .bool s2.turned] 28)
  have hD := h.below hb1
  obtain ⟨w1, hw1⟩ : ∃ w1, w1 = w.alloc (Obj.cells #[.int .i64 s2.fore, .int .i64 s2.back, .bool s2.bold, .bool s2.under, .bool s2.turned] 28) := ⟨_, rfl⟩
  rw [← hw1] at hb1 hX hD
  replace hw1 := (show Hid _ from hw1)
  have hbs1 := Nat.le_trans hbs hb1.size
  obtain ⟨X, hXn⟩ : ∃ X, w.heap.size = X := ⟨_, rfl⟩
  rw [hXn] at hX
  have hg1 : GrT base w w1 := GrT.of_below hb1
  have hgd := hg1.trans (GrT.of_below (bdr w1))
  have hDd := hD.below (bdr w1)
  have hXd : w1.drew.heap[X]? = some (.cells #[.int .i64 s2.fore, .int .i64 s2.back, .bool s2.bold, .bool s2.under, .bool s2.turned] 28 (0, 0)) := hX
  have hfx : ∀ W v' L', DI W base B v' L' s → W.heap[X]? = some (.cells #[.int .i64 s2.fore, .int .i64 s2.back, .bool s2.bold, .bool s2.under, .bool s2.turned] 28 (0, 0)) → (W.cell? ⟨B, 1, none⟩ = some (.int .i64 s.fore) ∧ W.cell? ⟨B, 2, none⟩ = some (.int .i64 s.back) ∧ W.cell? ⟨B, 3, none⟩ = some (.bool s.bold) ∧ W.cell? ⟨B, 4, none⟩ = some (.bool s.under) ∧ W.cell? ⟨B, 5, none⟩ = some (.bool s.turned) ∧ W.cell? ⟨X, 0, none⟩ = some (.int .i64 s2.fore) ∧ W.cell? ⟨X, 1, none⟩ = some (.int .i64 s2.back) ∧ W.cell? ⟨X, 2, none⟩ = some (.bool s2.bold) ∧ W.cell? ⟨X, 3, none⟩ = some (.bool s2.under) ∧ W.cell? ⟨X, 4, none⟩ = some (.bool s2.turned)) := fun W v' L' hD hX =>
    ⟨hD.cells.2.1, hD.cells.2.2.1, hD.cells.2.2.2.1, hD.cells.2.2.2.2.1, hD.cells.2.2.2.2.2, cells_all hX 0, cells_all hX 1, cells_all hX 2, cells_all hX 3, cells_all hX 4⟩
  clear hsN hok hok2 h
  unfold stV at *
  go_enter Tryz.func76, Tryz.ntmps76
  refine wp_seq_k (fun K hK => ?_)
  have hH := (show Hid _ from hK)
  clear hK
  go_wp2
  refine hH.out _ _ ?_
  rw [← hw1.out]
  clear hH hw1
  go_wp2
  rename_i K9 hK9
  replace hK9 := (show Hid _ from hK9)
  refine wp_region_noPanic ?_
  refine wp_region_held_drew (S := (fun W => W.cell? ⟨B, 1, none⟩ = some (.int .i64 s.fore) ∧ W.cell? ⟨B, 2, none⟩ = some (.int .i64 s.back) ∧ W.cell? ⟨B, 3, none⟩ = some (.bool s.bold) ∧ W.cell? ⟨B, 4, none⟩ = some (.bool s.under) ∧ W.cell? ⟨B, 5, none⟩ = some (.bool s.turned) ∧ W.cell? ⟨X, 0, none⟩ = some (.int .i64 s2.fore) ∧ W.cell? ⟨X, 1, none⟩ = some (.int .i64 s2.back) ∧ W.cell? ⟨X, 2, none⟩ = some (.bool s2.bold) ∧ W.cell? ⟨X, 3, none⟩ = some (.bool s2.under) ∧ W.cell? ⟨X, 4, none⟩ = some (.bool s2.turned))) (by kernel_rfl) (hfx _ _ _ hDd hXd) (fun hHeld => ?_)
  refine' wpAnyH_take (i := 0) (v := _) rfl (by kernel_rfl) (by kernel_rfl) (by kernel_rfl) (fun _ _ _ h => h) (Or.inl ⟨by rfl, ?hy1⟩) hHeld ?hr1
  case hy1 => (intro w hSw; (try dsimp only at hSw); go_simp; (try with_reducible rfl))
  (try simp only [Act.put, List.setIfInBounds_toArray, List.set_cons_zero, List.set_cons_succ, List.getElem_toArray, List.getElem_cons_zero])
  refine' wpAnyH_take (i := 1) (v := _) rfl (by kernel_rfl) (by kernel_rfl) (by kernel_rfl) (fun _ _ _ h => h) (Or.inl ⟨by rfl, ?hy2⟩) hHeld ?hr2
  case hy2 => (intro w hSw; (try dsimp only at hSw); go_simp; (try with_reducible rfl))
  (try simp only [Act.put, List.setIfInBounds_toArray, List.set_cons_zero, List.set_cons_succ, List.getElem_toArray, List.getElem_cons_zero, List.getElem_cons_succ])
  refine' wpAnyH_take (i := 2) (v := _) rfl (by kernel_rfl) (by kernel_rfl) (by kernel_rfl) (fun _ _ _ h => h) (Or.inl ⟨by rfl, ?hy3⟩) hHeld ?hr3
  case hy3 => (intro w hSw; (try dsimp only at hSw); go_simp; (try with_reducible rfl))
  (try simp only [Act.put, List.setIfInBounds_toArray, List.set_cons_zero, List.set_cons_succ, List.getElem_toArray, List.getElem_cons_zero, List.getElem_cons_succ])
  refine' wpAnyH_take (i := 3) (v := _) rfl (by kernel_rfl) (by kernel_rfl) (by kernel_rfl) (fun _ _ _ h => h) (Or.inl ⟨by rfl, ?hy4⟩) hHeld ?hr4
  case hy4 => (intro w hSw; (try dsimp only at hSw); go_simp; (try with_reducible rfl))
  (try simp only [Act.put, List.setIfInBounds_toArray, List.set_cons_zero, List.set_cons_succ, List.getElem_toArray, List.getElem_cons_zero, List.getElem_cons_succ])
  refine' wpAnyH_take (i := 4) (v := _) rfl (by kernel_rfl) (by kernel_rfl) (by kernel_rfl) (fun _ _ _ h => h) (Or.inl ⟨by rfl, ?hy5⟩) hHeld ?hr5
  case hy5 => (intro w hSw; (try dsimp only at hSw); go_simp; (try with_reducible rfl))
  (try simp only [Act.put, List.setIfInBounds_toArray, List.set_cons_zero, List.set_cons_succ, List.getElem_toArray, List.getElem_cons_zero, List.getElem_cons_succ])
  refine' wpAnyH_take (i := 5) (v := _) rfl (by kernel_rfl) (by kernel_rfl) (by kernel_rfl) (fun _ _ _ h => h) (Or.inl ⟨by rfl, ?hy6⟩) hHeld ?hr6
  case hy6 => (intro w hSw; (try dsimp only at hSw); go_simp; (try with_reducible rfl))
  (try simp only [Act.put, List.setIfInBounds_toArray, List.set_cons_zero, List.set_cons_succ, List.getElem_toArray, List.getElem_cons_zero, List.getElem_cons_succ])
  refine wpAnyH_ready (rs := [6]) (by kernel_rfl) (by simp) (AllReadyH.cons rfl (fun K hK => ?_) AllReadyH.nil)
  go_simp
  refine (hsg _).mono ?_
  rintro e w2 ⟨p, rfl, hp, hb⟩
  have hg2 := hgd.trans (GrT.of_below hb)
  have hD2 := hDd.below hb
  have hX2 := (GrT.of_below (base := base) hb).blk hXd (by decide) (by decide)
  have hps : (partsL [p]) = sgn s s2 := by simp [partsL, hp]
  replace hp := (show Hid _ from hp)
  go_wp2_with fail
  refine hK.out _ _ (hfx _ _ _ hD2 hX2) (fun hHeld => ?_)
  clear hK K
  (try simp only [Act.put, List.setIfInBounds_toArray, List.set_cons_zero, List.set_cons_succ, List.getElem_toArray, List.getElem_cons_zero, List.getElem_cons_succ])
  refine wpAnyH_ready (rs := [7]) (by kernel_rfl) (by simp) (AllReadyH.cons rfl (fun K hK => ?_) AllReadyH.nil)
  have hb3 := bal' w2 (Obj.cells #[.string p] 9)
  have hP3 := heap_alloc_new w2 (Obj.cells #[.string p] 9)
  have hg3 := hg2.trans (GrT.of_below hb3)
  have hD3 := hD2.below hb3
  have hX3 := (GrT.of_below (base := base) hb3).blk hX2 (by decide) (by decide)
  have ht := dtell_any base B v L s [p] w2.heap.size (0, 0) _ hD3 hP3 (by simp) (by rw [hps]; omega) (Nat.le_trans hbs hg3.size)
  rw [hps] at ht
  go_simp
  refine hK.out _ _ (hfx _ _ _ hD3 hX3) (fun hHeld => ?_)
  clear hK K
  (try simp only [Act.put, List.setIfInBounds_toArray, List.set_cons_zero, List.set_cons_succ, List.getElem_toArray, List.getElem_cons_zero, List.getElem_cons_succ])
  refine wpAnyH_ready (rs := [8]) (by kernel_rfl) (by simp) (AllReadyH.cons rfl (fun K hK => ?_) AllReadyH.nil)
  go_simp
  refine ht.mono ?_
  rintro e w4 ⟨rfl, hg4, v4, hD4⟩
  have hX4 := hg4.blk hX3 (by decide) (by decide)
  replace hg4 := hg3.trans hg4
  go_wp2_with fail
  refine hK.out _ _ (hfx _ _ _ hD4 hX4) (fun hHeld => ?_)
  clear hK K
  (try simp only [Act.put, List.setIfInBounds_toArray, List.set_cons_zero, List.set_cons_succ, List.getElem_toArray, List.getElem_cons_zero, List.getElem_cons_succ])
  refine wpAnyH_done (by kernel_rfl) ?_ _
  refine NoPanic.normal ?_
  refine hK9.out _ _ ?_
  have hbk := hD4.blk
  have hrw := hD4.row
  have hhb := hD4.hb
  obtain ⟨_, _, _, _, _, x0, x1, x2, x3, x4⟩ := hfx _ _ _ hD4 hX4
  clear hK9 hHeld hD4 hX4 hg3 hD3 hX3 hP3 hb3 ht hb hg2 hD2 hX2 hDd hXd hgd hD hX hb1 hfx hsg hp hps
  go_wp2_with (refine store_at (by rfl) 28 _ _ (by rfl) inf_sty hbk (by rfl) (by rfl) (by rfl) (by rfl) (by rfl) ?_; intro w5 hg5 hs5 hz5)
  refine bodyPost_end (results_none rfl _ _ _) rfl ?_
  exact ⟨rfl, hg4.trans (GrT.of_grown hg5 (fun g e => by cases e; exact ⟨hhb, _, _, _, hbk, .inl rfl⟩)), v4, ⟨hrw.kept hg5 (.inr (hrw.not hbk (by decide))), hs5, hhb⟩⟩
end Go.Proofs.YtlmnhlfklbgjdaaGreatDoor
namespace Go.Proofs.YtlmnhlfklbgjdaaGreatDoor
open Go.ChangeShapes Go.WideShapes Go.ChangeAt Go.RowKit
theorem cellsU_take (xs : List Ce) (s : St) (m : Nat) (hm : m ≤ xs.length) : ∀ j, j ≤ m → cellsU (xs.take m) s j = cellsU xs s j
  | 0, _ => rfl
  | j + 1, h => by
    have e : atC (xs.take m) j = atC xs j := by
      rw [atC_lt (by rw [List.length_take]; omega), atC_lt (by omega), List.getElem_take]
    rw [cellsU, cellsU, e, cellsU_take xs s m hm j (by omega)]
set_option maxHeartbeats 4000000 in
set_option maxRecDepth 20000 in
theorem dcells_any (base B : Nat) (v : Value) (L : List Int) (s : St) (a : Option Addr) (c : Nat) (xs : List Ce) (w : World) (h : DI w base B v L s) (hok : s.ok = true) (hx : ∀ W, Below base w W → SlC W (.slice a xs.length c) xs) (hcs : ∀ k, k < xs.length → (atC xs k).st.ok = true) (hxl : xs.length ≤ 60) (hl : L.length ≤ 100000) (hbs : base ≤ w.heap.size) :
    Calls Tryz.prog 75 #[.pointer (some ⟨B, 0, none⟩), .slice a xs.length c] w fun e w' => e = .returned (.tuple #[]) ∧ GrT base w w' ∧ ∃ v', DI w' base B v' (L ++ (cellsU xs s xs.length).1) (cellsU xs s xs.length).2 := by
  go_enter Tryz.func75, Tryz.ntmps75
  go_wp2
  go_loopw [5, 8] (fun _ i wr => ∃ (j : Nat) (u : Value), i = .int .i64 j ∧ j ≤ xs.length ∧ DI wr base B u (L ++ (cellsU xs s j).1) (cellsU xs s j).2 ∧ GrT base w wr) (fun _ i _ => xs.length - (intOf i).toNat)
  case atStart => exact ⟨0, v, rfl, Nat.zero_le _, by rw [cellsU, List.append_nil]; exact h, GrT.refl _ _⟩
  case round =>
    clear h
    obtain ⟨j, u, rfl, hj, k, hg⟩ := hrel
    by_cases hlt : j < xs.length
    · have hji : (j : Int) < (xs.length : Int) := by omega
      have hj0 : (0 : Int) ≤ (j : Int) := by omega
      obtain ⟨a', c', he, _, _, hr⟩ := hx wr (hg.to_below hbs)
      simp only [Value.slice.injEq] at he
      obtain ⟨rfl, _, rfl⟩ := he
      rcases hr with hr | ⟨b, off, rfl, hbb, hcl⟩
      · exfalso; rw [hr] at hlt; simp at hlt
      obtain ⟨c0, c1, c2, c3, c4, c5, c6⟩ := hcl j hlt
      have hso := cellsU_ok xs s hok hcs j (by omega)
      have hxo := hcs j hlt
      have hlen := cellsU_len xs s j
      have hstp : Hid (cellsU xs s (j + 1) = if (atC xs j).part = 2 then cellsU xs s j else ((cellsU xs s j).1 ++ (sgn (cellsU xs s j).2 (atC xs j).st ++ nums (putS (atC xs j).rune)), (atC xs j).st)) := rfl
      have hbw : base ≤ wr.heap.size := Nat.le_trans hbs hg.size
      replace hx := (show Hid _ from hx)
      replace hcs := (show Hid _ from hcs)
      clear hcl
      generalize atC xs j = x at *
      have hb1 := bal' wr (Obj.cells #[.int .i64 x.rune, .int .i64 x.st.fore, .int .i64 x.st.back, .bool x.st.bold, .bool x.st.under, .bool x.st.turned, .int .i64 x.part] 75)
      have hX := heap_alloc_new wr (Obj.cells #[.int .i64 x.rune, .int .i64 x.st.fore, .int .i64 x.st.back, .bool x.st.bold, .bool x.st.under, .bool x.st.turned, .int .i64 x.part] 75)
      have k1 := k.below hb1
      have hg1 := hg.trans (GrT.of_below hb1)
      by_cases hp2 : x.part = 2
      · have hs2 : Hid (cellsU xs s (j + 1) = cellsU xs s j) := by show _ = _; rw [hstp.out, if_pos hp2]
        have hpi : (x.part != 2) = false := by simp [hp2]
        clear hstp hp2 hX hb1 k hg
        go_wp2
        go_roundw
        case rel => exact ⟨j + 1, _, by go_num, by omega, by rw [hs2.out]; exact k1, hg1⟩
        case measure => simp [intOf]; omega
      have hs2 : Hid (cellsU xs s (j + 1) = ((cellsU xs s j).1 ++ (sgn (cellsU xs s j).2 x.st ++ nums (putS x.rune)), x.st)) := by show _ = _; rw [hstp.out, if_neg hp2]
      have hpi : (x.part != 2) = true := by simp [hp2]
      generalize (cellsU xs s j).1 = U at *
      generalize (cellsU xs s j).2 = y at *
      have hll : (L ++ U).length ≤ 900000 := by rw [List.length_append]; omega
      have hrs := drestyle_any base B u (L ++ U) y x.st _ k1 hso hxo hll (Nat.le_trans hbw hb1.size)
      have hpu := fun W => implPut_any x.rune W
      have hpz : (nums (putS x.rune)).length ≤ 4 := by rw [nums_len]; exact putS_size4 _
      have hsl := sgn_len y x.st
      generalize putS x.rune = P at *
      clear hstp hp2 k hg
      unfold stV at hrs
      have hXs := Nat.le_trans hbw hb1.size
      go_wp2_with fail
      refine hrs.mono ?_
      rintro e w3 ⟨rfl, hg3, v3, k3⟩
      have hX3 := hg3.blk hX (by decide) (by decide)
      have hg13 := hg1.trans hg3
      have d0 : w3.cell? ⟨wr.heap.size, 0, none⟩ = some (.int .i64 x.rune) := cells_all hX3 0
      clear hrs hX hg3 k1 c0 c1 c2 c3 c4 c5 c6
      go_wp2_with fail
      refine (hpu _).mono ?_
      rintro e w4 ⟨rfl, hb4⟩
      have k4 := k3.below hb4
      have hg4 := hg13.trans (GrT.of_below hb4)
      have hb5 := bal' w4 (Obj.cells #[.string P] 9)
      have hP5 := heap_alloc_new w4 (Obj.cells #[.string P] 9)
      have k5 := k4.below hb5
      have hg5 := hg4.trans (GrT.of_below hb5)
      have hps : partsL [P] = nums P := by simp [partsL]
      have ht := dtell_any base B v3 _ x.st [P] w4.heap.size (0, 0) _ k5 hP5 (by simp) (by rw [hps]; simp only [List.length_append] at hll ⊢; omega) (Nat.le_trans hbs hg5.size)
      rw [hps] at ht
      clear hX3 d0 hg13 hb4 k3 k4 hg4 hb5 hP5 k5 hpu hps hb1 hg1
      go_wp2_with fail
      refine ht.mono ?_
      rintro e w6 ⟨rfl, hg6, v6, k6⟩
      have hg7 := hg5.trans hg6
      clear ht hg5 hg6
      go_wp2
      go_roundw
      case rel => exact ⟨j + 1, _, by go_num, by omega, by rw [hs2.out]; simpa [List.append_assoc] using k6, hg7⟩
      case measure => simp [intOf]; omega
    · have hji : ¬ (j : Int) < (xs.length : Int) := by omega
      have hjn : j = xs.length := by omega
      subst hjn
      clear hx hcs
      go_wp2
      refine bodyPost_end (results_none rfl _ _ _) rfl ?_
      exact ⟨rfl, hg, _, k⟩
set_option maxHeartbeats 4000000 in
set_option maxRecDepth 20000 in
theorem drows_any (base B : Nat) (v : Value) (cols : Int) (gv : Value) (g : List (List Ce)) (w0 w : World) (h : DI w base B v headL St.zero) (h0 : SlG w0 gv g) (hw0 : Below w0.heap.size w0 w) (hb0 : w0.heap.size ≤ base) (hn : g.length ≤ 30) (hr60 : ∀ i, i < g.length → (g.getD i []).length ≤ 60) (hok : ∀ i, i < g.length → ∀ k, k < (g.getD i []).length → (atC (g.getD i []) k).st.ok = true) (hbs : base ≤ w.heap.size) :
    Calls Tryz.prog 24 #[.pointer (some ⟨B, 0, none⟩), gridV cols gv] w fun e w' => e = .returned (.tuple #[]) ∧ GrT base w w' ∧ ∃ v', DI w' base B v' (rowsU g g.length).1 (rowsU g g.length).2 := by
  obtain ⟨ga, gc, vs, rfl, _, _, hr, hs⟩ := h0
  have hb1 := bal' w (Obj.cells #[.int .i64 cols, .slice ga g.length gc] 26)
  have h1 := h.below hb1
  have hg1 : GrT base w (w.alloc (Obj.cells #[.int .i64 cols, .slice ga g.length gc] 26)) := GrT.of_below hb1
  unfold gridV
  clear h hb1
  go_enter Tryz.func24, Tryz.ntmps24
  go_wp2
  go_loopw [4, 5, 6, 10] (fun _ _ _ i wr => ∃ (j : Nat) (u : Value), i = .int .i64 j ∧ j ≤ g.length ∧ DI wr base B u (rowsU g j).1 (rowsU g j).2 ∧ GrT base w wr) (fun _ _ _ i _ => g.length - (intOf i).toNat)
  case atStart => exact ⟨0, v, rfl, Nat.zero_le _, h1, hg1⟩
  case round =>
    clear h1 hg1
    obtain ⟨j, u, rfl, hj, k, hg⟩ := hrel
    by_cases hlt : j < g.length
    · have hji : (j : Int) < (g.length : Int) := by omega
      have hj0 : (0 : Int) ≤ (j : Int) := by omega
      rcases hr with hr | ⟨b, off, rfl, hbb, hrc⟩
      · exfalso; rw [hr] at hlt; simp at hlt
      have hbw : base ≤ wr.heap.size := Nat.le_trans hbs hg.size
      have hlow : ∀ W, GrT base w W → Below w0.heap.size w0 W := fun W h => hw0.trans ((h.to_below hbs).mono hb0)
      have hcj := ((hlow _ hg).cell (p := ⟨b, off + j, none⟩) hbb).trans (hrc j hlt)
      obtain ⟨aj, cj, ev, _⟩ := id (hs j hlt)
      have hsj := hs j hlt
      rw [ev] at hcj hsj
      have hxj : ∀ W, GrT base w W → SlC W (.slice aj (rowX g j).length cj) (rowX g j) := fun W h => hsj.below (hlow W h)
      have hlj : (rowX g j).length ≤ 60 := hr60 j hlt
      have hokj : ∀ k, k < (rowX g j).length → (atC (rowX g j) k).st.ok = true := hok j hlt
      have hso := rowsU_ok g hok j (by omega)
      have hlen := rowsU_len g hr60 j (by omega)
      have hstp : Hid (rowsU g (j + 1) = ((rowsU g j).1 ++ (rowU (rowX g j) j (rowsU g j).2).1, (rowU (rowX g j) j (rowsU g j).2).2)) := rfl
      have hcl := cutT_le (rowX g j) (rowX g j).length
      generalize rowX g j = X at *
      generalize (rowsU g j).1 = L at *
      generalize (rowsU g j).2 = s at *
      replace hrc := (show Hid _ from hrc)
      replace hs := (show Hid _ from hs)
      replace hok := (show Hid _ from hok)
      replace hr60 := (show Hid _ from hr60)
      have hdc := drawnCells_any aj cj X wr (hxj _ hg) (by omega)
      obtain ⟨m, hm⟩ : ∃ m, Hid (cutT X X.length = m) := ⟨_, rfl⟩
      rw [hm.out] at hdc hcl
      by_cases hm0 : m = 0
      · subst hm0
        have hrow : Hid (rowU X j s = ([], s)) := by show _ = _; unfold rowU; rw [hm.out]; rfl
        clear hm hcl
        go_wp2_with fail
        refine hdc.mono ?_
        rintro e w3 ⟨rfl, hb3⟩
        have k3 := k.below hb3
        have hg3 := hg.trans (GrT.of_below hb3)
        clear hdc hb3 k hg
        go_wp2
        go_roundw
        case rel => exact ⟨j + 1, _, by go_num, by omega, by rw [hstp.out, hrow.out]; simpa using k3, hg3⟩
        case measure => simp [intOf]; omega
      have hmi : (0 : Int) < (m : Int) := by omega
      have hrow : Hid (rowU X j s = (goL j 0 ++ (cellsU X s m).1, (cellsU X s m).2)) := by show _ = _; unfold rowU; rw [hm.out, if_pos (by omega)]
      have htk : (X.take m).length = m := by rw [List.length_take]; omega
      have hgo := fun W => cellSign_any j 0 W ⟨by omega, by omega⟩ (by decide)
      have hgl := goL_len j 0
      have hoktk : ∀ k, k < (X.take m).length → (atC (X.take m) k).st.ok = true := fun k hk => by
        have e : atC (X.take m) k = atC X k := by rw [atC_lt hk, atC_lt (by omega), List.getElem_take]
        rw [e]; exact hokj k (by omega)
      have hctk := cellsU_take X s m hcl m (Nat.le_refl _)
      have hcells := fun v' L' W (hD : DI W base B v' L' s) (hg : GrT base w W) (hl : L'.length ≤ 100000) => dcells_any base B v' L' s aj cj (X.take m) W hD hso (fun W2 h2 => by rw [htk]; exact (hsj.below ((hlow W hg).trans (h2.mono hb0))).cut rfl (by omega)) hoktk (by omega) hl (Nat.le_trans hbs hg.size)
      rw [htk, hctk] at hcells
      replace hm := (show Hid _ from hm)
      clear hctk hoktk htk hokj hxj hsj hso hm0
      replace hlow := (show Hid _ from hlow)
      go_wp2_with fail
      refine hdc.mono ?_
      rintro e w3 ⟨rfl, hb3⟩
      have k3 := k.below hb3
      have hg3 := hg.trans (GrT.of_below hb3)
      clear hdc hb3 k hg hcj
      go_wp2_with fail
      refine (hgo _).mono ?_
      rintro e w4 ⟨p, rfl, hp, hb4⟩
      have k4 := k3.below hb4
      have hg4 := hg3.trans (GrT.of_below hb4)
      have hb5 := bal' w4 (Obj.cells #[.string p] 9)
      have hP5 := heap_alloc_new w4 (Obj.cells #[.string p] 9)
      have k5 := k4.below hb5
      have hg5 := hg4.trans (GrT.of_below hb5)
      have hps : partsL [p] = goL j 0 := by simp [partsL, hp]
      have ht := dtell_any base B u L s [p] w4.heap.size (0, 0) _ k5 hP5 (by simp) (by rw [hps]; omega) (Nat.le_trans hbs hg5.size)
      rw [hps] at ht
      clear hp hps hP5 hb5 k5 k4 hb4 hg4 k3 hg3 hgo
      go_wp2_with fail
      refine ht.mono ?_
      rintro e w6 ⟨rfl, hg6, v6, k6⟩
      have hg7 := hg5.trans hg6
      clear ht hg5 hg6
      have hc6 := hcells _ _ _ k6 hg7 (by rw [List.length_append]; omega)
      clear hcells
      go_wp2_with fail
      refine hc6.mono ?_
      rintro e w8 ⟨rfl, hg8, v8, k8⟩
      have hg9 := hg7.trans hg8
      clear hc6 hg7 hg8 k6
      go_wp2
      go_roundw
      case rel => exact ⟨j + 1, _, by go_num, by omega, by rw [hstp.out, hrow.out]; simpa [List.append_assoc] using k8, hg9⟩
      case measure => simp [intOf]; omega
    · have hji : ¬ (j : Int) < (g.length : Int) := by omega
      have hjn : j = g.length := by omega
      subst hjn
      clear hs hr hok hr60
      go_wp2
      refine bodyPost_end (results_none rfl _ _ _) rfl ?_
      exact ⟨rfl, hg, _, k⟩
end Go.Proofs.YtlmnhlfklbgjdaaGreatDoor
namespace Go.Proofs.YtlmnhlfklbgjdaaGreatDoor
open Go.ChangeShapes Go.WideShapes Go.ChangeAt Go.RowKit
theorem te_tc {W : World} {X : Nat} {T : TypeId} {t : Te} {tv : Tv} (h : TeB W X T t tv) : W.cell? ⟨X, 1, none⟩ = some tv.g ∧ W.cell? ⟨X, 4, none⟩ = some (.int .i64 t.row) ∧ W.cell? ⟨X, 5, none⟩ = some (.int .i64 t.col) ∧ W.cell? ⟨X, 6, none⟩ = some (.int .i64 t.st.fore) ∧ W.cell? ⟨X, 7, none⟩ = some (.int .i64 t.st.back) ∧ W.cell? ⟨X, 8, none⟩ = some (.bool t.st.bold) ∧ W.cell? ⟨X, 9, none⟩ = some (.bool t.st.under) ∧ W.cell? ⟨X, 10, none⟩ = some (.bool t.st.turned) ∧ W.cell? ⟨X, 11, none⟩ = some (.int .i64 t.top) ∧ W.cell? ⟨X, 12, none⟩ = some (.int .i64 t.bot) ∧ W.cell? ⟨X, 14, none⟩ = some (.bool t.wrap) ∧ W.cell? ⟨X, 16, none⟩ = some (.bool t.hid) :=
  ⟨cells_all h 1, cells_all h 4, cells_all h 5, cells_all h 6, cells_all h 7, cells_all h 8, cells_all h 9, cells_all h 10, cells_all h 11, cells_all h 12, cells_all h 14, cells_all h 16⟩
theorem listR_any (a b : Int) (w : World) (h : 0 ≤ a ∧ a < 100) (h2 : 0 ≤ b ∧ b < 100) :
    Calls Tryz.prog 77 #[.int .u8 114, .slice (some ⟨w.heap.size, 0, none⟩) 2 2] (w.alloc (.cells #[.int .i64 a, .int .i64 b] 2)) fun e w' => ∃ t, e = .returned (.string t) ∧ nums t = [27, 91] ++ digL a ++ [59] ++ digL b ++ [114] ∧ Below w.heap.size w w' := by
  have kb := bal' w (Obj.cells #[.int .i64 a, .int .i64 b] 2)
  exact (listSign_any 114 (by decide) _ [a, b] _ (sl_two w a b) (by simp) (by simp) (by intro n hn; simp at hn; omega)).mono fun _ _ ⟨t, e, ht, hb⟩ => ⟨t, e, by rw [ht]; simp [sepL], kb.trans (hb.mono kb.size)⟩
set_option maxHeartbeats 16000000 in
set_option maxRecDepth 20000 in
theorem places_any (base B : Nat) (v : Value) (L : List Int) (s : St) (t : Te) (ga : Option Addr) (gc : Nat) (to tti tpp tpt : Value) (w : World) (h : DI w base B v L s) (hso : s.ok = true) (hok : termOkB t = true) (hl : L.length ≤ 60000) (hbs : base ≤ w.heap.size) :
    Calls Tryz.prog 25 #[.pointer (some ⟨B, 0, none⟩), .agg (teCs t ⟨.slice ga t.g.length gc, to, tti, tpp, tpt⟩)] w fun e w' => e = .returned (.tuple #[]) ∧ GrT base w w' ∧ ∃ v' s', DI w' base B v' (L ++ endL t s) s' := by
  obtain ⟨⟨hn1, hn2⟩, hx, hokk, hst, ht1, hbo, hrw, hco⟩ := right_te hok
  clear hx hokk hok
  have hrs := fun v W (hD : DI W base B v L s) hb => drestyle_any base B v L s t.st W hD hso hst (by omega) hb
  have hcs := fun W => cellSign_any t.row t.col W ⟨hrw.1, by omega⟩ ⟨hco.1, by omega⟩
  have hlr := fun W => listR_any (t.top + 1) (t.bot + 1) W ⟨by omega, by omega⟩ ⟨by omega, by omega⟩
  have hsl := sgn_len s t.st
  have hgl := goL_len t.row t.col
  have hdl1 := digL_len (t.top + 1)
  have hdl2 := digL_len (t.bot + 1)
  have hw1 : IntKind.i64.wrap (t.top + 1) = t.top + 1 := by simp [IntKind.wrap_i64]; omega
  have hw2 : IntKind.i64.wrap (t.bot + 1) = t.bot + 1 := by simp [IntKind.wrap_i64]; omega
  have hw3 : IntKind.i64.wrap ((t.g.length : Int) - 1) = (t.g.length : Int) - 1 := by simp [IntKind.wrap_i64]; omega
  have hb1 := bal' w (Obj.cells (teCs t ⟨.slice ga t.g.length gc, to, tti, tpp, tpt⟩) 35)
  have hX := TeB.new w 35 t ⟨.slice ga t.g.length gc, to, tti, tpp, tpt⟩
  have k := h.below hb1
  obtain ⟨w1, hw1'⟩ : ∃ w1, w1 = w.alloc (Obj.cells (teCs t ⟨.slice ga t.g.length gc, to, tti, tpp, tpt⟩) 35) := ⟨_, rfl⟩
  rw [← hw1'] at hb1 hX k
  replace hw1' := (show Hid _ from hw1')
  obtain ⟨X, hXn⟩ : ∃ X, w.heap.size = X := ⟨_, rfl⟩
  rw [hXn] at hX
  have hg : GrT base w w1 := GrT.of_below hb1
  have hrs1 := hrs v w1 k (Nat.le_trans hbs hg.size)
  unfold stV at hrs1
  clear hrs h hb1
  go_enter Tryz.func25, Tryz.ntmps25
  refine wp_seq_k (fun K hK => ?_)
  have hH := (show Hid _ from hK)
  clear hK
  go_wp2
  refine hH.out _ _ ?_
  rw [← hw1'.out]
  clear hH hw1'
  obtain ⟨d1, d4, d5, d6, d7, d8, d9, d10, d11, d12, d14, d16⟩ := te_tc hX
  simp only at d1
  go_wp2_with fail
  refine hrs1.mono ?_
  rintro e w2 ⟨rfl, hg2, v2, k2⟩
  replace hX := hg2.blk hX (by decide) (by decide)
  replace hg := hg.trans hg2
  clear hrs1 hg2 k d1 d4 d5 d6 d7 d8 d9 d10 d11 d12 d14 d16
  have hbw := Nat.le_trans hbs hg.size
  cases hwr : t.wrap
  case false =>
    cases hhd : t.hid
    case false =>
      by_cases q1 : t.top = 0
      case neg =>
        have qb : (t.top != 0) = true := by simp [q1]
        have hE : Hid (endL t s = sgn s t.st ++ [] ++ ([27, 91] ++ digL (t.top + 1) ++ [59] ++ digL (t.bot + 1) ++ [114]) ++ goL t.row t.col ++ []) := by
          show _ = _
          unfold endL
          rw [if_neg (by rw [hwr]; simp), if_pos (by omega), if_neg (by rw [hhd]; simp)]
        replace q1 := (show Hid _ from q1)
        replace hwr := (show Hid _ from hwr)
        replace hhd := (show Hid _ from hhd)
        have k := k2
        clear k2
        obtain ⟨d1, d4, d5, d6, d7, d8, d9, d10, d11, d12, d14, d16⟩ := te_tc hX
        simp only at d1
        rw [hwr.out] at d14
        rw [hhd.out] at d16
        go_wp2_with fail
        refine (hlr _).mono ?_
        rintro e w4 ⟨p, rfl, hp, hb4⟩
        replace k := k.below hb4
        replace hX := (GrT.of_below (base := base) hb4).blk hX (by decide) (by decide)
        replace hg := hg.trans (GrT.of_below hb4)
        clear hb4
        have hb5 := bal' w4 (Obj.cells #[.string p] 9)
        have hP5 := heap_alloc_new w4 (Obj.cells #[.string p] 9)
        replace k := k.below hb5
        replace hX := (GrT.of_below (base := base) hb5).blk hX (by decide) (by decide)
        replace hg := hg.trans (GrT.of_below hb5)
        have hps5 : partsL [p] = [27, 91] ++ digL (t.top + 1) ++ [59] ++ digL (t.bot + 1) ++ [114] := by simp [partsL, hp]
        have ht5 := dtell_any base B _ _ t.st [p] w4.heap.size (0, 0) _ k hP5 (by simp) (by rw [hps5]; simp; omega) (Nat.le_trans hbs hg.size)
        rw [hps5] at ht5
        clear hps5 hP5 hb5 k
        go_wp2_with fail
        refine ht5.mono ?_
        rintro e w5 ⟨rfl, hg5, v5, k⟩
        replace hX := hg5.blk hX (by decide) (by decide)
        replace hg := hg.trans hg5
        clear ht5 hg5 hp
        clear d1 d4 d5 d6 d7 d8 d9 d10 d11 d12 d14 d16
        obtain ⟨d1, d4, d5, d6, d7, d8, d9, d10, d11, d12, d14, d16⟩ := te_tc hX
        simp only at d1
        rw [hwr.out] at d14
        rw [hhd.out] at d16
        go_wp2_with fail
        refine (hcs _).mono ?_
        rintro e w6 ⟨p, rfl, hp, hb6⟩
        replace k := k.below hb6
        replace hX := (GrT.of_below (base := base) hb6).blk hX (by decide) (by decide)
        replace hg := hg.trans (GrT.of_below hb6)
        clear hb6
        have hb7 := bal' w6 (Obj.cells #[.string p] 9)
        have hP7 := heap_alloc_new w6 (Obj.cells #[.string p] 9)
        replace k := k.below hb7
        replace hX := (GrT.of_below (base := base) hb7).blk hX (by decide) (by decide)
        replace hg := hg.trans (GrT.of_below hb7)
        have hps7 : partsL [p] = goL t.row t.col := by simp [partsL, hp]
        have ht7 := dtell_any base B _ _ t.st [p] w6.heap.size (0, 0) _ k hP7 (by simp) (by rw [hps7]; simp; omega) (Nat.le_trans hbs hg.size)
        rw [hps7] at ht7
        clear hps7 hP7 hb7 k
        go_wp2_with fail
        refine ht7.mono ?_
        rintro e w7 ⟨rfl, hg7, v7, k⟩
        replace hX := hg7.blk hX (by decide) (by decide)
        replace hg := hg.trans hg7
        clear ht7 hg7 hp
        clear d1 d4 d5 d6 d7 d8 d9 d10 d11 d12 d14 d16
        obtain ⟨d1, d4, d5, d6, d7, d8, d9, d10, d11, d12, d14, d16⟩ := te_tc hX
        simp only at d1
        rw [hwr.out] at d14
        rw [hhd.out] at d16
        have hq : L ++ sgn s t.st ++ ([27, 91] ++ digL (t.top + 1) ++ [59] ++ digL (t.bot + 1) ++ [114]) ++ goL t.row t.col = L ++ endL t s := by rw [hE.out]; simp
        rw [hq] at k
        replace hq := (show Hid _ from hq)
        go_wp2
        refine bodyPost_end (results_none rfl _ _ _) rfl ?_
        exact ⟨rfl, hg, _, _, k⟩
      have qb : (t.top != 0) = false := by simp [q1]
      by_cases q2 : t.bot = (t.g.length : Int) - 1
      case neg =>
        have qc : (t.bot != (t.g.length : Int) - 1) = true := by simp [q2]
        have hE : Hid (endL t s = sgn s t.st ++ [] ++ ([27, 91] ++ digL (t.top + 1) ++ [59] ++ digL (t.bot + 1) ++ [114]) ++ goL t.row t.col ++ []) := by
          show _ = _
          unfold endL
          rw [if_neg (by rw [hwr]; simp), if_pos (by omega), if_neg (by rw [hhd]; simp)]
        replace q1 := (show Hid _ from q1)
        replace q2 := (show Hid _ from q2)
        replace hwr := (show Hid _ from hwr)
        replace hhd := (show Hid _ from hhd)
        have k := k2
        clear k2
        obtain ⟨d1, d4, d5, d6, d7, d8, d9, d10, d11, d12, d14, d16⟩ := te_tc hX
        simp only at d1
        rw [hwr.out] at d14
        rw [hhd.out] at d16
        go_wp2_with fail
        refine (hlr _).mono ?_
        rintro e w4 ⟨p, rfl, hp, hb4⟩
        replace k := k.below hb4
        replace hX := (GrT.of_below (base := base) hb4).blk hX (by decide) (by decide)
        replace hg := hg.trans (GrT.of_below hb4)
        clear hb4
        have hb5 := bal' w4 (Obj.cells #[.string p] 9)
        have hP5 := heap_alloc_new w4 (Obj.cells #[.string p] 9)
        replace k := k.below hb5
        replace hX := (GrT.of_below (base := base) hb5).blk hX (by decide) (by decide)
        replace hg := hg.trans (GrT.of_below hb5)
        have hps5 : partsL [p] = [27, 91] ++ digL (t.top + 1) ++ [59] ++ digL (t.bot + 1) ++ [114] := by simp [partsL, hp]
        have ht5 := dtell_any base B _ _ t.st [p] w4.heap.size (0, 0) _ k hP5 (by simp) (by rw [hps5]; simp; omega) (Nat.le_trans hbs hg.size)
        rw [hps5] at ht5
        clear hps5 hP5 hb5 k
        go_wp2_with fail
        refine ht5.mono ?_
        rintro e w5 ⟨rfl, hg5, v5, k⟩
        replace hX := hg5.blk hX (by decide) (by decide)
        replace hg := hg.trans hg5
        clear ht5 hg5 hp
        clear d1 d4 d5 d6 d7 d8 d9 d10 d11 d12 d14 d16
        obtain ⟨d1, d4, d5, d6, d7, d8, d9, d10, d11, d12, d14, d16⟩ := te_tc hX
        simp only at d1
        rw [hwr.out] at d14
        rw [hhd.out] at d16
        go_wp2_with fail
        refine (hcs _).mono ?_
        rintro e w6 ⟨p, rfl, hp, hb6⟩
        replace k := k.below hb6
        replace hX := (GrT.of_below (base := base) hb6).blk hX (by decide) (by decide)
        replace hg := hg.trans (GrT.of_below hb6)
        clear hb6
        have hb7 := bal' w6 (Obj.cells #[.string p] 9)
        have hP7 := heap_alloc_new w6 (Obj.cells #[.string p] 9)
        replace k := k.below hb7
        replace hX := (GrT.of_below (base := base) hb7).blk hX (by decide) (by decide)
        replace hg := hg.trans (GrT.of_below hb7)
        have hps7 : partsL [p] = goL t.row t.col := by simp [partsL, hp]
        have ht7 := dtell_any base B _ _ t.st [p] w6.heap.size (0, 0) _ k hP7 (by simp) (by rw [hps7]; simp; omega) (Nat.le_trans hbs hg.size)
        rw [hps7] at ht7
        clear hps7 hP7 hb7 k
        go_wp2_with fail
        refine ht7.mono ?_
        rintro e w7 ⟨rfl, hg7, v7, k⟩
        replace hX := hg7.blk hX (by decide) (by decide)
        replace hg := hg.trans hg7
        clear ht7 hg7 hp
        clear d1 d4 d5 d6 d7 d8 d9 d10 d11 d12 d14 d16
        obtain ⟨d1, d4, d5, d6, d7, d8, d9, d10, d11, d12, d14, d16⟩ := te_tc hX
        simp only at d1
        rw [hwr.out] at d14
        rw [hhd.out] at d16
        have hq : L ++ sgn s t.st ++ ([27, 91] ++ digL (t.top + 1) ++ [59] ++ digL (t.bot + 1) ++ [114]) ++ goL t.row t.col = L ++ endL t s := by rw [hE.out]; simp
        rw [hq] at k
        replace hq := (show Hid _ from hq)
        go_wp2
        refine bodyPost_end (results_none rfl _ _ _) rfl ?_
        exact ⟨rfl, hg, _, _, k⟩
      have qc : (t.bot != (t.g.length : Int) - 1) = false := by simp [q2]
      have hE : Hid (endL t s = sgn s t.st ++ [] ++ [] ++ goL t.row t.col ++ []) := by
        show _ = _
        unfold endL
        rw [if_neg (by rw [hwr]; simp), if_neg (by omega), if_neg (by rw [hhd]; simp)]
      replace q1 := (show Hid _ from q1)
      replace q2 := (show Hid _ from q2)
      replace hwr := (show Hid _ from hwr)
      replace hhd := (show Hid _ from hhd)
      have k := k2
      clear k2
      obtain ⟨d1, d4, d5, d6, d7, d8, d9, d10, d11, d12, d14, d16⟩ := te_tc hX
      simp only at d1
      rw [hwr.out] at d14
      rw [hhd.out] at d16
      go_wp2_with fail
      refine (hcs _).mono ?_
      rintro e w6 ⟨p, rfl, hp, hb6⟩
      replace k := k.below hb6
      replace hX := (GrT.of_below (base := base) hb6).blk hX (by decide) (by decide)
      replace hg := hg.trans (GrT.of_below hb6)
      clear hb6
      have hb7 := bal' w6 (Obj.cells #[.string p] 9)
      have hP7 := heap_alloc_new w6 (Obj.cells #[.string p] 9)
      replace k := k.below hb7
      replace hX := (GrT.of_below (base := base) hb7).blk hX (by decide) (by decide)
      replace hg := hg.trans (GrT.of_below hb7)
      have hps7 : partsL [p] = goL t.row t.col := by simp [partsL, hp]
      have ht7 := dtell_any base B _ _ t.st [p] w6.heap.size (0, 0) _ k hP7 (by simp) (by rw [hps7]; simp; omega) (Nat.le_trans hbs hg.size)
      rw [hps7] at ht7
      clear hps7 hP7 hb7 k
      go_wp2_with fail
      refine ht7.mono ?_
      rintro e w7 ⟨rfl, hg7, v7, k⟩
      replace hX := hg7.blk hX (by decide) (by decide)
      replace hg := hg.trans hg7
      clear ht7 hg7 hp
      clear d1 d4 d5 d6 d7 d8 d9 d10 d11 d12 d14 d16
      obtain ⟨d1, d4, d5, d6, d7, d8, d9, d10, d11, d12, d14, d16⟩ := te_tc hX
      simp only at d1
      rw [hwr.out] at d14
      rw [hhd.out] at d16
      have hq : L ++ sgn s t.st ++ goL t.row t.col = L ++ endL t s := by rw [hE.out]; simp
      rw [hq] at k
      replace hq := (show Hid _ from hq)
      go_wp2
      refine bodyPost_end (results_none rfl _ _ _) rfl ?_
      exact ⟨rfl, hg, _, _, k⟩
    case true =>
      by_cases q1 : t.top = 0
      case neg =>
        have qb : (t.top != 0) = true := by simp [q1]
        have hE : Hid (endL t s = sgn s t.st ++ [] ++ ([27, 91] ++ digL (t.top + 1) ++ [59] ++ digL (t.bot + 1) ++ [114]) ++ goL t.row t.col ++ [27, 91, 63, 50, 53, 108]) := by
          show _ = _
          unfold endL
          rw [if_neg (by rw [hwr]; simp), if_pos (by omega), if_pos hhd]
        replace q1 := (show Hid _ from q1)
        replace hwr := (show Hid _ from hwr)
        replace hhd := (show Hid _ from hhd)
        have k := k2
        clear k2
        obtain ⟨d1, d4, d5, d6, d7, d8, d9, d10, d11, d12, d14, d16⟩ := te_tc hX
        simp only at d1
        rw [hwr.out] at d14
        rw [hhd.out] at d16
        go_wp2_with fail
        refine (hlr _).mono ?_
        rintro e w4 ⟨p, rfl, hp, hb4⟩
        replace k := k.below hb4
        replace hX := (GrT.of_below (base := base) hb4).blk hX (by decide) (by decide)
        replace hg := hg.trans (GrT.of_below hb4)
        clear hb4
        have hb5 := bal' w4 (Obj.cells #[.string p] 9)
        have hP5 := heap_alloc_new w4 (Obj.cells #[.string p] 9)
        replace k := k.below hb5
        replace hX := (GrT.of_below (base := base) hb5).blk hX (by decide) (by decide)
        replace hg := hg.trans (GrT.of_below hb5)
        have hps5 : partsL [p] = [27, 91] ++ digL (t.top + 1) ++ [59] ++ digL (t.bot + 1) ++ [114] := by simp [partsL, hp]
        have ht5 := dtell_any base B _ _ t.st [p] w4.heap.size (0, 0) _ k hP5 (by simp) (by rw [hps5]; simp; omega) (Nat.le_trans hbs hg.size)
        rw [hps5] at ht5
        clear hps5 hP5 hb5 k
        go_wp2_with fail
        refine ht5.mono ?_
        rintro e w5 ⟨rfl, hg5, v5, k⟩
        replace hX := hg5.blk hX (by decide) (by decide)
        replace hg := hg.trans hg5
        clear ht5 hg5 hp
        clear d1 d4 d5 d6 d7 d8 d9 d10 d11 d12 d14 d16
        obtain ⟨d1, d4, d5, d6, d7, d8, d9, d10, d11, d12, d14, d16⟩ := te_tc hX
        simp only at d1
        rw [hwr.out] at d14
        rw [hhd.out] at d16
        go_wp2_with fail
        refine (hcs _).mono ?_
        rintro e w6 ⟨p, rfl, hp, hb6⟩
        replace k := k.below hb6
        replace hX := (GrT.of_below (base := base) hb6).blk hX (by decide) (by decide)
        replace hg := hg.trans (GrT.of_below hb6)
        clear hb6
        have hb7 := bal' w6 (Obj.cells #[.string p] 9)
        have hP7 := heap_alloc_new w6 (Obj.cells #[.string p] 9)
        replace k := k.below hb7
        replace hX := (GrT.of_below (base := base) hb7).blk hX (by decide) (by decide)
        replace hg := hg.trans (GrT.of_below hb7)
        have hps7 : partsL [p] = goL t.row t.col := by simp [partsL, hp]
        have ht7 := dtell_any base B _ _ t.st [p] w6.heap.size (0, 0) _ k hP7 (by simp) (by rw [hps7]; simp; omega) (Nat.le_trans hbs hg.size)
        rw [hps7] at ht7
        clear hps7 hP7 hb7 k
        go_wp2_with fail
        refine ht7.mono ?_
        rintro e w7 ⟨rfl, hg7, v7, k⟩
        replace hX := hg7.blk hX (by decide) (by decide)
        replace hg := hg.trans hg7
        clear ht7 hg7 hp
        clear d1 d4 d5 d6 d7 d8 d9 d10 d11 d12 d14 d16
        obtain ⟨d1, d4, d5, d6, d7, d8, d9, d10, d11, d12, d14, d16⟩ := te_tc hX
        simp only at d1
        rw [hwr.out] at d14
        rw [hhd.out] at d16
        have hb8 := bal' w7 (Obj.cells #[.string ⟨#[27, 91, 63, 50, 53, 108]⟩] 9)
        have hP8 := heap_alloc_new w7 (Obj.cells #[.string ⟨#[27, 91, 63, 50, 53, 108]⟩] 9)
        replace k := k.below hb8
        replace hX := (GrT.of_below (base := base) hb8).blk hX (by decide) (by decide)
        replace hg := hg.trans (GrT.of_below hb8)
        have hps8 : partsL [⟨#[27, 91, 63, 50, 53, 108]⟩] = [27, 91, 63, 50, 53, 108] := rfl
        have ht8 := dtell_any base B _ _ t.st [⟨#[27, 91, 63, 50, 53, 108]⟩] w7.heap.size (0, 0) _ k hP8 (by simp) (by rw [hps8]; simp; omega) (Nat.le_trans hbs hg.size)
        rw [hps8] at ht8
        clear hps8 hP8 hb8 k
        go_wp2_with fail
        refine ht8.mono ?_
        rintro e w8 ⟨rfl, hg8, v8, k⟩
        replace hX := hg8.blk hX (by decide) (by decide)
        replace hg := hg.trans hg8
        clear ht8 hg8
        have hq : L ++ sgn s t.st ++ ([27, 91] ++ digL (t.top + 1) ++ [59] ++ digL (t.bot + 1) ++ [114]) ++ goL t.row t.col ++ [27, 91, 63, 50, 53, 108] = L ++ endL t s := by rw [hE.out]; simp
        rw [hq] at k
        replace hq := (show Hid _ from hq)
        go_wp2
        refine bodyPost_end (results_none rfl _ _ _) rfl ?_
        exact ⟨rfl, hg, _, _, k⟩
      have qb : (t.top != 0) = false := by simp [q1]
      by_cases q2 : t.bot = (t.g.length : Int) - 1
      case neg =>
        have qc : (t.bot != (t.g.length : Int) - 1) = true := by simp [q2]
        have hE : Hid (endL t s = sgn s t.st ++ [] ++ ([27, 91] ++ digL (t.top + 1) ++ [59] ++ digL (t.bot + 1) ++ [114]) ++ goL t.row t.col ++ [27, 91, 63, 50, 53, 108]) := by
          show _ = _
          unfold endL
          rw [if_neg (by rw [hwr]; simp), if_pos (by omega), if_pos hhd]
        replace q1 := (show Hid _ from q1)
        replace q2 := (show Hid _ from q2)
        replace hwr := (show Hid _ from hwr)
        replace hhd := (show Hid _ from hhd)
        have k := k2
        clear k2
        obtain ⟨d1, d4, d5, d6, d7, d8, d9, d10, d11, d12, d14, d16⟩ := te_tc hX
        simp only at d1
        rw [hwr.out] at d14
        rw [hhd.out] at d16
        go_wp2_with fail
        refine (hlr _).mono ?_
        rintro e w4 ⟨p, rfl, hp, hb4⟩
        replace k := k.below hb4
        replace hX := (GrT.of_below (base := base) hb4).blk hX (by decide) (by decide)
        replace hg := hg.trans (GrT.of_below hb4)
        clear hb4
        have hb5 := bal' w4 (Obj.cells #[.string p] 9)
        have hP5 := heap_alloc_new w4 (Obj.cells #[.string p] 9)
        replace k := k.below hb5
        replace hX := (GrT.of_below (base := base) hb5).blk hX (by decide) (by decide)
        replace hg := hg.trans (GrT.of_below hb5)
        have hps5 : partsL [p] = [27, 91] ++ digL (t.top + 1) ++ [59] ++ digL (t.bot + 1) ++ [114] := by simp [partsL, hp]
        have ht5 := dtell_any base B _ _ t.st [p] w4.heap.size (0, 0) _ k hP5 (by simp) (by rw [hps5]; simp; omega) (Nat.le_trans hbs hg.size)
        rw [hps5] at ht5
        clear hps5 hP5 hb5 k
        go_wp2_with fail
        refine ht5.mono ?_
        rintro e w5 ⟨rfl, hg5, v5, k⟩
        replace hX := hg5.blk hX (by decide) (by decide)
        replace hg := hg.trans hg5
        clear ht5 hg5 hp
        clear d1 d4 d5 d6 d7 d8 d9 d10 d11 d12 d14 d16
        obtain ⟨d1, d4, d5, d6, d7, d8, d9, d10, d11, d12, d14, d16⟩ := te_tc hX
        simp only at d1
        rw [hwr.out] at d14
        rw [hhd.out] at d16
        go_wp2_with fail
        refine (hcs _).mono ?_
        rintro e w6 ⟨p, rfl, hp, hb6⟩
        replace k := k.below hb6
        replace hX := (GrT.of_below (base := base) hb6).blk hX (by decide) (by decide)
        replace hg := hg.trans (GrT.of_below hb6)
        clear hb6
        have hb7 := bal' w6 (Obj.cells #[.string p] 9)
        have hP7 := heap_alloc_new w6 (Obj.cells #[.string p] 9)
        replace k := k.below hb7
        replace hX := (GrT.of_below (base := base) hb7).blk hX (by decide) (by decide)
        replace hg := hg.trans (GrT.of_below hb7)
        have hps7 : partsL [p] = goL t.row t.col := by simp [partsL, hp]
        have ht7 := dtell_any base B _ _ t.st [p] w6.heap.size (0, 0) _ k hP7 (by simp) (by rw [hps7]; simp; omega) (Nat.le_trans hbs hg.size)
        rw [hps7] at ht7
        clear hps7 hP7 hb7 k
        go_wp2_with fail
        refine ht7.mono ?_
        rintro e w7 ⟨rfl, hg7, v7, k⟩
        replace hX := hg7.blk hX (by decide) (by decide)
        replace hg := hg.trans hg7
        clear ht7 hg7 hp
        clear d1 d4 d5 d6 d7 d8 d9 d10 d11 d12 d14 d16
        obtain ⟨d1, d4, d5, d6, d7, d8, d9, d10, d11, d12, d14, d16⟩ := te_tc hX
        simp only at d1
        rw [hwr.out] at d14
        rw [hhd.out] at d16
        have hb8 := bal' w7 (Obj.cells #[.string ⟨#[27, 91, 63, 50, 53, 108]⟩] 9)
        have hP8 := heap_alloc_new w7 (Obj.cells #[.string ⟨#[27, 91, 63, 50, 53, 108]⟩] 9)
        replace k := k.below hb8
        replace hX := (GrT.of_below (base := base) hb8).blk hX (by decide) (by decide)
        replace hg := hg.trans (GrT.of_below hb8)
        have hps8 : partsL [⟨#[27, 91, 63, 50, 53, 108]⟩] = [27, 91, 63, 50, 53, 108] := rfl
        have ht8 := dtell_any base B _ _ t.st [⟨#[27, 91, 63, 50, 53, 108]⟩] w7.heap.size (0, 0) _ k hP8 (by simp) (by rw [hps8]; simp; omega) (Nat.le_trans hbs hg.size)
        rw [hps8] at ht8
        clear hps8 hP8 hb8 k
        go_wp2_with fail
        refine ht8.mono ?_
        rintro e w8 ⟨rfl, hg8, v8, k⟩
        replace hX := hg8.blk hX (by decide) (by decide)
        replace hg := hg.trans hg8
        clear ht8 hg8
        have hq : L ++ sgn s t.st ++ ([27, 91] ++ digL (t.top + 1) ++ [59] ++ digL (t.bot + 1) ++ [114]) ++ goL t.row t.col ++ [27, 91, 63, 50, 53, 108] = L ++ endL t s := by rw [hE.out]; simp
        rw [hq] at k
        replace hq := (show Hid _ from hq)
        go_wp2
        refine bodyPost_end (results_none rfl _ _ _) rfl ?_
        exact ⟨rfl, hg, _, _, k⟩
      have qc : (t.bot != (t.g.length : Int) - 1) = false := by simp [q2]
      have hE : Hid (endL t s = sgn s t.st ++ [] ++ [] ++ goL t.row t.col ++ [27, 91, 63, 50, 53, 108]) := by
        show _ = _
        unfold endL
        rw [if_neg (by rw [hwr]; simp), if_neg (by omega), if_pos hhd]
      replace q1 := (show Hid _ from q1)
      replace q2 := (show Hid _ from q2)
      replace hwr := (show Hid _ from hwr)
      replace hhd := (show Hid _ from hhd)
      have k := k2
      clear k2
      obtain ⟨d1, d4, d5, d6, d7, d8, d9, d10, d11, d12, d14, d16⟩ := te_tc hX
      simp only at d1
      rw [hwr.out] at d14
      rw [hhd.out] at d16
      go_wp2_with fail
      refine (hcs _).mono ?_
      rintro e w6 ⟨p, rfl, hp, hb6⟩
      replace k := k.below hb6
      replace hX := (GrT.of_below (base := base) hb6).blk hX (by decide) (by decide)
      replace hg := hg.trans (GrT.of_below hb6)
      clear hb6
      have hb7 := bal' w6 (Obj.cells #[.string p] 9)
      have hP7 := heap_alloc_new w6 (Obj.cells #[.string p] 9)
      replace k := k.below hb7
      replace hX := (GrT.of_below (base := base) hb7).blk hX (by decide) (by decide)
      replace hg := hg.trans (GrT.of_below hb7)
      have hps7 : partsL [p] = goL t.row t.col := by simp [partsL, hp]
      have ht7 := dtell_any base B _ _ t.st [p] w6.heap.size (0, 0) _ k hP7 (by simp) (by rw [hps7]; simp; omega) (Nat.le_trans hbs hg.size)
      rw [hps7] at ht7
      clear hps7 hP7 hb7 k
      go_wp2_with fail
      refine ht7.mono ?_
      rintro e w7 ⟨rfl, hg7, v7, k⟩
      replace hX := hg7.blk hX (by decide) (by decide)
      replace hg := hg.trans hg7
      clear ht7 hg7 hp
      clear d1 d4 d5 d6 d7 d8 d9 d10 d11 d12 d14 d16
      obtain ⟨d1, d4, d5, d6, d7, d8, d9, d10, d11, d12, d14, d16⟩ := te_tc hX
      simp only at d1
      rw [hwr.out] at d14
      rw [hhd.out] at d16
      have hb8 := bal' w7 (Obj.cells #[.string ⟨#[27, 91, 63, 50, 53, 108]⟩] 9)
      have hP8 := heap_alloc_new w7 (Obj.cells #[.string ⟨#[27, 91, 63, 50, 53, 108]⟩] 9)
      replace k := k.below hb8
      replace hX := (GrT.of_below (base := base) hb8).blk hX (by decide) (by decide)
      replace hg := hg.trans (GrT.of_below hb8)
      have hps8 : partsL [⟨#[27, 91, 63, 50, 53, 108]⟩] = [27, 91, 63, 50, 53, 108] := rfl
      have ht8 := dtell_any base B _ _ t.st [⟨#[27, 91, 63, 50, 53, 108]⟩] w7.heap.size (0, 0) _ k hP8 (by simp) (by rw [hps8]; simp; omega) (Nat.le_trans hbs hg.size)
      rw [hps8] at ht8
      clear hps8 hP8 hb8 k
      go_wp2_with fail
      refine ht8.mono ?_
      rintro e w8 ⟨rfl, hg8, v8, k⟩
      replace hX := hg8.blk hX (by decide) (by decide)
      replace hg := hg.trans hg8
      clear ht8 hg8
      have hq : L ++ sgn s t.st ++ goL t.row t.col ++ [27, 91, 63, 50, 53, 108] = L ++ endL t s := by rw [hE.out]; simp
      rw [hq] at k
      replace hq := (show Hid _ from hq)
      go_wp2
      refine bodyPost_end (results_none rfl _ _ _) rfl ?_
      exact ⟨rfl, hg, _, _, k⟩
  case true =>
    cases hhd : t.hid
    case false =>
      by_cases q1 : t.top = 0
      case neg =>
        have qb : (t.top != 0) = true := by simp [q1]
        have hE : Hid (endL t s = sgn s t.st ++ [27, 91, 63, 55, 104] ++ ([27, 91] ++ digL (t.top + 1) ++ [59] ++ digL (t.bot + 1) ++ [114]) ++ goL t.row t.col ++ []) := by
          show _ = _
          unfold endL
          rw [if_pos hwr, if_pos (by omega), if_neg (by rw [hhd]; simp)]
        replace q1 := (show Hid _ from q1)
        replace hwr := (show Hid _ from hwr)
        replace hhd := (show Hid _ from hhd)
        have k := k2
        clear k2
        obtain ⟨d1, d4, d5, d6, d7, d8, d9, d10, d11, d12, d14, d16⟩ := te_tc hX
        simp only at d1
        rw [hwr.out] at d14
        rw [hhd.out] at d16
        have hb3 := bal' w2 (Obj.cells #[.string ⟨#[27, 91, 63, 55, 104]⟩] 9)
        have hP3 := heap_alloc_new w2 (Obj.cells #[.string ⟨#[27, 91, 63, 55, 104]⟩] 9)
        replace k := k.below hb3
        replace hX := (GrT.of_below (base := base) hb3).blk hX (by decide) (by decide)
        replace hg := hg.trans (GrT.of_below hb3)
        have hps3 : partsL [⟨#[27, 91, 63, 55, 104]⟩] = [27, 91, 63, 55, 104] := rfl
        have ht3 := dtell_any base B _ _ t.st [⟨#[27, 91, 63, 55, 104]⟩] w2.heap.size (0, 0) _ k hP3 (by simp) (by rw [hps3]; simp; omega) (Nat.le_trans hbs hg.size)
        rw [hps3] at ht3
        clear hps3 hP3 hb3 k
        go_wp2_with fail
        refine ht3.mono ?_
        rintro e w3 ⟨rfl, hg3, v3, k⟩
        replace hX := hg3.blk hX (by decide) (by decide)
        replace hg := hg.trans hg3
        clear ht3 hg3
        clear d1 d4 d5 d6 d7 d8 d9 d10 d11 d12 d14 d16
        obtain ⟨d1, d4, d5, d6, d7, d8, d9, d10, d11, d12, d14, d16⟩ := te_tc hX
        simp only at d1
        rw [hwr.out] at d14
        rw [hhd.out] at d16
        go_wp2_with fail
        refine (hlr _).mono ?_
        rintro e w4 ⟨p, rfl, hp, hb4⟩
        replace k := k.below hb4
        replace hX := (GrT.of_below (base := base) hb4).blk hX (by decide) (by decide)
        replace hg := hg.trans (GrT.of_below hb4)
        clear hb4
        have hb5 := bal' w4 (Obj.cells #[.string p] 9)
        have hP5 := heap_alloc_new w4 (Obj.cells #[.string p] 9)
        replace k := k.below hb5
        replace hX := (GrT.of_below (base := base) hb5).blk hX (by decide) (by decide)
        replace hg := hg.trans (GrT.of_below hb5)
        have hps5 : partsL [p] = [27, 91] ++ digL (t.top + 1) ++ [59] ++ digL (t.bot + 1) ++ [114] := by simp [partsL, hp]
        have ht5 := dtell_any base B _ _ t.st [p] w4.heap.size (0, 0) _ k hP5 (by simp) (by rw [hps5]; simp; omega) (Nat.le_trans hbs hg.size)
        rw [hps5] at ht5
        clear hps5 hP5 hb5 k
        go_wp2_with fail
        refine ht5.mono ?_
        rintro e w5 ⟨rfl, hg5, v5, k⟩
        replace hX := hg5.blk hX (by decide) (by decide)
        replace hg := hg.trans hg5
        clear ht5 hg5 hp
        clear d1 d4 d5 d6 d7 d8 d9 d10 d11 d12 d14 d16
        obtain ⟨d1, d4, d5, d6, d7, d8, d9, d10, d11, d12, d14, d16⟩ := te_tc hX
        simp only at d1
        rw [hwr.out] at d14
        rw [hhd.out] at d16
        go_wp2_with fail
        refine (hcs _).mono ?_
        rintro e w6 ⟨p, rfl, hp, hb6⟩
        replace k := k.below hb6
        replace hX := (GrT.of_below (base := base) hb6).blk hX (by decide) (by decide)
        replace hg := hg.trans (GrT.of_below hb6)
        clear hb6
        have hb7 := bal' w6 (Obj.cells #[.string p] 9)
        have hP7 := heap_alloc_new w6 (Obj.cells #[.string p] 9)
        replace k := k.below hb7
        replace hX := (GrT.of_below (base := base) hb7).blk hX (by decide) (by decide)
        replace hg := hg.trans (GrT.of_below hb7)
        have hps7 : partsL [p] = goL t.row t.col := by simp [partsL, hp]
        have ht7 := dtell_any base B _ _ t.st [p] w6.heap.size (0, 0) _ k hP7 (by simp) (by rw [hps7]; simp; omega) (Nat.le_trans hbs hg.size)
        rw [hps7] at ht7
        clear hps7 hP7 hb7 k
        go_wp2_with fail
        refine ht7.mono ?_
        rintro e w7 ⟨rfl, hg7, v7, k⟩
        replace hX := hg7.blk hX (by decide) (by decide)
        replace hg := hg.trans hg7
        clear ht7 hg7 hp
        clear d1 d4 d5 d6 d7 d8 d9 d10 d11 d12 d14 d16
        obtain ⟨d1, d4, d5, d6, d7, d8, d9, d10, d11, d12, d14, d16⟩ := te_tc hX
        simp only at d1
        rw [hwr.out] at d14
        rw [hhd.out] at d16
        have hq : L ++ sgn s t.st ++ [27, 91, 63, 55, 104] ++ ([27, 91] ++ digL (t.top + 1) ++ [59] ++ digL (t.bot + 1) ++ [114]) ++ goL t.row t.col = L ++ endL t s := by rw [hE.out]; simp
        rw [hq] at k
        replace hq := (show Hid _ from hq)
        go_wp2
        refine bodyPost_end (results_none rfl _ _ _) rfl ?_
        exact ⟨rfl, hg, _, _, k⟩
      have qb : (t.top != 0) = false := by simp [q1]
      by_cases q2 : t.bot = (t.g.length : Int) - 1
      case neg =>
        have qc : (t.bot != (t.g.length : Int) - 1) = true := by simp [q2]
        have hE : Hid (endL t s = sgn s t.st ++ [27, 91, 63, 55, 104] ++ ([27, 91] ++ digL (t.top + 1) ++ [59] ++ digL (t.bot + 1) ++ [114]) ++ goL t.row t.col ++ []) := by
          show _ = _
          unfold endL
          rw [if_pos hwr, if_pos (by omega), if_neg (by rw [hhd]; simp)]
        replace q1 := (show Hid _ from q1)
        replace q2 := (show Hid _ from q2)
        replace hwr := (show Hid _ from hwr)
        replace hhd := (show Hid _ from hhd)
        have k := k2
        clear k2
        obtain ⟨d1, d4, d5, d6, d7, d8, d9, d10, d11, d12, d14, d16⟩ := te_tc hX
        simp only at d1
        rw [hwr.out] at d14
        rw [hhd.out] at d16
        have hb3 := bal' w2 (Obj.cells #[.string ⟨#[27, 91, 63, 55, 104]⟩] 9)
        have hP3 := heap_alloc_new w2 (Obj.cells #[.string ⟨#[27, 91, 63, 55, 104]⟩] 9)
        replace k := k.below hb3
        replace hX := (GrT.of_below (base := base) hb3).blk hX (by decide) (by decide)
        replace hg := hg.trans (GrT.of_below hb3)
        have hps3 : partsL [⟨#[27, 91, 63, 55, 104]⟩] = [27, 91, 63, 55, 104] := rfl
        have ht3 := dtell_any base B _ _ t.st [⟨#[27, 91, 63, 55, 104]⟩] w2.heap.size (0, 0) _ k hP3 (by simp) (by rw [hps3]; simp; omega) (Nat.le_trans hbs hg.size)
        rw [hps3] at ht3
        clear hps3 hP3 hb3 k
        go_wp2_with fail
        refine ht3.mono ?_
        rintro e w3 ⟨rfl, hg3, v3, k⟩
        replace hX := hg3.blk hX (by decide) (by decide)
        replace hg := hg.trans hg3
        clear ht3 hg3
        clear d1 d4 d5 d6 d7 d8 d9 d10 d11 d12 d14 d16
        obtain ⟨d1, d4, d5, d6, d7, d8, d9, d10, d11, d12, d14, d16⟩ := te_tc hX
        simp only at d1
        rw [hwr.out] at d14
        rw [hhd.out] at d16
        go_wp2_with fail
        refine (hlr _).mono ?_
        rintro e w4 ⟨p, rfl, hp, hb4⟩
        replace k := k.below hb4
        replace hX := (GrT.of_below (base := base) hb4).blk hX (by decide) (by decide)
        replace hg := hg.trans (GrT.of_below hb4)
        clear hb4
        have hb5 := bal' w4 (Obj.cells #[.string p] 9)
        have hP5 := heap_alloc_new w4 (Obj.cells #[.string p] 9)
        replace k := k.below hb5
        replace hX := (GrT.of_below (base := base) hb5).blk hX (by decide) (by decide)
        replace hg := hg.trans (GrT.of_below hb5)
        have hps5 : partsL [p] = [27, 91] ++ digL (t.top + 1) ++ [59] ++ digL (t.bot + 1) ++ [114] := by simp [partsL, hp]
        have ht5 := dtell_any base B _ _ t.st [p] w4.heap.size (0, 0) _ k hP5 (by simp) (by rw [hps5]; simp; omega) (Nat.le_trans hbs hg.size)
        rw [hps5] at ht5
        clear hps5 hP5 hb5 k
        go_wp2_with fail
        refine ht5.mono ?_
        rintro e w5 ⟨rfl, hg5, v5, k⟩
        replace hX := hg5.blk hX (by decide) (by decide)
        replace hg := hg.trans hg5
        clear ht5 hg5 hp
        clear d1 d4 d5 d6 d7 d8 d9 d10 d11 d12 d14 d16
        obtain ⟨d1, d4, d5, d6, d7, d8, d9, d10, d11, d12, d14, d16⟩ := te_tc hX
        simp only at d1
        rw [hwr.out] at d14
        rw [hhd.out] at d16
        go_wp2_with fail
        refine (hcs _).mono ?_
        rintro e w6 ⟨p, rfl, hp, hb6⟩
        replace k := k.below hb6
        replace hX := (GrT.of_below (base := base) hb6).blk hX (by decide) (by decide)
        replace hg := hg.trans (GrT.of_below hb6)
        clear hb6
        have hb7 := bal' w6 (Obj.cells #[.string p] 9)
        have hP7 := heap_alloc_new w6 (Obj.cells #[.string p] 9)
        replace k := k.below hb7
        replace hX := (GrT.of_below (base := base) hb7).blk hX (by decide) (by decide)
        replace hg := hg.trans (GrT.of_below hb7)
        have hps7 : partsL [p] = goL t.row t.col := by simp [partsL, hp]
        have ht7 := dtell_any base B _ _ t.st [p] w6.heap.size (0, 0) _ k hP7 (by simp) (by rw [hps7]; simp; omega) (Nat.le_trans hbs hg.size)
        rw [hps7] at ht7
        clear hps7 hP7 hb7 k
        go_wp2_with fail
        refine ht7.mono ?_
        rintro e w7 ⟨rfl, hg7, v7, k⟩
        replace hX := hg7.blk hX (by decide) (by decide)
        replace hg := hg.trans hg7
        clear ht7 hg7 hp
        clear d1 d4 d5 d6 d7 d8 d9 d10 d11 d12 d14 d16
        obtain ⟨d1, d4, d5, d6, d7, d8, d9, d10, d11, d12, d14, d16⟩ := te_tc hX
        simp only at d1
        rw [hwr.out] at d14
        rw [hhd.out] at d16
        have hq : L ++ sgn s t.st ++ [27, 91, 63, 55, 104] ++ ([27, 91] ++ digL (t.top + 1) ++ [59] ++ digL (t.bot + 1) ++ [114]) ++ goL t.row t.col = L ++ endL t s := by rw [hE.out]; simp
        rw [hq] at k
        replace hq := (show Hid _ from hq)
        go_wp2
        refine bodyPost_end (results_none rfl _ _ _) rfl ?_
        exact ⟨rfl, hg, _, _, k⟩
      have qc : (t.bot != (t.g.length : Int) - 1) = false := by simp [q2]
      have hE : Hid (endL t s = sgn s t.st ++ [27, 91, 63, 55, 104] ++ [] ++ goL t.row t.col ++ []) := by
        show _ = _
        unfold endL
        rw [if_pos hwr, if_neg (by omega), if_neg (by rw [hhd]; simp)]
      replace q1 := (show Hid _ from q1)
      replace q2 := (show Hid _ from q2)
      replace hwr := (show Hid _ from hwr)
      replace hhd := (show Hid _ from hhd)
      have k := k2
      clear k2
      obtain ⟨d1, d4, d5, d6, d7, d8, d9, d10, d11, d12, d14, d16⟩ := te_tc hX
      simp only at d1
      rw [hwr.out] at d14
      rw [hhd.out] at d16
      have hb3 := bal' w2 (Obj.cells #[.string ⟨#[27, 91, 63, 55, 104]⟩] 9)
      have hP3 := heap_alloc_new w2 (Obj.cells #[.string ⟨#[27, 91, 63, 55, 104]⟩] 9)
      replace k := k.below hb3
      replace hX := (GrT.of_below (base := base) hb3).blk hX (by decide) (by decide)
      replace hg := hg.trans (GrT.of_below hb3)
      have hps3 : partsL [⟨#[27, 91, 63, 55, 104]⟩] = [27, 91, 63, 55, 104] := rfl
      have ht3 := dtell_any base B _ _ t.st [⟨#[27, 91, 63, 55, 104]⟩] w2.heap.size (0, 0) _ k hP3 (by simp) (by rw [hps3]; simp; omega) (Nat.le_trans hbs hg.size)
      rw [hps3] at ht3
      clear hps3 hP3 hb3 k
      go_wp2_with fail
      refine ht3.mono ?_
      rintro e w3 ⟨rfl, hg3, v3, k⟩
      replace hX := hg3.blk hX (by decide) (by decide)
      replace hg := hg.trans hg3
      clear ht3 hg3
      clear d1 d4 d5 d6 d7 d8 d9 d10 d11 d12 d14 d16
      obtain ⟨d1, d4, d5, d6, d7, d8, d9, d10, d11, d12, d14, d16⟩ := te_tc hX
      simp only at d1
      rw [hwr.out] at d14
      rw [hhd.out] at d16
      go_wp2_with fail
      refine (hcs _).mono ?_
      rintro e w6 ⟨p, rfl, hp, hb6⟩
      replace k := k.below hb6
      replace hX := (GrT.of_below (base := base) hb6).blk hX (by decide) (by decide)
      replace hg := hg.trans (GrT.of_below hb6)
      clear hb6
      have hb7 := bal' w6 (Obj.cells #[.string p] 9)
      have hP7 := heap_alloc_new w6 (Obj.cells #[.string p] 9)
      replace k := k.below hb7
      replace hX := (GrT.of_below (base := base) hb7).blk hX (by decide) (by decide)
      replace hg := hg.trans (GrT.of_below hb7)
      have hps7 : partsL [p] = goL t.row t.col := by simp [partsL, hp]
      have ht7 := dtell_any base B _ _ t.st [p] w6.heap.size (0, 0) _ k hP7 (by simp) (by rw [hps7]; simp; omega) (Nat.le_trans hbs hg.size)
      rw [hps7] at ht7
      clear hps7 hP7 hb7 k
      go_wp2_with fail
      refine ht7.mono ?_
      rintro e w7 ⟨rfl, hg7, v7, k⟩
      replace hX := hg7.blk hX (by decide) (by decide)
      replace hg := hg.trans hg7
      clear ht7 hg7 hp
      clear d1 d4 d5 d6 d7 d8 d9 d10 d11 d12 d14 d16
      obtain ⟨d1, d4, d5, d6, d7, d8, d9, d10, d11, d12, d14, d16⟩ := te_tc hX
      simp only at d1
      rw [hwr.out] at d14
      rw [hhd.out] at d16
      have hq : L ++ sgn s t.st ++ [27, 91, 63, 55, 104] ++ goL t.row t.col = L ++ endL t s := by rw [hE.out]; simp
      rw [hq] at k
      replace hq := (show Hid _ from hq)
      go_wp2
      refine bodyPost_end (results_none rfl _ _ _) rfl ?_
      exact ⟨rfl, hg, _, _, k⟩
    case true =>
      by_cases q1 : t.top = 0
      case neg =>
        have qb : (t.top != 0) = true := by simp [q1]
        have hE : Hid (endL t s = sgn s t.st ++ [27, 91, 63, 55, 104] ++ ([27, 91] ++ digL (t.top + 1) ++ [59] ++ digL (t.bot + 1) ++ [114]) ++ goL t.row t.col ++ [27, 91, 63, 50, 53, 108]) := by
          show _ = _
          unfold endL
          rw [if_pos hwr, if_pos (by omega), if_pos hhd]
        replace q1 := (show Hid _ from q1)
        replace hwr := (show Hid _ from hwr)
        replace hhd := (show Hid _ from hhd)
        have k := k2
        clear k2
        obtain ⟨d1, d4, d5, d6, d7, d8, d9, d10, d11, d12, d14, d16⟩ := te_tc hX
        simp only at d1
        rw [hwr.out] at d14
        rw [hhd.out] at d16
        have hb3 := bal' w2 (Obj.cells #[.string ⟨#[27, 91, 63, 55, 104]⟩] 9)
        have hP3 := heap_alloc_new w2 (Obj.cells #[.string ⟨#[27, 91, 63, 55, 104]⟩] 9)
        replace k := k.below hb3
        replace hX := (GrT.of_below (base := base) hb3).blk hX (by decide) (by decide)
        replace hg := hg.trans (GrT.of_below hb3)
        have hps3 : partsL [⟨#[27, 91, 63, 55, 104]⟩] = [27, 91, 63, 55, 104] := rfl
        have ht3 := dtell_any base B _ _ t.st [⟨#[27, 91, 63, 55, 104]⟩] w2.heap.size (0, 0) _ k hP3 (by simp) (by rw [hps3]; simp; omega) (Nat.le_trans hbs hg.size)
        rw [hps3] at ht3
        clear hps3 hP3 hb3 k
        go_wp2_with fail
        refine ht3.mono ?_
        rintro e w3 ⟨rfl, hg3, v3, k⟩
        replace hX := hg3.blk hX (by decide) (by decide)
        replace hg := hg.trans hg3
        clear ht3 hg3
        clear d1 d4 d5 d6 d7 d8 d9 d10 d11 d12 d14 d16
        obtain ⟨d1, d4, d5, d6, d7, d8, d9, d10, d11, d12, d14, d16⟩ := te_tc hX
        simp only at d1
        rw [hwr.out] at d14
        rw [hhd.out] at d16
        go_wp2_with fail
        refine (hlr _).mono ?_
        rintro e w4 ⟨p, rfl, hp, hb4⟩
        replace k := k.below hb4
        replace hX := (GrT.of_below (base := base) hb4).blk hX (by decide) (by decide)
        replace hg := hg.trans (GrT.of_below hb4)
        clear hb4
        have hb5 := bal' w4 (Obj.cells #[.string p] 9)
        have hP5 := heap_alloc_new w4 (Obj.cells #[.string p] 9)
        replace k := k.below hb5
        replace hX := (GrT.of_below (base := base) hb5).blk hX (by decide) (by decide)
        replace hg := hg.trans (GrT.of_below hb5)
        have hps5 : partsL [p] = [27, 91] ++ digL (t.top + 1) ++ [59] ++ digL (t.bot + 1) ++ [114] := by simp [partsL, hp]
        have ht5 := dtell_any base B _ _ t.st [p] w4.heap.size (0, 0) _ k hP5 (by simp) (by rw [hps5]; simp; omega) (Nat.le_trans hbs hg.size)
        rw [hps5] at ht5
        clear hps5 hP5 hb5 k
        go_wp2_with fail
        refine ht5.mono ?_
        rintro e w5 ⟨rfl, hg5, v5, k⟩
        replace hX := hg5.blk hX (by decide) (by decide)
        replace hg := hg.trans hg5
        clear ht5 hg5 hp
        clear d1 d4 d5 d6 d7 d8 d9 d10 d11 d12 d14 d16
        obtain ⟨d1, d4, d5, d6, d7, d8, d9, d10, d11, d12, d14, d16⟩ := te_tc hX
        simp only at d1
        rw [hwr.out] at d14
        rw [hhd.out] at d16
        go_wp2_with fail
        refine (hcs _).mono ?_
        rintro e w6 ⟨p, rfl, hp, hb6⟩
        replace k := k.below hb6
        replace hX := (GrT.of_below (base := base) hb6).blk hX (by decide) (by decide)
        replace hg := hg.trans (GrT.of_below hb6)
        clear hb6
        have hb7 := bal' w6 (Obj.cells #[.string p] 9)
        have hP7 := heap_alloc_new w6 (Obj.cells #[.string p] 9)
        replace k := k.below hb7
        replace hX := (GrT.of_below (base := base) hb7).blk hX (by decide) (by decide)
        replace hg := hg.trans (GrT.of_below hb7)
        have hps7 : partsL [p] = goL t.row t.col := by simp [partsL, hp]
        have ht7 := dtell_any base B _ _ t.st [p] w6.heap.size (0, 0) _ k hP7 (by simp) (by rw [hps7]; simp; omega) (Nat.le_trans hbs hg.size)
        rw [hps7] at ht7
        clear hps7 hP7 hb7 k
        go_wp2_with fail
        refine ht7.mono ?_
        rintro e w7 ⟨rfl, hg7, v7, k⟩
        replace hX := hg7.blk hX (by decide) (by decide)
        replace hg := hg.trans hg7
        clear ht7 hg7 hp
        clear d1 d4 d5 d6 d7 d8 d9 d10 d11 d12 d14 d16
        obtain ⟨d1, d4, d5, d6, d7, d8, d9, d10, d11, d12, d14, d16⟩ := te_tc hX
        simp only at d1
        rw [hwr.out] at d14
        rw [hhd.out] at d16
        have hb8 := bal' w7 (Obj.cells #[.string ⟨#[27, 91, 63, 50, 53, 108]⟩] 9)
        have hP8 := heap_alloc_new w7 (Obj.cells #[.string ⟨#[27, 91, 63, 50, 53, 108]⟩] 9)
        replace k := k.below hb8
        replace hX := (GrT.of_below (base := base) hb8).blk hX (by decide) (by decide)
        replace hg := hg.trans (GrT.of_below hb8)
        have hps8 : partsL [⟨#[27, 91, 63, 50, 53, 108]⟩] = [27, 91, 63, 50, 53, 108] := rfl
        have ht8 := dtell_any base B _ _ t.st [⟨#[27, 91, 63, 50, 53, 108]⟩] w7.heap.size (0, 0) _ k hP8 (by simp) (by rw [hps8]; simp; omega) (Nat.le_trans hbs hg.size)
        rw [hps8] at ht8
        clear hps8 hP8 hb8 k
        go_wp2_with fail
        refine ht8.mono ?_
        rintro e w8 ⟨rfl, hg8, v8, k⟩
        replace hX := hg8.blk hX (by decide) (by decide)
        replace hg := hg.trans hg8
        clear ht8 hg8
        have hq : L ++ sgn s t.st ++ [27, 91, 63, 55, 104] ++ ([27, 91] ++ digL (t.top + 1) ++ [59] ++ digL (t.bot + 1) ++ [114]) ++ goL t.row t.col ++ [27, 91, 63, 50, 53, 108] = L ++ endL t s := by rw [hE.out]; simp
        rw [hq] at k
        replace hq := (show Hid _ from hq)
        go_wp2
        refine bodyPost_end (results_none rfl _ _ _) rfl ?_
        exact ⟨rfl, hg, _, _, k⟩
      have qb : (t.top != 0) = false := by simp [q1]
      by_cases q2 : t.bot = (t.g.length : Int) - 1
      case neg =>
        have qc : (t.bot != (t.g.length : Int) - 1) = true := by simp [q2]
        have hE : Hid (endL t s = sgn s t.st ++ [27, 91, 63, 55, 104] ++ ([27, 91] ++ digL (t.top + 1) ++ [59] ++ digL (t.bot + 1) ++ [114]) ++ goL t.row t.col ++ [27, 91, 63, 50, 53, 108]) := by
          show _ = _
          unfold endL
          rw [if_pos hwr, if_pos (by omega), if_pos hhd]
        replace q1 := (show Hid _ from q1)
        replace q2 := (show Hid _ from q2)
        replace hwr := (show Hid _ from hwr)
        replace hhd := (show Hid _ from hhd)
        have k := k2
        clear k2
        obtain ⟨d1, d4, d5, d6, d7, d8, d9, d10, d11, d12, d14, d16⟩ := te_tc hX
        simp only at d1
        rw [hwr.out] at d14
        rw [hhd.out] at d16
        have hb3 := bal' w2 (Obj.cells #[.string ⟨#[27, 91, 63, 55, 104]⟩] 9)
        have hP3 := heap_alloc_new w2 (Obj.cells #[.string ⟨#[27, 91, 63, 55, 104]⟩] 9)
        replace k := k.below hb3
        replace hX := (GrT.of_below (base := base) hb3).blk hX (by decide) (by decide)
        replace hg := hg.trans (GrT.of_below hb3)
        have hps3 : partsL [⟨#[27, 91, 63, 55, 104]⟩] = [27, 91, 63, 55, 104] := rfl
        have ht3 := dtell_any base B _ _ t.st [⟨#[27, 91, 63, 55, 104]⟩] w2.heap.size (0, 0) _ k hP3 (by simp) (by rw [hps3]; simp; omega) (Nat.le_trans hbs hg.size)
        rw [hps3] at ht3
        clear hps3 hP3 hb3 k
        go_wp2_with fail
        refine ht3.mono ?_
        rintro e w3 ⟨rfl, hg3, v3, k⟩
        replace hX := hg3.blk hX (by decide) (by decide)
        replace hg := hg.trans hg3
        clear ht3 hg3
        clear d1 d4 d5 d6 d7 d8 d9 d10 d11 d12 d14 d16
        obtain ⟨d1, d4, d5, d6, d7, d8, d9, d10, d11, d12, d14, d16⟩ := te_tc hX
        simp only at d1
        rw [hwr.out] at d14
        rw [hhd.out] at d16
        go_wp2_with fail
        refine (hlr _).mono ?_
        rintro e w4 ⟨p, rfl, hp, hb4⟩
        replace k := k.below hb4
        replace hX := (GrT.of_below (base := base) hb4).blk hX (by decide) (by decide)
        replace hg := hg.trans (GrT.of_below hb4)
        clear hb4
        have hb5 := bal' w4 (Obj.cells #[.string p] 9)
        have hP5 := heap_alloc_new w4 (Obj.cells #[.string p] 9)
        replace k := k.below hb5
        replace hX := (GrT.of_below (base := base) hb5).blk hX (by decide) (by decide)
        replace hg := hg.trans (GrT.of_below hb5)
        have hps5 : partsL [p] = [27, 91] ++ digL (t.top + 1) ++ [59] ++ digL (t.bot + 1) ++ [114] := by simp [partsL, hp]
        have ht5 := dtell_any base B _ _ t.st [p] w4.heap.size (0, 0) _ k hP5 (by simp) (by rw [hps5]; simp; omega) (Nat.le_trans hbs hg.size)
        rw [hps5] at ht5
        clear hps5 hP5 hb5 k
        go_wp2_with fail
        refine ht5.mono ?_
        rintro e w5 ⟨rfl, hg5, v5, k⟩
        replace hX := hg5.blk hX (by decide) (by decide)
        replace hg := hg.trans hg5
        clear ht5 hg5 hp
        clear d1 d4 d5 d6 d7 d8 d9 d10 d11 d12 d14 d16
        obtain ⟨d1, d4, d5, d6, d7, d8, d9, d10, d11, d12, d14, d16⟩ := te_tc hX
        simp only at d1
        rw [hwr.out] at d14
        rw [hhd.out] at d16
        go_wp2_with fail
        refine (hcs _).mono ?_
        rintro e w6 ⟨p, rfl, hp, hb6⟩
        replace k := k.below hb6
        replace hX := (GrT.of_below (base := base) hb6).blk hX (by decide) (by decide)
        replace hg := hg.trans (GrT.of_below hb6)
        clear hb6
        have hb7 := bal' w6 (Obj.cells #[.string p] 9)
        have hP7 := heap_alloc_new w6 (Obj.cells #[.string p] 9)
        replace k := k.below hb7
        replace hX := (GrT.of_below (base := base) hb7).blk hX (by decide) (by decide)
        replace hg := hg.trans (GrT.of_below hb7)
        have hps7 : partsL [p] = goL t.row t.col := by simp [partsL, hp]
        have ht7 := dtell_any base B _ _ t.st [p] w6.heap.size (0, 0) _ k hP7 (by simp) (by rw [hps7]; simp; omega) (Nat.le_trans hbs hg.size)
        rw [hps7] at ht7
        clear hps7 hP7 hb7 k
        go_wp2_with fail
        refine ht7.mono ?_
        rintro e w7 ⟨rfl, hg7, v7, k⟩
        replace hX := hg7.blk hX (by decide) (by decide)
        replace hg := hg.trans hg7
        clear ht7 hg7 hp
        clear d1 d4 d5 d6 d7 d8 d9 d10 d11 d12 d14 d16
        obtain ⟨d1, d4, d5, d6, d7, d8, d9, d10, d11, d12, d14, d16⟩ := te_tc hX
        simp only at d1
        rw [hwr.out] at d14
        rw [hhd.out] at d16
        have hb8 := bal' w7 (Obj.cells #[.string ⟨#[27, 91, 63, 50, 53, 108]⟩] 9)
        have hP8 := heap_alloc_new w7 (Obj.cells #[.string ⟨#[27, 91, 63, 50, 53, 108]⟩] 9)
        replace k := k.below hb8
        replace hX := (GrT.of_below (base := base) hb8).blk hX (by decide) (by decide)
        replace hg := hg.trans (GrT.of_below hb8)
        have hps8 : partsL [⟨#[27, 91, 63, 50, 53, 108]⟩] = [27, 91, 63, 50, 53, 108] := rfl
        have ht8 := dtell_any base B _ _ t.st [⟨#[27, 91, 63, 50, 53, 108]⟩] w7.heap.size (0, 0) _ k hP8 (by simp) (by rw [hps8]; simp; omega) (Nat.le_trans hbs hg.size)
        rw [hps8] at ht8
        clear hps8 hP8 hb8 k
        go_wp2_with fail
        refine ht8.mono ?_
        rintro e w8 ⟨rfl, hg8, v8, k⟩
        replace hX := hg8.blk hX (by decide) (by decide)
        replace hg := hg.trans hg8
        clear ht8 hg8
        have hq : L ++ sgn s t.st ++ [27, 91, 63, 55, 104] ++ ([27, 91] ++ digL (t.top + 1) ++ [59] ++ digL (t.bot + 1) ++ [114]) ++ goL t.row t.col ++ [27, 91, 63, 50, 53, 108] = L ++ endL t s := by rw [hE.out]; simp
        rw [hq] at k
        replace hq := (show Hid _ from hq)
        go_wp2
        refine bodyPost_end (results_none rfl _ _ _) rfl ?_
        exact ⟨rfl, hg, _, _, k⟩
      have qc : (t.bot != (t.g.length : Int) - 1) = false := by simp [q2]
      have hE : Hid (endL t s = sgn s t.st ++ [27, 91, 63, 55, 104] ++ [] ++ goL t.row t.col ++ [27, 91, 63, 50, 53, 108]) := by
        show _ = _
        unfold endL
        rw [if_pos hwr, if_neg (by omega), if_pos hhd]
      replace q1 := (show Hid _ from q1)
      replace q2 := (show Hid _ from q2)
      replace hwr := (show Hid _ from hwr)
      replace hhd := (show Hid _ from hhd)
      have k := k2
      clear k2
      obtain ⟨d1, d4, d5, d6, d7, d8, d9, d10, d11, d12, d14, d16⟩ := te_tc hX
      simp only at d1
      rw [hwr.out] at d14
      rw [hhd.out] at d16
      have hb3 := bal' w2 (Obj.cells #[.string ⟨#[27, 91, 63, 55, 104]⟩] 9)
      have hP3 := heap_alloc_new w2 (Obj.cells #[.string ⟨#[27, 91, 63, 55, 104]⟩] 9)
      replace k := k.below hb3
      replace hX := (GrT.of_below (base := base) hb3).blk hX (by decide) (by decide)
      replace hg := hg.trans (GrT.of_below hb3)
      have hps3 : partsL [⟨#[27, 91, 63, 55, 104]⟩] = [27, 91, 63, 55, 104] := rfl
      have ht3 := dtell_any base B _ _ t.st [⟨#[27, 91, 63, 55, 104]⟩] w2.heap.size (0, 0) _ k hP3 (by simp) (by rw [hps3]; simp; omega) (Nat.le_trans hbs hg.size)
      rw [hps3] at ht3
      clear hps3 hP3 hb3 k
      go_wp2_with fail
      refine ht3.mono ?_
      rintro e w3 ⟨rfl, hg3, v3, k⟩
      replace hX := hg3.blk hX (by decide) (by decide)
      replace hg := hg.trans hg3
      clear ht3 hg3
      clear d1 d4 d5 d6 d7 d8 d9 d10 d11 d12 d14 d16
      obtain ⟨d1, d4, d5, d6, d7, d8, d9, d10, d11, d12, d14, d16⟩ := te_tc hX
      simp only at d1
      rw [hwr.out] at d14
      rw [hhd.out] at d16
      go_wp2_with fail
      refine (hcs _).mono ?_
      rintro e w6 ⟨p, rfl, hp, hb6⟩
      replace k := k.below hb6
      replace hX := (GrT.of_below (base := base) hb6).blk hX (by decide) (by decide)
      replace hg := hg.trans (GrT.of_below hb6)
      clear hb6
      have hb7 := bal' w6 (Obj.cells #[.string p] 9)
      have hP7 := heap_alloc_new w6 (Obj.cells #[.string p] 9)
      replace k := k.below hb7
      replace hX := (GrT.of_below (base := base) hb7).blk hX (by decide) (by decide)
      replace hg := hg.trans (GrT.of_below hb7)
      have hps7 : partsL [p] = goL t.row t.col := by simp [partsL, hp]
      have ht7 := dtell_any base B _ _ t.st [p] w6.heap.size (0, 0) _ k hP7 (by simp) (by rw [hps7]; simp; omega) (Nat.le_trans hbs hg.size)
      rw [hps7] at ht7
      clear hps7 hP7 hb7 k
      go_wp2_with fail
      refine ht7.mono ?_
      rintro e w7 ⟨rfl, hg7, v7, k⟩
      replace hX := hg7.blk hX (by decide) (by decide)
      replace hg := hg.trans hg7
      clear ht7 hg7 hp
      clear d1 d4 d5 d6 d7 d8 d9 d10 d11 d12 d14 d16
      obtain ⟨d1, d4, d5, d6, d7, d8, d9, d10, d11, d12, d14, d16⟩ := te_tc hX
      simp only at d1
      rw [hwr.out] at d14
      rw [hhd.out] at d16
      have hb8 := bal' w7 (Obj.cells #[.string ⟨#[27, 91, 63, 50, 53, 108]⟩] 9)
      have hP8 := heap_alloc_new w7 (Obj.cells #[.string ⟨#[27, 91, 63, 50, 53, 108]⟩] 9)
      replace k := k.below hb8
      replace hX := (GrT.of_below (base := base) hb8).blk hX (by decide) (by decide)
      replace hg := hg.trans (GrT.of_below hb8)
      have hps8 : partsL [⟨#[27, 91, 63, 50, 53, 108]⟩] = [27, 91, 63, 50, 53, 108] := rfl
      have ht8 := dtell_any base B _ _ t.st [⟨#[27, 91, 63, 50, 53, 108]⟩] w7.heap.size (0, 0) _ k hP8 (by simp) (by rw [hps8]; simp; omega) (Nat.le_trans hbs hg.size)
      rw [hps8] at ht8
      clear hps8 hP8 hb8 k
      go_wp2_with fail
      refine ht8.mono ?_
      rintro e w8 ⟨rfl, hg8, v8, k⟩
      replace hX := hg8.blk hX (by decide) (by decide)
      replace hg := hg.trans hg8
      clear ht8 hg8
      have hq : L ++ sgn s t.st ++ [27, 91, 63, 55, 104] ++ goL t.row t.col ++ [27, 91, 63, 50, 53, 108] = L ++ endL t s := by rw [hE.out]; simp
      rw [hq] at k
      replace hq := (show Hid _ from hq)
      go_wp2
      refine bodyPost_end (results_none rfl _ _ _) rfl ?_
      exact ⟨rfl, hg, _, _, k⟩

theorem rowT_nil (w : World) (base : Nat) : RowT base (.slice none 0 0) [] w := .inl ⟨rfl, .inl ⟨rfl, rfl⟩⟩
set_option maxHeartbeats 8000000 in
set_option maxRecDepth 20000 in
theorem implDrawn_any (t : Te) (v : Tv) (w : World) (h : SlT w t v) (hS : SpansAt w) (hz : SzT 1048576 t) :
    Calls Tryz.prog 7 #[.agg (teCs t v)] w fun e w' => e = .returned (.string (strOfNums (drawnL t))) ∧ Below w.heap.size w w' := by
  have hb0 := bal' w (Obj.cells (teCs t v) 35)
  have hB := TeB.new w 35 t v
  obtain ⟨w1, hw1⟩ : ∃ w1, w1 = w.alloc (Obj.cells (teCs t v) 35) := ⟨_, rfl⟩
  rw [← hw1] at hB hb0
  replace hw1 := (show Hid _ from hw1)
  obtain ⟨bT, eT⟩ : ∃ b, Hid (termOkB t = b) := ⟨_, rfl⟩
  have dT := fun W hS h => implTermOk_any t v W h hS hz
  rw [eT.out] at dT
  unfold teV at dT
  clear hz
  go_enter Tryz.func7, Tryz.ntmps7
  refine wp_seq_k (fun K hK => ?_)
  have hH := (show Hid _ from hK)
  clear hK
  go_wp2
  refine hH.out _ _ ?_
  rw [← hw1.out]
  clear hH hw1
  go_wp2_with (refine load_te hB (by rfl) _ (by rfl) (by rfl) ?_)
  refine (dT _ (hS.below hb0 hS.lt) (h.below hb0)).mono ?_
  rintro e w3 ⟨rfl, hb⟩
  replace hb0 := hb0.trans (hb.mono hb0.size)
  replace hB := hB.below hb
  clear hb dT
  cases bT
  case false =>
    have hv : Hid (drawnL t = []) := by show _ = _; unfold drawnL; rw [eT.out]; rfl
    go_wp2
    go_ret
    exact ⟨by rw [hv.out]; rfl, hb0⟩
  obtain ⟨⟨hn1, hn2⟩, hx, hok, hst, ht1, hbo, hrw, hco⟩ := right_te eT.out
  have hv : Hid (drawnL t = (rowsU t.g t.g.length).1 ++ endL t (rowsU t.g t.g.length).2) := by show _ = _; unfold drawnL; rw [eT.out]; rfl
  have hlen := rowsU_len t.g hx t.g.length (Nat.le_refl _)
  have hso := rowsU_ok t.g hok t.g.length (Nat.le_refl _)
  -- the drawing
  have hb4 := bal' w3 (Obj.cells #[.slice none 0 0, .int .i64 0, .int .i64 0, .bool false, .bool false, .bool false] 59)
  have hD4 := heap_alloc_new w3 (Obj.cells #[.slice none 0 0, .int .i64 0, .int .i64 0, .bool false, .bool false, .bool false] 59)
  have e4 : (w3.alloc (Obj.cells #[.slice none 0 0, .int .i64 0, .int .i64 0, .bool false, .bool false, .bool false] 59)).heap.size = w3.heap.size + 1 := by simp
  obtain ⟨w4, hw4⟩ : ∃ w4, w4 = w3.alloc (Obj.cells #[.slice none 0 0, .int .i64 0, .int .i64 0, .bool false, .bool false, .bool false] 59) := ⟨_, rfl⟩
  rw [← hw4] at hb4 hD4 e4
  replace hw4 := (show Hid _ from hw4)
  have k4 : DI w4 w3.heap.size w3.heap.size (.slice none 0 0) [] St.zero := ⟨rowT_nil _ _, hD4, Nat.le_refl _⟩
  have hB4 := hB.below hb4
  have hb5 := bal' w4 (Obj.cells #[.string ⟨#[27, 99]⟩, .string ⟨#[27, 91, 63, 55, 108]⟩] 9)
  have hP5 := heap_alloc_new w4 (Obj.cells #[.string ⟨#[27, 99]⟩, .string ⟨#[27, 91, 63, 55, 108]⟩] 9)
  have k5 := k4.below hb5
  have hB5 := hB4.below hb5
  have hz0 := hb0.size
  have kb5 : Below w.heap.size w (w4.alloc (Obj.cells #[.string ⟨#[27, 99]⟩, .string ⟨#[27, 91, 63, 55, 108]⟩] 9)) := hb0.trans ((hb4.trans (hb5.mono hb4.size)).mono hz0)
  have hz5 := Nat.le_trans hb4.size hb5.size
  have ht := dtell_any w3.heap.size w3.heap.size _ _ St.zero [⟨#[27, 99]⟩, ⟨#[27, 91, 63, 55, 108]⟩] w4.heap.size (0, 0) _ k5 hP5 (by simp) (by decide) hz5
  rw [show ([] : List Int) ++ partsL [⟨#[27, 99]⟩, ⟨#[27, 91, 63, 55, 108]⟩] = headL from rfl] at ht
  have hrows := fun v' W (hD : DI W w3.heap.size w3.heap.size v' headL St.zero) (hk : Below w.heap.size w W) hbs => drows_any w3.heap.size w3.heap.size v' t.gc v.g t.g w W hD h.1 hk hz0 hn2 hx hok hbs
  unfold gridV at hrows
  obtain ⟨ga, gp, hq1⟩ := slG_shp h.1
  obtain ⟨vg, vo, vti, vpp, vpt⟩ := v
  simp only at hq1
  subst hq1
  have hpl := fun v' W (hD : DI W w3.heap.size w3.heap.size v' (rowsU t.g t.g.length).1 (rowsU t.g t.g.length).2) hbs => places_any w3.heap.size w3.heap.size v' _ _ t ga gp vo vti vpp vpt W hD hso eT.out (by omega) hbs
  have hc0 : w4.cell? ⟨w3.heap.size, 0, none⟩ = some (.slice none 0 0) := cells_all hD4 0
  simp only at hrows
  rw [← hv.out] at hpl
  clear hx hok hst ht1 hbo hrw hco hlen hso hv k4 hD4 hB hB4 hP5 k5 hb4 hb5
  rw [e4] at ht
  replace e4 := (show Hid _ from e4)
  go_wp2_with fail
  rw [← hw4.out]
  refine ht.mono ?_
  rintro e w6 ⟨rfl, hg6, v6, k6⟩
  have hB6 : TeB w6 w.heap.size 35 t ⟨.slice ga t.g.length gp, vo, vti, vpp, vpt⟩ := hg6.blk hB5 (by decide) (by decide)
  have kb6 := kb5.trans ((hg6.to_below hz5).mono hz0)
  have hz6 := Nat.le_trans hz5 hg6.size
  have hr6 := hrows _ _ k6 kb6 hz6
  obtain ⟨c0, c1, _⟩ := hB6.cells
  clear ht hrows hg6 k6 hB5 kb5
  go_wp2_with fail
  refine hr6.mono ?_
  rintro e w7 ⟨rfl, hg7, v7, k7⟩
  have hB7 : TeB w7 w.heap.size 35 t ⟨.slice ga t.g.length gp, vo, vti, vpp, vpt⟩ := hg7.blk hB6 (by decide) (by decide)
  have kb7 := kb6.trans ((hg7.to_below hz6).mono hz0)
  have hz7 := Nat.le_trans hz6 hg7.size
  have hp7 := hpl _ _ k7 hz7
  clear hr6 hg7 k7 hpl hB6 kb6 c0 c1
  go_wp2_with (refine load_te hB7 (by rfl) _ (by rfl) (by rfl) ?_)
  refine hp7.mono ?_
  rintro e w8 ⟨rfl, hg8, v8, s8, k8⟩
  have kb8 := kb7.trans ((hg8.to_below hz7).mono hz0)
  have d0 := k8.cells.1
  have hcv := conv_rowT k8.row
  clear hp7 hg8 hB7 kb7
  go_wp2
  go_ret
  exact ⟨rfl, kb8⟩
end Go.Proofs.YtlmnhlfklbgjdaaGreatDoor
namespace Go.Proofs.YtlmnhlfklbgjdaaGreatDoor
open Go.ChangeShapes Go.WideShapes Go.ChangeAt Go.RowKit
set_option maxHeartbeats 8000000 in
set_option maxRecDepth 20000 in
theorem walk_FnExactDrawn (w : World) (hS : SpansAt w) (t : Te) (v : Tv) (h : SlT w t v) (hm : SzT maxLen t) (hf : t.fe.size ≤ maxLen) :
    Calls Tryz.prog 4 #[teV t v] w fun e w' => e = .returned (.bool true) ∧ Below w.heap.size w w' := by
  have hzz := fun W h => szTerm_any t v W h hm hf
  have hb0 := bal' w (Obj.cells (teCs t v) 54)
  have hX := TeB.new w 54 t v
  obtain ⟨w1, hw1⟩ : ∃ w1, w1 = w.alloc (Obj.cells (teCs t v) 54) := ⟨_, rfl⟩
  rw [← hw1] at hb0 hX
  have zs1 : w.heap.size < w1.heap.size := hX.lt
  replace hw1 := (show Hid _ from hw1)
  have hto := fun W h hz => toTerm_copy t v W h hz
  have hsp := fun u W h hz => specDrawn_any t u W h hz
  have him := fun u W hS h hz => implDrawn_any t u W h hS hz
  have heq := fun u u2 W h h2 hz => eqTerm_same t u u2 W h h2 hz
  obtain ⟨ok, hok⟩ : ∃ ok, Hid (strOfNums (drawnL t) = ok) := ⟨_, rfl⟩
  simp only [hok.out] at hsp him
  clear hm hf hok
  unfold teV at *
  go_enter Tryz.func4, Tryz.ntmps4
  refine wp_seq_k (fun K hK => ?_)
  have hH := (show Hid _ from hK)
  clear hK
  go_wp2
  refine hH.out _ _ ?_
  rw [← hw1.out]
  clear hH hw1
  go_wp2_with (refine load_tl hX (by rfl) _ (by rfl) (by rfl) ?_)
  refine (hzz _ (h.below hb0)).mono ?_
  rintro e w2 ⟨z, rfl, hz, hb⟩
  have kb := hb0.trans (hb.mono hb0.size)
  replace hX := hX.below hb
  clear hb hb0 hzz
  by_cases hzn : z < 0
  case pos =>
    go_wp2
    go_ret
    exact ⟨rfl, kb⟩
  obtain ⟨hsz, _⟩ := hz.resolve_left hzn
  clear hz
  replace hsz := (show Hid _ from hsz)
  go_wp2_with (refine load_tl hX (by rfl) _ (by rfl) (by rfl) ?_)
  refine (hto _ (h.below kb) hsz.out).mono ?_
  rintro e w3 ⟨v3, rfl, ho, hb⟩
  replace kb := kb.trans (hb.mono kb.size)
  replace hX := hX.below hb
  clear hb
  go_wp2_with fail
  refine (hsp v3 _ ho.sl hsz.out).mono ?_
  rintro e w4 ⟨rfl, hb⟩
  replace kb := kb.trans (hb.mono kb.size)
  replace hX := hX.below hb
  clear hb ho
  go_wp2_with (refine load_tl hX (by rfl) _ (by rfl) (by rfl) ?_)
  refine (hto _ (h.below kb) hsz.out).mono ?_
  rintro e w5 ⟨v5, rfl, ho, hb⟩
  replace kb := kb.trans (hb.mono kb.size)
  replace hX := hX.below hb
  clear hb
  -- the argument's copy is laid into a block of its own
  have hon := ho.sl.one
  have hal := bal' w5 (Obj.cells #[.int .i64 0, .slice none 0 0, .int .i64 0, .slice none 0 0, .int .i64 0, .int .i64 0, .int .i64 0, .int .i64 0, .bool false, .bool false, .bool false, .int .i64 0, .int .i64 0, .bool false, .bool false, .bool false, .bool false, .int .i64 0, .int .i64 0, .int .i64 0, .int .i64 0, .bool false, .bool false, .bool false, .slice none 0 0, .int .i64 0, .slice none 0 0, .int .i64 0, .slice none 0 0, .string ⟨#[]⟩] 35)
  have hZ := TB.new w5 [.int .i64 0, .slice none 0 0, .int .i64 0, .slice none 0 0, .int .i64 0, .int .i64 0, .int .i64 0, .int .i64 0, .bool false, .bool false, .bool false, .int .i64 0, .int .i64 0, .bool false, .bool false, .bool false, .bool false, .int .i64 0, .int .i64 0, .int .i64 0, .int .i64 0, .bool false, .bool false, .bool false, .slice none 0 0, .int .i64 0, .slice none 0 0, .int .i64 0, .slice none 0 0, .string ⟨#[]⟩]
  have hs5 := ho.sl
  clear ho
  go_wp2_with (first
    | (refine store_T (cs := teCs t v5) (by rfl) 35 _ _ (by rfl) info_te (by rfl) hon hZ (by rfl) (by rfl) ?_; intro W hg hA hzs; have hbW : Below w5.heap.size w5 W := hal.grown hg hal.size (fun k e => by cases e; exact Nat.le_refl _); have hA1 : TeB W w5.heap.size 35 t v5 := hA; have hX1 := hX.below hbW; have kb1 := kb.trans (hbW.mono kb.size); have hs1 := hs5.below hbW; clear hA hX kb hg hzs hal hZ hs5 hbW)
    | (refine load_te hA1 (by rfl) _ (by rfl) (by rfl) ?_))
  refine (him v5 _ (hS.below kb1 hS.lt) hs1 hsz.out).mono ?_
  rintro e w7 ⟨rfl, hb⟩
  have kb := kb1.trans (hb.mono kb1.size)
  have hX := hX1.below hb
  have hA := hA1.below hb
  have hs := hs1.below hb
  clear hb kb1 hX1 hA1 hs1
  have hAd := hA.below (bdr w7)
  have hXd := hX.below (bdr w7)
  go_wp2
  refine wp_region_noPanic ?_
  refine wp_region_held_drew (S := (fun W => TeB W w5.heap.size 35 t v5 ∧ TeB W w.heap.size 54 t v ∧ Below w7.heap.size w7 W)) (by kernel_rfl) ⟨hAd, hXd, bdr w7⟩ (fun hHeld => ?_)
  refine' wpAnyH_take (i := 0) (v := .agg (teCs t v5)) rfl (by kernel_rfl) (by kernel_rfl) (by kernel_rfl) (fun _ _ _ h => h) (Or.inl ⟨by rfl, ?hy1⟩) hHeld ?hr1
  case hy1 => (intro W hSw; exact run_load_te hSw.1 _ _ _ rfl rfl)
  simp only [Act.put, List.setIfInBounds_toArray, List.set_cons_zero, List.set_cons_succ, List.getElem_toArray, List.getElem_cons_zero]
  refine' wpAnyH_take (i := 1) (v := .agg (teCs t v)) rfl (by kernel_rfl) (by kernel_rfl) (by kernel_rfl) (fun _ _ _ h => h) (Or.inl ⟨by rfl, ?hy2⟩) hHeld ?hr2
  case hy2 => (intro W hSw; exact run_load_tl hSw.2.1 _ _ _ rfl rfl)
  simp only [Act.put, List.setIfInBounds_toArray, List.set_cons_zero, List.set_cons_succ, List.getElem_toArray, List.getElem_cons_zero, List.getElem_cons_succ]
  refine wpAnyH_ready (rs := [2]) (by kernel_rfl) (by simp) (AllReadyH.cons rfl (fun K hK => ?_) AllReadyH.nil)
  go_simp
  refine (hto _ (h.below (kb.trans ((bdr w7).mono kb.size))) hsz.out).mono ?_
  rintro e wa ⟨va, rfl, hoa, hba⟩
  have hba2 := (bdr w7).trans hba
  have hAa := hAd.below hba
  have hXa := hXd.below hba
  go_wp2_with fail
  refine hK.out _ _ ⟨hAa, hXa, hba2⟩ (fun hHeld => ?_)
  clear hK K
  (try simp only [Act.put, List.setIfInBounds_toArray, List.set_cons_zero, List.set_cons_succ])
  refine wpAnyH_ready (rs := [3]) (by kernel_rfl) (by simp) (AllReadyH.cons rfl (fun K hK => ?_) AllReadyH.nil)
  go_simp
  refine (heq v5 va _ (hs.below hba2) hoa.sl hsz.out).mono ?_
  rintro e wb ⟨rfl, hbb⟩
  have hkb := hba2.trans (hbb.mono hba2.size)
  have hAb := hAa.below hbb
  have hXb := hXa.below hbb
  go_wp2_with fail
  refine hK.out _ _ ⟨hAb, hXb, hkb⟩ (fun hHeld => ?_)
  clear hK K
  (try simp only [Act.put, List.setIfInBounds_toArray, List.set_cons_zero, List.set_cons_succ])
  refine' wpAnyH_take (i := 4) (v := _) rfl (by kernel_rfl) (by kernel_rfl) (by kernel_rfl) (fun _ _ _ h => h) (Or.inl ⟨by rfl, ?hy5⟩) hHeld ?hr5
  case hy5 => (intro w hSw; (try dsimp only at hSw); go_simp; (try with_reducible rfl))
  simp only [Act.put, List.setIfInBounds_toArray, List.set_cons_zero, List.set_cons_succ, List.getElem_toArray, List.getElem_cons_zero, List.getElem_cons_succ]
  refine wpAnyH_done (by kernel_rfl) ?_ _
  refine NoPanic.normal ?_
  clear hAa hXa hAb hXb hAd hXd hA hX
  go_wp2
  go_ret
  exact ⟨rfl, kb.trans (hkb.mono kb.size)⟩
end Go.Proofs.YtlmnhlfklbgjdaaGreatDoor
