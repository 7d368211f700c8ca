/- Contract of Params as the program has it: the turns. -/
import Derived.Test.YtjcoebabipmmhaaDoorSI0
import Derived.Test.YtjcoebabipmmhaaDoorS4
namespace Go.Proofs.YtjcoebabipmmhaaDoor
open Go.ChangeShapes Go.WideShapes Go.ChangeAt Go.RowKit
attribute [local go_sem ↓] eq_st
attribute [local go_sem ↓] Go.wp_at_zero Go.wp_at_succ

theorem PK.below {base A B : Nat} {a b : St} {v : Value} {L : List Int} {w0 W W' : World} (k : PK base A B a b v L w0 W) (hb : Below W.heap.size W W') : PK base A B a b v L w0 W' := by
  obtain ⟨ka, kb, ko, kw, k1, k2, k3, k4, k5⟩ := k
  exact ⟨ka.below hb, kb.below hb, ko.below hb, kw.trans (hb.mono kw.size), Nat.le_trans k1 hb.size, k2, k3, k4, k5⟩
theorem PK.cells {base A B : Nat} {a b : St} {v : Value} {L : List Int} {w0 W : World} (k : PK base A B a b v L w0 W) : W.cell? ⟨A, 0, none⟩ = some (.int .i64 a.fore) ∧ W.cell? ⟨A, 1, none⟩ = some (.int .i64 a.back) ∧ W.cell? ⟨A, 2, none⟩ = some (.bool a.bold) ∧ W.cell? ⟨A, 3, none⟩ = some (.bool a.under) ∧ W.cell? ⟨A, 4, none⟩ = some (.bool a.turned) ∧ W.cell? ⟨B, 0, none⟩ = some (.int .i64 b.fore) ∧ W.cell? ⟨B, 1, none⟩ = some (.int .i64 b.back) ∧ W.cell? ⟨B, 2, none⟩ = some (.bool b.bold) ∧ W.cell? ⟨B, 3, none⟩ = some (.bool b.under) ∧ W.cell? ⟨B, 4, none⟩ = some (.bool b.turned) ∧ PK base A B a b v L w0 W :=
  ⟨k.1.2.1.1, k.1.2.1.2.1, k.1.2.1.2.2.1, k.1.2.1.2.2.2.1, k.1.2.1.2.2.2.2, k.2.1.2.1.1, k.2.1.2.1.2.1, k.2.1.2.1.2.2.1, k.2.1.2.1.2.2.2.1, k.2.1.2.1.2.2.2.2, k⟩
theorem PK.put {base A B : Nat} {a b : St} {v : Value} {L : List Int} {w0 W W' : World} {g : Nat} (k : PK base A B a b v L w0 W) (hg : W.grownBy W' (some g)) (h1 : base < g) (h2 : ∀ q, v.ownBlock = some q → q < g) : PK base A B a b v L w0 W' := by
  obtain ⟨ka, kb, ko, kw, k1, k2, k3, k4, k5⟩ := k
  refine ⟨ka.grown hg (by simp; omega), kb.grown hg (by simp; omega), ko.kept hg ?_, kw.grown hg kw.size (fun j hj => by cases hj; omega), Nat.le_trans k1 hg.size, k2, k3, k4, k5⟩
  cases hq : v.ownBlock with
  | none => exact .inl rfl
  | some q => right; intro e; have := h2 q hq; cases e; omega
theorem PK.of10 {base A B : Nat} {a b : St} {v : Value} {L : List Int} {w0 W : World} (k : W.cell? ⟨A, 0, none⟩ = some (.int .i64 a.fore) ∧ W.cell? ⟨A, 1, none⟩ = some (.int .i64 a.back) ∧ W.cell? ⟨A, 2, none⟩ = some (.bool a.bold) ∧ W.cell? ⟨A, 3, none⟩ = some (.bool a.under) ∧ W.cell? ⟨A, 4, none⟩ = some (.bool a.turned) ∧ W.cell? ⟨B, 0, none⟩ = some (.int .i64 b.fore) ∧ W.cell? ⟨B, 1, none⟩ = some (.int .i64 b.back) ∧ W.cell? ⟨B, 2, none⟩ = some (.bool b.bold) ∧ W.cell? ⟨B, 3, none⟩ = some (.bool b.under) ∧ W.cell? ⟨B, 4, none⟩ = some (.bool b.turned) ∧ PK base A B a b v L w0 W) : PK base A B a b v L w0 W := k.2.2.2.2.2.2.2.2.2.2
theorem set10_gr (W : World) (g : Nat) (u0 u1 u2 u3 u4 u5 u6 u7 u8 u9 : Value) : W.grownBy ((((((((((W.setCell ⟨g, 0, none⟩ u0).setCell ⟨g, 1, none⟩ u1).setCell ⟨g, 2, none⟩ u2).setCell ⟨g, 3, none⟩ u3).setCell ⟨g, 4, none⟩ u4).setCell ⟨g, 5, none⟩ u5).setCell ⟨g, 6, none⟩ u6).setCell ⟨g, 7, none⟩ u7).setCell ⟨g, 8, none⟩ u8).setCell ⟨g, 9, none⟩ u9) (some g) :=
  grown_tr (grown_tr (grown_tr (grown_tr (grown_tr (grown_tr (grown_tr (grown_tr (grown_tr (setCell_gr W g 0 _) (setCell_gr _ g 1 _)) (setCell_gr _ g 2 _)) (setCell_gr _ g 3 _)) (setCell_gr _ g 4 _)) (setCell_gr _ g 5 _)) (setCell_gr _ g 6 _)) (setCell_gr _ g 7 _)) (setCell_gr _ g 8 _)) (setCell_gr _ g 9 _)
theorem turn_ix0 (x0 x1 x2 x3 x4 x5 x6 x7 x8 x9 : Value) (w : World) : (Instr.index 51 (.agg #[x0, x1, x2, x3, x4, x5, x6, x7, x8, x9]) (.int .i64 0)).run Tryd.prog w = .ok (.agg #[x0, x1]) w := by kernel_rfl
theorem turn_ix1 (x0 x1 x2 x3 x4 x5 x6 x7 x8 x9 : Value) (w : World) : (Instr.index 51 (.agg #[x0, x1, x2, x3, x4, x5, x6, x7, x8, x9]) (.int .i64 1)).run Tryd.prog w = .ok (.agg #[x2, x3]) w := by kernel_rfl
theorem turn_ix2 (x0 x1 x2 x3 x4 x5 x6 x7 x8 x9 : Value) (w : World) : (Instr.index 51 (.agg #[x0, x1, x2, x3, x4, x5, x6, x7, x8, x9]) (.int .i64 2)).run Tryd.prog w = .ok (.agg #[x4, x5]) w := by kernel_rfl
theorem turn_ix3 (x0 x1 x2 x3 x4 x5 x6 x7 x8 x9 : Value) (w : World) : (Instr.index 51 (.agg #[x0, x1, x2, x3, x4, x5, x6, x7, x8, x9]) (.int .i64 3)).run Tryd.prog w = .ok (.agg #[x6, x7]) w := by kernel_rfl
theorem turn_ix4 (x0 x1 x2 x3 x4 x5 x6 x7 x8 x9 : Value) (w : World) : (Instr.index 51 (.agg #[x0, x1, x2, x3, x4, x5, x6, x7, x8, x9]) (.int .i64 4)).run Tryd.prog w = .ok (.agg #[x8, x9]) w := by kernel_rfl
/-- The ways through a region that come to one end are one. -/
theorem wp_meet {P : Program} {c : Code} {Q : Exit → Act → World → Prop} {a : Act} {w : World} (fa : Act) (fw : World) (h : c.wp P (fun e a' w' => e = Exit.normal ∧ a' = fa ∧ w' = fw) a w) (hq : Q .normal fa fw) : c.wp P Q a w :=
  Code.wp_mono (fun _ _ _ ⟨h1, h2, h3⟩ => by rw [h1, h2, h3]; exact hq) h
def turnsV (a b : St) : List (Bool × Int) := [(!a.bold == b.bold, flagV b.bold 1 22), (!a.under == b.under, flagV b.under 4 24), (!a.turned == b.turned, flagV b.turned 7 27), (a.fore != b.fore, flagV (decide (b.fore = 0)) 39 (29 + b.fore)), (a.back != b.back, flagV (decide (b.back = 0)) 49 (39 + b.back))]
def preV (a b : St) (j : Nat) : List Int := ((turnsV a b).take j).flatMap fun t => if t.1 then [t.2] else []
theorem preV_len (a b : St) (j : Nat) : (preV a b j).length ≤ 5 := by
  have h : ∀ l : List (Bool × Int), (l.flatMap fun t => if t.1 then [t.2] else []).length ≤ l.length := by
    intro l
    induction l with
    | nil => simp
    | cons t l ih =>
      rw [List.flatMap_cons, List.length_append, List.length_cons]
      have : (if t.1 then [t.2] else []).length ≤ 1 := by split <;> simp
      omega
  have := h ((turnsV a b).take j)
  have h5 : ((turnsV a b).take j).length ≤ 5 := by rw [List.length_take]; simp [turnsV]; omega
  exact Nat.le_trans this h5
theorem preV_5 (a b : St) (h : b ≠ St.zero) : paramsL a b = preV a b 5 := by
  have q1 : ∀ (x y : Bool) (n : Int), (if x = y then [] else [n]) = if (!x == y) then [n] else [] := by intro x y n; cases x <;> cases y <;> simp
  have q2 : ∀ (x y : Int) (n : Int), (if x = y then [] else [n]) = if (x != y) then [n] else [] := by intro x y n; by_cases e : x = y <;> simp [e]
  unfold paramsL preV turnsV
  rw [if_neg (fun hh => h hh.1), q1, q1, q1, q2, q2]
  simp [List.flatMap_cons]
set_option maxHeartbeats 16000000 in
theorem implParams_ne (a b : St) (w : World) (hoa : a.ok = true) (hob : b.ok = true) (hab : a ≠ b) (hz : b ≠ St.zero) :
    Calls Tryd.prog 9 #[stV a, stV b] w fun e w' => ∃ v, e = .returned v ∧ Below w.heap.size w w' ∧ w'.ownsRow w.heap.size 2 1 v (paramsL a b).length ((paramsL a b).map (Value.int .i64)) := by
  have ha := StAt.new w a 25
  have hb := StAt.new (w.alloc (Obj.cells #[.int .i64 a.fore, .int .i64 a.back, .bool a.bold, .bool a.under, .bool a.turned] 25)) b 25
  have e1 : (w.alloc (Obj.cells #[.int .i64 a.fore, .int .i64 a.back, .bool a.bold, .bool a.under, .bool a.turned] 25)).heap.size = w.heap.size + 1 := by simp
  rw [e1] at hb
  have ho := World.ownsRow_lit (base := w.heap.size + 1 + 1) (e := 2) (size := 1) ((w.alloc (Obj.cells #[.int .i64 a.fore, .int .i64 a.back, .bool a.bold, .bool a.under, .bool a.turned] 25)).alloc (Obj.cells #[.int .i64 b.fore, .int .i64 b.back, .bool b.bold, .bool b.under, .bool b.turned] 25)) #[] 0 (by simp) (Nat.zero_le _) rfl
  have k0 : PK (w.heap.size + 1 + 1) w.heap.size (w.heap.size + 1) a b (.slice (some ⟨w.heap.size + 1 + 1, 0, none⟩) 0 0) [] w (((w.alloc (Obj.cells #[.int .i64 a.fore, .int .i64 a.back, .bool a.bold, .bool a.under, .bool a.turned] 25)).alloc (Obj.cells #[.int .i64 b.fore, .int .i64 b.back, .bool b.bold, .bool b.under, .bool b.turned] 25)).alloc (Obj.cells #[] 2)) :=
    ⟨(ha.below (bal' _ _)).below (bal' _ _), hb.below (bal' _ _), by simpa using ho, (((Below.refl _ _).alloc (Nat.le_refl _) _).alloc (by simp) _).alloc (by simp; omega) _, by simp, by omega, by omega, by omega, by simp⟩
  have hs0 : w.heap.size + 1 + 1 < (((w.alloc (Obj.cells #[.int .i64 a.fore, .int .i64 a.back, .bool a.bold, .bool a.under, .bool a.turned] 25)).alloc (Obj.cells #[.int .i64 b.fore, .int .i64 b.back, .bool b.bold, .bool b.under, .bool b.turned] 25)).alloc (Obj.cells #[] 2)).heap.size := by simp
  clear ha hb e1 ho
  have oka := implStyleOk_any a
  have okb := implStyleOk_any b
  rw [hoa] at oka
  rw [hob] at okb
  have hab' : decide (a = b) = false := decide_eq_false hab
  have hz' : decide (b = St.zero) = false := decide_eq_false hz
  have hq : ∀ W, (Op.equalIn 10000 25 (.agg #[.int .i64 b.fore, .int .i64 b.back, .bool b.bold, .bool b.under, .bool b.turned]) (.agg #[.int .i64 0, .int .i64 0, .bool false, .bool false, .bool false])).run Tryd.prog W = .ok false W := fun W => by
    have := eq_st b St.zero W
    rw [hz'] at this
    exact this
  unfold stV at *
  go_enter Tryd.func9, Tryd.ntmps9
  go_wp2_with fail
  refine (oka _).mono ?_
  rintro e w2 ⟨rfl, hb2⟩
  have k1 := k0.below hb2
  have hs1 := Nat.lt_of_lt_of_le hs0 hb2.size
  clear k0 hs0 hb2 oka
  have hc1 := k1.cells
  go_wp2_with fail
  refine (okb _).mono ?_
  rintro e w3 ⟨rfl, hb3⟩
  have k2 := k1.below hb3
  have hs2 := Nat.lt_of_lt_of_le hs1 hb3.size
  clear k1 hc1 hs1 hb3 okb
  have hc2 := k2.cells
  go_wp2
  have hS2 : ∀ q, (Value.slice (some ⟨w.heap.size + 1 + 1, 0, none⟩) 0 0).ownBlock = some q → q < w3.heap.size := fun q e => by simp [Value.ownBlock] at e; omega
  have hfa := (St.ok_iff b).1 hob
  have hF8 : 0 ≤ b.fore ∧ b.fore ≤ 8 := ⟨hfa.1, hfa.2.1⟩
  have hB8 : 0 ≤ b.back ∧ b.back ≤ 8 := ⟨hfa.2.2.1, hfa.2.2.2⟩
  have HZ : Hid (b ≠ St.zero) := hz
  clear hc2 hq hz' hab' hoa hob hab hz hfa
  refine wp_meet { tmps := #[Value.agg #[Value.int IntKind.i64 a.fore, Value.int IntKind.i64 a.back, Value.bool a.bold, Value.bool a.under, Value.bool a.turned], Value.agg #[Value.int IntKind.i64 b.fore, Value.int IntKind.i64 b.back, Value.bool b.bold, Value.bool b.under, Value.bool b.turned], Value.pointer (some { block := w.heap.size, off := 0 }), Value.pointer (some { block := w.heap.size + 1, off := 0 }), Value.slice none 0 0, Value.slice (some { block := w.heap.size + 1 + 1, off := 0 }) 0 0, Value.pointer (some { block := w3.heap.size, off := 0 }), undef, undef, Value.slice (some { block := w.heap.size + 1 + 1, off := 0 }) 0 0, Value.agg #[Value.int IntKind.i64 a.fore, Value.int IntKind.i64 a.back, Value.bool a.bold, Value.bool a.under, Value.bool a.turned], Value.bool true, Value.bool false, Value.bool false, Value.agg #[Value.int IntKind.i64 b.fore, Value.int IntKind.i64 b.back, Value.bool b.bold, Value.bool b.under, Value.bool b.turned], Value.bool true, Value.bool false, Value.bool false, Value.bool false, Value.agg #[Value.int IntKind.i64 a.fore, Value.int IntKind.i64 a.back, Value.bool a.bold, Value.bool a.under, Value.bool a.turned], Value.agg #[Value.int IntKind.i64 b.fore, Value.int IntKind.i64 b.back, Value.bool b.bold, Value.bool b.under, Value.bool b.turned], Value.bool false, Value.bool false, undef, Value.agg #[Value.int IntKind.i64 b.fore, Value.int IntKind.i64 b.back, Value.bool b.bold, Value.bool b.under, Value.bool b.turned], Value.agg #[Value.int IntKind.i64 0, Value.int IntKind.i64 0, Value.bool false, Value.bool false, Value.bool false], Value.bool false, undef, undef, undef, Value.pointer (some { block := w.heap.size, off := 2 }), Value.bool a.bold, Value.pointer (some { block := w.heap.size + 1, off := 2 }), Value.bool b.bold, Value.bool !a.bold == b.bold, Value.pointer (some { block := w.heap.size + 1, off := 2 }), Value.bool b.bold, Value.int IntKind.i64 (flagV b.bold 1 22), Value.agg #[Value.bool !a.bold == b.bold, Value.int IntKind.i64 (flagV b.bold 1 22)], Value.pointer (some { block := w.heap.size, off := 3 }), Value.bool a.under, Value.pointer (some { block := w.heap.size + 1, off := 3 }), Value.bool b.under, Value.bool !a.under == b.under, Value.pointer (some { block := w.heap.size + 1, off := 3 }), Value.bool b.under, Value.int IntKind.i64 (flagV b.under 4 24), Value.agg #[Value.bool !a.under == b.under, Value.int IntKind.i64 (flagV b.under 4 24)], Value.pointer (some { block := w.heap.size, off := 4 }), Value.bool a.turned, Value.pointer (some { block := w.heap.size + 1, off := 4 }), Value.bool b.turned, Value.bool !a.turned == b.turned, Value.pointer (some { block := w.heap.size + 1, off := 4 }), Value.bool b.turned, Value.int IntKind.i64 (flagV b.turned 7 27), Value.agg #[Value.bool !a.turned == b.turned, Value.int IntKind.i64 (flagV b.turned 7 27)], Value.pointer (some { block := w.heap.size, off := 0 }), Value.int IntKind.i64 a.fore, Value.pointer (some { block := w.heap.size + 1, off := 0 }), Value.int IntKind.i64 b.fore, Value.bool (a.fore != b.fore), Value.pointer (some { block := w.heap.size + 1, off := 0 }), Value.int IntKind.i64 b.fore, Value.int IntKind.i64 (flagV (decide (b.fore = 0)) 39 (29 + b.fore)), Value.agg #[Value.bool (a.fore != b.fore), Value.int IntKind.i64 (flagV (decide (b.fore = 0)) 39 (29 + b.fore))], Value.pointer (some { block := w.heap.size, off := 1 }), Value.int IntKind.i64 a.back, Value.pointer (some { block := w.heap.size + 1, off := 1 }), Value.int IntKind.i64 b.back, Value.bool (a.back != b.back), Value.pointer (some { block := w.heap.size + 1, off := 1 }), Value.int IntKind.i64 b.back, Value.int IntKind.i64 (flagV (decide (b.back = 0)) 49 (39 + b.back)), Value.agg #[Value.bool (a.back != b.back), Value.int IntKind.i64 (flagV (decide (b.back = 0)) 49 (39 + b.back))], Value.agg #[Value.bool !a.bold == b.bold, Value.int IntKind.i64 (flagV b.bold 1 22), Value.bool !a.under == b.under, Value.int IntKind.i64 (flagV b.under 4 24), Value.bool !a.turned == b.turned, Value.int IntKind.i64 (flagV b.turned 7 27), Value.bool (a.fore != b.fore), Value.int IntKind.i64 (flagV (decide (b.fore = 0)) 39 (29 + b.fore)), Value.bool (a.back != b.back), Value.int IntKind.i64 (flagV (decide (b.back = 0)) 49 (39 + b.back))], undef, undef, undef, undef, undef, undef, undef, undef, undef, undef, undef, undef, undef], defers := [] } ((w3.alloc (Obj.cells #[.bool (!a.bold == b.bold), .int .i64 (flagV b.bold 1 22), .bool (!a.under == b.under), .int .i64 (flagV b.under 4 24), .bool (!a.turned == b.turned), .int .i64 (flagV b.turned 7 27), .bool (a.fore != b.fore), .int .i64 (flagV (decide (b.fore = 0)) 39 (29 + b.fore)), .bool (a.back != b.back), .int .i64 (flagV (decide (b.back = 0)) 49 (39 + b.back))] 51)).drew) ?reg ?imp
  case reg =>
    go_region_held3 (fun W => W.cell? ⟨w.heap.size, 0, none⟩ = some (.int .i64 a.fore) ∧ W.cell? ⟨w.heap.size, 1, none⟩ = some (.int .i64 a.back) ∧ W.cell? ⟨w.heap.size, 2, none⟩ = some (.bool a.bold) ∧ W.cell? ⟨w.heap.size, 3, none⟩ = some (.bool a.under) ∧ W.cell? ⟨w.heap.size, 4, none⟩ = some (.bool a.turned) ∧ W.cell? ⟨w.heap.size + 1, 0, none⟩ = some (.int .i64 b.fore) ∧ W.cell? ⟨w.heap.size + 1, 1, none⟩ = some (.int .i64 b.back) ∧ W.cell? ⟨w.heap.size + 1, 2, none⟩ = some (.bool b.bold) ∧ W.cell? ⟨w.heap.size + 1, 3, none⟩ = some (.bool b.under) ∧ W.cell? ⟨w.heap.size + 1, 4, none⟩ = some (.bool b.turned) ∧ PK (w.heap.size + 1 + 1) w.heap.size (w.heap.size + 1) a b (.slice (some ⟨w.heap.size + 1 + 1, 0, none⟩) 0 0) [] w W) (first | with_reducible assumption | with_reducible exact PK.cells (PK.below k2 (bdr _)) | with_reducible exact PK.cells (PK.below (PK.below k2 (bal' _ _)) (bdr _)))
      (first
        | (go_at_call 33; refine (flagParam_any _ _ _ _).mono ?_; rintro e wf ⟨rfl, hw⟩; subst hw)
        | (go_at_call 34; refine (colorParam_any _ _ _ (by assumption) (by simp)).mono ?_; rintro e wf ⟨rfl, hw⟩; subst hw))
    all_goals exact ⟨rfl, rfl, rfl⟩
  case imp =>
    have hk := (k2.below (bal' w3 (Obj.cells #[.bool (!a.bold == b.bold), .int .i64 (flagV b.bold 1 22), .bool (!a.under == b.under), .int .i64 (flagV b.under 4 24), .bool (!a.turned == b.turned), .int .i64 (flagV b.turned 7 27), .bool (a.fore != b.fore), .int .i64 (flagV (decide (b.fore = 0)) 39 (29 + b.fore)), .bool (a.back != b.back), .int .i64 (flagV (decide (b.back = 0)) 49 (39 + b.back))] 51))).below (bdr _)
    have hp0 : preV a b 0 = [] := rfl
    clear k2 hs2 hS2 hF8 hB8
    go_wp2
    go_loopw [5, 77] (fun u i wr => ∃ j : Nat, i = .int .i64 j ∧ j ≤ 5 ∧ PK (w.heap.size + 1 + 1) w.heap.size (w.heap.size + 1) a b u (preV a b j) w wr) (fun _ i _ => 5 - (intOf i).toNat)
    case atStart => exact ⟨0, rfl, by omega, hk⟩
    case round =>
      clear hk hp0
      obtain ⟨j, rfl, hj, hk⟩ := hrel
      rcases (show j = 0 ∨ j = 1 ∨ j = 2 ∨ j = 3 ∨ j = 4 ∨ j = 5 from by omega) with rfl | rfl | rfl | rfl | rfl | rfl
      · have hix := turn_ix0
        have hl := preV_len a b 0
        have hnx : Hid (preV a b 1 = preV a b 0 ++ (if (!a.bold == b.bold) then [flagV b.bold 1 22] else [])) := by show _ = _; simp [preV, turnsV, List.flatMap_cons]
        generalize preV a b 0 = L at *
        generalize hy : flagV b.bold 1 22 = y at *
        cases e : (!a.bold == b.bold)
        · rw [e] at hnx
          have hnx' : Hid (preV a b 1 = L) := by show _ = _; rw [hnx.out]; simp
          have hkA := hk.below (bal' wr (Obj.cells #[.bool false, .int .i64 y] 49))
          clear hk hnx e hy
          go_wp2
          go_roundw
          case rel => exact ⟨1, rfl, by omega, by rw [hnx'.out]; exact hkA⟩
          case measure => simp [intOf]
        · rw [e] at hnx
          have hnx' : Hid (preV a b 1 = L ++ [y]) := by show _ = _; rw [hnx.out]; simp
          have hkA := hk.below (bal' wr (Obj.cells #[.bool true, .int .i64 y] 49))
          clear hk hnx e hy
          go_wp2_with (at_builtin; refine append_pk rfl _ _ rfl (w.heap.size + 1 + 1) w.heap.size (w.heap.size + 1) a b _ _ w _ rfl (by exact hkA) (by omega) _ (by simp) rfl ?_; intro v' w' hk0)
          go_roundw
          case rel => exact ⟨1, rfl, by omega, by rw [hnx'.out]; exact hk0⟩
          case measure => simp [intOf]
      · have hix := turn_ix1
        have hl := preV_len a b 1
        have hnx : Hid (preV a b 2 = preV a b 1 ++ (if (!a.under == b.under) then [flagV b.under 4 24] else [])) := by show _ = _; simp [preV, turnsV, List.flatMap_cons]
        generalize preV a b 1 = L at *
        generalize hy : flagV b.under 4 24 = y at *
        cases e : (!a.under == b.under)
        · rw [e] at hnx
          have hnx' : Hid (preV a b 2 = L) := by show _ = _; rw [hnx.out]; simp
          have hkA := hk.below (bal' wr (Obj.cells #[.bool false, .int .i64 y] 49))
          clear hk hnx e hy
          go_wp2
          go_roundw
          case rel => exact ⟨2, rfl, by omega, by rw [hnx'.out]; exact hkA⟩
          case measure => simp [intOf]
        · rw [e] at hnx
          have hnx' : Hid (preV a b 2 = L ++ [y]) := by show _ = _; rw [hnx.out]; simp
          have hkA := hk.below (bal' wr (Obj.cells #[.bool true, .int .i64 y] 49))
          clear hk hnx e hy
          go_wp2_with (at_builtin; refine append_pk rfl _ _ rfl (w.heap.size + 1 + 1) w.heap.size (w.heap.size + 1) a b _ _ w _ rfl (by exact hkA) (by omega) _ (by simp) rfl ?_; intro v' w' hk0)
          go_roundw
          case rel => exact ⟨2, rfl, by omega, by rw [hnx'.out]; exact hk0⟩
          case measure => simp [intOf]
      · have hix := turn_ix2
        have hl := preV_len a b 2
        have hnx : Hid (preV a b 3 = preV a b 2 ++ (if (!a.turned == b.turned) then [flagV b.turned 7 27] else [])) := by show _ = _; simp [preV, turnsV, List.flatMap_cons]
        generalize preV a b 2 = L at *
        generalize hy : flagV b.turned 7 27 = y at *
        cases e : (!a.turned == b.turned)
        · rw [e] at hnx
          have hnx' : Hid (preV a b 3 = L) := by show _ = _; rw [hnx.out]; simp
          have hkA := hk.below (bal' wr (Obj.cells #[.bool false, .int .i64 y] 49))
          clear hk hnx e hy
          go_wp2
          go_roundw
          case rel => exact ⟨3, rfl, by omega, by rw [hnx'.out]; exact hkA⟩
          case measure => simp [intOf]
        · rw [e] at hnx
          have hnx' : Hid (preV a b 3 = L ++ [y]) := by show _ = _; rw [hnx.out]; simp
          have hkA := hk.below (bal' wr (Obj.cells #[.bool true, .int .i64 y] 49))
          clear hk hnx e hy
          go_wp2_with (at_builtin; refine append_pk rfl _ _ rfl (w.heap.size + 1 + 1) w.heap.size (w.heap.size + 1) a b _ _ w _ rfl (by exact hkA) (by omega) _ (by simp) rfl ?_; intro v' w' hk0)
          go_roundw
          case rel => exact ⟨3, rfl, by omega, by rw [hnx'.out]; exact hk0⟩
          case measure => simp [intOf]
      · have hix := turn_ix3
        have hl := preV_len a b 3
        have hnx : Hid (preV a b 4 = preV a b 3 ++ (if (a.fore != b.fore) then [flagV (decide (b.fore = 0)) 39 (29 + b.fore)] else [])) := by show _ = _; simp [preV, turnsV, List.flatMap_cons]
        generalize preV a b 3 = L at *
        generalize hy : flagV (decide (b.fore = 0)) 39 (29 + b.fore) = y at *
        cases e : (a.fore != b.fore)
        · rw [e] at hnx
          have hnx' : Hid (preV a b 4 = L) := by show _ = _; rw [hnx.out]; simp
          have hkA := hk.below (bal' wr (Obj.cells #[.bool false, .int .i64 y] 49))
          clear hk hnx e hy
          go_wp2
          go_roundw
          case rel => exact ⟨4, rfl, by omega, by rw [hnx'.out]; exact hkA⟩
          case measure => simp [intOf]
        · rw [e] at hnx
          have hnx' : Hid (preV a b 4 = L ++ [y]) := by show _ = _; rw [hnx.out]; simp
          have hkA := hk.below (bal' wr (Obj.cells #[.bool true, .int .i64 y] 49))
          clear hk hnx e hy
          go_wp2_with (at_builtin; refine append_pk rfl _ _ rfl (w.heap.size + 1 + 1) w.heap.size (w.heap.size + 1) a b _ _ w _ rfl (by exact hkA) (by omega) _ (by simp) rfl ?_; intro v' w' hk0)
          go_roundw
          case rel => exact ⟨4, rfl, by omega, by rw [hnx'.out]; exact hk0⟩
          case measure => simp [intOf]
      · have hix := turn_ix4
        have hl := preV_len a b 4
        have hnx : Hid (preV a b 5 = preV a b 4 ++ (if (a.back != b.back) then [flagV (decide (b.back = 0)) 49 (39 + b.back)] else [])) := by show _ = _; simp [preV, turnsV, List.flatMap_cons]
        generalize preV a b 4 = L at *
        generalize hy : flagV (decide (b.back = 0)) 49 (39 + b.back) = y at *
        cases e : (a.back != b.back)
        · rw [e] at hnx
          have hnx' : Hid (preV a b 5 = L) := by show _ = _; rw [hnx.out]; simp
          have hkA := hk.below (bal' wr (Obj.cells #[.bool false, .int .i64 y] 49))
          clear hk hnx e hy
          go_wp2
          go_roundw
          case rel => exact ⟨5, rfl, by omega, by rw [hnx'.out]; exact hkA⟩
          case measure => simp [intOf]
        · rw [e] at hnx
          have hnx' : Hid (preV a b 5 = L ++ [y]) := by show _ = _; rw [hnx.out]; simp
          have hkA := hk.below (bal' wr (Obj.cells #[.bool true, .int .i64 y] 49))
          clear hk hnx e hy
          go_wp2_with (at_builtin; refine append_pk rfl _ _ rfl (w.heap.size + 1 + 1) w.heap.size (w.heap.size + 1) a b _ _ w _ rfl (by exact hkA) (by omega) _ (by simp) rfl ?_; intro v' w' hk0)
          go_roundw
          case rel => exact ⟨5, rfl, by omega, by rw [hnx'.out]; exact hk0⟩
          case measure => simp [intOf]
      · go_wp2
        go_ret
        exact pk_fin hk (preV_5 a b HZ.out)
end Go.Proofs.YtjcoebabipmmhaaDoor
