/- Contracts of the program's RowOk. Contract of the program's RowOk. -/
import Derived.Test.YteimcepkoclpbaaDoorJRM
import Derived.Test.YteimcepkoclpbaaDoorJRC0
import Derived.Test.YteimcepkoclpbaaDoorSI0A
import Derived.Test.YteimcepkoclpbaaDoorW1
import Derived.Test.YteimcepkoclpbaaDoorJSlDefs
import Derived.Test.YteimcepkoclpbaaDoorCF
namespace Go.Proofs.YteimcepkoclpbaaDoor
open Go.ChangeShapes Go.WideShapes Go.ChangeAt Go.RowKit
attribute [local go_sem ↓] eq_st

def c1B (c : Ce) : Bool := c.st.ok && (if c.part = 0 then decide (widthV c.rune = 1) else if c.part = 1 then decide (widthV c.rune = 2) else if c.part = 2 then decide (c.rune = 0) else false)
theorem c1B_iff (c : Ce) : c1B c = true ↔ c1 c := by
  unfold c1B c1
  rw [Bool.and_eq_true]
  constructor
  · rintro ⟨h, h2⟩
    refine ⟨h, ?_⟩
    split at h2
    · rename_i e; exact .inl ⟨e, by simpa using h2⟩
    · split at h2
      · rename_i e; exact .inr (.inl ⟨e, by simpa using h2⟩)
      · split at h2
        · rename_i e; exact .inr (.inr ⟨e, by simpa using h2⟩)
        · cases h2
  · rintro ⟨h, ⟨e, h2⟩ | ⟨e, h2⟩ | ⟨e, h2⟩⟩
    · exact ⟨h, by rw [if_pos e]; simpa using h2⟩
    · exact ⟨h, by rw [if_neg (by rw [e]; decide), if_pos e]; simpa using h2⟩
    · exact ⟨h, by rw [if_neg (by rw [e]; decide), if_neg (by rw [e]; decide), if_pos e]; simpa using h2⟩
def joinB (a c : Ce) : Bool := if a.part = 1 then decide (c.part = 2) && decide (c.st = a.st) else !decide (c.part = 2)
set_option maxHeartbeats 1000000 in
theorem cellOk_any (c : Ce) (w : World) (hS : SpansAt w) :
    Calls Tryd.prog 54 #[ceV c] w fun e w' => e = .returned (.bool (c1B c)) ∧ Below w.heap.size w w' := by
  obtain ⟨r, ⟨f, b, bo, un, tu⟩, p⟩ := c
  have hok := fun W => implStyleOk_any ⟨f, b, bo, un, tu⟩ W
  have hwd := fun W h => implWidth_any r W h
  have hB : Hid (c1B ⟨r, ⟨f, b, bo, un, tu⟩, p⟩ = ((St.mk f b bo un tu).ok && (if p = 0 then decide (widthV r = 1) else if p = 1 then decide (widthV r = 2) else if p = 2 then decide (r = 0) else false))) := rfl
  have hbA := bal' w (Obj.cells #[.int .i64 r, .int .i64 f, .int .i64 b, .bool bo, .bool un, .bool tu, .int .i64 p] 37)
  have hlt := hS.lt
  unfold ceV stV at *
  generalize (St.mk f b bo un tu).ok = ok at *
  generalize widthV r = wd at *
  cases ok
  · go_enter Tryd.func54, Tryd.ntmps54
    go_wp2_with fail
    refine (hok _).mono ?_
    rintro e w1 ⟨rfl, hb1⟩
    go_wp2
    go_ret
    exact ⟨by rw [hB.out]; rfl, hbA.trans (hb1.mono hbA.size)⟩
  · have hsp := hS.below hbA hlt
    have hcp : (w.alloc (Obj.cells #[.int .i64 r, .int .i64 f, .int .i64 b, .bool bo, .bool un, .bool tu, .int .i64 p] 37)).cell? ⟨w.heap.size, 6, none⟩ = some (.int .i64 p) := by simp [go_sem]
    have hcr : (w.alloc (Obj.cells #[.int .i64 r, .int .i64 f, .int .i64 b, .bool bo, .bool un, .bool tu, .int .i64 p] 37)).cell? ⟨w.heap.size, 0, none⟩ = some (.int .i64 r) := by simp [go_sem]
    have hsz : w.heap.size < (w.alloc (Obj.cells #[.int .i64 r, .int .i64 f, .int .i64 b, .bool bo, .bool un, .bool tu, .int .i64 p] 37)).heap.size := by simp
    go_enter Tryd.func54, Tryd.ntmps54
    go_wp2_with fail
    generalize w.alloc (Obj.cells #[.int .i64 r, .int .i64 f, .int .i64 b, .bool bo, .bool un, .bool tu, .int .i64 p] 37) = W0 at *
    refine (hok _).mono ?_
    rintro e w1 ⟨rfl, hb1⟩
    have d6 : w1.cell? ⟨w.heap.size, 6, none⟩ = some (.int .i64 p) := (hb1.cell (p := ⟨w.heap.size, 6, none⟩) hsz).trans hcp
    have d0 : w1.cell? ⟨w.heap.size, 0, none⟩ = some (.int .i64 r) := (hb1.cell (p := ⟨w.heap.size, 0, none⟩) hsz).trans hcr
    have hs1 := hsp.below hb1 hsp.lt
    have kb := hbA.trans (hb1.mono hbA.size)
    clear hb1 hcp hcr hok hsp hbA hsz
    have hwd1 := hwd w1 hs1
    clear hwd hs1 hS
    by_cases p0 : p = 0
    · have e0 : (p == 0) = true := by simp [p0]
      have hB2 : Hid (c1B ⟨r, ⟨f, b, bo, un, tu⟩, p⟩ = decide (wd = 1)) := by show _ = _; rw [hB.out, if_pos p0]; rfl
      clear p0 hB
      go_wp2_with fail
      refine hwd1.mono ?_
      rintro e w2 ⟨rfl, hb2⟩
      go_wp2
      go_ret
      exact ⟨by rw [hB2.out]; first | rfl | (simp; done), kb.trans (hb2.mono kb.size)⟩
    · have e0 : (p == 0) = false := by simp [p0]
      by_cases p1 : p = 1
      · have e1 : (p == 1) = true := by simp [p1]
        have hB2 : Hid (c1B ⟨r, ⟨f, b, bo, un, tu⟩, p⟩ = decide (wd = 2)) := by show _ = _; rw [hB.out, if_neg p0, if_pos p1]; rfl
        clear p0 p1 hB
        go_wp2_with fail
        refine hwd1.mono ?_
        rintro e w2 ⟨rfl, hb2⟩
        go_wp2
        go_ret
        exact ⟨by rw [hB2.out]; first | rfl | (simp; done), kb.trans (hb2.mono kb.size)⟩
      · have e1 : (p == 1) = false := by simp [p1]
        clear hwd1
        by_cases p2 : p = 2
        · have e2 : (p == 2) = true := by simp [p2]
          have hB2 : Hid (c1B ⟨r, ⟨f, b, bo, un, tu⟩, p⟩ = decide (r = 0)) := by show _ = _; rw [hB.out, if_neg p0, if_neg p1, if_pos p2]; rfl
          clear p0 p1 p2 hB
          go_wp2
          go_ret
          exact ⟨by rw [hB2.out]; first | rfl | (simp; done), kb⟩
        · have e2 : (p == 2) = false := by simp [p2]
          have hB2 : Hid (c1B ⟨r, ⟨f, b, bo, un, tu⟩, p⟩ = false) := by show _ = _; rw [hB.out, if_neg p0, if_neg p1, if_neg p2]; rfl
          clear p0 p1 p2 hB
          go_wp2
          go_ret
          exact ⟨by rw [hB2.out]; rfl, kb⟩
set_option maxHeartbeats 1000000 in
theorem joins_any (a c : Ce) (w : World) :
    Calls Tryd.prog 55 #[ceV a, ceV c] w fun e w' => e = .returned (.bool (joinB a c)) ∧ Below w.heap.size w w' := by
  have hB : Hid (joinB a c = if a.part = 1 then decide (c.part = 2) && decide (c.st = a.st) else !decide (c.part = 2)) := rfl
  have kb : Below w.heap.size w ((w.alloc (Obj.cells #[.int .i64 a.rune, .int .i64 a.st.fore, .int .i64 a.st.back, .bool a.st.bold, .bool a.st.under, .bool a.st.turned, .int .i64 a.part] 37)).alloc (Obj.cells #[.int .i64 c.rune, .int .i64 c.st.fore, .int .i64 c.st.back, .bool c.st.bold, .bool c.st.under, .bool c.st.turned, .int .i64 c.part] 37)) := ((Below.refl _ _).alloc (Nat.le_refl _) _).alloc (by simp) _
  unfold ceV
  by_cases h1 : a.part = 1
  · have b1 : (a.part == 1) = true := by simp [h1]
    by_cases h2 : c.part = 2
    · have b2 : (c.part == 2) = true := by simp [h2]
      have hB2 : Hid (joinB a c = decide (c.st = a.st)) := by show _ = _; rw [hB.out, if_pos h1, decide_eq_true h2]; rfl
      clear h1 h2 hB
      go_enter Tryd.func55, Tryd.ntmps55
      go_wp2
      go_ret
      exact ⟨by rw [hB2.out]; first | rfl | (simp; done), kb⟩
    · have b2 : (c.part == 2) = false := by simp [h2]
      have hB2 : Hid (joinB a c = false) := by show _ = _; rw [hB.out, if_pos h1, decide_eq_false h2]; rfl
      clear h1 h2 hB
      go_enter Tryd.func55, Tryd.ntmps55
      go_wp2
      go_ret
      exact ⟨by rw [hB2.out]; first | rfl | (simp; done), kb⟩
  · have b1 : (a.part == 1) = false := by simp [h1]
    have hB2 : Hid (joinB a c = !decide (c.part = 2)) := by show _ = _; rw [hB.out, if_neg h1]
    clear h1 hB
    go_enter Tryd.func55, Tryd.ntmps55
    go_wp2
    go_ret
    exact ⟨by rw [hB2.out]; first | rfl | (simp; done), kb⟩
end Go.Proofs.YteimcepkoclpbaaDoor
namespace Go.Proofs.YteimcepkoclpbaaDoor
open Go.ChangeShapes Go.WideShapes Go.ChangeAt Go.RowKit

def aheadC (xs : List Ce) (j : Nat) : Ce := if j = 0 then Ce.zero else atC xs (j - 1)
theorem aheadC_zero (xs : List Ce) : aheadC xs 0 = Ce.zero := rfl
theorem aheadC_succ (xs : List Ce) (j : Nat) : aheadC xs (j + 1) = atC xs j := by simp [aheadC]
theorem row_joins {xs : List Ce} (h : Right xs) (i : Nat) : joinB (aheadC xs i) (atC xs i) = true := by
  unfold joinB
  cases i with
  | zero =>
    rw [aheadC_zero, if_neg (by decide)]
    have : ¬ (atC xs 0).part = 2 := fun e => absurd (h.2.2 0 e).1 (by decide)
    simp [this]
  | succ i =>
    rw [aheadC_succ]
    by_cases e : (atC xs i).part = 1
    · have := h.2.1 i e
      rw [if_pos e]; simp [this.1, this.2]
    · rw [if_neg e]
      have : ¬ (atC xs (i + 1)).part = 2 := fun e2 => by
        have := (h.2.2 _ e2).2
        rw [Nat.add_sub_cancel] at this; exact e this
      simp [this]
theorem row_no_cell {xs : List Ce} {i : Nat} (hi : i < xs.length) (h : c1B (atC xs i) = false) : rowOkB xs = false := by
  cases hr : rowOkB xs with
  | false => rfl
  | true =>
    have := (c1B_iff _).2 (((right_iff xs).1 hr).2.1 i hi)
    rw [h] at this; cases this
theorem row_no_join {xs : List Ce} {i : Nat} (h : joinB (aheadC xs i) (atC xs i) = false) : rowOkB xs = false := by
  cases hr : rowOkB xs with
  | false => rfl
  | true =>
    have := row_joins ((right_iff xs).1 hr).2 i
    rw [h] at this; cases this
theorem row_end {xs : List Ce} (hl : 1 ≤ xs.length ∧ xs.length ≤ 60) (h : ∀ i, i < xs.length → c1B (atC xs i) = true ∧ joinB (aheadC xs i) (atC xs i) = true) : rowOkB xs = !decide ((aheadC xs xs.length).part = 1) := by
  have hlast : aheadC xs xs.length = atC xs (xs.length - 1) := by unfold aheadC; rw [if_neg (by omega)]
  by_cases e : (aheadC xs xs.length).part = 1
  · rw [decide_eq_true e]
    cases hr : rowOkB xs with
    | false => rfl
    | true =>
      rw [hlast] at e
      have := (((right_iff xs).1 hr).2.2.1 _ e).1
      rw [atC_ge (by omega)] at this
      exact absurd this (by decide)
  · rw [decide_eq_false e]
    show rowOkB xs = true
    rw [right_iff]
    refine ⟨hl, fun i hi => (c1B_iff _).1 (h i hi).1, fun i h1 => ?_, fun i h2 => ?_⟩
    · have hi : i < xs.length := part_lt (by rw [h1]; decide)
      by_cases c : i + 1 < xs.length
      · have := (h (i + 1) c).2
        unfold joinB at this
        rw [aheadC_succ, if_pos h1] at this
        simpa using this
      · exfalso
        rw [hlast, show xs.length - 1 = i by omega] at e
        exact e h1
    · have hi : i < xs.length := part_lt (by rw [h2]; decide)
      have := (h i hi).2
      unfold joinB at this
      cases i with
      | zero => rw [aheadC_zero, if_neg (by decide), h2] at this; simp at this
      | succ i =>
        rw [aheadC_succ] at this
        by_cases c : (atC xs i).part = 1
        · exact ⟨by omega, by rw [Nat.add_sub_cancel]; exact c⟩
        · rw [if_neg c, h2] at this; simp at this
set_option maxHeartbeats 4000000 in
set_option maxRecDepth 20000 in
theorem implRowOk_any (v : Value) (xs : List Ce) (w : World) (hS : SpansAt w) (hv : SlC w v xs) (hl : xs.length ≤ 1048576) :
    Calls Tryd.prog 19 #[v] w fun e w' => e = .returned (.bool (rowOkB xs)) ∧ Below w.heap.size w w' := by
  obtain ⟨a, c, rfl, hcp, hnc, _⟩ := id hv
  have hlt := hS.lt
  by_cases h0 : xs.length < 1
  · have h0i : (xs.length : Int) < 1 := by omega
    have hV : Hid (rowOkB xs = false) := rowOkB_len xs (by omega)
    go_enter Tryd.func19, Tryd.ntmps19
    go_wp2
    go_ret
    exact ⟨by rw [hV.out]; rfl, Below.refl _ _⟩
  · have h0i : ¬ (xs.length : Int) < 1 := by omega
    by_cases h60 : 60 < xs.length
    · have h60i : (60 : Int) < (xs.length : Int) := by omega
      have hV : Hid (rowOkB xs = false) := rowOkB_len xs (by omega)
      go_enter Tryd.func19, Tryd.ntmps19
      go_wp2
      go_ret
      exact ⟨by rw [hV.out]; rfl, Below.refl _ _⟩
    · have h60i : ¬ (60 : Int) < (xs.length : Int) := by omega
      have hco := fun c W h => cellOk_any c W h
      have hjo := fun a c W => joins_any a c W
      have hbA := bal' w (Obj.cells #[.int .i64 0, .int .i64 0, .int .i64 0, .bool false, .bool false, .bool false, .int .i64 0] 37)
      have hz := CeF.new w Ce.zero 37
      simp only [Ce.zero, St.zero] at hz
      unfold ceV at *
      go_enter Tryd.func19, Tryd.ntmps19
      go_wp2
      go_loopw [17, 5] (fun i _ wr => ∃ j : Nat, i = .int .i64 j ∧ j ≤ xs.length ∧ CeF wr w.heap.size (aheadC xs j) ∧ Below w.heap.size w wr ∧ Hid (∀ i, i < j → c1B (atC xs i) = true ∧ joinB (aheadC xs i) (atC xs i) = true)) (fun i _ _ => xs.length - (intOf i).toNat)
      case atStart => exact ⟨0, rfl, Nat.zero_le _, hz, hbA, fun i h => absurd h (Nat.not_lt_zero i)⟩
      case round =>
        clear hz hbA
        obtain ⟨j, rfl, hj, hA, hb, hall⟩ := hrel
        by_cases hlj : j < xs.length
        · have hji : (j : Int) < (xs.length : Int) := by omega
          have hj0 : (0 : Int) ≤ (j : Int) := by omega
          obtain ⟨b, off, rfl, hsrc⟩ := (hv.below hb).src (by omega)
          have hat := hsrc j hlj
          have hno1 := fun h => row_no_cell (xs := xs) hlj h
          have hno2 := fun h => row_no_join (xs := xs) (i := j) h
          have hsu : Hid (aheadC xs (j + 1) = atC xs j) := aheadC_succ xs j
          have hX := CeF.new wr (atC xs j) 37
          have hbX := bal' wr (Obj.cells #[.int .i64 (atC xs j).rune, .int .i64 (atC xs j).st.fore, .int .i64 (atC xs j).st.back, .bool (atC xs j).st.bold, .bool (atC xs j).st.under, .bool (atC xs j).st.turned, .int .i64 (atC xs j).part] 37)
          have hA1 := hA.below hbX
          have hb1 := hb.trans (hbX.mono hb.size)
          have hstep : c1B (atC xs j) = true → joinB (aheadC xs j) (atC xs j) = true → Hid (∀ i, i < j + 1 → c1B (atC xs i) = true ∧ joinB (aheadC xs i) (atC xs i) = true) := fun h1 h2 => (show ∀ i, i < j + 1 → c1B (atC xs i) = true ∧ joinB (aheadC xs i) (atC xs i) = true from fun i hi => by
            by_cases e : i = j
            · rw [e]; exact ⟨h1, h2⟩
            · exact hall.out i (by omega))
          obtain ⟨c0, c1, c2, c3, c4, c5, c6⟩ := hat
          have hne : w.heap.size ≠ wr.heap.size := by have := hA.1; omega
          generalize atC xs j = x at *
          generalize aheadC xs j = ah at *
          clear hsrc hall hA hb hbX
          go_wp2_with fail
          generalize wr.alloc (Obj.cells #[.int .i64 x.rune, .int .i64 x.st.fore, .int .i64 x.st.back, .bool x.st.bold, .bool x.st.under, .bool x.st.turned, .int .i64 x.part] 37) = W1 at *
          refine (hco x _ (hS.below hb1 hlt)).mono ?_
          rintro e w2 ⟨rfl, hb2⟩
          have hX2 := hX.below hb2
          have hA2 := hA1.below hb2
          have hb2' := hb1.trans (hb2.mono hb1.size)
          clear hX hA1 hb2 c0 c1 c2 c3 c4 c5 c6 hb1 hco
          cases hc1 : c1B x
          · have hV : Hid (rowOkB xs = false) := hno1 hc1
            clear hno1 hno2 hstep hc1 hX2 hA2 hjo
            go_wp2
            go_ret
            exact ⟨by rw [hV.out]; rfl, hb2'⟩
          · obtain ⟨_, ⟨c0, c1, c2, c3, c4, c5, c6⟩, _⟩ := id hX2
            obtain ⟨_, ⟨d0, d1, d2, d3, d4, d5, d6⟩, _⟩ := id hA2
            go_wp2_with fail
            refine (hjo ah x _).mono ?_
            rintro e w3 ⟨rfl, hb3⟩
            have hX3 := hX2.below hb3
            have hA3 := hA2.below hb3
            have hb3' := hb2'.trans (hb3.mono hb2'.size)
            clear hX2 hA2 hb3 c0 c1 c2 c3 c4 c5 c6 d0 d1 d2 d3 d4 d5 d6 hb2' hjo
            cases hc2 : joinB ah x
            · have hV : Hid (rowOkB xs = false) := hno2 hc2
              clear hno1 hno2 hstep hc1 hc2 hX3 hA3
              go_wp2
              go_ret
              exact ⟨by rw [hV.out]; rfl, hb3'⟩
            · have hall := hstep hc1 hc2
              have hAp := hA3.put x
              have hbp := hb3'.grown (putF_grown w3 w.heap.size x) hb3'.size (fun k hk => by cases hk; exact Nat.le_refl _)
              obtain ⟨_, ⟨c0, c1, c2, c3, c4, c5, c6⟩, _⟩ := id hX3
              obtain ⟨_, ⟨d0, d1, d2, d3, d4, d5, d6⟩, ⟨f0, f1, f2, f3, f4, f5, f6⟩⟩ := id hA3
              clear hno1 hno2 hstep hc1 hc2 hX3 hA3
              simp only [putF] at hAp hbp
              go_wp2
              go_roundw
              case rel => exact ⟨j + 1, by go_num, by omega, by rw [hsu.out]; exact hAp, hbp, hall⟩
              case measure => simp [intOf]; omega
        · have hjn : j = xs.length := by omega
          have hji : ¬ (j : Int) < (xs.length : Int) := by omega
          have hV : Hid (rowOkB xs = !decide ((aheadC xs xs.length).part = 1)) := row_end ⟨by omega, by omega⟩ (by rw [← hjn]; exact hall.out)
          rw [← hjn] at hV
          obtain ⟨_, ⟨d0, d1, d2, d3, d4, d5, d6⟩, _⟩ := id hA
          clear hco hjo hall
          generalize aheadC xs j = ah at *
          go_wp2
          go_ret
          exact ⟨by rw [hV.out]; first | rfl | (simp; done), hb⟩
end Go.Proofs.YteimcepkoclpbaaDoor
