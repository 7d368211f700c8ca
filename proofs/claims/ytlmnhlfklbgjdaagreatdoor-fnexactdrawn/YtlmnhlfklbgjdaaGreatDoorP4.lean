/- A cell whole in a block of its own. Contract of the program's RowOk. Contract of the program's GridOk. Contracts of the program's TermOk and its parts. A part of a block that is a struct, loaded as a whole. Rows of rows that are moved about. A style is like itself. The laws' own helpers on rows: two cells alike. The laws' own helpers on rows: size, copy. The laws' own helpers on rows: two rows alike. The program's way with rows: cleared, pushed, pulled. Plain mathematics. A window of a row of this call's own: cleared, copied into, made anew. The laws' own helpers on rows: a row's copy. One row written anew; rows made. The laws' own helpers on grids: a grid's copy. Contract of the specification's new grids. The laws' own helpers on grids: a grid's copy whole. The laws' own helpers on grids: size, likeness. The laws' own helpers on grids: marked and held. Sizes of grids that the laws reckon with; what stays within a range. A parser's block in memory, whole. The laws' own helpers on lists of int64: like, marked, held. The laws' own helpers on parsers: size, copy, likeness. The laws' own helpers on a Feeder. The laws' own helpers on screens: copy. Contracts of the specification's parser: states, copies, what an escape does. The laws' own helpers on parsers and actions: likeness, marks. The laws' own helpers on screens: marked and held. -/
import Derived.Test.YtlmnhlfklbgjdaaGreatDoorP3
import Derived.Deep.RegionWith
import Derived.Laws.CopyOwn
import Derived.OwnWalk
namespace Go.Proofs.YtlmnhlfklbgjdaaGreatDoor
open Go.ChangeShapes Go.WideShapes Go.ChangeAt Go.RowKit
/-- A cell whole in block B, writable. -/
def CeF (w : World) (B : Nat) (c : Ce) : Prop :=
  B < w.heap.size ∧ (w.cell? ⟨B, 0, none⟩ = some (.int .i64 c.rune) ∧ w.cell? ⟨B, 1, none⟩ = some (.int .i64 c.st.fore) ∧ w.cell? ⟨B, 2, none⟩ = some (.int .i64 c.st.back) ∧ w.cell? ⟨B, 3, none⟩ = some (.bool c.st.bold) ∧ w.cell? ⟨B, 4, none⟩ = some (.bool c.st.under) ∧ w.cell? ⟨B, 5, none⟩ = some (.bool c.st.turned) ∧ w.cell? ⟨B, 6, none⟩ = some (.int .i64 c.part)) ∧
    (w.frozen? ⟨B, 0, none⟩ = false ∧ w.frozen? ⟨B, 1, none⟩ = false ∧ w.frozen? ⟨B, 2, none⟩ = false ∧ w.frozen? ⟨B, 3, none⟩ = false ∧ w.frozen? ⟨B, 4, none⟩ = false ∧ w.frozen? ⟨B, 5, none⟩ = false ∧ w.frozen? ⟨B, 6, none⟩ = false)
theorem CeF.new (w : World) (c : Ce) (t : TypeId) : CeF (w.alloc (.cells #[.int .i64 c.rune, .int .i64 c.st.fore, .int .i64 c.st.back, .bool c.st.bold, .bool c.st.under, .bool c.st.turned, .int .i64 c.part] t)) w.heap.size c :=
  ⟨by simp, ⟨by simp [go_sem], by simp [go_sem], by simp [go_sem], by simp [go_sem], by simp [go_sem], by simp [go_sem], by simp [go_sem]⟩, ⟨by simp [go_sem], by simp [go_sem], by simp [go_sem], by simp [go_sem], by simp [go_sem], by simp [go_sem], by simp [go_sem]⟩⟩
theorem CeF.grown {w w' : World} {B : Nat} {c : Ce} {row : Option Nat} (h : CeF w B c) (hg : w.grownBy w' row) (hr : row ≠ some B) : CeF w' B c := by
  have hb := hg.block B h.1 (Ne.symm hr)
  have hc : ∀ k, w'.cell? ⟨B, k, none⟩ = w.cell? ⟨B, k, none⟩ := fun k => World.cell?_of_block (w := w) hb
  have hz : ∀ k, w'.frozen? ⟨B, k, none⟩ = w.frozen? ⟨B, k, none⟩ := fun k => World.frozen?_of_block (w := w) hb
  refine ⟨Nat.lt_of_lt_of_le h.1 hg.size, ?_, ?_⟩
  · rw [hc, hc, hc, hc, hc, hc, hc]; exact h.2.1
  · rw [hz, hz, hz, hz, hz, hz, hz]; exact h.2.2
theorem CeF.below {w w' : World} {B : Nat} {c : Ce} (h : CeF w B c) (hb : Below w.heap.size w w') : CeF w' B c := h.grown (gbl hb none) (by simp)
/-- Another cell is written there whole. -/
def putF (w : World) (B : Nat) (c : Ce) : World := (((((((w.setCell ⟨B, 0, none⟩ (.int .i64 c.rune)).setCell ⟨B, 1, none⟩ (.int .i64 c.st.fore)).setCell ⟨B, 2, none⟩ (.int .i64 c.st.back)).setCell ⟨B, 3, none⟩ (.bool c.st.bold)).setCell ⟨B, 4, none⟩ (.bool c.st.under)).setCell ⟨B, 5, none⟩ (.bool c.st.turned)).setCell ⟨B, 6, none⟩ (.int .i64 c.part))
theorem putF_grown (w : World) (B : Nat) (c : Ce) : w.grownBy (putF w B c) (some B) :=
  grown_tr (grown_tr (grown_tr (grown_tr (grown_tr (grown_tr (setCell_gr w B 0 _) (setCell_gr _ B 1 _)) (setCell_gr _ B 2 _)) (setCell_gr _ B 3 _)) (setCell_gr _ B 4 _)) (setCell_gr _ B 5 _)) (setCell_gr _ B 6 _)
theorem CeF.put {w : World} {B : Nat} {c : Ce} (h : CeF w B c) (c' : Ce) : CeF (putF w B c') B c' := by
  obtain ⟨hlt, ⟨c0, c1, c2, c3, c4, c5, c6⟩, ⟨z0, z1, z2, z3, z4, z5, z6⟩⟩ := h
  refine ⟨by simpa [putF] using hlt, ⟨?_, ?_, ?_, ?_, ?_, ?_, ?_⟩, ⟨?_, ?_, ?_, ?_, ?_, ?_, ?_⟩⟩
  all_goals simp only [putF]
  · rw [setCell_ne' _ _ _ _ _ (by decide), setCell_ne' _ _ _ _ _ (by decide), setCell_ne' _ _ _ _ _ (by decide), setCell_ne' _ _ _ _ _ (by decide), setCell_ne' _ _ _ _ _ (by decide), setCell_ne' _ _ _ _ _ (by decide)]; simp [go_sem, c0]
  · rw [setCell_ne' _ _ _ _ _ (by decide), setCell_ne' _ _ _ _ _ (by decide), setCell_ne' _ _ _ _ _ (by decide), setCell_ne' _ _ _ _ _ (by decide), setCell_ne' _ _ _ _ _ (by decide)]; simp [go_sem, c1]
  · rw [setCell_ne' _ _ _ _ _ (by decide), setCell_ne' _ _ _ _ _ (by decide), setCell_ne' _ _ _ _ _ (by decide), setCell_ne' _ _ _ _ _ (by decide)]; simp [go_sem, c2]
  · rw [setCell_ne' _ _ _ _ _ (by decide), setCell_ne' _ _ _ _ _ (by decide), setCell_ne' _ _ _ _ _ (by decide)]; simp [go_sem, c3]
  · rw [setCell_ne' _ _ _ _ _ (by decide), setCell_ne' _ _ _ _ _ (by decide)]; simp [go_sem, c4]
  · rw [setCell_ne' _ _ _ _ _ (by decide)]; simp [go_sem, c5]
  · simp [go_sem, c6]
  · simp [go_sem, z0]
  · simp [go_sem, z1]
  · simp [go_sem, z2]
  · simp [go_sem, z3]
  · simp [go_sem, z4]
  · simp [go_sem, z5]
  · simp [go_sem, z6]
theorem SlC.src {w : World} {a : Option Addr} {n c : Nat} {xs : List Ce} (h : SlC w (.slice a n c) xs) (h0 : 0 < xs.length) : ∃ b off, a = some ⟨b, off, none⟩ ∧ ∀ i, i < xs.length → CeAt w b (off + i * 7) (atC xs i) := by
  obtain ⟨a', c', e, _, _, hr⟩ := h
  simp only [Value.slice.injEq] at e
  obtain ⟨rfl, _, rfl⟩ := e
  rcases hr with h | ⟨b, off, ha, _, hi⟩
  · rw [h] at h0; simp at h0
  · exact ⟨b, off, ha, hi⟩
end Go.Proofs.YtlmnhlfklbgjdaaGreatDoor
namespace Go.Proofs.YtlmnhlfklbgjdaaGreatDoor
open Go.ChangeShapes Go.WideShapes Go.ChangeAt Go.RowKit
def aheadC (xs : List Ce) (j : Nat) : Ce := if j = 0 then Ce.zero else atC xs (j - 1)
theorem aheadC_zero (xs : List Ce) : aheadC xs 0 = Ce.zero := rfl
theorem aheadC_succ (xs : List Ce) (j : Nat) : aheadC xs (j + 1) = atC xs j := by simp [aheadC]
theorem row_joins {xs : List Ce} (h : Right xs) (i : Nat) : joinB (aheadC xs i) (atC xs i) = true := by
  unfold joinB
  cases i with
  | zero =>
    rw [aheadC_zero, if_neg (by decide)]
    have : ¬ (atC xs 0).part = 2 := fun e => absurd (h.2.2 0 e).1 (by decide)
    simp [this]
  | succ i =>
    rw [aheadC_succ]
    by_cases e : (atC xs i).part = 1
    · have := h.2.1 i e
      rw [if_pos e]; simp [this.1, this.2]
    · rw [if_neg e]
      have : ¬ (atC xs (i + 1)).part = 2 := fun e2 => by
        have := (h.2.2 _ e2).2
        rw [Nat.add_sub_cancel] at this; exact e this
      simp [this]
theorem row_no_cell {xs : List Ce} {i : Nat} (hi : i < xs.length) (h : c1B (atC xs i) = false) : rowOkB xs = false := by
  cases hr : rowOkB xs with
  | false => rfl
  | true =>
    have := (c1B_iff _).2 (((right_iff xs).1 hr).2.1 i hi)
    rw [h] at this; cases this
theorem row_no_join {xs : List Ce} {i : Nat} (h : joinB (aheadC xs i) (atC xs i) = false) : rowOkB xs = false := by
  cases hr : rowOkB xs with
  | false => rfl
  | true =>
    have := row_joins ((right_iff xs).1 hr).2 i
    rw [h] at this; cases this
theorem row_end {xs : List Ce} (hl : 1 ≤ xs.length ∧ xs.length ≤ 60) (h : ∀ i, i < xs.length → c1B (atC xs i) = true ∧ joinB (aheadC xs i) (atC xs i) = true) : rowOkB xs = !decide ((aheadC xs xs.length).part = 1) := by
  have hlast : aheadC xs xs.length = atC xs (xs.length - 1) := by unfold aheadC; rw [if_neg (by omega)]
  by_cases e : (aheadC xs xs.length).part = 1
  · rw [decide_eq_true e]
    cases hr : rowOkB xs with
    | false => rfl
    | true =>
      rw [hlast] at e
      have := (((right_iff xs).1 hr).2.2.1 _ e).1
      rw [atC_ge (by omega)] at this
      exact absurd this (by decide)
  · rw [decide_eq_false e]
    show rowOkB xs = true
    rw [right_iff]
    refine ⟨hl, fun i hi => (c1B_iff _).1 (h i hi).1, fun i h1 => ?_, fun i h2 => ?_⟩
    · have hi : i < xs.length := part_lt (by rw [h1]; decide)
      by_cases c : i + 1 < xs.length
      · have := (h (i + 1) c).2
        unfold joinB at this
        rw [aheadC_succ, if_pos h1] at this
        simpa using this
      · exfalso
        rw [hlast, show xs.length - 1 = i by omega] at e
        exact e h1
    · have hi : i < xs.length := part_lt (by rw [h2]; decide)
      have := (h i hi).2
      unfold joinB at this
      cases i with
      | zero => rw [aheadC_zero, if_neg (by decide), h2] at this; simp at this
      | succ i =>
        rw [aheadC_succ] at this
        by_cases c : (atC xs i).part = 1
        · exact ⟨by omega, by rw [Nat.add_sub_cancel]; exact c⟩
        · rw [if_neg c, h2] at this; simp at this
set_option maxHeartbeats 4000000 in
set_option maxRecDepth 20000 in
theorem implRowOk_any (v : Value) (xs : List Ce) (w : World) (hS : SpansAt w) (hv : SlC w v xs) (hl : xs.length ≤ 1048576) :
    Calls Tryz.prog 134 #[v] w fun e w' => e = .returned (.bool (rowOkB xs)) ∧ Below w.heap.size w w' := by
  obtain ⟨a, c, rfl, hcp, hnc, _⟩ := id hv
  have hlt := hS.lt
  by_cases h0 : xs.length < 1
  · have h0i : (xs.length : Int) < 1 := by omega
    have hV : Hid (rowOkB xs = false) := rowOkB_len xs (by omega)
    go_enter Tryz.func134, Tryz.ntmps134
    go_wp2
    go_ret
    exact ⟨by rw [hV.out]; rfl, Below.refl _ _⟩
  · have h0i : ¬ (xs.length : Int) < 1 := by omega
    by_cases h60 : 60 < xs.length
    · have h60i : (60 : Int) < (xs.length : Int) := by omega
      have hV : Hid (rowOkB xs = false) := rowOkB_len xs (by omega)
      go_enter Tryz.func134, Tryz.ntmps134
      go_wp2
      go_ret
      exact ⟨by rw [hV.out]; rfl, Below.refl _ _⟩
    · have h60i : ¬ (60 : Int) < (xs.length : Int) := by omega
      have hco := fun c W h => cellOk_any c W h
      have hjo := fun a c W => joins_any a c W
      have hbA := bal' w (Obj.cells #[.int .i64 0, .int .i64 0, .int .i64 0, .bool false, .bool false, .bool false, .int .i64 0] 75)
      have hz := CeF.new w Ce.zero 75
      simp only [Ce.zero, St.zero] at hz
      unfold ceV at *
      go_enter Tryz.func134, Tryz.ntmps134
      go_wp2
      go_loopw [17, 5] (fun i _ wr => ∃ j : Nat, i = .int .i64 j ∧ j ≤ xs.length ∧ CeF wr w.heap.size (aheadC xs j) ∧ Below w.heap.size w wr ∧ Hid (∀ i, i < j → c1B (atC xs i) = true ∧ joinB (aheadC xs i) (atC xs i) = true)) (fun i _ _ => xs.length - (intOf i).toNat)
      case atStart => exact ⟨0, rfl, Nat.zero_le _, hz, hbA, fun i h => absurd h (Nat.not_lt_zero i)⟩
      case round =>
        clear hz hbA
        obtain ⟨j, rfl, hj, hA, hb, hall⟩ := hrel
        by_cases hlj : j < xs.length
        · have hji : (j : Int) < (xs.length : Int) := by omega
          have hj0 : (0 : Int) ≤ (j : Int) := by omega
          obtain ⟨b, off, rfl, hsrc⟩ := (hv.below hb).src (by omega)
          have hat := hsrc j hlj
          have hno1 := fun h => row_no_cell (xs := xs) hlj h
          have hno2 := fun h => row_no_join (xs := xs) (i := j) h
          have hsu : Hid (aheadC xs (j + 1) = atC xs j) := aheadC_succ xs j
          have hX := CeF.new wr (atC xs j) 75
          have hbX := bal' wr (Obj.cells #[.int .i64 (atC xs j).rune, .int .i64 (atC xs j).st.fore, .int .i64 (atC xs j).st.back, .bool (atC xs j).st.bold, .bool (atC xs j).st.under, .bool (atC xs j).st.turned, .int .i64 (atC xs j).part] 75)
          have hA1 := hA.below hbX
          have hb1 := hb.trans (hbX.mono hb.size)
          have hstep : c1B (atC xs j) = true → joinB (aheadC xs j) (atC xs j) = true → Hid (∀ i, i < j + 1 → c1B (atC xs i) = true ∧ joinB (aheadC xs i) (atC xs i) = true) := fun h1 h2 => (show ∀ i, i < j + 1 → c1B (atC xs i) = true ∧ joinB (aheadC xs i) (atC xs i) = true from fun i hi => by
            by_cases e : i = j
            · rw [e]; exact ⟨h1, h2⟩
            · exact hall.out i (by omega))
          obtain ⟨c0, c1, c2, c3, c4, c5, c6⟩ := hat
          have hne : w.heap.size ≠ wr.heap.size := by have := hA.1; omega
          generalize atC xs j = x at *
          generalize aheadC xs j = ah at *
          clear hsrc hall hA hb hbX
          go_wp2_with fail
          generalize wr.alloc (Obj.cells #[.int .i64 x.rune, .int .i64 x.st.fore, .int .i64 x.st.back, .bool x.st.bold, .bool x.st.under, .bool x.st.turned, .int .i64 x.part] 75) = W1 at *
          refine (hco x _ (hS.below hb1 hlt)).mono ?_
          rintro e w2 ⟨rfl, hb2⟩
          have hX2 := hX.below hb2
          have hA2 := hA1.below hb2
          have hb2' := hb1.trans (hb2.mono hb1.size)
          clear hX hA1 hb2 c0 c1 c2 c3 c4 c5 c6 hb1 hco
          cases hc1 : c1B x
          · have hV : Hid (rowOkB xs = false) := hno1 hc1
            clear hno1 hno2 hstep hc1 hX2 hA2 hjo
            go_wp2
            go_ret
            exact ⟨by rw [hV.out]; rfl, hb2'⟩
          · obtain ⟨_, ⟨c0, c1, c2, c3, c4, c5, c6⟩, _⟩ := id hX2
            obtain ⟨_, ⟨d0, d1, d2, d3, d4, d5, d6⟩, _⟩ := id hA2
            go_wp2_with fail
            refine (hjo ah x _).mono ?_
            rintro e w3 ⟨rfl, hb3⟩
            have hX3 := hX2.below hb3
            have hA3 := hA2.below hb3
            have hb3' := hb2'.trans (hb3.mono hb2'.size)
            clear hX2 hA2 hb3 c0 c1 c2 c3 c4 c5 c6 d0 d1 d2 d3 d4 d5 d6 hb2' hjo
            cases hc2 : joinB ah x
            · have hV : Hid (rowOkB xs = false) := hno2 hc2
              clear hno1 hno2 hstep hc1 hc2 hX3 hA3
              go_wp2
              go_ret
              exact ⟨by rw [hV.out]; rfl, hb3'⟩
            · have hall := hstep hc1 hc2
              have hAp := hA3.put x
              have hbp := hb3'.grown (putF_grown w3 w.heap.size x) hb3'.size (fun k hk => by cases hk; exact Nat.le_refl _)
              obtain ⟨_, ⟨c0, c1, c2, c3, c4, c5, c6⟩, _⟩ := id hX3
              obtain ⟨_, ⟨d0, d1, d2, d3, d4, d5, d6⟩, ⟨f0, f1, f2, f3, f4, f5, f6⟩⟩ := id hA3
              clear hno1 hno2 hstep hc1 hc2 hX3 hA3
              simp only [putF] at hAp hbp
              go_wp2
              go_roundw
              case rel => exact ⟨j + 1, by go_num, by omega, by rw [hsu.out]; exact hAp, hbp, hall⟩
              case measure => simp [intOf]; omega
        · have hjn : j = xs.length := by omega
          have hji : ¬ (j : Int) < (xs.length : Int) := by omega
          have hV : Hid (rowOkB xs = !decide ((aheadC xs xs.length).part = 1)) := row_end ⟨by omega, by omega⟩ (by rw [← hjn]; exact hall.out)
          rw [← hjn] at hV
          obtain ⟨_, ⟨d0, d1, d2, d3, d4, d5, d6⟩, _⟩ := id hA
          clear hco hjo hall
          generalize aheadC xs j = ah at *
          go_wp2
          go_ret
          exact ⟨by rw [hV.out]; first | rfl | (simp; done), hb⟩
end Go.Proofs.YtlmnhlfklbgjdaaGreatDoor
namespace Go.Proofs.YtlmnhlfklbgjdaaGreatDoor
open Go.ChangeShapes Go.WideShapes Go.ChangeAt Go.RowKit
theorem gridOk_of {cols : Int} {rows : List (List Ce)} (hn : 1 ≤ rows.length ∧ rows.length ≤ 30) (h : ∀ i, i < rows.length → fitB cols (rowX rows i) = true) : gridOkB cols rows = true := by
  rw [gridOk_iff]
  refine ⟨?_, hn, h⟩
  have h0 := h 0 (by omega)
  unfold fitB at h0
  rw [Bool.and_eq_true, decide_eq_true_eq] at h0
  have := ((right_iff _).1 h0.2).1
  omega
set_option maxHeartbeats 4000000 in
set_option maxRecDepth 20000 in
theorem implGridOk_any (cols : Int) (v : Value) (rows : List (List Ce)) (w : World) (hS : SpansAt w) (hv : SlG w v rows) (hl : rows.length ≤ 1048576) (hx : ∀ i, i < rows.length → (rowX rows i).length ≤ 1048576) :
    Calls Tryz.prog 102 #[gridV cols v] w fun e w' => e = .returned (.bool (gridOkB cols rows)) ∧ Below w.heap.size w w' := by
  have hb0 := bal' w (Obj.cells #[.int .i64 cols, v] 26)
  have hG0 := GrN.new w cols v 26
  obtain ⟨a, c, vs, rfl, hcp, _, hr, hs⟩ := id hv
  unfold gridV
  obtain ⟨_, g0, g1⟩ := id hG0
  by_cases hn1 : rows.length < 1
  · have hn1i : (rows.length : Int) < 1 := by omega
    have hV : Hid (gridOkB cols rows = false) := gridOk_len (by omega)
    clear hs hr
    go_enter Tryz.func102, Tryz.ntmps102
    go_wp2
    go_ret
    exact ⟨by rw [hV.out]; rfl, hb0⟩
  · have hn1i : ¬ (rows.length : Int) < 1 := by omega
    by_cases hn2 : 30 < rows.length
    · have hn2i : 30 < (rows.length : Int) := by omega
      have hV : Hid (gridOkB cols rows = false) := gridOk_len (by omega)
      clear hs hr
      go_enter Tryz.func102, Tryz.ntmps102
      go_wp2
      go_ret
      exact ⟨by rw [hV.out]; rfl, hb0⟩
    · have hn2i : ¬ 30 < (rows.length : Int) := by omega
      rcases hr with h | ⟨b, off, rfl, hbb, hrc⟩
      · rw [h] at hn1; simp at hn1
      go_enter Tryz.func102, Tryz.ntmps102
      go_wp2
      go_loopw [4, 18] (fun _ i wr => ∃ j : Nat, i = .int .i64 j ∧ j ≤ rows.length ∧ Hid (∀ k, k < j → fitB cols (rowX rows k) = true) ∧ GrN wr w.heap.size cols (.slice (some ⟨b, off, none⟩) rows.length c) ∧ Below w.heap.size w wr) (fun _ i _ => rows.length - (intOf i).toNat)
      case atStart => exact ⟨0, rfl, Nat.zero_le _, (fun k hk => absurd hk (Nat.not_lt_zero k)), hG0, hb0⟩
      case round =>
        clear hG0 hb0
        obtain ⟨j, rfl, hj, hall, hG, kb⟩ := hrel
        obtain ⟨_, g0, g1⟩ := id hG
        by_cases hlt : j < rows.length
        · have hji : (j : Int) < (rows.length : Int) := by omega
          have hj0 : (0 : Int) ≤ (j : Int) := by omega
          have hcj := (kb.cell (p := ⟨b, off + j, none⟩) hbb).trans (hrc j hlt)
          have hsj := (hs j hlt).below kb
          obtain ⟨aj, cj, ev, _⟩ := id hsj
          rw [ev] at hcj hsj
          have hno : fitB cols (rowX rows j) = false → Hid (gridOkB cols rows = false) := fun h => gridOk_no hlt h
          have hstep : fitB cols (rowX rows j) = true → Hid (∀ k, k < j + 1 → fitB cols (rowX rows k) = true) := fun h => (show ∀ k, k < j + 1 → fitB cols (rowX rows k) = true from fun k hk => by
            by_cases e : k = j
            · rw [e]; exact h
            · exact hall.out k (by omega))
          have hok := implRowOk_any _ _ wr (hS.below kb hS.lt) hsj (hx j hlt)
          have hfit : fitB cols (rowX rows j) = (decide (((rowX rows j).length : Int) = cols) && rowOkB (rowX rows j)) := rfl
          clear hs hrc ev hsj hall
          by_cases hc : ((rowX rows j).length : Int) = cols
          · have hcb : (((rowX rows j).length : Int) != cols) = false := by simp [hc]
            rw [decide_eq_true hc, Bool.true_and] at hfit
            rw [hfit] at hno hstep
            clear hfit
            generalize rowOkB (rowX rows j) = ok at *
            clear hc
            go_wp2_with fail
            refine hok.mono ?_
            rintro e w2 ⟨rfl, hb2⟩
            have hG2 := hG.below hb2
            have kb2 := kb.trans (hb2.mono kb.size)
            clear hG kb hb2 hok g0 g1
            cases ok
            · have hV := hno rfl
              clear hno hstep
              go_wp2
              go_ret
              exact ⟨by rw [hV.out]; rfl, kb2⟩
            · have hall2 := hstep rfl
              clear hno hstep
              go_wp2
              go_roundw
              case rel => exact ⟨j + 1, by go_num, by omega, hall2, hG2, kb2⟩
              case measure => simp [intOf]; omega
          · have hcb : (((rowX rows j).length : Int) != cols) = true := by simp [hc]
            rw [decide_eq_false hc, Bool.false_and] at hfit
            have hV := hno hfit
            clear hok hno hstep hfit hc
            go_wp2
            go_ret
            exact ⟨by rw [hV.out]; rfl, kb⟩
        · have hjn : j = rows.length := by omega
          have hji : ¬ (j : Int) < (rows.length : Int) := by omega
          have hV : Hid (gridOkB cols rows = true) := gridOk_of ⟨by omega, by omega⟩ (by rw [← hjn]; exact hall.out)
          subst hjn
          clear hs hrc hall
          go_wp2
          go_ret
          exact ⟨by rw [hV.out]; rfl, kb⟩
end Go.Proofs.YtlmnhlfklbgjdaaGreatDoor
namespace Go.Proofs.YtlmnhlfklbgjdaaGreatDoor
open Go.ChangeShapes Go.WideShapes Go.ChangeAt Go.RowKit
theorem isCell_any (gc r c : Int) (a : Option Addr) (n cp : Nat) (w : World) (_hn : n ≤ 1048576) :
    Calls Tryz.prog 103 #[.agg #[.int .i64 gc, .slice a n cp], .int .i64 r, .int .i64 c] w fun e w' => e = .returned (.bool (cellB gc n r c)) ∧ Below w.heap.size w w' := by
  have hb0 := bal' w (Obj.cells #[.int .i64 gc, .slice a n cp] 26)
  obtain ⟨rv, hrv⟩ : ∃ rv, Hid (rv = cellB gc n r c) := ⟨_, rfl⟩
  rw [← hrv.out]
  by_cases h1 : 0 ≤ r
  case neg =>
    have hv : Hid (rv = false) := by show _ = _; rw [hrv.out]; unfold cellB; rw [decide_eq_false (by omega), Bool.false_and]
    go_enter Tryz.func103, Tryz.ntmps103
    go_wp2
    go_ret
    exact ⟨by rw [hv.out]; rfl, hb0⟩
  by_cases h2 : r < (n : Int)
  case neg =>
    have hv : Hid (rv = false) := by show _ = _; rw [hrv.out]; unfold cellB; rw [decide_eq_false (by omega), Bool.false_and]
    go_enter Tryz.func103, Tryz.ntmps103
    go_wp2
    go_ret
    exact ⟨by rw [hv.out]; rfl, hb0⟩
  by_cases h3 : 0 ≤ c
  case neg =>
    have hv : Hid (rv = false) := by show _ = _; rw [hrv.out]; unfold cellB; rw [decide_eq_false (p := 0 ≤ c ∧ _) (by omega), Bool.and_false]
    go_enter Tryz.func103, Tryz.ntmps103
    go_wp2
    go_ret
    exact ⟨by rw [hv.out]; rfl, hb0⟩
  by_cases h4 : c < gc
  case neg =>
    have hv : Hid (rv = false) := by show _ = _; rw [hrv.out]; unfold cellB; rw [decide_eq_false (p := 0 ≤ c ∧ _) (by omega), Bool.and_false]
    go_enter Tryz.func103, Tryz.ntmps103
    go_wp2
    go_ret
    exact ⟨by rw [hv.out]; rfl, hb0⟩
  have hv : Hid (rv = true) := by show _ = _; rw [hrv.out]; unfold cellB; rw [decide_eq_true (by omega), decide_eq_true (by omega)]; rfl
  go_enter Tryz.func103, Tryz.ntmps103
  go_wp2
  go_ret
  exact ⟨by rw [hv.out]; rfl, hb0⟩
set_option maxHeartbeats 8000000 in
set_option maxRecDepth 20000 in
theorem implSizeOk_any (t : Te) (v : Tv) (w : World) (h : SlT w t v) (hS : SpansAt w) (hz : SzT 1048576 t) :
    Calls Tryz.prog 66 #[teV t v] w fun e w' => e = .returned (.bool (gridOkB t.gc t.g && (gridOkB t.oc t.o && (decide (t.gc = t.oc) && decide (t.g.length = t.o.length))))) ∧ Below w.heap.size w w' := by
  obtain ⟨vg, vo, vti, vpp, vpt⟩ := v
  obtain ⟨hg, ho, hti, hpp, hpt⟩ := h
  simp only at hg ho hti hpp hpt
  obtain ⟨z1, z2, z3, z4, z5, z6, z7⟩ := hz
  obtain ⟨rv, hrv⟩ : ∃ rv, Hid (rv = (gridOkB t.gc t.g && (gridOkB t.oc t.o && (decide (t.gc = t.oc) && decide (t.g.length = t.o.length))))) := ⟨_, rfl⟩
  rw [← hrv.out]
  have hb0 := bal' w (Obj.cells (teCs t ⟨vg, vo, vti, vpp, vpt⟩) 35)
  have hB := TeB.new w 35 t ⟨vg, vo, vti, vpp, vpt⟩
  have cG := fun W hS hW => implGridOk_any t.gc vg t.g W hS hW z1 z2
  have cO := fun W hS hW => implGridOk_any t.oc vo t.o W hS hW z3 z4
  obtain ⟨bG, eG⟩ : ∃ b, Hid (gridOkB t.gc t.g = b) := ⟨_, rfl⟩
  obtain ⟨bO, eO⟩ : ∃ b, Hid (gridOkB t.oc t.o = b) := ⟨_, rfl⟩
  rw [eG.out] at cG
  rw [eO.out] at cO
  obtain ⟨ga, gp, hq1⟩ := slG_shp hg
  obtain ⟨oa, op, hq2⟩ := slG_shp ho
  obtain ⟨tia, tip, hq3⟩ := hti.shp
  obtain ⟨ppa, ppp, hq4⟩ := hpp.shp
  obtain ⟨pta, ptp, hq5⟩ := hpt.shp
  subst hq1; subst hq2; subst hq3; subst hq4; subst hq5
  unfold teV gridV at *
  obtain ⟨w1, hw1⟩ : ∃ w1, w1 = w.alloc (Obj.cells (teCs t ⟨.slice ga t.g.length gp, .slice oa t.o.length op, .slice tia t.ti.length tip, .slice ppa t.pa.params.length ppp, .slice pta t.pa.text.length ptp⟩) 35) := ⟨_, rfl⟩
  rw [← hw1] at hB hb0
  replace hw1 := (show Hid _ from hw1)
  clear z1 z2 z3 z4 z5 z6 z7
  go_enter Tryz.func66, Tryz.ntmps66
  refine wp_seq_k (fun K hK => ?_)
  have hH := (show Hid _ from hK)
  clear hK
  go_wp2
  refine hH.out _ _ ?_
  rw [← hw1.out]
  clear hH hw1
  obtain ⟨c0, c1, c2, c3, c4, c5, c6, c7, c8, c9, c10, c11, c12, c13, c14, c15, c16, c17, c18, c19, c20, c21, c22, c23, c24, c25, c26, c27, c28, c29⟩ := hB.cells
  go_wp2_with fail
  refine (cG _ (hS.below hb0 hS.lt) (hg.below hb0)).mono ?_
  rintro e w2 ⟨rfl, hb⟩
  have hb1 := hb0.trans (hb.mono hb0.size)
  replace hB := hB.below hb
  clear c0 c1 c2 c3 c4 c5 c6 c7 c8 c9 c10 c11 c12 c13 c14 c15 c16 c17 c18 c19 c20 c21 c22 c23 c24 c25 c26 c27 c28 c29
  clear hb hb0
  obtain ⟨c0, c1, c2, c3, c4, c5, c6, c7, c8, c9, c10, c11, c12, c13, c14, c15, c16, c17, c18, c19, c20, c21, c22, c23, c24, c25, c26, c27, c28, c29⟩ := hB.cells
  cases bG
  case false =>
    have hv : Hid (rv = false) := by show _ = _; rw [hrv.out]; rw [eG.out]; simp
    go_wp2
    go_ret
    exact ⟨by rw [hv.out]; rfl, hb1⟩
  go_wp2_with fail
  refine (cO _ (hS.below hb1 hS.lt) (ho.below hb1)).mono ?_
  rintro e w3 ⟨rfl, hb⟩
  have hb2 := hb1.trans (hb.mono hb1.size)
  replace hB := hB.below hb
  clear c0 c1 c2 c3 c4 c5 c6 c7 c8 c9 c10 c11 c12 c13 c14 c15 c16 c17 c18 c19 c20 c21 c22 c23 c24 c25 c26 c27 c28 c29
  clear hb hb1
  obtain ⟨c0, c1, c2, c3, c4, c5, c6, c7, c8, c9, c10, c11, c12, c13, c14, c15, c16, c17, c18, c19, c20, c21, c22, c23, c24, c25, c26, c27, c28, c29⟩ := hB.cells
  cases bO
  case false =>
    have hv : Hid (rv = false) := by show _ = _; rw [hrv.out]; rw [eO.out]; simp
    go_wp2
    go_ret
    exact ⟨by rw [hv.out]; rfl, hb2⟩
  by_cases q3 : t.gc = t.oc
  case neg =>
    have hv : Hid (rv = false) := by show _ = _; rw [hrv.out]; simp [q3]
    have q3b : (t.gc == t.oc) = false := by simp [q3]
    clear q3
    go_wp2
    go_ret
    exact ⟨by rw [hv.out]; rfl, hb2⟩
  have q3b : (t.gc == t.oc) = true := by simp [q3]
  have q3h := (show Hid _ from q3)
  clear q3
  by_cases q4 : t.g.length = t.o.length
  case neg =>
    have hv : Hid (rv = false) := by show _ = _; rw [hrv.out]; simp [q4]
    have q4b : ((t.g.length : Int) == (t.o.length : Int)) = false := by simp; omega
    clear q4
    go_wp2
    go_ret
    exact ⟨by rw [hv.out]; rfl, hb2⟩
  have hv : Hid (rv = true) := by show _ = _; rw [hrv.out, eG.out, eO.out, decide_eq_true q3h.out, decide_eq_true q4]; rfl
  have q4b : ((t.g.length : Int) == (t.o.length : Int)) = true := by simp; omega
  clear q4
  go_wp2
  go_ret
  exact ⟨by rw [hv.out]; rfl, hb2⟩
set_option maxHeartbeats 8000000 in
set_option maxRecDepth 20000 in
theorem implPlacesOk_any (t : Te) (v : Tv) (w : World) (h : SlT w t v) (hc1 : 1 ≤ t.gc) (hc2 : t.gc ≤ 60) (hn : t.g.length ≤ 30) :
    Calls Tryz.prog 67 #[teV t v] w fun e w' => e = .returned (.bool ((cellB t.gc t.g.length t.row t.col && cellB t.gc t.g.length t.sr t.sc) && decide (t.full = true → t.col = t.gc - 1))) ∧ Below w.heap.size w w' := by
  obtain ⟨vg, vo, vti, vpp, vpt⟩ := v
  obtain ⟨hg, ho, hti, hpp, hpt⟩ := h
  simp only at hg ho hti hpp hpt
  obtain ⟨rv, hrv⟩ : ∃ rv, Hid (rv = ((cellB t.gc t.g.length t.row t.col && cellB t.gc t.g.length t.sr t.sc) && decide (t.full = true → t.col = t.gc - 1))) := ⟨_, rfl⟩
  rw [← hrv.out]
  have hb0 := bal' w (Obj.cells (teCs t ⟨vg, vo, vti, vpp, vpt⟩) 35)
  have hB := TeB.new w 35 t ⟨vg, vo, vti, vpp, vpt⟩
  obtain ⟨ga, gp, hq1⟩ := slG_shp hg
  obtain ⟨oa, op, hq2⟩ := slG_shp ho
  obtain ⟨tia, tip, hq3⟩ := hti.shp
  obtain ⟨ppa, ppp, hq4⟩ := hpp.shp
  obtain ⟨pta, ptp, hq5⟩ := hpt.shp
  subst hq1; subst hq2; subst hq3; subst hq4; subst hq5
  unfold teV at *
  obtain ⟨w1, hw1⟩ : ∃ w1, w1 = w.alloc (Obj.cells (teCs t ⟨.slice ga t.g.length gp, .slice oa t.o.length op, .slice tia t.ti.length tip, .slice ppa t.pa.params.length ppp, .slice pta t.pa.text.length ptp⟩) 35) := ⟨_, rfl⟩
  rw [← hw1] at hB hb0
  replace hw1 := (show Hid _ from hw1)
  have cC := fun W => isCell_any t.gc t.row t.col ga t.g.length gp W (by omega)
  have cD := fun W => isCell_any t.gc t.sr t.sc ga t.g.length gp W (by omega)
  obtain ⟨bC, eC⟩ : ∃ b, Hid (cellB t.gc t.g.length t.row t.col = b) := ⟨_, rfl⟩
  obtain ⟨bD, eD⟩ : ∃ b, Hid (cellB t.gc t.g.length t.sr t.sc = b) := ⟨_, rfl⟩
  rw [eC.out] at cC
  rw [eD.out] at cD
  go_enter Tryz.func67, Tryz.ntmps67
  refine wp_seq_k (fun K hK => ?_)
  have hH := (show Hid _ from hK)
  clear hK
  go_wp2
  refine hH.out _ _ ?_
  rw [← hw1.out]
  clear hH hw1
  obtain ⟨c0, c1, c2, c3, c4, c5, c6, c7, c8, c9, c10, c11, c12, c13, c14, c15, c16, c17, c18, c19, c20, c21, c22, c23, c24, c25, c26, c27, c28, c29⟩ := hB.cells
  go_wp2_with fail
  refine (cC _).mono ?_
  rintro e w2 ⟨rfl, hb⟩
  have hb1 := hb0.trans (hb.mono hb0.size)
  replace hB := hB.below hb
  clear c0 c1 c2 c3 c4 c5 c6 c7 c8 c9 c10 c11 c12 c13 c14 c15 c16 c17 c18 c19 c20 c21 c22 c23 c24 c25 c26 c27 c28 c29
  clear hb hb0
  obtain ⟨c0, c1, c2, c3, c4, c5, c6, c7, c8, c9, c10, c11, c12, c13, c14, c15, c16, c17, c18, c19, c20, c21, c22, c23, c24, c25, c26, c27, c28, c29⟩ := hB.cells
  cases bC
  case false =>
    have hv : Hid (rv = false) := by show _ = _; rw [hrv.out]; rw [eC.out]; simp
    go_wp2
    go_ret
    exact ⟨by rw [hv.out]; rfl, hb1⟩
  go_wp2_with fail
  refine (cD _).mono ?_
  rintro e w3 ⟨rfl, hb⟩
  have hb2 := hb1.trans (hb.mono hb1.size)
  replace hB := hB.below hb
  clear c0 c1 c2 c3 c4 c5 c6 c7 c8 c9 c10 c11 c12 c13 c14 c15 c16 c17 c18 c19 c20 c21 c22 c23 c24 c25 c26 c27 c28 c29
  clear hb hb1
  obtain ⟨c0, c1, c2, c3, c4, c5, c6, c7, c8, c9, c10, c11, c12, c13, c14, c15, c16, c17, c18, c19, c20, c21, c22, c23, c24, c25, c26, c27, c28, c29⟩ := hB.cells
  cases bD
  case false =>
    have hv : Hid (rv = false) := by show _ = _; rw [hrv.out]; rw [eD.out]; simp
    go_wp2
    go_ret
    exact ⟨by rw [hv.out]; rfl, hb2⟩
  obtain ⟨fu, hfu⟩ : ∃ fu, Hid (t.full = fu) := ⟨_, rfl⟩
  rw [hfu.out] at c13
  cases fu
  case false =>
    have hv : Hid (rv = true) := by show _ = _; rw [hrv.out, eC.out, eD.out, decide_eq_true (fun h => by rw [hfu.out] at h; cases h)]; rfl
    go_wp2
    go_ret
    exact ⟨by rw [hv.out]; rfl, hb2⟩
  by_cases q : t.col = t.gc - 1
  case pos =>
    have hv : Hid (rv = true) := by show _ = _; rw [hrv.out, eC.out, eD.out, decide_eq_true (fun _ => q)]; rfl
    have qb : (t.col == t.gc - 1) = true := by simp [q]
    clear q
    go_wp2
    go_ret
    exact ⟨by rw [hv.out]; rfl, hb2⟩
  have hv : Hid (rv = false) := by show _ = _; rw [hrv.out, eC.out, eD.out, decide_eq_false (fun h => q (h hfu.out))]; rfl
  have qb : (t.col == t.gc - 1) = false := by simp [q]
  clear q
  go_wp2
  go_ret
  exact ⟨by rw [hv.out]; rfl, hb2⟩
set_option maxHeartbeats 8000000 in
set_option maxRecDepth 20000 in
theorem implMarginsOk_any (t : Te) (v : Tv) (w : World) (h : SlT w t v) (hn1 : 1 ≤ t.g.length) (hn : t.g.length ≤ 30) :
    Calls Tryz.prog 68 #[teV t v] w fun e w' => e = .returned (.bool (decide (0 ≤ t.top ∧ t.top ≤ t.bot ∧ t.bot ≤ (t.g.length : Int) - 1 ∧ ¬ (t.top = t.bot ∧ 0 < (t.g.length : Int) - 1)))) ∧ Below w.heap.size w w' := by
  obtain ⟨vg, vo, vti, vpp, vpt⟩ := v
  obtain ⟨hg, ho, hti, hpp, hpt⟩ := h
  simp only at hg ho hti hpp hpt
  obtain ⟨rv, hrv⟩ : ∃ rv, Hid (rv = (decide (0 ≤ t.top ∧ t.top ≤ t.bot ∧ t.bot ≤ (t.g.length : Int) - 1 ∧ ¬ (t.top = t.bot ∧ 0 < (t.g.length : Int) - 1)))) := ⟨_, rfl⟩
  rw [← hrv.out]
  have hb0 := bal' w (Obj.cells (teCs t ⟨vg, vo, vti, vpp, vpt⟩) 35)
  have hB := TeB.new w 35 t ⟨vg, vo, vti, vpp, vpt⟩
  obtain ⟨ga, gp, hq1⟩ := slG_shp hg
  obtain ⟨oa, op, hq2⟩ := slG_shp ho
  obtain ⟨tia, tip, hq3⟩ := hti.shp
  obtain ⟨ppa, ppp, hq4⟩ := hpp.shp
  obtain ⟨pta, ptp, hq5⟩ := hpt.shp
  subst hq1; subst hq2; subst hq3; subst hq4; subst hq5
  unfold teV at *
  obtain ⟨w1, hw1⟩ : ∃ w1, w1 = w.alloc (Obj.cells (teCs t ⟨.slice ga t.g.length gp, .slice oa t.o.length op, .slice tia t.ti.length tip, .slice ppa t.pa.params.length ppp, .slice pta t.pa.text.length ptp⟩) 35) := ⟨_, rfl⟩
  rw [← hw1] at hB hb0
  replace hw1 := (show Hid _ from hw1)
  go_enter Tryz.func68, Tryz.ntmps68
  refine wp_seq_k (fun K hK => ?_)
  have hH := (show Hid _ from hK)
  clear hK
  go_wp2
  refine hH.out _ _ ?_
  rw [← hw1.out]
  clear hH hw1
  obtain ⟨c0, c1, c2, c3, c4, c5, c6, c7, c8, c9, c10, c11, c12, c13, c14, c15, c16, c17, c18, c19, c20, c21, c22, c23, c24, c25, c26, c27, c28, c29⟩ := hB.cells
  by_cases q1 : t.g.length = 1
  case pos =>
    have q1b : ((t.g.length : Int) == 1) = true := by simp; omega
    by_cases q2 : t.top = 0
    case neg =>
      have q2b : (t.top == 0) = false := by simp [q2]
      have hv : Hid (rv = false) := by show _ = _; rw [hrv.out]; exact decide_eq_false (by omega)
      clear q1 q2
      go_wp2
      go_ret
      exact ⟨by rw [hv.out]; rfl, hb0⟩
    have q2b : (t.top == 0) = true := by simp [q2]
    by_cases q3 : t.bot = 0
    case neg =>
      have q3b : (t.bot == 0) = false := by simp [q3]
      have hv : Hid (rv = false) := by show _ = _; rw [hrv.out]; exact decide_eq_false (by omega)
      clear q1 q2 q3
      go_wp2
      go_ret
      exact ⟨by rw [hv.out]; rfl, hb0⟩
    have q3b : (t.bot == 0) = true := by simp [q3]
    have hv : Hid (rv = true) := by show _ = _; rw [hrv.out]; exact decide_eq_true (by omega)
    clear q1 q2 q3
    go_wp2
    go_ret
    exact ⟨by rw [hv.out]; rfl, hb0⟩
  have q1b : ((t.g.length : Int) == 1) = false := by simp; omega
  have q1i : 1 < (t.g.length : Int) := by omega
  clear q1
  by_cases q2 : 0 ≤ t.top
  case neg =>
    have hv : Hid (rv = false) := by show _ = _; rw [hrv.out]; exact decide_eq_false (by omega)
    go_wp2
    go_ret
    exact ⟨by rw [hv.out]; rfl, hb0⟩
  by_cases q3 : t.top < t.bot
  case neg =>
    have hv : Hid (rv = false) := by show _ = _; rw [hrv.out]; exact decide_eq_false (by omega)
    go_wp2
    go_ret
    exact ⟨by rw [hv.out]; rfl, hb0⟩
  by_cases q4 : t.bot < (t.g.length : Int)
  case neg =>
    have hv : Hid (rv = false) := by show _ = _; rw [hrv.out]; exact decide_eq_false (by omega)
    go_wp2
    go_ret
    exact ⟨by rw [hv.out]; rfl, hb0⟩
  have hv : Hid (rv = true) := by show _ = _; rw [hrv.out]; exact decide_eq_true (by omega)
  go_wp2
  go_ret
  exact ⟨by rw [hv.out]; rfl, hb0⟩
set_option maxHeartbeats 8000000 in
set_option maxRecDepth 20000 in
theorem implTermOk_any (t : Te) (v : Tv) (w : World) (h : SlT w t v) (hS : SpansAt w) (hz : SzT 1048576 t) :
    Calls Tryz.prog 22 #[teV t v] w fun e w' => e = .returned (.bool (termOkB t)) ∧ Below w.heap.size w w' := by
  have dS := fun W hS h => implSizeOk_any t v W h hS hz
  have dP := fun W h => implPlacesOk_any t v W h
  have dM := fun W h => implMarginsOk_any t v W h
  have hh := h
  obtain ⟨z1, z2, z3, z4, z5, z6, z7⟩ := hz
  obtain ⟨vg, vo, vti, vpp, vpt⟩ := v
  obtain ⟨hg, ho, hti, hpp, hpt⟩ := h
  simp only at hg ho hti hpp hpt
  obtain ⟨rv, hrv⟩ : ∃ rv, Hid (rv = (termOkB t)) := ⟨_, rfl⟩
  rw [← hrv.out]
  have hb0 := bal' w (Obj.cells (teCs t ⟨vg, vo, vti, vpp, vpt⟩) 35)
  have hB := TeB.new w 35 t ⟨vg, vo, vti, vpp, vpt⟩
  have cS := fun W => implStyleOk_any t.st W
  have cSs := fun W => implStyleOk_any t.ss W
  have cT := fun W hW => titleOk_any vti t.ti W hW (by omega)
  have cP := fun W h1 h2 => implParserOk_any t.pa vpp vpt W h1 h2 (by omega) (by omega)
  have cF := fun W => implFeederOk_any t.fe W
  obtain ⟨bZ, eZ⟩ : ∃ b, Hid ((gridOkB t.gc t.g && (gridOkB t.oc t.o && (decide (t.gc = t.oc) && decide (t.g.length = t.o.length)))) = b) := ⟨_, rfl⟩
  obtain ⟨bQ, eQ⟩ : ∃ b, Hid (((cellB t.gc t.g.length t.row t.col && cellB t.gc t.g.length t.sr t.sc) && decide (t.full = true → t.col = t.gc - 1)) = b) := ⟨_, rfl⟩
  obtain ⟨bM, eM⟩ : ∃ b, Hid (decide (0 ≤ t.top ∧ t.top ≤ t.bot ∧ t.bot ≤ (t.g.length : Int) - 1 ∧ ¬ (t.top = t.bot ∧ 0 < (t.g.length : Int) - 1)) = b) := ⟨_, rfl⟩
  obtain ⟨bS, eS⟩ : ∃ b, Hid (t.st.ok = b) := ⟨_, rfl⟩
  obtain ⟨bSs, eSs⟩ : ∃ b, Hid (t.ss.ok = b) := ⟨_, rfl⟩
  obtain ⟨bT, eT⟩ : ∃ b, Hid ((decide (t.ti.length ≤ 40) && runesB t.ti) = b) := ⟨_, rfl⟩
  obtain ⟨bP, eP⟩ : ∃ b, Hid (okV t.pa = b) := ⟨_, rfl⟩
  obtain ⟨bF, eF⟩ : ∃ b, Hid (feedOk t.fe = b) := ⟨_, rfl⟩
  rw [eZ.out] at dS
  rw [eQ.out] at dP
  rw [eM.out] at dM
  rw [eS.out] at cS
  rw [eSs.out] at cSs
  rw [eT.out] at cT
  rw [eP.out] at cP
  rw [eF.out] at cF
  obtain ⟨ga, gp, hq1⟩ := slG_shp hg
  obtain ⟨oa, op, hq2⟩ := slG_shp ho
  obtain ⟨tia, tip, hq3⟩ := hti.shp
  obtain ⟨ppa, ppp, hq4⟩ := hpp.shp
  obtain ⟨pta, ptp, hq5⟩ := hpt.shp
  subst hq1; subst hq2; subst hq3; subst hq4; subst hq5
  unfold teV stV paV at *
  obtain ⟨w1, hw1⟩ : ∃ w1, w1 = w.alloc (Obj.cells (teCs t ⟨.slice ga t.g.length gp, .slice oa t.o.length op, .slice tia t.ti.length tip, .slice ppa t.pa.params.length ppp, .slice pta t.pa.text.length ptp⟩) 35) := ⟨_, rfl⟩
  rw [← hw1] at hB hb0
  replace hw1 := (show Hid _ from hw1)
  clear z1 z2 z3 z4 z5 z6 z7
  go_enter Tryz.func22, Tryz.ntmps22
  refine wp_seq_k (fun K hK => ?_)
  have hH := (show Hid _ from hK)
  clear hK
  go_wp2
  refine hH.out _ _ ?_
  rw [← hw1.out]
  clear hH hw1
  go_wp2_with (refine load_te hB (by rfl) _ (by rfl) (by rfl) ?_)
  refine (dS _ (hS.below hb0 hS.lt) (hh.below hb0)).mono ?_
  rintro e w2 ⟨rfl, hb⟩
  have hb1 := hb0.trans (hb.mono hb0.size)
  replace hB := hB.below hb
  clear hb hb0
  cases bZ
  case false =>
    have hv : Hid (rv = false) := by show _ = _; rw [hrv.out]; unfold termOkB; rw [eZ.out]; rfl
    go_wp2
    go_ret
    exact ⟨by rw [hv.out]; rfl, hb1⟩
  obtain ⟨⟨hc1, hc2⟩, ⟨hn1, hn2⟩, _⟩ := (gridOk_iff t.gc t.g).1 (Bool.and_eq_true _ _ ▸ eZ.out).1
  go_wp2_with (refine load_te hB (by rfl) _ (by rfl) (by rfl) ?_)
  refine (dP _ (hh.below hb1) hc1 hc2 hn2).mono ?_
  rintro e w3 ⟨rfl, hb⟩
  have hb2 := hb1.trans (hb.mono hb1.size)
  replace hB := hB.below hb
  clear hb hb1
  cases bQ
  case false =>
    have hv : Hid (rv = false) := by
      show _ = _; rw [hrv.out]; unfold termOkB
      have := eQ.out
      rw [Bool.and_eq_false_iff] at this
      rcases this with this | this <;> (rw [this]; simp)
    go_wp2
    go_ret
    exact ⟨by rw [hv.out]; rfl, hb2⟩
  go_wp2_with (refine load_te hB (by rfl) _ (by rfl) (by rfl) ?_)
  refine (dM _ (hh.below hb2) hn1 hn2).mono ?_
  rintro e w4 ⟨rfl, hb⟩
  have hb3 := hb2.trans (hb.mono hb2.size)
  replace hB := hB.below hb
  clear hb hb2
  obtain ⟨c0, c1, c2, c3, c4, c5, c6, c7, c8, c9, c10, c11, c12, c13, c14, c15, c16, c17, c18, c19, c20, c21, c22, c23, c24, c25, c26, c27, c28, c29⟩ := hB.cells
  cases bM
  case false =>
    have hv : Hid (rv = false) := by show _ = _; rw [hrv.out]; unfold termOkB; rw [eM.out]; simp
    go_wp2
    go_ret
    exact ⟨by rw [hv.out]; rfl, hb3⟩
  go_wp2_with fail
  refine (cS _).mono ?_
  rintro e w5 ⟨rfl, hb⟩
  have hb4 := hb3.trans (hb.mono hb3.size)
  replace hB := hB.below hb
  clear c0 c1 c2 c3 c4 c5 c6 c7 c8 c9 c10 c11 c12 c13 c14 c15 c16 c17 c18 c19 c20 c21 c22 c23 c24 c25 c26 c27 c28 c29
  clear hb hb3
  obtain ⟨c0, c1, c2, c3, c4, c5, c6, c7, c8, c9, c10, c11, c12, c13, c14, c15, c16, c17, c18, c19, c20, c21, c22, c23, c24, c25, c26, c27, c28, c29⟩ := hB.cells
  cases bS
  case false =>
    have hv : Hid (rv = false) := by show _ = _; rw [hrv.out]; unfold termOkB; rw [eS.out]; simp
    go_wp2
    go_ret
    exact ⟨by rw [hv.out]; rfl, hb4⟩
  go_wp2_with fail
  refine (cSs _).mono ?_
  rintro e w6 ⟨rfl, hb⟩
  have hb5 := hb4.trans (hb.mono hb4.size)
  replace hB := hB.below hb
  clear c0 c1 c2 c3 c4 c5 c6 c7 c8 c9 c10 c11 c12 c13 c14 c15 c16 c17 c18 c19 c20 c21 c22 c23 c24 c25 c26 c27 c28 c29
  clear hb hb4
  obtain ⟨c0, c1, c2, c3, c4, c5, c6, c7, c8, c9, c10, c11, c12, c13, c14, c15, c16, c17, c18, c19, c20, c21, c22, c23, c24, c25, c26, c27, c28, c29⟩ := hB.cells
  cases bSs
  case false =>
    have hv : Hid (rv = false) := by show _ = _; rw [hrv.out]; unfold termOkB; rw [eSs.out]; simp
    go_wp2
    go_ret
    exact ⟨by rw [hv.out]; rfl, hb5⟩
  go_wp2_with fail
  refine (cT _ (hti.below hb5).l.sl).mono ?_
  rintro e w7 ⟨rfl, hw⟩
  subst hw
  cases bT
  case false =>
    have hv : Hid (rv = false) := by show _ = _; rw [hrv.out]; unfold termOkB; rw [eT.out]; simp
    go_wp2
    go_ret
    exact ⟨by rw [hv.out]; rfl, hb5⟩
  go_wp2_with fail
  refine (cP _ (hpp.below hb5).l.sl (hpt.below hb5).l.sl).mono ?_
  rintro e w8 ⟨rfl, hb⟩
  have hb6 := hb5.trans (hb.mono hb5.size)
  replace hB := hB.below hb
  clear c0 c1 c2 c3 c4 c5 c6 c7 c8 c9 c10 c11 c12 c13 c14 c15 c16 c17 c18 c19 c20 c21 c22 c23 c24 c25 c26 c27 c28 c29
  clear hb hb5
  obtain ⟨c0, c1, c2, c3, c4, c5, c6, c7, c8, c9, c10, c11, c12, c13, c14, c15, c16, c17, c18, c19, c20, c21, c22, c23, c24, c25, c26, c27, c28, c29⟩ := hB.cells
  cases bP
  case false =>
    have hv : Hid (rv = false) := by show _ = _; rw [hrv.out]; unfold termOkB; rw [eP.out]; simp
    go_wp2
    go_ret
    exact ⟨by rw [hv.out]; rfl, hb6⟩
  go_wp2_with fail
  refine (cF _).mono ?_
  rintro e w9 ⟨rfl, hb⟩
  have hb7 := hb6.trans (hb.mono hb6.size)
  have hv : Hid (rv = bF) := by
    show _ = _; rw [hrv.out]; unfold termOkB
    have := eQ.out
    rw [Bool.and_eq_true] at this
    rw [eZ.out, this.1, this.2, eM.out, eS.out, eSs.out, eT.out, eP.out, eF.out]; simp
  go_wp2
  go_ret
  exact ⟨by rw [hv.out]; rfl, hb7⟩
end Go.Proofs.YtlmnhlfklbgjdaaGreatDoor
namespace Go.Proofs.YtlmnhlfklbgjdaaGreatDoor
open Go.ChangeShapes Go.WideShapes Go.ChangeAt Go.RowKit
theorem BlkC.lt {w : World} {B : Nat} {e : TypeId} {cs : List Value} (h : BlkC w B e cs) : B < w.heap.size := (Array.getElem?_eq_some_iff.1 h).1
theorem BlkC.kept {w w' : World} {B : Nat} {e : TypeId} {cs : List Value} {row : Option Nat} (h : BlkC w B e cs) (hg : w.grownBy w' row) (hne : row ≠ some B) : BlkC w' B e cs := by
  unfold BlkC
  rw [hg.block B h.lt (Ne.symm hne)]
  exact h
theorem BlkC.below {w w' : World} {B : Nat} {e : TypeId} {cs : List Value} (h : BlkC w B e cs) (hb : Below w.heap.size w w') : BlkC w' B e cs := by
  unfold BlkC
  rw [hb.block B h.lt]
  exact h
theorem BlkC.new (w : World) (e : TypeId) (cs : List Value) : BlkC (w.alloc (.cells cs.toArray e)) w.heap.size e cs := heap_alloc_new w _
end Go.Proofs.YtlmnhlfklbgjdaaGreatDoor
namespace Go.Proofs.YtlmnhlfklbgjdaaGreatDoor
open Go.ChangeShapes Go.WideShapes Go.ChangeAt Go.RowKit
theorem rowV_setV {vs : List Value} {j : Nat} (hj : j < vs.length) (r : Value) (i : Nat) : rowV (vs.set j r) i = if i = j then r else rowV vs i := by
  unfold rowV
  by_cases e : i = j
  · subst e; rw [if_pos rfl]; simp [List.getD, hj]
  · rw [if_neg e]; simp [List.getD, Ne.symm e]
/-- The values are moved about: each is one of before or a new one. -/
theorem OwnV.mixed {w w' : World} {base B : Nat} {v : Value} {vs : List Value} {rows : List (List Ce)} (h : OwnV w base B v vs rows) (σ : Nat → Option Nat) (vs' : List Value) (rows' : List (List Ce))
    (hl : vs'.length = rows'.length) (hn : rows'.length = rows.length) (ho : w'.ownsRow base 72 1 v rows.length vs')
    (hkeep : ∀ p, p < rows.length → OwnC w' base (rowV vs p) (rowX rows p))
    (hold : ∀ i p, i < rows.length → σ i = some p → p < rows.length ∧ rowV vs' i = rowV vs p ∧ rowX rows' i = rowX rows p)
    (hinj : ∀ i j p, i < j → j < rows.length → σ i = some p → σ j = some p → False)
    (hnew : ∀ i, i < rows.length → σ i = none → OwnC w' base (rowV vs' i) (rowX rows' i) ∧ ∀ g, (rowV vs' i).ownBlock = some g → B ≤ g)
    (hnd : ∀ i j, i < j → j < rows.length → σ i = none → σ j = none → ∀ g, (rowV vs' i).ownBlock = some g → (rowV vs' j).ownBlock ≠ some g) :
    OwnV w' base w'.heap.size v vs' rows' := by
  have hrow : ∀ i, i < rows.length → OwnC w' base (rowV vs' i) (rowX rows' i) := fun i hi => by
    cases e : σ i with
    | none => exact (hnew i hi e).1
    | some p => obtain ⟨hp, e1, e2⟩ := hold i p hi e; rw [e1, e2]; exact hkeep p hp
  refine ⟨hl, by rw [hn]; exact ho, fun i hi => hrow i (by omega), fun i hi g e => ((hrow i (by omega)).lt g e).2, fun i j hij hj g e1 e2 => ?_⟩
  rw [hn] at hj
  cases ei : σ i with
  | none =>
    cases ej : σ j with
    | none => exact hnd i j hij hj ei ej g e1 e2
    | some q =>
      obtain ⟨hq, eq1, _⟩ := hold j q hj ej
      rw [eq1] at e2
      have := h.2.2.2.1 q hq g e2
      have := (hnew i (by omega) ei).2 g e1
      omega
  | some p =>
    obtain ⟨hp, ep1, _⟩ := hold i p (by omega) ei
    rw [ep1] at e1
    cases ej : σ j with
    | none =>
      have := h.2.2.2.1 p hp g e1
      have := (hnew j hj ej).2 g e2
      omega
    | some q =>
      obtain ⟨hq, eq1, _⟩ := hold j q hj ej
      rw [eq1] at e2
      rcases Nat.lt_trichotomy p q with c | c | c
      · exact h.2.2.2.2 p q c hq g e1 e2
      · subst c; exact hinj i j p hij hj ei ej
      · exact h.2.2.2.2 q p c hp g e2 e1
/-- Values gathered, each one of before or a new row. -/
def Gat (w : World) (base : Nat) (vs : List Value) (X : List Ce) (σ : Nat → Option Nat) (us : List Value) : Prop :=
  (∀ k p, k < us.length → σ k = some p → rowV us k = rowV vs p) ∧ (∀ k, k < us.length → σ k = none → OwnC w base (rowV us k) X) ∧
  (∀ k l, k < l → l < us.length → σ k = none → σ l = none → ∀ g, (rowV us k).ownBlock = some g → (rowV us l).ownBlock ≠ some g)
theorem Gat.nil (w : World) (base : Nat) (vs : List Value) (X : List Ce) (σ : Nat → Option Nat) : Gat w base vs X σ [] :=
  ⟨fun k _ h => absurd h (Nat.not_lt_zero k), fun k h => absurd h (Nat.not_lt_zero k), fun _ l _ h => absurd h (Nat.not_lt_zero l)⟩
theorem Gat.below {w w' : World} {base : Nat} {vs : List Value} {X : List Ce} {σ : Nat → Option Nat} {us : List Value} (h : Gat w base vs X σ us) (hb : Below w.heap.size w w') : Gat w' base vs X σ us :=
  ⟨h.1, fun k hk e => (h.2.1 k hk e).below hb, h.2.2⟩
theorem Gat.kept {w w' : World} {base base2 n : Nat} {v : Value} {ys vs : List Value} {X : List Ce} {σ : Nat → Option Nat} {us : List Value} (h : Gat w base vs X σ us) (ho : w.ownsRow base2 72 1 v n ys) (hg : w.grownBy w' v.ownBlock) : Gat w' base vs X σ us :=
  ⟨h.1, fun k hk e => (h.2.1 k hk e).kept hg (outer_apart ho (h.2.1 k hk e)), h.2.2⟩
theorem Gat.old {w : World} {base : Nat} {vs : List Value} {X : List Ce} {σ : Nat → Option Nat} {us : List Value} (h : Gat w base vs X σ us) (p : Nat) (e : σ us.length = some p) : Gat w base vs X σ (us ++ [rowV vs p]) := by
  refine ⟨fun k q hk e2 => ?_, fun k hk e2 => ?_, fun k l hkl hl e1 e2 => ?_⟩
  · rw [List.length_append, List.length_singleton] at hk
    rw [rowV_snoc]
    by_cases c : k < us.length
    · rw [if_pos c]; exact h.1 k q c e2
    · have : k = us.length := by omega
      subst this
      rw [if_neg c, if_pos rfl]
      rw [e] at e2; cases e2; rfl
  · rw [List.length_append, List.length_singleton] at hk
    rw [rowV_snoc]
    by_cases c : k < us.length
    · rw [if_pos c]; exact h.2.1 k c e2
    · have : k = us.length := by omega
      subst this
      rw [e] at e2; cases e2
  · rw [List.length_append, List.length_singleton] at hl
    have c : l < us.length := by
      apply Nat.lt_of_not_le; intro c
      have : l = us.length := by omega
      subst this
      rw [e] at e2; cases e2
    rw [rowV_snoc, rowV_snoc, if_pos c, if_pos (by omega)]
    exact h.2.2 k l hkl c e1 e2
theorem Gat.new {w w' : World} {base : Nat} {vs : List Value} {X : List Ce} {σ : Nat → Option Nat} {us : List Value} (h : Gat w base vs X σ us) (e : σ us.length = none) (hb : Below w.heap.size w w') (r : Value) (hr : OwnC w' w.heap.size r X) (hbase : base ≤ w.heap.size) : Gat w' base vs X σ (us ++ [r]) := by
  have h2 := h.below hb
  refine ⟨fun k q hk e2 => ?_, fun k hk e2 => ?_, fun k l hkl hl e1 e2 => ?_⟩
  · rw [List.length_append, List.length_singleton] at hk
    rw [rowV_snoc]
    by_cases c : k < us.length
    · rw [if_pos c]; exact h.1 k q c e2
    · have : k = us.length := by omega
      subst this
      rw [e] at e2; cases e2
  · rw [List.length_append, List.length_singleton] at hk
    rw [rowV_snoc]
    by_cases c : k < us.length
    · rw [if_pos c]; exact h2.2.1 k c e2
    · rw [if_neg c, if_pos (by omega)]
      exact hr.low hbase
  · rw [List.length_append, List.length_singleton] at hl
    rw [rowV_snoc, rowV_snoc, if_pos (show k < us.length by omega)]
    by_cases c : l < us.length
    · rw [if_pos c]; exact h.2.2 k l hkl c e1 e2
    · rw [if_neg c, if_pos (by omega)]
      intro g g1 g2
      have := ((h.2.1 k (by omega) e1).lt g g1).2
      have := (hr.lt g g2).1
      omega
theorem OwnC.isSl {w : World} {base : Nat} {v : Value} {xs : List Ce} (h : OwnC w base v xs) : ∃ a n c, v = Value.slice a n c := by
  rcases h.shape with ⟨h, _⟩ | ⟨_, _, h, _⟩ <;> exact ⟨_, _, _, h⟩
end Go.Proofs.YtlmnhlfklbgjdaaGreatDoor
namespace Go.Proofs.YtlmnhlfklbgjdaaGreatDoor
open Go.ChangeShapes Go.WideShapes Go.ChangeAt Go.RowKit
theorem eqStyle_same (s : St) (w : World) :
    Calls Tryz.prog 62 #[stV s, stV s] w fun e w' => e = .returned (.bool true) ∧ Below w.heap.size w w' := by
  obtain ⟨f, b, bo, un, tu⟩ := s
  unfold stV
  simp only
  go_enter Tryz.func62, Tryz.ntmps62
  go_wp2
  go_ret
  exact ⟨rfl, ((Below.refl _ _).alloc (Nat.le_refl _) _).alloc (by simp) _⟩
end Go.Proofs.YtlmnhlfklbgjdaaGreatDoor
namespace Go.Proofs.YtlmnhlfklbgjdaaGreatDoor
open Go.ChangeShapes Go.WideShapes Go.ChangeAt Go.RowKit
def BS (a w : World) : Prop := Below a.heap.size a w ∧ a.heap.size ≤ w.heap.size
theorem BS.out {a w : World} (h : BS a w) : Below a.heap.size a w := h.1
theorem BS.set {a w : World} (h : BS a w) (g k : Nat) (u : Value) (hg : a.heap.size ≤ g) : BS a (w.setCell ⟨g, k, none⟩ u) :=
  ⟨h.1.grown (setCell_gr w g k u) h.2 (fun k hk => by cases hk; exact hg), by simpa using h.2⟩
set_option maxHeartbeats 1000000 in
theorem eqCell_same (c : Ce) (w : World) :
    Calls Tryz.prog 160 #[ceV c, ceV c] w fun e w' => e = .returned (.bool true) ∧ Below w.heap.size w w' := by
  have heq := fun W => eqStyle_same c.st W
  have b1 := bal' w (Obj.cells #[.int .i64 c.rune, .int .i64 c.st.fore, .int .i64 c.st.back, .bool c.st.bold, .bool c.st.under, .bool c.st.turned, .int .i64 c.part] 75)
  have b2 := b1.trans ((bal' _ (Obj.cells #[.int .i64 c.rune, .int .i64 c.st.fore, .int .i64 c.st.back, .bool c.st.bold, .bool c.st.under, .bool c.st.turned, .int .i64 c.part] 75)).mono b1.size)
  have s2 := (CeF.new w c 75).below (bal' _ (Obj.cells #[.int .i64 c.rune, .int .i64 c.st.fore, .int .i64 c.st.back, .bool c.st.bold, .bool c.st.under, .bool c.st.turned, .int .i64 c.part] 75))
  have r2 := CeF.new (w.alloc (Obj.cells #[.int .i64 c.rune, .int .i64 c.st.fore, .int .i64 c.st.back, .bool c.st.bold, .bool c.st.under, .bool c.st.turned, .int .i64 c.part] 75)) c 75
  have z1 : (w.alloc (Obj.cells #[.int .i64 c.rune, .int .i64 c.st.fore, .int .i64 c.st.back, .bool c.st.bold, .bool c.st.under, .bool c.st.turned, .int .i64 c.part] 75)).heap.size = w.heap.size + 1 := by simp
  rw [z1] at r2
  unfold ceV stV at *
  go_enter Tryz.func160, Tryz.ntmps160
  go_wp2_with fail
  refine (heq _).mono ?_
  rintro e w1 ⟨rfl, hb1⟩
  have s3 := s2.below hb1
  have r3 := r2.below hb1
  have b3 := b2.trans (hb1.mono b2.size)
  clear s2 r2 b1 b2 hb1 z1 heq
  obtain ⟨_, ⟨c0, c1, c2, c3, c4, c5, c6⟩, _⟩ := s3
  obtain ⟨_, ⟨d0, d1, d2, d3, d4, d5, d6⟩, _⟩ := r3
  go_wp2
  go_ret
  exact ⟨rfl, b3⟩
end Go.Proofs.YtlmnhlfklbgjdaaGreatDoor
namespace Go.Proofs.YtlmnhlfklbgjdaaGreatDoor
open Go.ChangeShapes Go.WideShapes Go.ChangeAt Go.RowKit
theorem szC_any (v : Value) (xs : List Ce) (left : Nat) (w : World) (hv : SlC w v xs) (hl : xs.length ≤ maxLen) (hf : left ≤ 4611686018427387904) :
    Calls Tryz.prog 131 #[v, .int .i64 left] w fun e w' => e = .returned (.int .i64 (if left < xs.length then -1 else ((left - xs.length : Nat) : Int))) ∧ w' = w := by
  unfold maxLen at hl
  obtain ⟨a, c, rfl, _⟩ := hv
  generalize xs.length = n at *
  by_cases h : left < n
  · have h2 : (left : Int) - (n : Int) < 0 := by omega
    rw [if_pos h]
    go_enter Tryz.func131, Tryz.ntmps131
    go_wp2
    go_ret
    exact ⟨rfl, rfl⟩
  · have h2 : ¬ (left : Int) - (n : Int) < 0 := by omega
    have h3 : Hid (((left - n : Nat) : Int) = (left : Int) - (n : Int)) := by show _ = _; omega
    rw [if_neg h]
    go_enter Tryz.func131, Tryz.ntmps131
    go_wp2
    go_ret
    exact ⟨by rw [h3.out]; rfl, rfl⟩
set_option maxHeartbeats 1000000 in
theorem toCell_any (c : Ce) (w : World) :
    Calls Tryz.prog 159 #[ceV c] w fun e w' => e = .returned (ceV c) ∧ Below w.heap.size w w' := by
  have hto := fun W => toStyle_any c.st W
  have b1 := bal' w (Obj.cells #[.int .i64 c.rune, .int .i64 c.st.fore, .int .i64 c.st.back, .bool c.st.bold, .bool c.st.under, .bool c.st.turned, .int .i64 c.part] 185)
  have b2 := b1.trans ((bal' _ (Obj.cells #[.int .i64 0, .int .i64 0, .int .i64 0, .bool false, .bool false, .bool false, .int .i64 0] 75)).mono b1.size)
  have b3 := b2.trans ((bal' _ (Obj.cells #[.int .i64 c.rune, .int .i64 0, .int .i64 0, .bool false, .bool false, .bool false, .int .i64 0] 75)).mono b2.size)
  have s3 := ((CeF.new w c 185).below (bal' _ (Obj.cells #[.int .i64 0, .int .i64 0, .int .i64 0, .bool false, .bool false, .bool false, .int .i64 0] 75))).below (bal' _ (Obj.cells #[.int .i64 c.rune, .int .i64 0, .int .i64 0, .bool false, .bool false, .bool false, .int .i64 0] 75))
  have r3 := (CeF.new (w.alloc (Obj.cells #[.int .i64 c.rune, .int .i64 c.st.fore, .int .i64 c.st.back, .bool c.st.bold, .bool c.st.under, .bool c.st.turned, .int .i64 c.part] 185)) Ce.zero 75).below (bal' _ (Obj.cells #[.int .i64 c.rune, .int .i64 0, .int .i64 0, .bool false, .bool false, .bool false, .int .i64 0] 75))
  have o3 := CeF.new ((w.alloc (Obj.cells #[.int .i64 c.rune, .int .i64 c.st.fore, .int .i64 c.st.back, .bool c.st.bold, .bool c.st.under, .bool c.st.turned, .int .i64 c.part] 185)).alloc (Obj.cells #[.int .i64 0, .int .i64 0, .int .i64 0, .bool false, .bool false, .bool false, .int .i64 0] 75)) ⟨c.rune, St.zero, 0⟩ 75
  have z1 : (w.alloc (Obj.cells #[.int .i64 c.rune, .int .i64 c.st.fore, .int .i64 c.st.back, .bool c.st.bold, .bool c.st.under, .bool c.st.turned, .int .i64 c.part] 185)).heap.size = w.heap.size + 1 := by simp
  have z2 : ((w.alloc (Obj.cells #[.int .i64 c.rune, .int .i64 c.st.fore, .int .i64 c.st.back, .bool c.st.bold, .bool c.st.under, .bool c.st.turned, .int .i64 c.part] 185)).alloc (Obj.cells #[.int .i64 0, .int .i64 0, .int .i64 0, .bool false, .bool false, .bool false, .int .i64 0] 75)).heap.size = w.heap.size + 1 + 1 := by simp
  rw [z1] at r3
  rw [z2] at o3
  simp only [Ce.zero, St.zero] at r3 o3
  unfold ceV stV at *
  go_enter Tryz.func159, Tryz.ntmps159
  go_wp2_with fail
  refine (hto _).mono ?_
  rintro e w1 ⟨rfl, hb1⟩
  have s4 := s3.below hb1
  have r4 := r3.below hb1
  have o4 := o3.below hb1
  have b4 := b3.trans (hb1.mono b3.size)
  clear s3 r3 o3 b1 b2 b3 hb1 z1 z2 hto
  obtain ⟨_, ⟨c0, c1, c2, c3, c4, c5, c6⟩, _⟩ := s4
  obtain ⟨_, ⟨d0, d1, d2, d3, d4, d5, d6⟩, ⟨x0, x1, x2, x3, x4, x5, x6⟩⟩ := r4
  obtain ⟨_, ⟨e0, e1, e2, e3, e4, e5, e6⟩, ⟨y0, y1, y2, y3, y4, y5, y6⟩⟩ := o4
  go_wp2
  refine bodyPost_ret (v := .agg #[.int .i64 c.rune, .int .i64 c.st.fore, .int .i64 c.st.back, .bool c.st.bold, .bool c.st.under, .bool c.st.turned, .int .i64 c.part]) (by simp [results, Tryz.results159, go_sem, setCell_ne', *]) rfl ⟨rfl, ?_⟩
  clear c0 c1 c2 c3 c4 c5 c6 d0 d1 d2 d3 d4 d5 d6 e0 e1 e2 e3 e4 e5 e6 x0 x1 x2 x3 x4 x5 x6 y0 y1 y2 y3 y4 y5 y6
  have bs : BS w w1 := ⟨b4, b4.size⟩
  refine BS.out ?_
  repeat (first | with_reducible exact bs | with_reducible refine BS.set ?_ _ _ _ (by omega))
end Go.Proofs.YtlmnhlfklbgjdaaGreatDoor
namespace Go.Proofs.YtlmnhlfklbgjdaaGreatDoor
open Go.ChangeShapes Go.WideShapes Go.ChangeAt Go.RowKit
set_option maxHeartbeats 1000000 in
theorem eqC_same (va vb : Value) (xs : List Ce) (w : World) (ha : SlC w va xs) (hb : SlC w vb xs) (hl : xs.length ≤ 1073741824) :
    Calls Tryz.prog 133 #[va, vb] w fun e w' => e = .returned (.bool true) ∧ Below w.heap.size w w' := by
  have heq := fun c W => eqCell_same c W
  obtain ⟨a, c, rfl, hc1, hn1, hr1⟩ := ha
  obtain ⟨a', c', rfl, hc2, hn2, hr2⟩ := hb
  rcases hr1 with h | ⟨b, off, rfl, hbb, hs1⟩
  · subst h
    go_enter Tryz.func133, Tryz.ntmps133
    go_wp2
    refine wp_loop_rounds 1 ?_
    rw [rounds_succ]
    go_wp2
    go_ret
    exact ⟨rfl, Below.refl _ _⟩
  · rcases hr2 with h | ⟨b', off', rfl, hbb', hs2⟩
    · subst h
      go_enter Tryz.func133, Tryz.ntmps133
      go_wp2
      refine wp_loop_rounds 1 ?_
      rw [rounds_succ]
      go_wp2
      go_ret
      exact ⟨rfl, Below.refl _ _⟩
    · unfold ceV at heq
      go_enter Tryz.func133, Tryz.ntmps133
      go_wp2
      go_loopw [5] (fun i wr => ∃ j : Nat, i = .int .i64 j ∧ j ≤ xs.length ∧ Below w.heap.size w wr) (fun i _ => xs.length - (intOf i).toNat)
      case atStart => exact ⟨0, rfl, Nat.zero_le _, Below.refl _ _⟩
      case round =>
        obtain ⟨j, rfl, hj, kb⟩ := hrel
        by_cases hlt : j < xs.length
        · have hji : (j : Int) < (xs.length : Int) := by omega
          have hj0 : (0 : Int) ≤ (j : Int) := by omega
          have kd : Below w.heap.size w wr.drew := kb.trans ((bdr _).mono kb.size)
          have hat1 := (hs1 j hlt).below kd hbb
          have hat2 := (hs2 j hlt).below kd hbb'
          obtain ⟨c0, c1, c2, c3, c4, c5, c6⟩ := hat1
          obtain ⟨d0, d1, d2, d3, d4, d5, d6⟩ := hat2
          clear hs1 hs2 
          go_wp2
          go_region_with (go_at_call 160; refine (heq (atC xs j) _).mono ?_; rintro e w1 ⟨rfl, hb1⟩)
          all_goals
            have kb1 := kd.trans (hb1.mono kd.size)
            clear c0 c1 c2 c3 c4 c5 c6 d0 d1 d2 d3 d4 d5 d6 kd kb hb1 heq
            go_wp2
            go_roundw
            case rel => exact ⟨j + 1, by go_num, by omega, kb1⟩
            case measure => simp [intOf]; omega
        · have hji : ¬ (j : Int) < (xs.length : Int) := by omega
          go_wp2
          go_ret
          exact ⟨rfl, kb⟩
theorem SlC.at {w : World} {a : Option Addr} {n c : Nat} {xs : List Ce} (h : SlC w (.slice a n c) xs) (j : Nat) (hj : j < xs.length) : ∃ b off, a = some ⟨b, off, none⟩ ∧ b < w.heap.size ∧ CeAt w b (off + j * 7) (atC xs j) := by
  obtain ⟨a', c', e, _, _, hr⟩ := h
  simp only [Value.slice.injEq] at e
  obtain ⟨rfl, rfl, rfl⟩ := e
  rcases hr with h | ⟨b, off, ha, hb, hi⟩
  · rw [h] at hj; simp at hj
  · exact ⟨b, off, ha, hb, hi j hj⟩
end Go.Proofs.YtlmnhlfklbgjdaaGreatDoor
namespace Go.Proofs.YtlmnhlfklbgjdaaGreatDoor
theorem Right.two {l : List Ce} (h : Right l) {p : Nat} (h2 : (atC l p).part = 2) : 0 < p ∧ p < l.length ∧ (atC l (p - 1)).part = 1 ∧ (atC l p).st = (atC l (p - 1)).st := by
  have := h.2.2 p h2
  have h3 := (h.2.1 (p - 1) this.2).2
  rw [show p - 1 + 1 = p by omega] at h3
  exact ⟨this.1, part_lt (by rw [h2]; decide), this.2, h3⟩
end Go.Proofs.YtlmnhlfklbgjdaaGreatDoor
namespace Go.Proofs.YtlmnhlfklbgjdaaGreatDoor
open Go.ChangeShapes Go.WideShapes Go.ChangeAt Go.RowKit
theorem OwnC.cur {w : World} {base g n cap : Nat} {L : List Ce} (h : OwnC w base (.slice (some ⟨g, 0, none⟩) n cap) L) (hn : L.length = n) :
    ∃ cur : Array Value, w.heap[g]? = some (.cells cur 75 (0, 0)) ∧ base ≤ g ∧ n ≤ cap ∧ cap ≤ maxLen ∧ cur.size = cap * 7 ∧ cur.toList.take (n * 7) = L.flatMap ceL := by
  subst hn
  rcases h.2 with ⟨h1, _⟩ | ⟨g', cap', cur, hv, hb, hg, hc, hm, hs, ht⟩
  · cases h1
  · simp only [Value.slice.injEq, Option.some.injEq, Addr.mk.injEq, and_true, true_and] at hv
    obtain ⟨rfl, rfl⟩ := hv
    exact ⟨cur, hg, hb, hc, hm, hs, ht⟩
/-- 'make([]Cell, n)'. -/
theorem made_zero (n : Nat) : (madeCells (ceV Ce.zero).cells (n * 7)).toList = (List.replicate n Ce.zero).flatMap ceL := by
  apply List.ext_getElem?
  intro i
  by_cases hi : i < n * 7
  · have h1 : i / 7 < n := by omega
    have h2 : i % 7 < 7 := Nat.mod_lt _ (by decide)
    have e : i = i / 7 * 7 + i % 7 := by omega
    have hr : ((List.replicate n Ce.zero).flatMap ceL)[i]? = (ceL Ce.zero)[i % 7]? := by
      conv => lhs; rw [e]
      rw [flat_get _ (i / 7) (i % 7) (by simpa using h1) h2]
      simp [atC, h1]
    rw [hr]
    simp only [madeCells, Array.toList_map, List.getElem?_map, Array.toList_range]
    rw [List.getElem?_range hi]
    generalize he : i % 7 = k at *
    have hz : (ceV Ce.zero).cells.size = 7 := rfl
    simp only [Option.map_some, hz, he]
    match k, h2 with
    | 0, _ => rfl
    | 1, _ => rfl
    | 2, _ => rfl
    | 3, _ => rfl
    | 4, _ => rfl
    | 5, _ => rfl
    | 6, _ => rfl
  · rw [List.getElem?_eq_none (by simp [size_madeCells]; omega), List.getElem?_eq_none (by rw [flat_len]; simp; omega)]
theorem make_oc {w : World} {ops : Array Oper} {rest : List Oper} {o : Oper} {ac : Act} {Q : Exit → Act → World → Prop} (hgd : o.guard = none) (x y : Operand)
    (ho : o.op = Op.makeSlice 72 x y) (n : Nat) (hx : ac.eval x = .int .i64 (n : Int)) (hy : ac.eval y = .int .i64 (n : Int)) (hn : n ≤ 1073741824)
    (h : ∀ w', OwnC w' w.heap.size (.slice (some ⟨w.heap.size, 0, none⟩) n n) (List.replicate n Ce.zero) → Below w.heap.size w w' → wpList Tryz.prog ops Q rest (ac.put o.dst (.slice (some ⟨w.heap.size, 0, none⟩) n n)) w') :
    wpList Tryz.prog ops Q (o :: rest) ac w := by
  obtain ⟨i0, hi, hz0, hz1, hz2⟩ := info_parts info_cell
  refine wpList_make_full _ hgd x y 72 ho w.heap.size 75 i0 (ceV Ce.zero) 7 Tryz.underlying72 hi hz0 hz1 .i64 .i64 (n : Int) (n : Int) n hx hy rfl rfl (by rw [hz2]; omega) (by unfold maxLen; omega) (Nat.le_refl _) (fun w' ho' hg => ?_)
  refine h w' ?_ ((Below.refl _ _).grown hg (Nat.le_refl _) (fun k hk => by cases hk))
  rw [made_zero] at ho'
  unfold OwnC
  rw [List.length_replicate]
  exact ho'
theorem ownC_none (w : World) (base : Nat) : OwnC w base (.slice none 0 0) [] := ⟨rfl, .inl ⟨rfl, rfl⟩⟩
end Go.Proofs.YtlmnhlfklbgjdaaGreatDoor
namespace Go.Proofs.YtlmnhlfklbgjdaaGreatDoor
open Go.ChangeShapes Go.WideShapes Go.ChangeAt Go.RowKit
set_option maxHeartbeats 2000000 in
theorem toCS_copy (v : Value) (xs : List Ce) (w : World) (hv : SlC w v xs) (hl : xs.length ≤ 1073741824) :
    Calls Tryz.prog 132 #[v] w fun e w' => ∃ u, e = .returned u ∧ OwnC w' w.heap.size u xs ∧ Below w.heap.size w w' := by
  have hto := fun c W => toCell_any c W
  unfold ceV at hto
  obtain ⟨a, c, rfl, hc0⟩ := id hv
  clear hc0
  go_enter Tryz.func132, Tryz.ntmps132
  go_wp2_with (refine make_oc rfl _ _ rfl xs.length rfl rfl hl ?_; intro w1 ho1 hb1)
  go_wp2
  go_loopw [4] (fun i wr => ∃ (j : Nat) (ys : List Ce), i = .int .i64 j ∧ j ≤ xs.length ∧ ys.length = xs.length ∧ (∀ t, t < j → atC ys t = atC xs t) ∧ OC w.heap.size (.slice (some ⟨w.heap.size, 0, none⟩) xs.length xs.length) ys w wr) (fun i _ => xs.length - (intOf i).toNat)
  case atStart => exact ⟨0, _, rfl, Nat.zero_le _, List.length_replicate, (fun t h => absurd h (Nat.not_lt_zero t)), ho1, hb1, hb1.size, Nat.le_refl _⟩
  case round =>
    clear ho1 hb1
    obtain ⟨j, ys, rfl, hj, hyl, hys, k⟩ := hrel
    by_cases hlt : j < xs.length
    · have hji : (j : Int) < (xs.length : Int) := by omega
      have hj0 : (0 : Int) ≤ (j : Int) := by omega
      obtain ⟨b, off, rfl, hbb, hat⟩ := (hv.below k.2.1).at j hlt
      obtain ⟨c0, c1, c2, c3, c4, c5, c6⟩ := hat
      go_wp2_with fail
      refine (hto (atC xs j) _).mono ?_
      rintro e w2 ⟨rfl, hb2⟩
      have k2 := k.below hb2
      have hp := k2.1.put hyl j hlt (atC xs j)
      have kk : OC w.heap.size (.slice (some ⟨w.heap.size, 0, none⟩) xs.length xs.length) (ys.set j (atC xs j)) w (putCe w2 w.heap.size (j * 7) (atC xs j)) := k2.own hp.1 hp.2
      have hys2 : ∀ t, t < j + 1 → atC (ys.set j (atC xs j)) t = atC xs t := by
        intro t ht
        rw [atC_set]
        by_cases e : t = j
        · subst e; rw [if_pos ⟨rfl, by omega⟩]
        · rw [if_neg (fun h => e h.1)]; exact hys t (by omega)
      have hyl2 : (ys.set j (atC xs j)).length = xs.length := by simpa using hyl
      have hat := k2.1.at hyl j hlt
      have f0 := k2.1.frozen hyl (j * 7)
      have f1 := k2.1.frozen hyl (j * 7 + 1)
      have f2 := k2.1.frozen hyl (j * 7 + 2)
      have f3 := k2.1.frozen hyl (j * 7 + 3)
      have f4 := k2.1.frozen hyl (j * 7 + 4)
      have f5 := k2.1.frozen hyl (j * 7 + 5)
      have f6 := k2.1.frozen hyl (j * 7 + 6)
      clear hp k hb2 hto hys c0 c1 c2 c3 c4 c5 c6 k2 hv hyl
      generalize ys.set j (atC xs j) = ys2 at *
      obtain ⟨c0, c1, c2, c3, c4, c5, c6⟩ := hat
      simp only [putCe] at kk
      go_wp2
      go_roundw
      case rel => exact ⟨j + 1, ys2, by go_num, by omega, hyl2, hys2, kk⟩
      case measure => simp [intOf]; omega
    · have hjn : j = xs.length := by omega
      have hji : ¬ (j : Int) < (xs.length : Int) := by omega
      have hye : ys = xs := ext_atC _ _ hyl (fun i hi => hys i (by omega))
      subst hye
      clear hys hyl hv hto
      go_wp2
      go_ret
      exact ⟨_, rfl, k.1, k.2.1⟩
end Go.Proofs.YtlmnhlfklbgjdaaGreatDoor
namespace Go.Proofs.YtlmnhlfklbgjdaaGreatDoor
open Go.ChangeShapes Go.WideShapes Go.ChangeAt Go.RowKit
theorem rowV_set {vs : List Value} {i : Nat} (hi : i < vs.length) (r : Value) (k : Nat) : rowV (vs.set i r) k = if k = i then r else rowV vs k := by
  unfold rowV
  by_cases e : k = i
  · subst e; rw [if_pos rfl]; simp [List.getD, hi]
  · rw [if_neg e]; simp [List.getD, Ne.symm e]
theorem rowX_set {rows : List (List Ce)} {i : Nat} (hi : i < rows.length) (x : List Ce) (k : Nat) : rowX (rows.set i x) k = if k = i then x else rowX rows k := by
  unfold rowX
  by_cases e : k = i
  · subst e; rw [if_pos rfl]; simp [List.getD, hi]
  · rw [if_neg e]; simp [List.getD, Ne.symm e]
/-- One row is written anew. -/
theorem OwnG.set {w : World} {base B g n cap : Nat} {rows : List (List Ce)} (h : OwnG w base B (.slice (some ⟨g, 0, none⟩) n cap) rows) (hn : rows.length = n) (i : Nat) (hi : i < n) (r : Value) (xs : List Ce) (hr : OwnC w base r xs) (hB : ∀ q, r.ownBlock = some q → B ≤ q) :
    OwnG (w.setCell ⟨g, i, none⟩ r) base (w.setCell ⟨g, i, none⟩ r).heap.size (.slice (some ⟨g, 0, none⟩) n cap) (rows.set i xs) ∧ w.grownBy (w.setCell ⟨g, i, none⟩ r) (some g) := by
  subst hn
  obtain ⟨vs, hvl, hown, hrs, hlt, hd⟩ := h
  have h0 := World.ownsRow.stored hown i r
  have hap : ∀ {u : Value} {ys : List Ce}, OwnC w base u ys → OwnC (w.setCell ⟨g, i, none⟩ r) base u ys := fun hu => hu.kept h0.2 (outer_apart hown hu)
  have hs2 := h0.2.size
  refine ⟨⟨vs.set i r, by simp [hvl], by rw [List.length_set]; exact h0.1, fun k hk => ?_, fun k hk q e => ?_, fun a b hab hb q e => ?_⟩, h0.2⟩
  · rw [List.length_set] at hk
    rw [rowV_set (by omega), rowX_set hi]
    by_cases e : k = i
    · rw [if_pos e, if_pos e]; exact hap hr
    · rw [if_neg e, if_neg e]; exact hap (hrs k hk)
  · rw [List.length_set] at hk
    rw [rowV_set (by omega)] at e
    by_cases c : k = i
    · rw [if_pos c] at e; have := (hr.lt q e).2; omega
    · rw [if_neg c] at e; have := ((hrs k hk).lt q e).2; omega
  · rw [List.length_set] at hb
    rw [rowV_set (by omega)] at e
    rw [rowV_set (by omega)]
    by_cases c : a = i
    · rw [if_pos c] at e
      rw [if_neg (by omega)]
      intro e2
      have := hlt b hb q e2
      have := hB q e
      omega
    · rw [if_neg c] at e
      by_cases c2 : b = i
      · rw [if_pos c2]
        intro e2
        have := hlt a (by omega) q e
        have := hB q e2
        omega
      · rw [if_neg c2]; exact hd a b hab hb q e
theorem made_none (n : Nat) : (madeCells (Value.slice none 0 0).cells (n * 1)).toList = List.replicate n (Value.slice none 0 0) := by
  apply List.ext_getElem?
  intro i
  by_cases hi : i < n
  · simp [madeCells, Value.cells, hi, Nat.mod_one]
  · simp [madeCells, Value.cells, hi]
theorem make_og {w : World} {ops : Array Oper} {rest : List Oper} {o : Oper} {ac : Act} {Q : Exit → Act → World → Prop} (hgd : o.guard = none) (x y : Operand)
    (ho : o.op = Op.makeSlice 24 x y) (n : Nat) (hx : ac.eval x = .int .i64 (n : Int)) (hy : ac.eval y = .int .i64 (n : Int)) (hn : n ≤ 1073741824)
    (h : ∀ w', OwnG w' w.heap.size w'.heap.size (.slice (some ⟨w.heap.size, 0, none⟩) n n) (List.replicate n []) → Below w.heap.size w w' → wpList Tryz.prog ops Q rest (ac.put o.dst (.slice (some ⟨w.heap.size, 0, none⟩) n n)) w') :
    wpList Tryz.prog ops Q (o :: rest) ac w := by
  obtain ⟨i0, hi, hz0, hz1, hz2⟩ := info_parts info_row
  refine wpList_make_full _ hgd x y 24 ho w.heap.size 72 i0 (.slice none 0 0) 1 under_rows hi hz0 hz1 .i64 .i64 (n : Int) (n : Int) n hx hy rfl rfl (by rw [hz2]; omega) (by unfold maxLen; omega) (Nat.le_refl _) (fun w' ho' hg => ?_)
  rw [made_none] at ho'
  have hv : ∀ i, rowV (List.replicate n (Value.slice none 0 0)) i = .slice none 0 0 := fun i => by
    unfold rowV; by_cases hi : i < n <;> simp [List.getD, hi]
  have hr : ∀ i, rowX (List.replicate n ([] : List Ce)) i = [] := fun i => by
    unfold rowX; by_cases hi : i < n <;> simp [List.getD, hi]
  have hG : OwnG w' w.heap.size w'.heap.size (.slice (some ⟨w.heap.size, 0, none⟩) n n) (List.replicate n []) :=
    ⟨List.replicate n (.slice none 0 0), by simp, by rw [List.length_replicate]; exact ho', fun i _ => by rw [hv, hr]; exact ownC_none _ _, (fun i _ g e => by rw [hv] at e; cases e), (fun i j _ _ g e => by rw [hv] at e; cases e)⟩
  exact h w' hG ((Below.refl _ _).grown hg (Nat.le_refl _) (fun k hk => by cases hk))
end Go.Proofs.YtlmnhlfklbgjdaaGreatDoor
namespace Go.Proofs.YtlmnhlfklbgjdaaGreatDoor
open Go.ChangeShapes Go.WideShapes Go.ChangeAt Go.RowKit
set_option maxHeartbeats 2000000 in
theorem toCSS_copy (v : Value) (rows : List (List Ce)) (w : World) (hv : SlG w v rows) (hl : rows.length ≤ 1073741824) (hx : ∀ i, i < rows.length → (rowX rows i).length ≤ 1073741824) :
    Calls Tryz.prog 100 #[v] w fun e w' => ∃ u, e = .returned u ∧ OwnG w' w.heap.size w'.heap.size u rows ∧ Below w.heap.size w w' := by
  obtain ⟨a, c, vs, rfl, hcp, _, hr, hs⟩ := id hv
  go_enter Tryz.func100, Tryz.ntmps100
  go_wp2_with (refine make_og rfl _ _ rfl rows.length rfl rfl hl ?_; intro w1 ho1 hb1)
  go_wp2
  go_loopw [4] (fun i wr => ∃ (j : Nat) (R : List (List Ce)), i = .int .i64 j ∧ j ≤ rows.length ∧ R.length = rows.length ∧ (∀ t, t < j → rowX R t = rowX rows t) ∧ OwnG wr w.heap.size wr.heap.size (.slice (some ⟨w.heap.size, 0, none⟩) rows.length rows.length) R ∧ Below w.heap.size w wr) (fun i _ => rows.length - (intOf i).toNat)
  case atStart => exact ⟨0, _, rfl, Nat.zero_le _, List.length_replicate, (fun t h => absurd h (Nat.not_lt_zero t)), ho1, hb1⟩
  case round =>
    clear ho1 hb1
    obtain ⟨j, R, rfl, hj, hRl, hR, k, kb⟩ := hrel
    by_cases hlt : j < rows.length
    · have hji : (j : Int) < (rows.length : Int) := by omega
      have hj0 : (0 : Int) ≤ (j : Int) := by omega
      rcases hr with h | ⟨b, off, rfl, hbb, hrc⟩
      · rw [h] at hlt; simp at hlt
      have hsj := (hs j hlt).below kb
      have hcj := (kb.cell (p := ⟨b, off + j, none⟩) hbb).trans (hrc j hlt)
      obtain ⟨aj, cj, ev, _⟩ := id hsj
      rw [ev] at hcj hsj
      have hto := toCS_copy _ _ wr hsj (hx j hlt)
      clear hs hrc ev hsj hv
      go_wp2_with fail
      refine hto.mono ?_
      rintro e w2 ⟨r, rfl, hor, hb2⟩
      have hk2 := (k.below hb2).set hRl j hlt r _ (hor.low kb.size) (fun q e => (hor.lt q e).1)
      have hw0 : ∃ cur, w2.cell? ⟨w.heap.size, j, none⟩ = some cur := by
        obtain ⟨vs2, hvl2, hown2, _⟩ := k.below hb2
        rw [hRl] at hown2
        exact ⟨_, by rw [World.ownsRow.cellAt hown2 j (by omega), rowV_get (by omega)]⟩
      have hfz : w2.frozen? ⟨w.heap.size, j, none⟩ = false := by
        obtain ⟨vs2, hvl2, hown2, _⟩ := k.below hb2
        rw [hRl] at hown2
        exact World.ownsRow.frozenAt hown2 j
      have kb3 := (kb.trans (hb2.mono kb.size)).grown hk2.2 (by have := kb.size; have := hb2.size; omega) (fun g e => by cases e; exact Nat.le_refl _)
      have hR2 : ∀ t, t < j + 1 → rowX (R.set j (rowX rows j)) t = rowX rows t := fun t ht => by
        rw [rowX_set (by omega)]
        by_cases e : t = j
        · rw [if_pos e, e]
        · rw [if_neg e]; exact hR t (by omega)
      have hRl2 : (R.set j (rowX rows j)).length = rows.length := by simpa using hRl
      have kk := hk2.1
      obtain ⟨cur, hcur⟩ := hw0
      obtain ⟨ra, rn, rc, rfl⟩ : ∃ a n c, r = Value.slice a n c := by rcases hor.shape with ⟨h, _⟩ | ⟨_, _, h, _⟩ <;> exact ⟨_, _, _, h⟩
      clear k kb hor hb2 hto hk2 hR hRl hcj
      generalize R.set j (rowX rows j) = R2 at *
      go_wp2
      go_roundw
      case rel => exact ⟨j + 1, R2, by go_num, by omega, hRl2, hR2, kk, kb3⟩
      case measure => simp [intOf]; omega
    · have hjn : j = rows.length := by omega
      have hji : ¬ (j : Int) < (rows.length : Int) := by omega
      have hye : R = rows := by
        apply List.ext_getElem hRl
        intro i h1 h2
        rw [← rowX_lt h1, ← rowX_lt h2]
        exact hR i (by omega)
      subst hye
      clear hs hr hR hv
      go_wp2
      go_ret
      exact ⟨_, rfl, k, kb⟩
end Go.Proofs.YtlmnhlfklbgjdaaGreatDoor
namespace Go.Proofs.YtlmnhlfklbgjdaaGreatDoor
open Go.ChangeShapes Go.WideShapes Go.ChangeAt Go.RowKit
/-- A new grid that grows beside the result's block. -/
def NG (M B : Nat) (cols : Int) (u : Value) (rows : List (List Ce)) (w0 W : World) : Prop :=
  GrW W M 0 (.slice none 0 0) ∧ GrW W (M + 1) cols u ∧ OwnG W (M + 2) B u rows ∧ M + 2 ≤ W.heap.size ∧ B ≤ W.heap.size ∧ Below M w0 W
theorem NG.below {M B : Nat} {cols : Int} {u : Value} {rows : List (List Ce)} {w0 W W' : World} (k : NG M B cols u rows w0 W) (hb : Below W.heap.size W W') : NG M B cols u rows w0 W' :=
  ⟨k.1.below hb, k.2.1.below hb, k.2.2.1.below hb, Nat.le_trans k.2.2.2.1 hb.size, Nat.le_trans k.2.2.2.2.1 hb.size, k.2.2.2.2.2.trans (hb.mono (by have := k.2.2.2.1; omega))⟩
theorem NG.drew {M B : Nat} {cols : Int} {u : Value} {rows : List (List Ce)} {w0 W : World} (k : NG M B cols u rows w0 W) : NG M B cols u rows w0 W.drew := k.below (bdr W)
theorem NG.more {M B : Nat} {cols : Int} {u v' : Value} {rows rows' : List (List Ce)} {w0 W W' : World} (k : NG M B cols u rows w0 W) (ho : OwnG W' (M + 2) W'.heap.size v' rows') (hg : W.grownBy W' u.ownBlock) :
    GrW W' M 0 (.slice none 0 0) ∧ GrW W' (M + 1) cols u ∧ OwnG W' (M + 2) W'.heap.size v' rows' ∧ M + 2 ≤ W'.heap.size ∧ W'.heap.size ≤ W'.heap.size ∧ Below M w0 W' := by
  have hne : ∀ g, u.ownBlock = some g → M + 2 ≤ g := fun g e => (k.2.2.1.lt g e).1
  refine ⟨k.1.grown hg (fun e => by have := hne _ e; omega), k.2.1.grown hg (fun e => by have := hne _ e; omega), ho, Nat.le_trans k.2.2.2.1 hg.size, Nat.le_refl _, ?_⟩
  exact k.2.2.2.2.2.grown hg (by have := k.2.2.2.1; omega) (fun g e => by have := hne g e; omega)
/-- What NewGrid gives. -/
def newOk (cols n : Int) : Prop := (1 ≤ cols ∧ cols ≤ 60) ∧ (1 ≤ n ∧ n ≤ 30)
instance (cols n : Int) : Decidable (newOk cols n) := by unfold newOk; exact inferInstance
end Go.Proofs.YtlmnhlfklbgjdaaGreatDoor
namespace Go.Proofs.YtlmnhlfklbgjdaaGreatDoor
open Go.ChangeShapes Go.WideShapes Go.ChangeAt Go.RowKit
set_option maxHeartbeats 2000000 in
theorem toGrid_copy (cols : Int) (v : Value) (rows : List (List Ce)) (w : World) (hv : SlG w v rows) (hl : rows.length ≤ 1073741824) (hx : ∀ i, i < rows.length → (rowX rows i).length ≤ 1073741824) :
    Calls Tryz.prog 56 #[gridV cols v] w fun e w' => ∃ u, e = .returned (gridV cols u) ∧ OwnG w' w.heap.size w'.heap.size u rows ∧ Below w.heap.size w w' := by
  have hto := fun W h => toCSS_copy v rows W h hl hx
  have hG0 := GrN.new w cols v 49
  have hb0 := bal' w (Obj.cells #[.int .i64 cols, v] 49)
  have e0 : (w.alloc (Obj.cells #[.int .i64 cols, v] 49)).heap.size = w.heap.size + 1 := by simp
  have hvv := hv
  obtain ⟨a, c, vs, rfl, _⟩ := id hv
  have hv1 := hvv.below hb0
  unfold gridV
  generalize hw1 : w.alloc (Obj.cells #[.int .i64 cols, .slice a rows.length c] 49) = w1 at *
  have hR := GrW.new w1 0 (.slice none 0 0) 26
  have hb1 := bal' w1 (Obj.cells #[Value.int IntKind.i64 0, Value.slice none 0 0] 26)
  have e1 : (w1.alloc (Obj.cells #[Value.int IntKind.i64 0, Value.slice none 0 0] 26)).heap.size = w.heap.size + 2 := by simp; omega
  have hO := GrW.new (w1.alloc (Obj.cells #[Value.int IntKind.i64 0, Value.slice none 0 0] 26)) cols (.slice none 0 0) 26
  have hb2 := bal' (w1.alloc (Obj.cells #[Value.int IntKind.i64 0, Value.slice none 0 0] 26)) (Obj.cells #[Value.int IntKind.i64 cols, Value.slice none 0 0] 26)
  rw [e1] at hO
  rw [e0] at hR
  have hR2 := hR.below hb2
  have hbb := hb1.trans (hb2.mono hb1.size)
  have hv2 := hv1.below hbb
  have e3 : ((w1.alloc (Obj.cells #[Value.int IntKind.i64 0, Value.slice none 0 0] 26)).alloc (Obj.cells #[Value.int IntKind.i64 cols, Value.slice none 0 0] 26)).heap.size = w.heap.size + 3 := by simp; omega
  subst hw1
  obtain ⟨_, g0, g1⟩ := id hG0
  go_enter Tryz.func56, Tryz.ntmps56
  go_wp2_with fail
  refine (hto _ hv2).mono ?_
  rintro e w4 ⟨u, rfl, hou, hb4⟩
  have hR4 := hR2.below hb4
  have hO4 := hO.below hb4
  obtain ⟨ua, un, uc, rfl⟩ : ∃ a n c, u = Value.slice a n c := by rcases hou.shape with ⟨h, _⟩ | ⟨_, _, h, _⟩ <;> exact ⟨_, _, _, h⟩
  have hs4 := hb4.size
  rw [e3] at hou hs4
  have hg5 := putG_grown w4 (w.heap.size + 2) (.slice ua un uc)
  have hO5 := hO4.put (.slice ua un uc)
  have hR5 := hR4.grown hg5 (fun e => by simp at e)
  have ho5 := (hou.kept hg5 (fun g e => by cases e; omega)).up hg5.size
  have hbase := hb0.trans ((hbb.trans (hb4.mono hbb.size)).mono hb0.size)
  have hb5 := hbase.grown hg5 (by omega) (fun g e => by cases e; omega)
  have hs5 := hg5.size
  have hg6 := putG2_grown (putG w4 (w.heap.size + 2) (.slice ua un uc)) (w.heap.size + 1) cols (.slice ua un uc)
  have kF := (hR5.put2 cols (.slice ua un uc)).2.1
  have ho6 := (ho5.kept hg6 (fun g e => by cases e; omega)).up hg6.size
  have hb6 := hb5.grown hg6 (by omega) (fun g e => by cases e; omega)
  clear hG0 hb0 e0 hR hb1 e1 hO hb2 hR2 hbb hv1 hv2 hvv hto e3 hbase hb4 hs4 hs5 hg5 hg6 hb5 ho5 hou g0 g1
  obtain ⟨_, ⟨d0, d1⟩, ⟨y0, y1⟩⟩ := hR4
  obtain ⟨_, ⟨c0, c1⟩, ⟨z0, z1⟩⟩ := hO4
  obtain ⟨_, ⟨p0, p1⟩, ⟨q0, q1⟩⟩ := hO5
  obtain ⟨_, ⟨r0, r1⟩, ⟨s0, s1⟩⟩ := hR5
  obtain ⟨f0, f1⟩ := kF
  simp only [putG, putG2] at f0 f1 ho6 hb6 p0 p1 q0 q1 r0 r1 s0 s1
  go_wp2
  exact bodyPost_ret (v := .agg #[.int .i64 cols, .slice ua un uc]) (by simp [results, Tryz.results56, go_sem, f0, f1]) rfl ⟨_, rfl, ho6.low (by omega), hb6⟩
end Go.Proofs.YtlmnhlfklbgjdaaGreatDoor
namespace Go.Proofs.YtlmnhlfklbgjdaaGreatDoor
open Go.ChangeShapes Go.WideShapes Go.ChangeAt Go.RowKit
/-- What is left of a size behind the first rows. -/
def leftG (rows : List (List Ce)) (left : Nat) : Nat → Option Nat
  | 0 => if left < rows.length then none else some (left - rows.length)
  | j + 1 => match leftG rows left j with
    | none => none
    | some m => if m < (rowX rows j).length then none else some (m - (rowX rows j).length)
def szG (rows : List (List Ce)) (left : Nat) : Int := match leftG rows left rows.length with | none => -1 | some m => m
theorem leftG_none {rows : List (List Ce)} {left j : Nat} (h : leftG rows left j = none) : ∀ k, j ≤ k → leftG rows left k = none
  | 0, hk => by have : j = 0 := by omega
                subst this; exact h
  | k + 1, hk => by
    by_cases e : j = k + 1
    · subst e; exact h
    · have := leftG_none h k (by omega)
      rw [leftG, this]
theorem leftG_le {rows : List (List Ce)} {left : Nat} : ∀ {j m : Nat}, leftG rows left j = some m → m ≤ left ∧ rows.length ≤ left ∧ ∀ i, i < j → (rowX rows i).length ≤ left
  | 0, m, h => by
    rw [leftG] at h
    split at h
    · cases h
    · cases h; exact ⟨by omega, by omega, fun i hi => absurd hi (Nat.not_lt_zero i)⟩
  | j + 1, m, h => by
    rw [leftG] at h
    split at h
    · cases h
    · rename_i q hq
      split at h
      · cases h
      · cases h
        obtain ⟨h1, h2, h3⟩ := leftG_le hq
        refine ⟨by omega, h2, fun i hi => ?_⟩
        by_cases e : i = j
        · subst e; omega
        · exact h3 i (by omega)
set_option maxHeartbeats 2000000 in
theorem szCSS_any (v : Value) (rows : List (List Ce)) (left : Nat) (w : World) (hv : SlG w v rows) (hl : rows.length ≤ maxLen) (hx : ∀ i, i < rows.length → (rowX rows i).length ≤ maxLen) (hf : left ≤ 4611686018427387904) :
    Calls Tryz.prog 99 #[v, .int .i64 left] w fun e w' => e = .returned (.int .i64 (szG rows left)) ∧ w' = w := by
  unfold maxLen at hl
  obtain ⟨a, c, vs, rfl, hcp, _, hr, hs⟩ := id hv
  by_cases h : left < rows.length
  · have h2 : (left : Int) - (rows.length : Int) < 0 := by omega
    have hz : Hid (szG rows left = -1) := by show _ = _; unfold szG; rw [leftG_none (j := 0) (by rw [leftG, if_pos h]) _ (Nat.zero_le _)]
    clear hs hr
    go_enter Tryz.func99, Tryz.ntmps99
    go_wp2
    go_ret
    exact ⟨by rw [hz.out]; rfl, rfl⟩
  · have h2 : ¬ (left : Int) - (rows.length : Int) < 0 := by omega
    have h3 : Hid (leftG rows left 0 = some (left - rows.length)) := by show _ = _; rw [leftG, if_neg h]
    have h4 : Hid ((left : Int) - (rows.length : Int) = ((left - rows.length : Nat) : Int)) := by show _ = _; omega
    go_enter Tryz.func99, Tryz.ntmps99
    go_wp2
    go_loopw [1, 5] (fun u i wr => ∃ j m : Nat, i = .int .i64 j ∧ u = .int .i64 m ∧ j ≤ rows.length ∧ Hid (leftG rows left j = some m) ∧ wr = w) (fun _ i _ => rows.length - (intOf i).toNat)
    case atStart => exact ⟨0, left - rows.length, rfl, by rw [← h4.out], Nat.zero_le _, h3, rfl⟩
    case round =>
      clear h3 h4 h2 h
      obtain ⟨j, m, rfl, rfl, hj, hm, hw⟩ := hrel
      subst hw
      by_cases hlt : j < rows.length
      · have hji : (j : Int) < (rows.length : Int) := by omega
        have hj0 : (0 : Int) ≤ (j : Int) := by omega
        rcases hr with h | ⟨b, off, rfl, hbb, hrc⟩
        · rw [h] at hlt; simp at hlt
        have hsj := hs j hlt
        have hcj := hrc j hlt
        obtain ⟨aj, cj, ev, _⟩ := id hsj
        rw [ev] at hcj hsj
        have hsz := szC_any _ _ m wr hsj (hx j hlt) (by have := (leftG_le hm.out).1; omega)
        clear hs hrc ev hsj hv
        by_cases h5 : m < (rowX rows j).length
        · have hz : Hid (szG rows left = -1) := by show _ = _; unfold szG; rw [leftG_none (j := j + 1) (by rw [leftG, hm.out]; simp [h5]) _ hlt]
          rw [if_pos h5] at hsz
          go_wp2_with fail
          refine hsz.mono ?_
          rintro e w2 ⟨rfl, hw2⟩
          subst hw2
          go_wp2
          go_ret
          exact ⟨by rw [hz.out]; rfl, rfl⟩
        · have hm2 : Hid (leftG rows left (j + 1) = some (m - (rowX rows j).length)) := by show _ = _; rw [leftG, hm.out]; simp [h5]
          have h6 : ¬ (((m - (rowX rows j).length : Nat) : Int) < 0) := by omega
          rw [if_neg h5] at hsz
          generalize m - (rowX rows j).length = m2 at *
          go_wp2_with fail
          refine hsz.mono ?_
          rintro e w2 ⟨rfl, hw2⟩
          subst hw2
          go_wp2
          go_roundw
          case rel => exact ⟨j + 1, m2, by go_num, rfl, by omega, hm2, trivial⟩
          case measure => simp [intOf]; omega
      · have hjn : j = rows.length := by omega
        have hji : ¬ (j : Int) < (rows.length : Int) := by omega
        subst hjn
        have hz : Hid (szG rows left = (m : Int)) := by show _ = _; unfold szG; rw [hm.out]
        clear hs hr hv
        go_wp2
        go_ret
        exact ⟨by rw [hz.out]; rfl, rfl⟩
set_option maxHeartbeats 1000000 in
theorem szGrid_any (cols : Int) (v : Value) (rows : List (List Ce)) (left : Nat) (w : World) (hv : SlG w v rows) (hl : rows.length ≤ maxLen) (hx : ∀ i, i < rows.length → (rowX rows i).length ≤ maxLen) (hf : left ≤ 4611686018427387904) :
    Calls Tryz.prog 52 #[gridV cols v, .int .i64 left] w fun e w' => e = .returned (.int .i64 (szG rows left)) ∧ Below w.heap.size w w' := by
  have hb0 := bal' w (Obj.cells #[.int .i64 cols, v] 49)
  have hG0 := GrN.new w cols v 49
  have hsz := fun W h => szCSS_any v rows left W h hl hx hf
  have hv1 := hv.below hb0
  obtain ⟨a, c, vs, rfl, _⟩ := id hv
  unfold gridV
  obtain ⟨_, g0, g1⟩ := id hG0
  go_enter Tryz.func52, Tryz.ntmps52
  go_wp2_with fail
  refine (hsz _ hv1).mono ?_
  rintro e w2 ⟨rfl, hw⟩
  subst hw
  by_cases h : szG rows left < 0
  · have hz : Hid (szG rows left = -1) := by
      show _ = _
      unfold szG at *
      split at h
      · rfl
      · omega
    go_wp2
    go_ret
    exact ⟨by rw [hz.out]; rfl, hb0⟩
  · go_wp2
    go_ret
    exact ⟨rfl, hb0⟩
end Go.Proofs.YtlmnhlfklbgjdaaGreatDoor
namespace Go.Proofs.YtlmnhlfklbgjdaaGreatDoor
open Go.ChangeShapes Go.WideShapes Go.ChangeAt Go.RowKit
def sumG (rows : List (List Ce)) : Nat → Nat
  | 0 => 0
  | j + 1 => sumG rows j + (rowX rows j).length
end Go.Proofs.YtlmnhlfklbgjdaaGreatDoor
namespace Go.Proofs.YtlmnhlfklbgjdaaGreatDoor
open Go.ChangeShapes Go.WideShapes Go.ChangeAt Go.RowKit
theorem leftG_sum {rows : List (List Ce)} {left : Nat} : ∀ {j m : Nat}, leftG rows left j = some m → m + rows.length + sumG rows j = left
  | 0, m, h => by
    rw [leftG] at h
    split at h
    · cases h
    · cases h; rw [sumG]; omega
  | j + 1, m, h => by
    rw [leftG] at h
    split at h
    · cases h
    · rename_i q hq
      split at h
      · cases h
      · cases h
        have := leftG_sum hq
        rw [sumG]; omega
theorem slShp {w : World} {v : Value} {rows : List (List Ce)} (h : SlG w v rows) : ∃ a n c, v = Value.slice a n c := by
  obtain ⟨a, c, vs, rfl, _⟩ := h
  exact ⟨_, _, _, rfl⟩
end Go.Proofs.YtlmnhlfklbgjdaaGreatDoor
namespace Go.Proofs.YtlmnhlfklbgjdaaGreatDoor
open Go.ChangeShapes Go.WideShapes Go.ChangeAt Go.RowKit
/-- A parser's block, whole. -/
def PbB (w : World) (B : Nat) (s : Int) (pv : Value) (m : Int) (tv : Value) : Prop := w.heap[B]? = some (.cells #[.int .i64 s, pv, .int .i64 m, tv] 31 (0, 0))
theorem PbB.lt {w : World} {B : Nat} {s m : Int} {pv tv : Value} (h : PbB w B s pv m tv) : B < w.heap.size := (Array.getElem?_eq_some_iff.1 h).1
theorem PbB.cells {w : World} {B : Nat} {s m : Int} {pv tv : Value} (h : PbB w B s pv m tv) :
    w.cell? ⟨B, 0, none⟩ = some (.int .i64 s) ∧ w.cell? ⟨B, 1, none⟩ = some pv ∧ w.cell? ⟨B, 2, none⟩ = some (.int .i64 m) ∧ w.cell? ⟨B, 3, none⟩ = some tv := by
  refine ⟨?_, ?_, ?_, ?_⟩ <;> (rw [cell_of_row w B _ _ _ (0, 0) h]; rfl)
theorem PbB.frozen {w : World} {B : Nat} {s m : Int} {pv tv : Value} (h : PbB w B s pv m tv) : w.frozen? ⟨B, 0, none⟩ = false ∧ w.frozen? ⟨B, 1, none⟩ = false ∧ w.frozen? ⟨B, 2, none⟩ = false ∧ w.frozen? ⟨B, 3, none⟩ = false :=
  ⟨frozen_of_row w B 0 _ _ h, frozen_of_row w B 1 _ _ h, frozen_of_row w B 2 _ _ h, frozen_of_row w B 3 _ _ h⟩
theorem PbB.set {w : World} {B : Nat} {s m : Int} {pv tv : Value} (h : PbB w B s pv m tv) (j : Nat) (u : Value) : (w.setCell ⟨B, j, none⟩ u).heap[B]? = some (.cells ((#[.int .i64 s, pv, .int .i64 m, tv] : Array Value).setIfInBounds j u) 31 (0, 0)) := heap_setCell_same w B j _ _ u h
theorem PbB.put {w : World} {B : Nat} {s m : Int} {pv tv : Value} (h : PbB w B s pv m tv) (s' m' : Int) (pv' tv' : Value) : PbB (putP w B s' pv' m' tv') B s' pv' m' tv' := by
  have k0 : PbB (w.setCell ⟨B, 0, none⟩ (.int .i64 s')) B s' pv m tv := h.set 0 _
  have k1 : PbB _ B s' pv' m tv := k0.set 1 _
  have k2 : PbB _ B s' pv' m' tv := k1.set 2 _
  exact k2.set 3 _
theorem PbB.kept {w w' : World} {B : Nat} {s m : Int} {pv tv : Value} {row : Option Nat} (h : PbB w B s pv m tv) (hg : w.grownBy w' row) (hne : row ≠ some B) : PbB w' B s pv m tv := by
  unfold PbB
  rw [hg.block B h.lt (Ne.symm hne)]
  exact h
theorem PbB.below {w w' : World} {B : Nat} {s m : Int} {pv tv : Value} (h : PbB w B s pv m tv) (hb : Below w.heap.size w w') : PbB w' B s pv m tv := h.kept (gbl hb none) (by simp)
theorem PbB.new (w : World) (s m : Int) (pv tv : Value) : PbB (w.alloc (.cells #[.int .i64 s, pv, .int .i64 m, tv] 31)) w.heap.size s pv m tv := heap_alloc_new w _
end Go.Proofs.YtlmnhlfklbgjdaaGreatDoor
namespace Go.Proofs.YtlmnhlfklbgjdaaGreatDoor
open Go.ChangeShapes Go.WideShapes Go.ChangeAt Go.RowKit
set_option maxHeartbeats 400000 in
theorem eqI_same (va vb : Value) (xs : List Int) (w : World) (ha : SlI w va xs) (hb : SlI w vb xs) (hl : xs.length ≤ 1073741824) :
    Calls Tryz.prog 63 #[va, vb] w fun e w' => e = .returned (.bool true) ∧ ∃ n, w' = w.drewN n := by
  by_cases h0 : xs = []
  · subst h0
    obtain ⟨a, c, rfl, _⟩ := ha
    obtain ⟨a', c', rfl, _⟩ := hb
    go_enter Tryz.func63, Tryz.ntmps63
    go_wp2
    refine wp_loop_rounds 1 ?_
    rw [rounds_succ]
    go_wp2
    go_ret
    exact ⟨rfl, 0, rfl⟩
  · obtain ⟨_, c, rfl, e | ⟨b, off, rfl, _, hca⟩⟩ := ha
    · exact absurd e h0
    · obtain ⟨_, c', rfl, e | ⟨b', off', rfl, _, hcb⟩⟩ := hb
      · exact absurd e h0
      · generalize hn : xs.length = n at *
        clear h0 hn
        go_enter Tryz.func63, Tryz.ntmps63
        go_wp2
        go_loopw [5] (fun i wr => ∃ k : Nat, k ≤ n ∧ i = .int .i64 k ∧ ∃ m, wr = w.drewN m) (fun i _ => n - (intOf i).toNat)
        case atStart => exact ⟨0, Nat.zero_le _, rfl, 0, rfl⟩
        case round =>
          obtain ⟨k, hk, rfl, m, rfl⟩ := hrel
          by_cases hlt : k < n
          · have h1 : w.cell? ⟨b, off + k, none⟩ = some (.int .i64 (xs.getD k 0)) := hca k hlt
            have h2 : w.cell? ⟨b', off' + k, none⟩ = some (.int .i64 (xs.getD k 0)) := hcb k hlt
            have hi : (k : Int) < (n : Int) := by omega
            generalize xs.getD k 0 = x at *
            clear hca hcb
            go_wp2
            go_quiet (fail)
            go_wp2
            go_roundw
            case rel => exact ⟨k + 1, by omega, by go_num, m + nq, by simp⟩
            case measure => simp [intOf]; omega
          · go_wp2
            go_ret
            exact ⟨rfl, m, rfl⟩

end Go.Proofs.YtlmnhlfklbgjdaaGreatDoor
namespace Go.Proofs.YtlmnhlfklbgjdaaGreatDoor
open Go.ChangeShapes Go.WideShapes Go.ChangeAt Go.RowKit
set_option maxRecDepth 20000 in
theorem szI_any (v : Value) (xs : List Int) (left : Nat) (w : World) (hv : SlI w v xs) (hl : xs.length ≤ maxLen) (hf : left ≤ 4611686018427387904) :
    Calls Tryz.prog 53 #[v, .int .i64 left] w fun e w' => e = .returned (.int .i64 (if left < xs.length then -1 else ((left - xs.length : Nat) : Int))) ∧ w' = w := by
  unfold maxLen at hl
  obtain ⟨a, c, rfl⟩ := hv.shp
  clear hv
  generalize xs.length = n at *
  by_cases h : left < n
  · have h2 : (left : Int) - (n : Int) < 0 := by omega
    rw [if_pos h]
    go_enter Tryz.func53, Tryz.ntmps53
    go_wp2
    go_ret
    exact ⟨rfl, rfl⟩
  · have h2 : ¬ (left : Int) - (n : Int) < 0 := by omega
    have h3 : Hid (((left - n : Nat) : Int) = (left : Int) - (n : Int)) := by show _ = _; omega
    rw [if_neg h]
    go_enter Tryz.func53, Tryz.ntmps53
    go_wp2
    go_ret
    exact ⟨by rw [h3.out]; rfl, rfl⟩
def szP (n m left : Nat) : Int := if left < n then -1 else if left - n < m then -1 else ((left - n - m : Nat) : Int)
set_option maxRecDepth 20000 in
set_option maxHeartbeats 1000000 in
theorem szParser_any (p : Pa) (pv tv : Value) (left : Nat) (w : World) (hp : SlI w pv p.params) (ht : SlI w tv p.text) (hpl : p.params.length ≤ maxLen) (htl : p.text.length ≤ maxLen) (hf : left ≤ 4611686018427387904) :
    Calls Tryz.prog 54 #[paV p pv tv, .int .i64 left] w fun e w' => e = .returned (.int .i64 (szP p.params.length p.text.length left)) ∧ Below w.heap.size w w' := by
  obtain ⟨s, ps, m, ts⟩ := p
  have hb := bal' w (Obj.cells #[.int .i64 s, pv, .int .i64 m, tv] 51)
  have hP := PaC.new w s m pv tv 51
  have h1 := szI_any pv ps left _ (hp.below hb) hpl hf
  have h2 := fun l h => szI_any tv ts l _ (ht.below hb) htl h
  unfold paV at *
  simp only at *
  obtain ⟨pa, pc, hpv⟩ := hp.shp
  obtain ⟨ta, tc, htv⟩ := ht.shp
  subst hpv; subst htv
  obtain ⟨_, ⟨c0, c1, c2, c3⟩, _⟩ := id hP
  obtain ⟨rv, hrv⟩ : ∃ rv, Hid (rv = szP ps.length ts.length left) := ⟨_, rfl⟩
  rw [← hrv.out]
  by_cases q1 : left < ps.length
  · have hv : Hid (rv = -1) := by show _ = _; rw [hrv.out]; unfold szP; rw [if_pos q1]
    rw [if_pos q1] at h1
    clear h2 hp ht hP hrv
    go_enter Tryz.func54, Tryz.ntmps54
    go_wp2_with (go_at_call 53; refine h1.mono ?_; rintro e w' ⟨rfl, rfl⟩)
    go_ret
    exact ⟨by rw [hv.out]; rfl, hb⟩
  · rw [if_neg q1] at h1
    have h3 := h2 (left - ps.length) (by omega)
    have hn : ¬ (((left - ps.length : Nat) : Int) < 0) := by omega
    obtain ⟨l2, hl2⟩ : ∃ l2, Hid (l2 = left - ps.length) := ⟨_, rfl⟩
    rw [← hl2.out] at h1 h3 hn
    by_cases q2 : l2 < ts.length
    · have hv : Hid (rv = -1) := by show _ = _; rw [hrv.out]; unfold szP; rw [if_neg q1, if_pos (by rw [← hl2.out]; exact q2)]
      rw [if_pos q2] at h3
      clear h2 hp ht hP hrv hl2
      go_enter Tryz.func54, Tryz.ntmps54
      go_wp2_with fail
      refine h1.mono ?_
      rintro e w3 ⟨rfl, hw⟩
      subst hw
      clear h1
      go_wp2_with fail
      refine h3.mono ?_
      rintro e w4 ⟨rfl, hw⟩
      subst hw
      clear h3
      go_wp2
      go_ret
      exact ⟨by rw [hv.out]; rfl, hb⟩
    · obtain ⟨l3, hl3⟩ : ∃ l3, Hid (l3 = l2 - ts.length) := ⟨_, rfl⟩
      have hv : Hid (rv = (l3 : Int)) := by show _ = _; rw [hrv.out, hl3.out, hl2.out]; unfold szP; rw [if_neg q1, if_neg (by rw [← hl2.out]; exact q2)]
      rw [if_neg q2, ← hl3.out] at h3
      have hn3 : ¬ ((l3 : Int) < 0) := by omega
      clear h2 hp ht hP hrv hl2 hl3
      go_enter Tryz.func54, Tryz.ntmps54
      go_wp2_with fail
      refine h1.mono ?_
      rintro e w3 ⟨rfl, hw⟩
      subst hw
      clear h1
      go_wp2_with fail
      refine h3.mono ?_
      rintro e w4 ⟨rfl, hw⟩
      subst hw
      clear h3
      go_wp2
      go_ret
      exact ⟨by rw [hv.out]; rfl, hb⟩
theorem drewN_bel (w : World) (n : Nat) : Below w.heap.size w (w.drewN n) := by
  induction n with
  | zero => exact Below.refl _ _
  | succ n ih => exact ih.trans ((bdr _).mono ih.size)
set_option maxRecDepth 20000 in
set_option maxHeartbeats 2000000 in
theorem eqParser_same (p : Pa) (pv tv pv2 tv2 : Value) (w : World) (hp : SlI w pv p.params) (ht : SlI w tv p.text) (hp2 : SlI w pv2 p.params) (ht2 : SlI w tv2 p.text) (hpl : p.params.length ≤ 1073741824) (htl : p.text.length ≤ 1073741824) :
    Calls Tryz.prog 64 #[paV p pv tv, paV p pv2 tv2] w fun e w' => e = .returned (.bool true) ∧ Below w.heap.size w w' := by
  obtain ⟨s, ps, m, ts⟩ := p
  have hb1 := bal' w (Obj.cells #[.int .i64 s, pv, .int .i64 m, tv] 31)
  have hb2 := bal' (w.alloc (Obj.cells #[.int .i64 s, pv, .int .i64 m, tv] 31)) (Obj.cells #[.int .i64 s, pv2, .int .i64 m, tv2] 31)
  have hbb := hb1.trans (hb2.mono hb1.size)
  have hP := (PaC.new w s m pv tv 31).below hb2
  have hR := PaC.new (w.alloc (Obj.cells #[.int .i64 s, pv, .int .i64 m, tv] 31)) s m pv2 tv2 31
  rw [show (w.alloc (Obj.cells #[.int .i64 s, pv, .int .i64 m, tv] 31)).heap.size = w.heap.size + 1 by simp] at hR
  have e1 := eqI_same pv pv2 ps _ (hp.below hbb) (hp2.below hbb) hpl
  have e2 := fun W h1 h2 => eqI_same tv tv2 ts W h1 h2 htl
  have ht3 := ht.below hbb
  have ht4 := ht2.below hbb
  unfold paV at *
  simp only at *
  obtain ⟨pa, pc, hpv⟩ := hp.shp
  obtain ⟨ta, tc, htv⟩ := ht.shp
  obtain ⟨pa2, pc2, hpv2⟩ := hp2.shp
  obtain ⟨ta2, tc2, htv2⟩ := ht2.shp
  subst hpv; subst htv; subst hpv2; subst htv2
  obtain ⟨_, ⟨c0, c1, c2, c3⟩, _⟩ := id hP
  obtain ⟨_, ⟨d0, d1, d2, d3⟩, _⟩ := id hR
  clear hp ht hp2 ht2 hb1 hb2
  go_enter Tryz.func64, Tryz.ntmps64
  go_wp2_with fail
  refine e1.mono ?_
  rintro e w3 ⟨rfl, n, hw⟩
  have hbn : Below _ _ w3 := hw ▸ drewN_bel _ n
  have hP3 := hP.below hbn
  have hR3 := hR.below hbn
  have e3 := e2 w3 (ht3.below hbn) (ht4.below hbn)
  have hb3 := hbb.trans (hbn.mono hbb.size)
  clear hw hbn hP hR e1 e2 ht3 ht4 hbb c0 c1 c2 c3 d0 d1 d2 d3
  obtain ⟨_, ⟨c0, c1, c2, c3⟩, _⟩ := hP3
  obtain ⟨_, ⟨d0, d1, d2, d3⟩, _⟩ := hR3
  go_wp2_with fail
  refine e3.mono ?_
  rintro e w4 ⟨rfl, n2, hw⟩
  have hbn : Below w3.heap.size w3 w4 := hw ▸ drewN_bel _ n2
  have hb4 := hb3.trans (hbn.mono hb3.size)
  clear hw hbn e3 hb3 c0 c1 c2 c3 d0 d1 d2 d3
  go_wp2
  go_ret
  exact ⟨rfl, hb4⟩
set_option maxHeartbeats 4000000 in
set_option maxRecDepth 20000 in
theorem toParser_copy (p : Pa) (pv tv : Value) (w : World) (hp : SlI w pv p.params) (ht : SlI w tv p.text) (hpl : p.params.length ≤ 1073741824) (htl : p.text.length ≤ 1073741824) :
    Calls Tryz.prog 59 #[paV p pv tv] w fun e w' => ∃ pv' tv', e = .returned (paV p pv' tv') ∧ LiOk w' w.heap.size [(pv', p.params), (tv', p.text)] ∧ Below w.heap.size w w' := by
  obtain ⟨s, ps, m, ts⟩ := p
  have hto1 := fun W h => toI_copy pv ps W h hpl
  have hto2 := fun W h => toI_copy tv ts W h htl
  unfold paV at *
  simp only at *
  obtain ⟨pa, pc, hpv⟩ := hp.shp
  obtain ⟨ta, tc, htv⟩ := ht.shp
  subst hpv; subst htv
  have hb0 := bal' w (Obj.cells #[.int .i64 s, .slice pa ps.length pc, .int .i64 m, .slice ta ts.length tc] 51)
  have hA := PaC.new w s m (.slice pa ps.length pc) (.slice ta ts.length tc) 51
  have z0 : (w.alloc (Obj.cells #[.int .i64 s, .slice pa ps.length pc, .int .i64 m, .slice ta ts.length tc] 51)).heap.size = w.heap.size + 1 := by simp
  have hp1 := hp.below hb0
  have ht1 := ht.below hb0
  generalize hw1 : w.alloc (Obj.cells #[.int .i64 s, .slice pa ps.length pc, .int .i64 m, .slice ta ts.length tc] 51) = w1 at *
  have hb1 := bal' w1 (Obj.cells #[.int .i64 0, .slice none 0 0, .int .i64 0, .slice none 0 0] 31)
  have hb2 := bal' (w1.alloc (Obj.cells #[.int .i64 0, .slice none 0 0, .int .i64 0, .slice none 0 0] 31)) (Obj.cells #[.int .i64 s, .slice none 0 0, .int .i64 0, .slice none 0 0] 31)
  have hbb := hb1.trans (hb2.mono hb1.size)
  have hR := (PbB.new w1 0 0 (.slice none 0 0) (.slice none 0 0)).below hb2
  have hO := PbB.new (w1.alloc (Obj.cells #[.int .i64 0, .slice none 0 0, .int .i64 0, .slice none 0 0] 31)) s 0 (.slice none 0 0) (.slice none 0 0)
  rw [show (w1.alloc (Obj.cells #[.int .i64 0, .slice none 0 0, .int .i64 0, .slice none 0 0] 31)).heap.size = w.heap.size + 2 by simp [z0]] at hO
  rw [z0] at hR
  have hA2 := hA.below hbb
  have hp2 := hp1.below hbb
  have ht2 := ht1.below hbb
  have z3 : ((w1.alloc (Obj.cells #[.int .i64 0, .slice none 0 0, .int .i64 0, .slice none 0 0] 31)).alloc (Obj.cells #[.int .i64 s, .slice none 0 0, .int .i64 0, .slice none 0 0] 31)).heap.size = w.heap.size + 3 := by simp [z0]
  have hbw := hb0.trans (hbb.mono hb0.size)
  obtain ⟨_, ⟨c0, c1, c2, c3⟩, _⟩ := id hA2
  have hT := hto1 _ hp2
  subst hw1
  have htw := ht
  clear hA hp hp1 ht ht1 hb0 hb1 hb2 hto1 hp2
  go_enter Tryz.func59, Tryz.ntmps59
  go_wp2_with fail
  refine hT.mono ?_
  rintro e w4 ⟨u, rfl, hou, hb4⟩
  have hR4 := hR.below hb4
  have hO4 := hO.below hb4
  have hA4 := hA2.below hb4
  have ht4 := ht2.below hb4
  have hou : OwnI w4 (w.heap.size + 3) u ps := by rw [← z3]; exact hou
  obtain ⟨ua, un, uc, hu⟩ := hou.shape
  subst hu
  have hs4 : w.heap.size + 3 ≤ w4.heap.size := by rw [← z3]; exact hb4.size
  have hb4w := hbw.trans (hb4.mono hbw.size)
  -- the first list and the mark are stored
  have g1 := setCell_gr w4 (w.heap.size + 2) 1 (.slice ua un uc)
  have k1 : PbB (w4.setCell ⟨w.heap.size + 2, 1, none⟩ (.slice ua un uc)) (w.heap.size + 2) s (.slice ua un uc) 0 (.slice none 0 0) := hO4.set 1 _
  have g2 := setCell_gr (w4.setCell ⟨w.heap.size + 2, 1, none⟩ (.slice ua un uc)) (w.heap.size + 2) 2 (.int .i64 m)
  have k2 : PbB ((w4.setCell ⟨w.heap.size + 2, 1, none⟩ (.slice ua un uc)).setCell ⟨w.heap.size + 2, 2, none⟩ (.int .i64 m)) (w.heap.size + 2) s (.slice ua un uc) m (.slice none 0 0) := k1.set 2 _
  have gg := grown_tr g1 g2
  have hb5 : Below (w.heap.size + 2) w4 ((w4.setCell ⟨w.heap.size + 2, 1, none⟩ (.slice ua un uc)).setCell ⟨w.heap.size + 2, 2, none⟩ (.int .i64 m)) := (Below.refl _ _).grown gg (by omega) (fun k e => by cases e; exact Nat.le_refl _)
  have hou5 := hou.kept gg (.inr (fun e => by have := (hou.lt _ e).1; omega))
  have hA5 := hA4.grown gg (by simp)
  have hR5 := hR4.kept gg (by simp)
  have ht0 : SlI ((w4.setCell ⟨w.heap.size + 2, 1, none⟩ (.slice ua un uc)).setCell ⟨w.heap.size + 2, 2, none⟩ (.int .i64 m)) (.slice ta ts.length tc) ts := htw.below (hb4w.grown gg (by omega) (fun k e => by cases e; omega))
  have z5 : ((w4.setCell ⟨w.heap.size + 2, 1, none⟩ (.slice ua un uc)).setCell ⟨w.heap.size + 2, 2, none⟩ (.int .i64 m)).heap.size = w4.heap.size := by simp
  have hT2 := hto2 _ ht0
  obtain ⟨_, ⟨e0, e1, e2, e3⟩, _⟩ := id hA4
  obtain ⟨r0, r1, r2, r3⟩ := hO4.cells
  obtain ⟨y0, y1, y2, y3⟩ := hO4.frozen
  have hb5w := hb4w.grown gg (by omega) (fun k e => by cases e; omega)
  clear hT hb4 hR hO hA2 c0 c1 c2 c3 ht2 ht4 hbb hR4 hO4 hA4 hou k1 g1 g2 gg hb5 ht0 htw hto2 hb4w
  obtain ⟨W5, hW5⟩ : ∃ W5, W5 = (w4.setCell ⟨w.heap.size + 2, 1, none⟩ (.slice ua un uc)).setCell ⟨w.heap.size + 2, 2, none⟩ (.int .i64 m) := ⟨_, rfl⟩
  rw [← hW5] at k2 hou5 hA5 hR5 z5 hb5w
  have hW6 := (show Hid _ from hW5)
  clear hW5
  go_wp2_with fail
  refine hT2.mono ?_
  rintro e w6 ⟨t, rfl, hot, hb6⟩
  rw [← hW6.out] at hot hb6
  clear hT2 e0 e1 e2 e3 r0 r1 r2 r3 y0 y1 y2 y3 hW6
  have k6 := k2.below hb6
  have hR6 := hR5.below hb6
  have hou6 := hou5.below hb6
  have hot : OwnI w6 w4.heap.size t ts := by rw [← z5]; exact hot
  obtain ⟨sa, sn, sc, hu⟩ := hot.shape
  subst hu
  have g7 := setCell_gr w6 (w.heap.size + 2) 3 (.slice sa sn sc)
  have k7 : PbB (w6.setCell ⟨w.heap.size + 2, 3, none⟩ (.slice sa sn sc)) (w.heap.size + 2) s (.slice ua un uc) m (.slice sa sn sc) := k6.set 3 _
  have hR7 := hR6.kept g7 (by simp)
  have hL6 : LiOk w6 w.heap.size [(.slice ua un uc, ps), (.slice sa sn sc, ts)] :=
    ((show LiOk W5 w.heap.size [(.slice ua un uc, ps)] from ⟨fun p hp => by rw [List.mem_singleton] at hp; subst hp; exact hou5.low (by omega), List.pairwise_singleton _ _⟩).new hb6 (hot.low (by omega)) (fun g e => by rw [z5]; exact (hot.lt g e).1)).perm (List.Perm.swap _ _ _)
  have hne : ∀ p ∈ [((.slice ua un uc : Value), ps), (.slice sa sn sc, ts)], ∀ k, p.1.ownBlock = some k → w.heap.size + 3 ≤ k := fun p hp k e => by
    simp only [List.mem_cons, List.mem_nil_iff, or_false] at hp
    rcases hp with rfl | rfl
    · exact (hou6.lt k e).1
    · have := (hot.lt k e).1; omega
  have hb6w := hb5w.trans (hb6.mono hb5w.size)
  have hs6 : w4.heap.size ≤ w6.heap.size := by rw [← z5]; exact hb6.size
  have hb7 := hb6w.grown g7 (by omega) (fun k e => by cases e; omega)
  have hL7 := hL6.kept g7 (fun p hp => .inr fun e => by have := hne p hp _ e; omega)
  have g8 := putP_grown (w6.setCell ⟨w.heap.size + 2, 3, none⟩ (.slice sa sn sc)) (w.heap.size + 1) s (.slice ua un uc) m (.slice sa sn sc)
  have hF := (hR7.put s m (.slice ua un uc) (.slice sa sn sc)).cells
  have hL8 := hL7.kept g8 (fun p hp => .inr fun e => by have := hne p hp _ e; omega)
  have hb8 := hb7.grown g8 (by simp; omega) (fun k e => by cases e; omega)
  obtain ⟨e0, e1, e2, e3⟩ := k6.cells
  obtain ⟨y0, y1, y2, y3⟩ := k6.frozen
  obtain ⟨r0, r1, r2, r3⟩ := hR7.cells
  obtain ⟨q0, q1, q2, q3⟩ := hR7.frozen
  obtain ⟨f0, f1, f2, f3⟩ := hF
  obtain ⟨j0, j1, j2, j3⟩ := k7.cells
  simp only [putP] at f0 f1 f2 f3 hL8 hb8
  have hfin := (show Hid _ from And.intro hL8 hb8)
  clear hL8 hb8 hL7 hb7 hL6 hne hb6w hs6 g7 g8 k6 k7 hR6 hR7 hou6 hot hb6 hou5 k2 hA5 hR5 hb5w z5
  go_wp2
  exact bodyPost_ret (v := .agg #[.int .i64 s, .slice ua un uc, .int .i64 m, .slice sa sn sc]) (by simp [results, Tryz.results59, go_sem, f0, f1, f2, f3]) rfl ⟨_, _, rfl, hfin.out⟩
end Go.Proofs.YtlmnhlfklbgjdaaGreatDoor
namespace Go.Proofs.YtlmnhlfklbgjdaaGreatDoor
open Go.ChangeShapes Go.WideShapes Go.ChangeAt Go.RowKit
theorem szFeeder_any (h : ByteArray) (n : Int) (w : World) (hs : h.size ≤ maxLen) (hn : 0 ≤ n ∧ n ≤ 1048576) :
    Calls Tryz.prog 55 #[.agg #[.string h], .int .i64 n] w fun e w' => e = .returned (.int .i64 (if n - (h.size : Int) < 0 then -1 else n - (h.size : Int))) ∧ Below w.heap.size w w' := by
  unfold maxLen at hs
  by_cases hl : n - (h.size : Int) < 0
  · rw [if_pos hl]
    go_enter Tryz.func55, Tryz.ntmps55
    go_wp2
    go_ret
    exact ⟨rfl, (Below.refl _ _).alloc (Nat.le_refl _) _⟩
  · rw [if_neg hl]
    go_enter Tryz.func55, Tryz.ntmps55
    go_wp2
    go_ret
    exact ⟨rfl, (Below.refl _ _).alloc (Nat.le_refl _) _⟩

theorem toFeeder_any (h : ByteArray) (w : World) :
    Calls Tryz.prog 60 #[.agg #[.string h]] w fun e w' => e = .returned (.agg #[.string h]) ∧ Below w.heap.size w w' := by
  go_enter Tryz.func60, Tryz.ntmps60
  go_wp2
  refine bodyPost_ret (v := .agg #[.string h]) (by simp [results, Tryz.results60, go_sem]) rfl ⟨rfl, ?_⟩
  exact (((Below.refl _ _).alloc (Nat.le_refl _) _).alloc (by simp) _).alloc (by simp; omega) _
end Go.Proofs.YtlmnhlfklbgjdaaGreatDoor
namespace Go.Proofs.YtlmnhlfklbgjdaaGreatDoor
open Go.ChangeShapes Go.WideShapes Go.ChangeAt Go.RowKit
/-- A screen's block by its cells. -/
def TB (w : World) (B : Nat) (cs : List Value) : Prop := BlkC w B 35 cs
theorem TB.lt {w : World} {B : Nat} {cs : List Value} (h : TB w B cs) : B < w.heap.size := (Array.getElem?_eq_some_iff.1 h).1
theorem inf_i : (Tryz.prog.info? 2).map (·.size) = some 1 := by kernel_rfl
theorem inf_b : (Tryz.prog.info? 4).map (·.size) = some 1 := by kernel_rfl
theorem inf_g : (Tryz.prog.info? 26).map (·.size) = some 2 := by kernel_rfl
theorem inf_s : (Tryz.prog.info? 28).map (·.size) = some 5 := by kernel_rfl
theorem inf_l : (Tryz.prog.info? 29).map (·.size) = some 1 := by kernel_rfl
theorem inf_p : (Tryz.prog.info? 31).map (·.size) = some 4 := by kernel_rfl
theorem inf_f : (Tryz.prog.info? 33).map (·.size) = some 1 := by kernel_rfl
theorem TB.kept {w w' : World} {B : Nat} {cs : List Value} {row : Option Nat} (h : TB w B cs) (hg : w.grownBy w' row) (hne : row ≠ some B) : TB w' B cs := by
  unfold TB BlkC
  rw [hg.block B h.lt (Ne.symm hne)]
  exact h
theorem TB.below {w w' : World} {B : Nat} {cs : List Value} (h : TB w B cs) (hb : Below w.heap.size w w') : TB w' B cs := h.kept (gbl hb none) (by simp)
theorem TB.new (w : World) (cs : List Value) : TB (w.alloc (.cells cs.toArray 35)) w.heap.size cs := heap_alloc_new w _
theorem cells_all {w : World} {B : Nat} {cs : Array Value} {T : TypeId} (h : w.heap[B]? = some (.cells cs T (0, 0))) (k : Nat) : w.cell? ⟨B, k, none⟩ = cs[k]? := cell_of_row w B _ _ _ (0, 0) h
theorem LiOk.join {w : World} {b c : Nat} {L M : List (Value × List Int)} (h : LiOk w b L) (hl : ∀ p ∈ L, ∀ g, p.1.ownBlock = some g → g < c) (k : LiOk w c M) (hbc : b ≤ c) : LiOk w b (L ++ M) :=
  ⟨fun p hp => (List.mem_append.1 hp).elim (h.1 p) (fun hm => (k.1 p hm).low hbc), List.pairwise_append.2 ⟨h.2, k.2, fun p hp q hq g e1 e2 => by have := hl p hp g e1; have := ((k.1 q hq).lt g e2).1; omega⟩⟩
theorem OwnR.low {w : World} {lo lo' hi : Nat} {v : Value} {rows : List (List Ce)} (h : OwnR w lo hi v rows) (hb : lo' ≤ lo) : OwnR w lo' hi v rows := ⟨h.1.low hb, h.2.1, h.2.2⟩
/-- A screen's memory, all of one call's own: grids in ranges of their own. -/
def OwnT (w : World) (base : Nat) (t : Te) (v : Tv) : Prop := ∃ b1 b2 b3, OwnR w base b1 v.g t.g ∧ OwnR w b1 b2 v.o t.o ∧ LiOk w b3 [(v.ti, t.ti), (v.pp, t.pa.params), (v.pt, t.pa.text)] ∧ base ≤ b1 ∧ b1 ≤ b2 ∧ b2 ≤ b3 ∧ b3 ≤ w.heap.size
theorem OwnT.below {w w' : World} {base : Nat} {t : Te} {v : Tv} (h : OwnT w base t v) (hb : Below w.heap.size w w') : OwnT w' base t v := by
  obtain ⟨b1, b2, b3, h1, h2, h3, h4, h5, h6, h7⟩ := h
  exact ⟨b1, b2, b3, h1.below hb, h2.below hb, h3.below hb, h4, h5, h6, Nat.le_trans h7 hb.size⟩
theorem OwnT.sl {w : World} {base : Nat} {t : Te} {v : Tv} (h : OwnT w base t v) : SlT w t v := by
  obtain ⟨b1, b2, b3, h1, h2, h3, _⟩ := h
  exact ⟨h1.sl, h2.sl, SlN.of_own h3.head, SlN.of_own h3.tail.head, SlN.of_own h3.tail.tail.head⟩
theorem OwnR.grown {w w' : World} {lo hi B : Nat} {v : Value} {rows : List (List Ce)} (h : OwnR w lo hi v rows) (hg : w.grownBy w' (some B)) (hB : B < lo) : OwnR w' lo hi v rows :=
  ⟨h.1.kept hg (fun g e => by cases e; exact hB), h.2.1, Nat.le_trans h.2.2 hg.size⟩
set_option maxHeartbeats 16000000 in
set_option maxRecDepth 40000 in
theorem toTerm_copy (t : Te) (v : Tv) (w : World) (h : SlT w t v) (hz : SzT 1048576 t) :
    Calls Tryz.prog 19 #[teV t v] w fun e w' => ∃ v', e = .returned (teV t v') ∧ OwnT w' w.heap.size t v' ∧ Below w.heap.size w w' := by
  obtain ⟨vg, vo, vti, vpp, vpt⟩ := v
  obtain ⟨hg, ho, hti, hpp, hpt⟩ := h
  simp only at hg ho hti hpp hpt
  obtain ⟨z1, z2, z3, z4, z5, z6, z7⟩ := hz
  have cG := fun W hW => toGrid_copy t.gc vg t.g W hW (by omega) (fun i hi => by have := z2 i hi; omega)
  have cO := fun W hW => toGrid_copy t.oc vo t.o W hW (by omega) (fun i hi => by have := z4 i hi; omega)
  have cS := fun W => toStyle_any t.st W
  have cSs := fun W => toStyle_any t.ss W
  have cT := fun W hW => toI_copy vti t.ti W hW (by omega)
  have cP := fun W h1 h2 => toParser_copy t.pa vpp vpt W h1 h2 (by omega) (by omega)
  have cF := fun W => toFeeder_any t.fe W
  have hb0 := bal' w (Obj.cells (teCs t ⟨vg, vo, vti, vpp, vpt⟩) 54)
  have hX0 := TeB.new w 54 t ⟨vg, vo, vti, vpp, vpt⟩
  obtain ⟨ga, gp, hq1⟩ := slG_shp hg
  obtain ⟨oa, op, hq2⟩ := slG_shp ho
  obtain ⟨tia, tip, hq3⟩ := hti.shp
  obtain ⟨ppa, ppp, hq4⟩ := hpp.shp
  obtain ⟨pta, ptp, hq5⟩ := hpt.shp
  subst hq1; subst hq2; subst hq3; subst hq4; subst hq5
  obtain ⟨w1, hw1⟩ : ∃ w1, w1 = w.alloc (Obj.cells (teCs t ⟨.slice ga t.g.length gp, .slice oa t.o.length op, .slice tia t.ti.length tip, .slice ppa t.pa.params.length ppp, .slice pta t.pa.text.length ptp⟩) 54) := ⟨_, rfl⟩
  rw [← hw1] at hX0 hb0
  have zs1 : w1.heap.size = w.heap.size + 1 := by rw [hw1]; simp
  obtain ⟨w2, hw2⟩ : ∃ w2, w2 = (w1.alloc (Obj.cells #[.int .i64 0, .slice none 0 0, .int .i64 0, .slice none 0 0, .int .i64 0, .int .i64 0, .int .i64 0, .int .i64 0, .bool false, .bool false, .bool false, .int .i64 0, .int .i64 0, .bool false, .bool false, .bool false, .bool false, .int .i64 0, .int .i64 0, .int .i64 0, .int .i64 0, .bool false, .bool false, .bool false, .slice none 0 0, .int .i64 0, .slice none 0 0, .int .i64 0, .slice none 0 0, .string ⟨#[]⟩] 35)).alloc (Obj.cells #[.int .i64 0, .slice none 0 0, .int .i64 0, .slice none 0 0, .int .i64 0, .int .i64 0, .int .i64 0, .int .i64 0, .bool false, .bool false, .bool false, .int .i64 0, .int .i64 0, .bool false, .bool false, .bool false, .bool false, .int .i64 0, .int .i64 0, .int .i64 0, .int .i64 0, .bool false, .bool false, .bool false, .slice none 0 0, .int .i64 0, .slice none 0 0, .int .i64 0, .slice none 0 0, .string ⟨#[]⟩] 35) := ⟨_, rfl⟩
  have hb1 := bal' w1 (Obj.cells #[.int .i64 0, .slice none 0 0, .int .i64 0, .slice none 0 0, .int .i64 0, .int .i64 0, .int .i64 0, .int .i64 0, .bool false, .bool false, .bool false, .int .i64 0, .int .i64 0, .bool false, .bool false, .bool false, .bool false, .int .i64 0, .int .i64 0, .int .i64 0, .int .i64 0, .bool false, .bool false, .bool false, .slice none 0 0, .int .i64 0, .slice none 0 0, .int .i64 0, .slice none 0 0, .string ⟨#[]⟩] 35)
  have hb2 := bal' (w1.alloc (Obj.cells #[.int .i64 0, .slice none 0 0, .int .i64 0, .slice none 0 0, .int .i64 0, .int .i64 0, .int .i64 0, .int .i64 0, .bool false, .bool false, .bool false, .int .i64 0, .int .i64 0, .bool false, .bool false, .bool false, .bool false, .int .i64 0, .int .i64 0, .int .i64 0, .int .i64 0, .bool false, .bool false, .bool false, .slice none 0 0, .int .i64 0, .slice none 0 0, .int .i64 0, .slice none 0 0, .string ⟨#[]⟩] 35)) (Obj.cells #[.int .i64 0, .slice none 0 0, .int .i64 0, .slice none 0 0, .int .i64 0, .int .i64 0, .int .i64 0, .int .i64 0, .bool false, .bool false, .bool false, .int .i64 0, .int .i64 0, .bool false, .bool false, .bool false, .bool false, .int .i64 0, .int .i64 0, .int .i64 0, .int .i64 0, .bool false, .bool false, .bool false, .slice none 0 0, .int .i64 0, .slice none 0 0, .int .i64 0, .slice none 0 0, .string ⟨#[]⟩] 35)
  have hR0 := (TB.new w1 [.int .i64 0, .slice none 0 0, .int .i64 0, .slice none 0 0, .int .i64 0, .int .i64 0, .int .i64 0, .int .i64 0, .bool false, .bool false, .bool false, .int .i64 0, .int .i64 0, .bool false, .bool false, .bool false, .bool false, .int .i64 0, .int .i64 0, .int .i64 0, .int .i64 0, .bool false, .bool false, .bool false, .slice none 0 0, .int .i64 0, .slice none 0 0, .int .i64 0, .slice none 0 0, .string ⟨#[]⟩]).below hb2
  have hB0 := TB.new (w1.alloc (Obj.cells #[.int .i64 0, .slice none 0 0, .int .i64 0, .slice none 0 0, .int .i64 0, .int .i64 0, .int .i64 0, .int .i64 0, .bool false, .bool false, .bool false, .int .i64 0, .int .i64 0, .bool false, .bool false, .bool false, .bool false, .int .i64 0, .int .i64 0, .int .i64 0, .int .i64 0, .bool false, .bool false, .bool false, .slice none 0 0, .int .i64 0, .slice none 0 0, .int .i64 0, .slice none 0 0, .string ⟨#[]⟩] 35)) [.int .i64 0, .slice none 0 0, .int .i64 0, .slice none 0 0, .int .i64 0, .int .i64 0, .int .i64 0, .int .i64 0, .bool false, .bool false, .bool false, .int .i64 0, .int .i64 0, .bool false, .bool false, .bool false, .bool false, .int .i64 0, .int .i64 0, .int .i64 0, .int .i64 0, .bool false, .bool false, .bool false, .slice none 0 0, .int .i64 0, .slice none 0 0, .int .i64 0, .slice none 0 0, .string ⟨#[]⟩]
  have hbb := hb1.trans (hb2.mono hb1.size)
  have zs2 : w2.heap.size = w.heap.size + 3 := by rw [hw2]; simp; omega
  rw [← hw2] at hR0 hB0 hbb
  rw [zs1] at hR0
  rw [show (w1.alloc (Obj.cells #[.int .i64 0, .slice none 0 0, .int .i64 0, .slice none 0 0, .int .i64 0, .int .i64 0, .int .i64 0, .int .i64 0, .bool false, .bool false, .bool false, .int .i64 0, .int .i64 0, .bool false, .bool false, .bool false, .bool false, .int .i64 0, .int .i64 0, .int .i64 0, .int .i64 0, .bool false, .bool false, .bool false, .slice none 0 0, .int .i64 0, .slice none 0 0, .int .i64 0, .slice none 0 0, .string ⟨#[]⟩] 35)).heap.size = w.heap.size + 2 by simp; omega] at hB0
  have hX := hX0.below hbb
  have kb := hb0.trans (hbb.mono hb0.size)
  rw [hw1] at hw2
  replace hw2 := (show Hid _ from hw2)
  clear z1 z2 z3 z4 z5 z6 z7 hb0 hb1 hb2 hbb hX0 hw1 zs1
  unfold teV gridV stV paV at *
  go_enter Tryz.func19, Tryz.ntmps19
  refine wp_seq_k (fun K hK => ?_)
  have hH := (show Hid _ from hK)
  clear hK
  go_wp2
  refine hH.out _ _ ?_
  clear hH
  refine wp_seq_k (fun K hK => ?_)
  have hH := (show Hid _ from hK)
  clear hK
  go_wp2
  refine hH.out _ _ ?_
  rw [← hw2.out, show w.heap.size + 1 + 1 = w.heap.size + 2 from rfl]
  clear hH hw2
  obtain ⟨c0, c1, c2, c3, c4, c5, c6, c7, c8, c9, c10, c11, c12, c13, c14, c15, c16, c17, c18, c19, c20, c21, c22, c23, c24, c25, c26, c27, c28, c29⟩ := hX.cells
  go_wp2_with fail
  refine (cG _ (hg.below kb)).mono ?_
  rintro e w3 ⟨xg, rfl, hng, hb⟩
  clear c0 c1 c2 c3 c4 c5 c6 c7 c8 c9 c10 c11 c12 c13 c14 c15 c16 c17 c18 c19 c20 c21 c22 c23 c24 c25 c26 c27 c28 c29
  have hB := hB0.below hb
  replace hX := hX.below hb
  have hR := hR0.below hb
  have s23 : w2.heap.size ≤ w3.heap.size := hb.size
  replace kb := kb.trans (hb.mono kb.size)
  clear hB0 hR0 hb
  obtain ⟨xga, xgn, xgp, hxg⟩ := slShp (SlG.of_own hng)
  subst hxg
  have og : OwnR w3 w2.heap.size w3.heap.size (.slice xga xgn xgp) t.g := OwnR.of hng
  clear hng
  have hBl := hB
  have hac := World.grownBy.refl w3 (some (w.heap.size + 2))
  obtain ⟨z3, hz3⟩ : ∃ z, Hid (w3.heap.size = z) := ⟨_, rfl⟩
  have zc := hz3
  obtain ⟨c0, c1, c2, c3, c4, c5, c6, c7, c8, c9, c10, c11, c12, c13, c14, c15, c16, c17, c18, c19, c20, c21, c22, c23, c24, c25, c26, c27, c28, c29⟩ := hX.cells
  go_wp2_with (first | (refine store_at (by rfl) 26 _ _ (by rfl) inf_g hB (by rfl) (by rfl) (by rfl) (by rfl) (by rfl) ?_; intro W hg1 hB1 hz1; clear c0 c1 c2 c3 c4 c5 c6 c7 c8 c9 c10 c11 c12 c13 c14 c15 c16 c17 c18 c19 c20 c21 c22 c23 c24 c25 c26 c27 c28 c29; have hX1 := hX.kept hg1 (by simp); have hac1 := grown_tr hac hg1; have zc1 := (show Hid _ from hz1.trans zc.out); clear hX hB hac zc hg1 hz1; have hX := hX1; have hB := hB1; have hac := hac1; have zc := zc1; clear hX1 hB1 hac1 zc1; obtain ⟨c0, c1, c2, c3, c4, c5, c6, c7, c8, c9, c10, c11, c12, c13, c14, c15, c16, c17, c18, c19, c20, c21, c22, c23, c24, c25, c26, c27, c28, c29⟩ := hX.cells))
  clear c0 c1 c2 c3 c4 c5 c6 c7 c8 c9 c10 c11 c12 c13 c14 c15 c16 c17 c18 c19 c20 c21 c22 c23 c24 c25 c26 c27 c28 c29
  have kbc := kb.grown hac kb.size (fun g e => by cases e; omega)
  have hR := hR.kept hac (by simp)
  have og := og.grown hac (by omega)
  replace hB : TB _ (w.heap.size + 2) [.int .i64 t.gc, .slice xga xgn xgp, .int .i64 0, .slice none 0 0, .int .i64 0, .int .i64 0, .int .i64 0, .int .i64 0, .bool false, .bool false, .bool false, .int .i64 0, .int .i64 0, .bool false, .bool false, .bool false, .bool false, .int .i64 0, .int .i64 0, .int .i64 0, .int .i64 0, .bool false, .bool false, .bool false, .slice none 0 0, .int .i64 0, .slice none 0 0, .int .i64 0, .slice none 0 0, .string ⟨#[]⟩] := hB
  clear hac hBl
  refine (cO _ (ho.below kbc)).mono ?_
  rintro e w4 ⟨xo, rfl, hno, hb⟩
  replace hB := hB.below hb
  replace hX := hX.below hb
  replace hR := hR.below hb
  replace kb := kbc.trans (hb.mono kbc.size)
  have s34 : w3.heap.size ≤ w4.heap.size := by have := hb.size; rw [zc.out, ← hz3.out] at this; exact this
  replace og := og.below hb
  clear kbc hb
  rw [zc.out, ← hz3.out] at hno
  obtain ⟨xoa, xon, xop, hxo⟩ := slShp (SlG.of_own hno)
  subst hxo
  have oo : OwnR w4 w3.heap.size w4.heap.size (.slice xoa xon xop) t.o := OwnR.of hno
  clear hno
  clear zc
  have hBl := hB
  have hac := World.grownBy.refl w4 (some (w.heap.size + 2))
  obtain ⟨z4, hz4⟩ : ∃ z, Hid (w4.heap.size = z) := ⟨_, rfl⟩
  have zc := hz4
  obtain ⟨c0, c1, c2, c3, c4, c5, c6, c7, c8, c9, c10, c11, c12, c13, c14, c15, c16, c17, c18, c19, c20, c21, c22, c23, c24, c25, c26, c27, c28, c29⟩ := hX.cells
  go_wp2_with (first | (refine store_at (by rfl) 26 _ _ (by rfl) inf_g hB (by rfl) (by rfl) (by rfl) (by rfl) (by rfl) ?_; intro W hg1 hB1 hz1; clear c0 c1 c2 c3 c4 c5 c6 c7 c8 c9 c10 c11 c12 c13 c14 c15 c16 c17 c18 c19 c20 c21 c22 c23 c24 c25 c26 c27 c28 c29; have hX1 := hX.kept hg1 (by simp); have hac1 := grown_tr hac hg1; have zc1 := (show Hid _ from hz1.trans zc.out); clear hX hB hac zc hg1 hz1; have hX := hX1; have hB := hB1; have hac := hac1; have zc := zc1; clear hX1 hB1 hac1 zc1; obtain ⟨c0, c1, c2, c3, c4, c5, c6, c7, c8, c9, c10, c11, c12, c13, c14, c15, c16, c17, c18, c19, c20, c21, c22, c23, c24, c25, c26, c27, c28, c29⟩ := hX.cells) | (refine store_at (by rfl) 2 _ _ (by rfl) inf_i hB (by rfl) (by rfl) (by rfl) (by rfl) (by rfl) ?_; intro W hg1 hB1 hz1; clear c0 c1 c2 c3 c4 c5 c6 c7 c8 c9 c10 c11 c12 c13 c14 c15 c16 c17 c18 c19 c20 c21 c22 c23 c24 c25 c26 c27 c28 c29; have hX1 := hX.kept hg1 (by simp); have hac1 := grown_tr hac hg1; have zc1 := (show Hid _ from hz1.trans zc.out); clear hX hB hac zc hg1 hz1; have hX := hX1; have hB := hB1; have hac := hac1; have zc := zc1; clear hX1 hB1 hac1 zc1; obtain ⟨c0, c1, c2, c3, c4, c5, c6, c7, c8, c9, c10, c11, c12, c13, c14, c15, c16, c17, c18, c19, c20, c21, c22, c23, c24, c25, c26, c27, c28, c29⟩ := hX.cells))
  clear c0 c1 c2 c3 c4 c5 c6 c7 c8 c9 c10 c11 c12 c13 c14 c15 c16 c17 c18 c19 c20 c21 c22 c23 c24 c25 c26 c27 c28 c29
  have kbc := kb.grown hac kb.size (fun g e => by cases e; omega)
  have hR := hR.kept hac (by simp)
  have og := og.grown hac (by omega)
  have oo := oo.grown hac (by omega)
  replace hB : TB _ (w.heap.size + 2) [.int .i64 t.gc, .slice xga xgn xgp, .int .i64 t.oc, .slice xoa xon xop, .int .i64 t.row, .int .i64 t.col, .int .i64 0, .int .i64 0, .bool false, .bool false, .bool false, .int .i64 0, .int .i64 0, .bool false, .bool false, .bool false, .bool false, .int .i64 0, .int .i64 0, .int .i64 0, .int .i64 0, .bool false, .bool false, .bool false, .slice none 0 0, .int .i64 0, .slice none 0 0, .int .i64 0, .slice none 0 0, .string ⟨#[]⟩] := hB
  clear hac hBl
  refine (cS _).mono ?_
  rintro e w5 ⟨rfl, hb⟩
  replace hB := hB.below hb
  replace hX := hX.below hb
  replace hR := hR.below hb
  replace kb := kbc.trans (hb.mono kbc.size)
  have s45 : w4.heap.size ≤ w5.heap.size := by have := hb.size; rw [zc.out, ← hz4.out] at this; exact this
  replace og := og.below hb
  replace oo := oo.below hb
  clear kbc hb
  clear zc
  have hBl := hB
  have hac := World.grownBy.refl w5 (some (w.heap.size + 2))
  obtain ⟨z5, hz5⟩ : ∃ z, Hid (w5.heap.size = z) := ⟨_, rfl⟩
  have zc := hz5
  obtain ⟨c0, c1, c2, c3, c4, c5, c6, c7, c8, c9, c10, c11, c12, c13, c14, c15, c16, c17, c18, c19, c20, c21, c22, c23, c24, c25, c26, c27, c28, c29⟩ := hX.cells
  go_wp2_with (first | (refine store_at (by rfl) 28 _ _ (by rfl) inf_s hB (by rfl) (by rfl) (by rfl) (by rfl) (by rfl) ?_; intro W hg1 hB1 hz1; clear c0 c1 c2 c3 c4 c5 c6 c7 c8 c9 c10 c11 c12 c13 c14 c15 c16 c17 c18 c19 c20 c21 c22 c23 c24 c25 c26 c27 c28 c29; have hX1 := hX.kept hg1 (by simp); have hac1 := grown_tr hac hg1; have zc1 := (show Hid _ from hz1.trans zc.out); clear hX hB hac zc hg1 hz1; have hX := hX1; have hB := hB1; have hac := hac1; have zc := zc1; clear hX1 hB1 hac1 zc1; obtain ⟨c0, c1, c2, c3, c4, c5, c6, c7, c8, c9, c10, c11, c12, c13, c14, c15, c16, c17, c18, c19, c20, c21, c22, c23, c24, c25, c26, c27, c28, c29⟩ := hX.cells) | (refine store_at (by rfl) 2 _ _ (by rfl) inf_i hB (by rfl) (by rfl) (by rfl) (by rfl) (by rfl) ?_; intro W hg1 hB1 hz1; clear c0 c1 c2 c3 c4 c5 c6 c7 c8 c9 c10 c11 c12 c13 c14 c15 c16 c17 c18 c19 c20 c21 c22 c23 c24 c25 c26 c27 c28 c29; have hX1 := hX.kept hg1 (by simp); have hac1 := grown_tr hac hg1; have zc1 := (show Hid _ from hz1.trans zc.out); clear hX hB hac zc hg1 hz1; have hX := hX1; have hB := hB1; have hac := hac1; have zc := zc1; clear hX1 hB1 hac1 zc1; obtain ⟨c0, c1, c2, c3, c4, c5, c6, c7, c8, c9, c10, c11, c12, c13, c14, c15, c16, c17, c18, c19, c20, c21, c22, c23, c24, c25, c26, c27, c28, c29⟩ := hX.cells) | (refine store_at (by rfl) 4 _ _ (by rfl) inf_b hB (by rfl) (by rfl) (by rfl) (by rfl) (by rfl) ?_; intro W hg1 hB1 hz1; clear c0 c1 c2 c3 c4 c5 c6 c7 c8 c9 c10 c11 c12 c13 c14 c15 c16 c17 c18 c19 c20 c21 c22 c23 c24 c25 c26 c27 c28 c29; have hX1 := hX.kept hg1 (by simp); have hac1 := grown_tr hac hg1; have zc1 := (show Hid _ from hz1.trans zc.out); clear hX hB hac zc hg1 hz1; have hX := hX1; have hB := hB1; have hac := hac1; have zc := zc1; clear hX1 hB1 hac1 zc1; obtain ⟨c0, c1, c2, c3, c4, c5, c6, c7, c8, c9, c10, c11, c12, c13, c14, c15, c16, c17, c18, c19, c20, c21, c22, c23, c24, c25, c26, c27, c28, c29⟩ := hX.cells))
  clear c0 c1 c2 c3 c4 c5 c6 c7 c8 c9 c10 c11 c12 c13 c14 c15 c16 c17 c18 c19 c20 c21 c22 c23 c24 c25 c26 c27 c28 c29
  have kbc := kb.grown hac kb.size (fun g e => by cases e; omega)
  have hR := hR.kept hac (by simp)
  have og := og.grown hac (by omega)
  have oo := oo.grown hac (by omega)
  replace hB : TB _ (w.heap.size + 2) [.int .i64 t.gc, .slice xga xgn xgp, .int .i64 t.oc, .slice xoa xon xop, .int .i64 t.row, .int .i64 t.col, .int .i64 t.st.fore, .int .i64 t.st.back, .bool t.st.bold, .bool t.st.under, .bool t.st.turned, .int .i64 t.top, .int .i64 t.bot, .bool t.full, .bool t.wrap, .bool t.away, .bool t.hid, .int .i64 t.sr, .int .i64 t.sc, .int .i64 0, .int .i64 0, .bool false, .bool false, .bool false, .slice none 0 0, .int .i64 0, .slice none 0 0, .int .i64 0, .slice none 0 0, .string ⟨#[]⟩] := hB
  clear hac hBl
  refine (cSs _).mono ?_
  rintro e w6 ⟨rfl, hb⟩
  replace hB := hB.below hb
  replace hX := hX.below hb
  replace hR := hR.below hb
  replace kb := kbc.trans (hb.mono kbc.size)
  have s56 : w5.heap.size ≤ w6.heap.size := by have := hb.size; rw [zc.out, ← hz5.out] at this; exact this
  replace og := og.below hb
  replace oo := oo.below hb
  clear kbc hb
  clear zc
  have hBl := hB
  have hac := World.grownBy.refl w6 (some (w.heap.size + 2))
  obtain ⟨z6, hz6⟩ : ∃ z, Hid (w6.heap.size = z) := ⟨_, rfl⟩
  have zc := hz6
  obtain ⟨c0, c1, c2, c3, c4, c5, c6, c7, c8, c9, c10, c11, c12, c13, c14, c15, c16, c17, c18, c19, c20, c21, c22, c23, c24, c25, c26, c27, c28, c29⟩ := hX.cells
  go_wp2_with (first | (refine store_at (by rfl) 28 _ _ (by rfl) inf_s hB (by rfl) (by rfl) (by rfl) (by rfl) (by rfl) ?_; intro W hg1 hB1 hz1; clear c0 c1 c2 c3 c4 c5 c6 c7 c8 c9 c10 c11 c12 c13 c14 c15 c16 c17 c18 c19 c20 c21 c22 c23 c24 c25 c26 c27 c28 c29; have hX1 := hX.kept hg1 (by simp); have hac1 := grown_tr hac hg1; have zc1 := (show Hid _ from hz1.trans zc.out); clear hX hB hac zc hg1 hz1; have hX := hX1; have hB := hB1; have hac := hac1; have zc := zc1; clear hX1 hB1 hac1 zc1; obtain ⟨c0, c1, c2, c3, c4, c5, c6, c7, c8, c9, c10, c11, c12, c13, c14, c15, c16, c17, c18, c19, c20, c21, c22, c23, c24, c25, c26, c27, c28, c29⟩ := hX.cells))
  clear c0 c1 c2 c3 c4 c5 c6 c7 c8 c9 c10 c11 c12 c13 c14 c15 c16 c17 c18 c19 c20 c21 c22 c23 c24 c25 c26 c27 c28 c29
  have kbc := kb.grown hac kb.size (fun g e => by cases e; omega)
  have hR := hR.kept hac (by simp)
  have og := og.grown hac (by omega)
  have oo := oo.grown hac (by omega)
  replace hB : TB _ (w.heap.size + 2) [.int .i64 t.gc, .slice xga xgn xgp, .int .i64 t.oc, .slice xoa xon xop, .int .i64 t.row, .int .i64 t.col, .int .i64 t.st.fore, .int .i64 t.st.back, .bool t.st.bold, .bool t.st.under, .bool t.st.turned, .int .i64 t.top, .int .i64 t.bot, .bool t.full, .bool t.wrap, .bool t.away, .bool t.hid, .int .i64 t.sr, .int .i64 t.sc, .int .i64 t.ss.fore, .int .i64 t.ss.back, .bool t.ss.bold, .bool t.ss.under, .bool t.ss.turned, .slice none 0 0, .int .i64 0, .slice none 0 0, .int .i64 0, .slice none 0 0, .string ⟨#[]⟩] := hB
  clear hac hBl
  refine (cT _ (hti.below kbc).l.sl).mono ?_
  rintro e w7 ⟨xt, rfl, hnt, hb⟩
  replace hB := hB.below hb
  replace hX := hX.below hb
  replace hR := hR.below hb
  replace kb := kbc.trans (hb.mono kbc.size)
  have s67 : w6.heap.size ≤ w7.heap.size := by have := hb.size; rw [zc.out, ← hz6.out] at this; exact this
  replace og := og.below hb
  replace oo := oo.below hb
  clear kbc hb
  rw [zc.out, ← hz6.out] at hnt
  obtain ⟨xta, xtn, xtp, hxt⟩ := OwnI.shape hnt
  subst hxt
  have ol : LiOk w7 w6.heap.size [((.slice xta xtn xtp : Value), t.ti)] := ⟨fun p hp => by rw [List.mem_singleton] at hp; subst hp; exact hnt, List.pairwise_singleton _ _⟩
  clear hnt
  clear zc
  have olt : ∀ p ∈ [((.slice xta xtn xtp : Value), t.ti)], ∀ g, p.1.ownBlock = some g → g < w7.heap.size := fun p hp g e => ((ol.1 p hp).lt g e).2
  have hBl := hB
  have hac := World.grownBy.refl w7 (some (w.heap.size + 2))
  obtain ⟨z7, hz7⟩ : ∃ z, Hid (w7.heap.size = z) := ⟨_, rfl⟩
  have zc := hz7
  obtain ⟨c0, c1, c2, c3, c4, c5, c6, c7, c8, c9, c10, c11, c12, c13, c14, c15, c16, c17, c18, c19, c20, c21, c22, c23, c24, c25, c26, c27, c28, c29⟩ := hX.cells
  go_wp2_with (first | (refine store_at (by rfl) 29 _ _ (by rfl) inf_l hB (by rfl) (by rfl) (by rfl) (by rfl) (by rfl) ?_; intro W hg1 hB1 hz1; clear c0 c1 c2 c3 c4 c5 c6 c7 c8 c9 c10 c11 c12 c13 c14 c15 c16 c17 c18 c19 c20 c21 c22 c23 c24 c25 c26 c27 c28 c29; have hX1 := hX.kept hg1 (by simp); have hac1 := grown_tr hac hg1; have zc1 := (show Hid _ from hz1.trans zc.out); clear hX hB hac zc hg1 hz1; have hX := hX1; have hB := hB1; have hac := hac1; have zc := zc1; clear hX1 hB1 hac1 zc1; obtain ⟨c0, c1, c2, c3, c4, c5, c6, c7, c8, c9, c10, c11, c12, c13, c14, c15, c16, c17, c18, c19, c20, c21, c22, c23, c24, c25, c26, c27, c28, c29⟩ := hX.cells))
  clear c0 c1 c2 c3 c4 c5 c6 c7 c8 c9 c10 c11 c12 c13 c14 c15 c16 c17 c18 c19 c20 c21 c22 c23 c24 c25 c26 c27 c28 c29
  have kbc := kb.grown hac kb.size (fun g e => by cases e; omega)
  have hR := hR.kept hac (by simp)
  have og := og.grown hac (by omega)
  have oo := oo.grown hac (by omega)
  have ol := ol.kept hac (fun p hp => .inr ((ol.1 p hp).not_block hBl (by decide)))
  replace hB : TB _ (w.heap.size + 2) [.int .i64 t.gc, .slice xga xgn xgp, .int .i64 t.oc, .slice xoa xon xop, .int .i64 t.row, .int .i64 t.col, .int .i64 t.st.fore, .int .i64 t.st.back, .bool t.st.bold, .bool t.st.under, .bool t.st.turned, .int .i64 t.top, .int .i64 t.bot, .bool t.full, .bool t.wrap, .bool t.away, .bool t.hid, .int .i64 t.sr, .int .i64 t.sc, .int .i64 t.ss.fore, .int .i64 t.ss.back, .bool t.ss.bold, .bool t.ss.under, .bool t.ss.turned, .slice xta xtn xtp, .int .i64 0, .slice none 0 0, .int .i64 0, .slice none 0 0, .string ⟨#[]⟩] := hB
  clear hac hBl
  refine (cP _ (hpp.below kbc).l.sl (hpt.below kbc).l.sl).mono ?_
  rintro e w8 ⟨xp, xq, rfl, hnp, hb⟩
  replace hB := hB.below hb
  replace hX := hX.below hb
  replace hR := hR.below hb
  replace kb := kbc.trans (hb.mono kbc.size)
  have s78 : w7.heap.size ≤ w8.heap.size := by have := hb.size; rw [zc.out, ← hz7.out] at this; exact this
  replace og := og.below hb
  replace oo := oo.below hb
  replace ol := ol.below hb
  clear kbc hb
  rw [zc.out, ← hz7.out] at hnp
  obtain ⟨xpa, xpn, xpp, hxp⟩ := hnp.head.shape
  obtain ⟨xqa, xqn, xqp, hxq⟩ := hnp.tail.head.shape
  simp only at hxp hxq
  subst hxp; subst hxq
  have ol8 : LiOk w8 w6.heap.size ([((.slice xta xtn xtp : Value), t.ti)] ++ [(.slice xpa xpn xpp, t.pa.params), (.slice xqa xqn xqp, t.pa.text)]) := ol.join olt hnp s67
  clear ol hnp olt
  have ol := ol8
  clear ol8
  clear zc
  have hBl := hB
  have hac := World.grownBy.refl w8 (some (w.heap.size + 2))
  obtain ⟨z8, hz8⟩ : ∃ z, Hid (w8.heap.size = z) := ⟨_, rfl⟩
  have zc := hz8
  obtain ⟨c0, c1, c2, c3, c4, c5, c6, c7, c8, c9, c10, c11, c12, c13, c14, c15, c16, c17, c18, c19, c20, c21, c22, c23, c24, c25, c26, c27, c28, c29⟩ := hX.cells
  go_wp2_with (first | (refine store_at (by rfl) 31 _ _ (by rfl) inf_p hB (by rfl) (by rfl) (by rfl) (by rfl) (by rfl) ?_; intro W hg1 hB1 hz1; clear c0 c1 c2 c3 c4 c5 c6 c7 c8 c9 c10 c11 c12 c13 c14 c15 c16 c17 c18 c19 c20 c21 c22 c23 c24 c25 c26 c27 c28 c29; have hX1 := hX.kept hg1 (by simp); have hac1 := grown_tr hac hg1; have zc1 := (show Hid _ from hz1.trans zc.out); clear hX hB hac zc hg1 hz1; have hX := hX1; have hB := hB1; have hac := hac1; have zc := zc1; clear hX1 hB1 hac1 zc1; obtain ⟨c0, c1, c2, c3, c4, c5, c6, c7, c8, c9, c10, c11, c12, c13, c14, c15, c16, c17, c18, c19, c20, c21, c22, c23, c24, c25, c26, c27, c28, c29⟩ := hX.cells))
  clear c0 c1 c2 c3 c4 c5 c6 c7 c8 c9 c10 c11 c12 c13 c14 c15 c16 c17 c18 c19 c20 c21 c22 c23 c24 c25 c26 c27 c28 c29
  have kbc := kb.grown hac kb.size (fun g e => by cases e; omega)
  have hR := hR.kept hac (by simp)
  have og := og.grown hac (by omega)
  have oo := oo.grown hac (by omega)
  have ol := ol.kept hac (fun p hp => .inr ((ol.1 p hp).not_block hBl (by decide)))
  replace hB : TB _ (w.heap.size + 2) [.int .i64 t.gc, .slice xga xgn xgp, .int .i64 t.oc, .slice xoa xon xop, .int .i64 t.row, .int .i64 t.col, .int .i64 t.st.fore, .int .i64 t.st.back, .bool t.st.bold, .bool t.st.under, .bool t.st.turned, .int .i64 t.top, .int .i64 t.bot, .bool t.full, .bool t.wrap, .bool t.away, .bool t.hid, .int .i64 t.sr, .int .i64 t.sc, .int .i64 t.ss.fore, .int .i64 t.ss.back, .bool t.ss.bold, .bool t.ss.under, .bool t.ss.turned, .slice xta xtn xtp, .int .i64 t.pa.state, .slice xpa xpn xpp, .int .i64 t.pa.mark, .slice xqa xqn xqp, .string ⟨#[]⟩] := hB
  clear hac hBl
  refine (cF _).mono ?_
  rintro e w9 ⟨rfl, hb⟩
  replace hB := hB.below hb
  replace hX := hX.below hb
  replace hR := hR.below hb
  replace kb := kbc.trans (hb.mono kbc.size)
  have s89 : w8.heap.size ≤ w9.heap.size := by have := hb.size; rw [zc.out, ← hz8.out] at this; exact this
  replace og := og.below hb
  replace oo := oo.below hb
  replace ol := ol.below hb
  clear kbc hb
  clear zc
  have hBl := hB
  have hac := World.grownBy.refl w9 (some (w.heap.size + 2))
  obtain ⟨z9, hz9⟩ : ∃ z, Hid (w9.heap.size = z) := ⟨_, rfl⟩
  have zc := hz9
  obtain ⟨c0, c1, c2, c3, c4, c5, c6, c7, c8, c9, c10, c11, c12, c13, c14, c15, c16, c17, c18, c19, c20, c21, c22, c23, c24, c25, c26, c27, c28, c29⟩ := hX.cells
  go_wp2_with (first | (refine load_T (cs := #[.int .i64 t.gc, .slice xga xgn xgp, .int .i64 t.oc, .slice xoa xon xop, .int .i64 t.row, .int .i64 t.col, .int .i64 t.st.fore, .int .i64 t.st.back, .bool t.st.bold, .bool t.st.under, .bool t.st.turned, .int .i64 t.top, .int .i64 t.bot, .bool t.full, .bool t.wrap, .bool t.away, .bool t.hid, .int .i64 t.sr, .int .i64 t.sc, .int .i64 t.ss.fore, .int .i64 t.ss.back, .bool t.ss.bold, .bool t.ss.under, .bool t.ss.turned, .slice xta xtn xtp, .int .i64 t.pa.state, .slice xpa xpn xpp, .int .i64 t.pa.mark, .slice xqa xqn xqp, .string t.fe]) (by rfl) 35 _ (by rfl) Tryz.underlying35 rfl info_te hB (by rfl) ?_) | (refine store_T (cs := #[.int .i64 t.gc, .slice xga xgn xgp, .int .i64 t.oc, .slice xoa xon xop, .int .i64 t.row, .int .i64 t.col, .int .i64 t.st.fore, .int .i64 t.st.back, .bool t.st.bold, .bool t.st.under, .bool t.st.turned, .int .i64 t.top, .int .i64 t.bot, .bool t.full, .bool t.wrap, .bool t.away, .bool t.hid, .int .i64 t.sr, .int .i64 t.sc, .int .i64 t.ss.fore, .int .i64 t.ss.back, .bool t.ss.bold, .bool t.ss.under, .bool t.ss.turned, .slice xta xtn xtp, .int .i64 t.pa.state, .slice xpa xpn xpp, .int .i64 t.pa.mark, .slice xqa xqn xqp, .string t.fe]) (by rfl) 35 _ _ (by rfl) info_te (by rfl) (by rfl) (hR.kept hac (by simp)) (by rfl) (by rfl) ?_; intro w10 hg10 hR10 zz10) | (refine store_at (by rfl) 33 _ _ (by rfl) inf_f hB (by rfl) (by rfl) (by rfl) (by rfl) (by rfl) ?_; intro W hg1 hB1 hz1; clear c0 c1 c2 c3 c4 c5 c6 c7 c8 c9 c10 c11 c12 c13 c14 c15 c16 c17 c18 c19 c20 c21 c22 c23 c24 c25 c26 c27 c28 c29; have hX1 := hX.kept hg1 (by simp); have hac1 := grown_tr hac hg1; have zc1 := (show Hid _ from hz1.trans zc.out); clear hX hB hac zc hg1 hz1; have hX := hX1; have hB := hB1; have hac := hac1; have zc := zc1; clear hX1 hB1 hac1 zc1; obtain ⟨c0, c1, c2, c3, c4, c5, c6, c7, c8, c9, c10, c11, c12, c13, c14, c15, c16, c17, c18, c19, c20, c21, c22, c23, c24, c25, c26, c27, c28, c29⟩ := hX.cells))
  have kbc := kb.grown hac kb.size (fun g e => by cases e; omega)
  have hRR := hR.kept hac (by simp)
  have hfin : OwnT w10 w.heap.size t ⟨.slice xga xgn xgp, .slice xoa xon xop, .slice xta xtn xtp, .slice xpa xpn xpp, .slice xqa xqn xqp⟩ :=
    ⟨w3.heap.size, w4.heap.size, w6.heap.size, OwnR.low ((og.grown hac (by omega)).grown hg10 (by omega)) (by omega), (oo.grown hac (by omega)).grown hg10 (by omega), (ol.kept hac (fun p hp => .inr ((ol.1 p hp).not_block hBl (by decide)))).kept hg10 (fun p hp => .inr (((ol.kept hac (fun p hp => .inr ((ol.1 p hp).not_block hBl (by decide)))).1 p hp).not_block hRR (by decide))), by omega, by omega, by omega, by rw [zz10, zc.out, ← hz9.out]; omega⟩
  exact bodyPost_ret (v := .agg #[.int .i64 t.gc, .slice xga xgn xgp, .int .i64 t.oc, .slice xoa xon xop, .int .i64 t.row, .int .i64 t.col, .int .i64 t.st.fore, .int .i64 t.st.back, .bool t.st.bold, .bool t.st.under, .bool t.st.turned, .int .i64 t.top, .int .i64 t.bot, .bool t.full, .bool t.wrap, .bool t.away, .bool t.hid, .int .i64 t.sr, .int .i64 t.sc, .int .i64 t.ss.fore, .int .i64 t.ss.back, .bool t.ss.bold, .bool t.ss.under, .bool t.ss.turned, .slice xta xtn xtp, .int .i64 t.pa.state, .slice xpa xpn xpp, .int .i64 t.pa.mark, .slice xqa xqn xqp, .string t.fe]) (results_cell_row Tryz.results19 _ _ _ _ _ _ _ rfl hR10 Tryz.underlying35 rfl info_te) rfl ⟨_, rfl, hfin, kbc.grown hg10 kbc.size (fun g e => by cases e; omega)⟩
end Go.Proofs.YtlmnhlfklbgjdaaGreatDoor
namespace Go.Proofs.YtlmnhlfklbgjdaaGreatDoor
open Go.ChangeShapes Go.WideShapes Go.ChangeAt Go.RowKit
/-- Only the blocks of two values change; new ones may come. -/
def GrV (u v : Value) (w w' : World) : Prop := w'.os = w.os ∧ w'.tape = w.tape ∧ w'.output = w.output ∧ w.heap.size ≤ w'.heap.size ∧ ∀ k, k < w.heap.size → u.ownBlock ≠ some k → v.ownBlock ≠ some k → w'.heap[k]? = w.heap[k]?
theorem GrV.of_below {u v : Value} {w w' : World} (h : Below w.heap.size w w') : GrV u v w w' := ⟨h.os, h.tape, h.output, h.size, fun k hk _ _ => h.block k hk⟩
theorem GrV.trans {u v : Value} {a b c : World} (h : GrV u v a b) (k : GrV u v b c) : GrV u v a c :=
  ⟨k.1.trans h.1, k.2.1.trans h.2.1, k.2.2.1.trans h.2.2.1, Nat.le_trans h.2.2.2.1 k.2.2.2.1, fun i hi h1 h2 => (k.2.2.2.2 i (Nat.lt_of_lt_of_le hi h.2.2.2.1) h1 h2).trans (h.2.2.2.2 i hi h1 h2)⟩
/-- What was new to the first world may change. -/
theorem GrV.grown {u v : Value} {a b c : World} {row : Option Nat} (h : GrV u v a b) (k : b.grownBy c row) (hr : ∀ g, row = some g → u.ownBlock = some g ∨ v.ownBlock = some g ∨ a.heap.size ≤ g) : GrV u v a c :=
  ⟨k.os.trans h.1, k.tape.trans h.2.1, k.output.trans h.2.2.1, Nat.le_trans h.2.2.2.1 k.size, fun i hi h1 h2 => (k.block i (Nat.lt_of_lt_of_le hi h.2.2.2.1) (fun e => by
    rcases hr i e.symm with h3 | h3 | h3
    · exact h1 h3
    · exact h2 h3
    · omega)).trans (h.2.2.2.2 i hi h1 h2)⟩
theorem GrV.below {u v : Value} {a b c : World} (h : GrV u v a b) (k : Below b.heap.size b c) : GrV u v a c := h.grown (gbl k none) (fun _ e => by cases e)
theorem GrV.to_below {u v : Value} {w w' : World} {B : Nat} (h : GrV u v w w') (hB : B ≤ w.heap.size) (hu : ∀ g, u.ownBlock = some g → B ≤ g) (hv : ∀ g, v.ownBlock = some g → B ≤ g) : Below B w w' :=
  ⟨h.1, h.2.1, h.2.2.1, h.2.2.2.1, fun k hk => h.2.2.2.2 k (by omega) (fun e => by have := hu k e; omega) (fun e => by have := hv k e; omega)⟩
end Go.Proofs.YtlmnhlfklbgjdaaGreatDoor
namespace Go.Proofs.YtlmnhlfklbgjdaaGreatDoor
open Go.ChangeShapes Go.WideShapes Go.ChangeAt Go.RowKit
def AxC (w : World) (B : Nat) (k r : Int) (pv : Value) (m : Int) (tv : Value) : Prop := w.heap[B]? = some (.cells #[.int .i64 k, .int .i64 r, pv, .int .i64 m, tv] 129 (0, 0))
theorem AxC.lt {w : World} {B : Nat} {k r m : Int} {pv tv : Value} (h : AxC w B k r pv m tv) : B < w.heap.size := (Array.getElem?_eq_some_iff.1 h).1
theorem AxC.below {w w' : World} {B : Nat} {k r m : Int} {pv tv : Value} (h : AxC w B k r pv m tv) (hb : Below w.heap.size w w') : AxC w' B k r pv m tv := by
  unfold AxC
  rw [hb.block B h.lt]
  exact h
theorem AxC.new (w : World) (k r m : Int) (pv tv : Value) : AxC (w.alloc (.cells #[.int .i64 k, .int .i64 r, pv, .int .i64 m, tv] 129)) w.heap.size k r pv m tv := heap_alloc_new w _
theorem AxC.cells {w : World} {B : Nat} {k r m : Int} {pv tv : Value} (h : AxC w B k r pv m tv) :
    w.cell? ⟨B, 0, none⟩ = some (.int .i64 k) ∧ w.cell? ⟨B, 1, none⟩ = some (.int .i64 r) ∧ w.cell? ⟨B, 2, none⟩ = some pv ∧ w.cell? ⟨B, 3, none⟩ = some (.int .i64 m) ∧ w.cell? ⟨B, 4, none⟩ = some tv := by
  refine ⟨?_, ?_, ?_, ?_, ?_⟩ <;> (rw [cell_of_row w B _ _ _ (0, 0) h]; rfl)
end Go.Proofs.YtlmnhlfklbgjdaaGreatDoor
namespace Go.Proofs.YtlmnhlfklbgjdaaGreatDoor
open Go.ChangeShapes Go.WideShapes Go.ChangeAt Go.RowKit
/-- A screen's lists, by their ranges. -/
def RgT (w : World) (base b1 b2 b3 : Nat) (t : Te) (v : Tv) : Prop := OwnR w base b1 v.g t.g ∧ OwnR w b1 b2 v.o t.o ∧ LiOk w b3 [(v.ti, t.ti), (v.pp, t.pa.params), (v.pt, t.pa.text)] ∧ base ≤ b1 ∧ b1 ≤ b2 ∧ b2 ≤ b3 ∧ b3 ≤ w.heap.size
theorem RgT.below {w w' : World} {base b1 b2 b3 : Nat} {t : Te} {v : Tv} (h : RgT w base b1 b2 b3 t v) (hb : Below w.heap.size w w') : RgT w' base b1 b2 b3 t v := by
  obtain ⟨h1, h2, h3, h4, h5, h6, h7⟩ := h
  exact ⟨h1.below hb, h2.below hb, h3.below hb, h4, h5, h6, Nat.le_trans h7 hb.size⟩
theorem RgT.sl {w : World} {base b1 b2 b3 : Nat} {t : Te} {v : Tv} (h : RgT w base b1 b2 b3 t v) : SlT w t v := ⟨h.1.sl, h.2.1.sl, SlN.of_own h.2.2.1.head, SlN.of_own h.2.2.1.tail.head, SlN.of_own h.2.2.1.tail.tail.head⟩
end Go.Proofs.YtlmnhlfklbgjdaaGreatDoor
