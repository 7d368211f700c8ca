/- The program's route: how far two beginnings are apart. The program's route: a row is filled. The program's route: rows compared, a route built. The program's route between two lists. The program's Apart and Shared. The program's route: one edit of it. -/
import Derived.Test.YtokoohmakjabnaaP2
import Derived.ChangeKeysEq
import Derived.WalkMore
namespace Go.Proofs.Ytokoohmakjabnaa
open Go.ChangeShapes Go.WideShapes Go.ChangeAt Go.RowKit
theorem min_if (a b : Int) : (if b < a then b else a) = min a b := by split <;> omega
theorem waysL_bd (t : Bool) (k : Nat) (h : k < (waysL t).length) : ((waysL t).getD k (0, 0, 0)).2.1 ≤ 1 ∧ ((waysL t).getD k (0, 0, 0)).2.2 ≤ 1 ∧ (0 < ((waysL t).getD k (0, 0, 0)).2.1 ∨ 0 < ((waysL t).getD k (0, 0, 0)).2.2) := by
  cases t
  · match k, h with
    | 0, _ => decide
    | 1, _ => decide
  · match k, h with
    | 0, _ => decide
    | 1, _ => decide
    | 2, _ => decide
set_option maxHeartbeats 4000000 in
set_option maxRecDepth 20000 in
theorem stepsTo_any (t : Bool) (B : Nat) (va vb vw : Value) (L : Int) (R : Nat → Nat → Int) (xs ys : List Int) (w : World) (h : RtB w B va vb vw L R) (ha : SlI w va xs) (hb : SlI w vb ys) (hw : WyS w vw (waysL t)) (hx : xs.length ≤ 40) (hy : ys.length ≤ 40) (i j : Nat) (hi : i ≤ xs.length) (hj : j ≤ ys.length)
    (hbd : ∀ i' j', i' ≤ i → j' ≤ j → (i' < i ∨ j' < j) → 0 ≤ R i' j' ∧ R i' j' ≤ 160) :
    Calls Try.prog 51 #[.pointer (some ⟨B, 0, none⟩), .int .i64 i, .int .i64 j] w fun e w' => e = .returned (.int .i64 (edS t (fun k => xs.getD k 0) (fun k => ys.getD k 0) R i j)) ∧ Below w.heap.size w w' := by
  have hal := alike_any B va vb vw L R xs ys w h ha hb hx hy i j hi hj
  have hlt := h.lt
  obtain ⟨S, hS⟩ : ∃ S, Hid (edS t (fun k => xs.getD k 0) (fun k => ys.getD k 0) R i j = S) := ⟨_, rfl⟩
  rw [hS.out]
  by_cases h00 : i = 0 ∧ j = 0
  · obtain ⟨rfl, rfl⟩ := h00
    have e : S = 0 := by rw [← hS.out]; rfl
    subst e
    clear hS hal hbd
    go_enter Try.func51, Try.ntmps51
    go_wp2
    go_ret
    exact ⟨rfl, Below.refl _ _⟩
  have hnn : ¬ ((i : Int) = 0 ∧ (j : Int) = 0) := by omega
  by_cases hA : alikeB xs ys i j = true
  · rw [hA] at hal
    have hA2 := of_decide_eq_true hA
    obtain ⟨i1, rfl⟩ : ∃ i1, i = i1 + 1 := ⟨i - 1, by omega⟩
    obtain ⟨j1, rfl⟩ : ∃ j1, j = j1 + 1 := ⟨j - 1, by omega⟩
    have e : S = R i1 j1 := by rw [← hS.out, edS, if_pos (by simpa using hA2.2.2)]
    subst e
    clear hS hbd hA hA2
    generalize hi' : i1 + 1 = i at *
    generalize hj' : j1 + 1 = j at *
    replace hi' := (show Hid _ from hi')
    replace hj' := (show Hid _ from hj')
    have e3 : IntKind.i64.wrap ((i : Int) - 1) = (i1 : Int) := wid (by have := hi'.out; omega) (by omega) (by omega)
    have e8 : IntKind.i64.wrap ((j : Int) - 1) = (j1 : Int) := wid (by have := hj'.out; omega) (by omega) (by omega)
    have i0 : ¬ ((i : Int) = 0) := by have := hi'.out; omega
    have i41 : i1 < 41 := by have := hi'.out; omega
    have j41 : j1 < 41 := by have := hj'.out; omega
    have c4 : ∀ W, Below w.heap.size w W → W.cell? ⟨B, 4 + i1 * 41 + j1, none⟩ = some (.int .i64 (R i1 j1)) := fun W hb => (h.below hb).at i1 j1 (by omega) (by omega)
    go_enter Try.func51, Try.ntmps51
    go_wp2_with (go_at_call 44; refine hal.mono ?_; rintro e w1 ⟨rfl, hb1⟩; have c5 := c4 _ hb1)
    go_ret
    exact ⟨rfl, hb1⟩
  have hA : alikeB xs ys i j = false := by simpa using hA
  rw [hA] at hal
  have hA2 := of_decide_eq_false hA
  have e := edS_ways t (fun k => xs.getD k 0) (fun k => ys.getD k 0) R i j h00 (fun i1 j1 e1 e2 => by
    subst e1; subst e2
    intro q
    exact hA2 ⟨by omega, by omega, by simpa using q⟩)
  rw [hS.out] at e
  subst e
  have hwb := waysL_bd t
  generalize hws : waysL t = ws at *
  obtain ⟨V, c, rfl, hVl, hVc⟩ := hw
  have hN : ws.length ≤ 3 := by rw [← hws]; cases t <;> decide
  clear hS hA hA2 hws
  have c2 : ∀ W, Below w.heap.size w W → W.cell? ⟨B, 2, none⟩ = some (.slice (some ⟨V, 0, none⟩) ws.length c) := fun W hb => (h.below hb).cells.2.2.1
  have c4 : ∀ W p q, Below w.heap.size w W → p ≤ 40 → q ≤ 40 → W.cell? ⟨B, 4 + p * 41 + q, none⟩ = some (.int .i64 (R p q)) := fun W p q hb h1 h2 => (h.below hb).at p q h1 h2
  have cV : ∀ W q, Below w.heap.size w W → W.cell? ⟨V, q, none⟩ = w.cell? ⟨V, q, none⟩ := fun W q hb => hb.cell (p := ⟨V, q, none⟩) hVl
  obtain ⟨N, hNn⟩ : ∃ N, Hid (ws.length = N) := ⟨_, rfl⟩
  rw [hNn.out] at hN c2
  have hfin : waysS R i j ws = waysS R i j (ws.take N) := by rw [← hNn.out, List.take_length]
  rw [hfin]
  have hstep : ∀ k, k < N → waysS R i j (ws.take (k + 1)) = wayS R i j (waysS R i j (ws.take k)) (ws.getD k (0, 0, 0)) := fun k hk => waysS_snoc R i j ws k (by rw [hNn.out]; exact hk)
  have hVc2 : ∀ k, k < N → _ := fun k hk => hVc k (by rw [hNn.out]; exact hk)
  have hwb2 : ∀ k, k < N → _ := fun k hk => hwb k (by rw [hNn.out]; exact hk)
  clear hfin hVc hwb
  generalize hac : (fun k => waysS R i j (ws.take k)) = ac at *
  have hac0 : ac 0 = 160 := by rw [← hac]; rfl
  have hacN : waysS R i j (ws.take N) = ac N := by rw [← hac]
  rw [hacN]
  have hst2 : ∀ k, k < N → ac (k + 1) = wayS R i j (ac k) (ws.getD k (0, 0, 0)) := fun k hk => by rw [← hac]; exact hstep k hk
  have hlim : ∀ k, k ≤ N → 0 ≤ ac k ∧ ac k ≤ 160 := fun k => by
    induction k with
    | zero => intro _; rw [hac0]; omega
    | succ k ih =>
      intro hk
      rw [hst2 k (by omega)]
      exact wayS_bd R i j (fun i' j' h1 h2 h3 => (hbd i' j' h1 h2 h3).1) _ _ (hwb2 k (by omega)).2.2 (ih (by omega))
  clear hstep hac hacN
  replace cV := (show Hid _ from cV)
  replace c4 := (show Hid _ from c4)
  replace c2 := (show Hid _ from c2)
  replace hst2 := (show Hid _ from hst2)
  replace hlim := (show Hid _ from hlim)
  replace hac0 := (show Hid _ from hac0)
  replace hVc2 := (show Hid _ from hVc2)
  replace hwb2 := (show Hid _ from hwb2)
  replace hbd := (show Hid _ from hbd)
  clear hb
  clear hnn
  by_cases q1 : i = 0
  · subst q1
    have q2 : ¬ ((j : Int) = 0) := by omega
    have e0 : ((0 : Nat) : Int) = 0 := rfl
    rw [e0] at hal
    clear e0 h00
    go_enter Try.func51, Try.ntmps51
    go_wp2_with (go_at_call 44; refine hal.mono ?_; rintro e w1 ⟨rfl, hb1⟩; have c3 := c2.out _ hb1)
    go_loopw [7, 9, 35] (fun lv _ kv wr => ∃ k : Nat, k ≤ N ∧ kv = .int .i64 k ∧ lv = .int .i64 (ac k) ∧ Below w.heap.size w wr) (fun _ _ kv _ => N - (intOf kv).toNat)
    case atStart => exact ⟨0, Nat.zero_le _, rfl, by rw [hac0.out], hb1⟩
    case round =>
      obtain ⟨k, hk, rfl, rfl, kb⟩ := hrel
      clear hb1 c3 hal
      by_cases hlk : k < N
      · obtain ⟨v0, v1, v2⟩ := hVc2.out k hlk
        obtain ⟨b1, b2, b3⟩ := hwb2.out k hlk
        have hs := hst2.out k hlk
        have hl := hlim.out k hk
        have hVw : V < wr.heap.size := Nat.lt_of_lt_of_le hVl kb.size
        rw [← cV.out _ _ kb] at v0 v1 v2
        generalize ws.getD k (0, 0, 0) = y at v0 v1 v2 b1 b2 b3 hs
        obtain ⟨kd, fa, fb⟩ := y
        dsimp only at v0 v1 v2 b1 b2 b3 hs
        generalize ac k = A at *
        obtain ⟨A1, hA1⟩ : ∃ A1, Hid (ac (k + 1) = A1) := ⟨_, rfl⟩
        rw [hA1.out] at hs
        have hki : (k : Int) < (N : Int) := by omega
        have hal1 := bal' wr (Obj.cells #[.int .i64 kd, .int .i64 fa, .int .i64 fb] 73)
        have hbx : BlkC (wr.alloc (Obj.cells #[.int .i64 kd, .int .i64 fa, .int .i64 fb] 73)) wr.heap.size 73 [.int .i64 kd, .int .i64 fa, .int .i64 fb] := heap_alloc_new wr _
        have kb2 := kb.trans (hal1.mono kb.size)
        by_cases hf : fa ≤ 0 ∧ fb ≤ j
        · have hft := fun W => (show Calls Try.prog 45 #[.agg #[.int .i64 kd, .int .i64 fa, .int .i64 fb], .int .i64 0, .int .i64 j] W (fun e w' => e = .returned (.bool (decide (fa ≤ 0 ∧ fb ≤ j))) ∧ Below W.heap.size W w') from fits_any kd fa fb 0 j W)
          simp only [decide_eq_true hf] at hft
          obtain ⟨hf0, hf1⟩ := hf
          obtain rfl : fa = 0 := by omega
          obtain ⟨q, hq⟩ : ∃ q, Hid (q = j - fb) := ⟨_, rfl⟩
          have hs2 : A1 = min A (R 0 q + 1) := by rw [hs, hq.out]; exact if_pos ⟨hf0, hf1⟩
          have e2 : IntKind.i64.wrap ((j : Int) - (fb : Int)) = (q : Int) := wid (by have := hq.out; omega) (by omega) (by omega)
          have q41 : q < 41 := by have := hq.out; omega
          have hbR := hbd.out 0 q (by omega) (by have := hq.out; omega) (by have := hq.out; omega)
          have e9 : IntKind.i64.wrap (R 0 q + 1) = R 0 q + 1 := wid rfl (by omega) (by omega)
          replace hs := hs2
          have e0 : ((0 : Nat) : Int) = 0 := rfl
          rw [e0] at v1 hbx kb2
          simp only [e0] at hft
          clear hs2 hf0 hf1 e0
          replace kb2 := (show Hid _ from kb2)
          replace hbx := (show Hid _ from hbx)
          go_wp2_with fail
          refine (hft _).mono ?_
          rintro e w3 ⟨rfl, hb3⟩
          have kb3 := kb2.out.trans (hb3.mono kb2.out.size)
          have d5 := (show w3.cell? ⟨B, 4 + q, none⟩ = _ from by have := c4.out w3 0 q kb3 (by omega) (by omega); simpa using this)
          have d1 : w3.cell? ⟨wr.heap.size, 1, none⟩ = some (.int .i64 0) := cell_blk (BlkC.below hbx.out hb3) 1
          have d2 : w3.cell? ⟨wr.heap.size, 2, none⟩ = some (.int .i64 fb) := cell_blk (BlkC.below hbx.out hb3) 2
          go_wp2
          go_quiet (fail)
          go_wp2
          go_roundw
          case rel => exact ⟨k + 1, by omega, by go_num, by rw [hA1.out, hs, ← min_if], kb3.trans ((drwB w3 nq).mono kb3.size)⟩
          case measure => simp [intOf]; omega
        · have hft := fun W => (show Calls Try.prog 45 #[.agg #[.int .i64 kd, .int .i64 fa, .int .i64 fb], .int .i64 0, .int .i64 j] W (fun e w' => e = .returned (.bool (decide (fa ≤ 0 ∧ fb ≤ j))) ∧ Below W.heap.size W w') from fits_any kd fa fb 0 j W)
          simp only [decide_eq_false hf] at hft
          have hs2 : A1 = A := by rw [hs]; exact if_neg hf
          clear hs hf
          replace kb2 := (show Hid _ from kb2)
          replace hs2 := (show Hid _ from hs2)
          clear hbx
          go_wp2_with (go_at_call 45; refine (hft _).mono ?_; rintro e w3 ⟨rfl, hb3⟩; have kb3 := kb2.out.trans (hb3.mono kb2.out.size))
          go_roundw
          case rel => exact ⟨k + 1, by omega, by go_num, by rw [hA1.out, hs2.out], kb3⟩
          case measure => simp [intOf]; omega
      · have hkN : k = N := by omega
        subst hkN
        go_wp2
        go_ret
        exact ⟨rfl, kb⟩
  · have q2 : ¬ ((i : Int) = 0) := by omega
    clear h00
    go_enter Try.func51, Try.ntmps51
    go_wp2_with (go_at_call 44; refine hal.mono ?_; rintro e w1 ⟨rfl, hb1⟩; have c3 := c2.out _ hb1)
    go_loopw [7, 9, 35] (fun lv _ kv wr => ∃ k : Nat, k ≤ N ∧ kv = .int .i64 k ∧ lv = .int .i64 (ac k) ∧ Below w.heap.size w wr) (fun _ _ kv _ => N - (intOf kv).toNat)
    case atStart => exact ⟨0, Nat.zero_le _, rfl, by rw [hac0.out], hb1⟩
    case round =>
      obtain ⟨k, hk, rfl, rfl, kb⟩ := hrel
      clear hb1 c3 hal
      by_cases hlk : k < N
      · obtain ⟨v0, v1, v2⟩ := hVc2.out k hlk
        obtain ⟨b1, b2, b3⟩ := hwb2.out k hlk
        have hs := hst2.out k hlk
        have hl := hlim.out k hk
        have hVw : V < wr.heap.size := Nat.lt_of_lt_of_le hVl kb.size
        rw [← cV.out _ _ kb] at v0 v1 v2
        generalize ws.getD k (0, 0, 0) = y at v0 v1 v2 b1 b2 b3 hs
        obtain ⟨kd, fa, fb⟩ := y
        dsimp only at v0 v1 v2 b1 b2 b3 hs
        generalize ac k = A at *
        obtain ⟨A1, hA1⟩ : ∃ A1, Hid (ac (k + 1) = A1) := ⟨_, rfl⟩
        rw [hA1.out] at hs
        have hki : (k : Int) < (N : Int) := by omega
        have hal1 := bal' wr (Obj.cells #[.int .i64 kd, .int .i64 fa, .int .i64 fb] 73)
        have hbx : BlkC (wr.alloc (Obj.cells #[.int .i64 kd, .int .i64 fa, .int .i64 fb] 73)) wr.heap.size 73 [.int .i64 kd, .int .i64 fa, .int .i64 fb] := heap_alloc_new wr _
        have kb2 := kb.trans (hal1.mono kb.size)
        by_cases hf : fa ≤ i ∧ fb ≤ j
        · have hft := fun W => fits_any kd fa fb i j W
          simp only [decide_eq_true hf] at hft
          obtain ⟨p, hp⟩ : ∃ p, Hid (p = i - fa) := ⟨_, rfl⟩
          obtain ⟨q, hq⟩ : ∃ q, Hid (q = j - fb) := ⟨_, rfl⟩
          have hs2 : A1 = min A (R p q + 1) := by rw [hs, hp.out, hq.out]; exact if_pos hf
          have e1 : IntKind.i64.wrap ((i : Int) - (fa : Int)) = (p : Int) := wid (by have := hp.out; omega) (by omega) (by omega)
          have e2 : IntKind.i64.wrap ((j : Int) - (fb : Int)) = (q : Int) := wid (by have := hq.out; omega) (by omega) (by omega)
          have p41 : p < 41 := by have := hp.out; omega
          have q41 : q < 41 := by have := hq.out; omega
          have hbR := hbd.out p q (by have := hp.out; omega) (by have := hq.out; omega) (by have := hp.out; have := hq.out; omega)
          have e9 : IntKind.i64.wrap (R p q + 1) = R p q + 1 := wid rfl (by omega) (by omega)
          replace hs := hs2
          clear hs2 hf
          replace kb2 := (show Hid _ from kb2)
          replace hbx := (show Hid _ from hbx)
          go_wp2_with fail
          refine (hft _).mono ?_
          rintro e w3 ⟨rfl, hb3⟩
          have kb3 := kb2.out.trans (hb3.mono kb2.out.size)
          have d5 := c4.out w3 p q kb3 (by omega) (by omega)
          have d1 : w3.cell? ⟨wr.heap.size, 1, none⟩ = some (.int .i64 fa) := cell_blk (BlkC.below hbx.out hb3) 1
          have d2 : w3.cell? ⟨wr.heap.size, 2, none⟩ = some (.int .i64 fb) := cell_blk (BlkC.below hbx.out hb3) 2
          go_wp2
          go_quiet (fail)
          go_wp2
          go_roundw
          case rel => exact ⟨k + 1, by omega, by go_num, by rw [hA1.out, hs, ← min_if], kb3.trans ((drwB w3 nq).mono kb3.size)⟩
          case measure => simp [intOf]; omega
        · have hft := fun W => fits_any kd fa fb i j W
          simp only [decide_eq_false hf] at hft
          have hs2 : A1 = A := by rw [hs]; exact if_neg hf
          clear hs hf
          replace kb2 := (show Hid _ from kb2)
          replace hs2 := (show Hid _ from hs2)
          clear hbx
          go_wp2_with (go_at_call 45; refine (hft _).mono ?_; rintro e w3 ⟨rfl, hb3⟩; have kb3 := kb2.out.trans (hb3.mono kb2.out.size))
          go_roundw
          case rel => exact ⟨k + 1, by omega, by go_num, by rw [hA1.out, hs2.out], kb3⟩
          case measure => simp [intOf]; omega
      · have hkN : k = N := by omega
        subst hkN
        go_wp2
        go_ret
        exact ⟨rfl, kb⟩
end Go.Proofs.Ytokoohmakjabnaa
namespace Go.Proofs.Ytokoohmakjabnaa
open Go.ChangeShapes Go.WideShapes Go.ChangeAt Go.RowKit
theorem wp_store_at {P : Program} {o : Oper} {a : Act} {w : World} {K : Act → World → Prop} {Q : Exit → Act → World → Prop} (t : TypeId) (x y : Operand) (ho : o.op = .store t x y) {e : TypeId} {B k n : Nat} {cs : List Value} {v : Value} (hi : (P.info? t).map (·.size) = some n) (hb : BlkC w B e cs) (hx : a.eval x = .pointer (some ⟨B, k, none⟩)) (hy : a.eval y = v) (hn : v.cells.size = n) (h1 : v.cells.toList.all (·.oneCell') = true) (hk : Nat.ble (k + n) cs.length = true)
    (h : K (a.put o.dst undef) (w.setCells B k v.cells.toList)) : o.wp P a w K Q := by
  have hk := Nat.le_of_ble_eq_true hk
  rw [← hn] at hi hk
  have hs := run_storeCells_cells (P := P) B k v.cells.toList 0 w (fun j hj => by
      rw [cell_of_row w B _ cs.toArray e (0, 0) hb]
      simp at hj ⊢; omega) (fun j hj => frozen_of_row w B _ _ _ hb) (fun u hu => List.all_eq_true.1 h1 u hu)
  rw [Nat.add_zero] at hs
  unfold Oper.wp
  cases hq : P.info? t with
  | none => simp [hq] at hi
  | some i =>
    have hsz : v.cells.size = i.size := by simp [hq] at hi; omega
    simp [execOp, ho, hx, hy, Instr.storeAt, Instr.sureAddr, storeVar, sizeOf, typeInfo, hq, hsz, Result.andThen, hs]
    exact h
theorem Below.gr {w w' : World} (h : Below w.heap.size w w') (row : Option Nat) : w.grownBy w' row := ⟨h.os, h.tape, h.output, h.size, fun k hk _ => h.block k hk⟩
theorem edC_bd (l d : Int) (hl : 0 ≤ l ∧ l < 160) (hd : 0 ≤ d) : 0 ≤ edC l d ∧ edC l d ≤ 160 := by unfold edC; split <;> omega
/-- Rows that are filled up to a place. -/
def Fil (L : Int) (D R : Nat → Nat → Int) (n i j : Nat) : Prop :=
  (∀ i' j', i' < i → j' ≤ n → R i' j' = edC L (D i' j')) ∧ (∀ j', j' < j → R i j' = edC L (D i j')) ∧ (∀ j', j ≤ j' → j' ≤ 40 → R i j' = 160)
set_option maxHeartbeats 4000000 in
set_option maxRecDepth 20000 in
theorem fillRow_any (t : Bool) (w0 : World) (B : Nat) (hB0 : w0.heap.size ≤ B) (va vb vw : Value) (L : Int) (hL : 0 ≤ L ∧ L < 160) (R : Nat → Nat → Int) (xs ys : List Int) (ha : SlI w0 va xs) (hb : SlI w0 vb ys) (hw : WyS w0 vw (waysL t)) (hx : xs.length ≤ 40) (hy : ys.length ≤ 40) (i : Nat) (hi : i ≤ xs.length)
    (w : World) (h : RtB w B va vb vw L R) (kb : Below w0.heap.size w0 w) (hF : ∀ i' j', i' < i → j' ≤ ys.length → R i' j' = edC L (edD t (fun k => xs.getD k 0) (fun k => ys.getD k 0) i' j')) :
    Calls Try.prog 42 #[.pointer (some ⟨B, 0, none⟩), .int .i64 i] w fun e w' => e = .returned (.tuple #[]) ∧ w.grownBy w' (some B) ∧ ∃ R', RtB w' B va vb vw L R' ∧ Fil L (edD t (fun k => xs.getD k 0) (fun k => ys.getD k 0)) R' ys.length i (ys.length + 1) := by
  obtain ⟨cs, h1, hl, h2⟩ := h
  have hd : Below w.heap.size w w.drew := ⟨rfl, rfl, rfl, Nat.le_refl _, fun _ _ => rfl⟩
  have i41 : (i : Int) < 41 := by omega
  obtain ⟨D, hD⟩ : ∃ D, Hid (D = edD t (fun k => xs.getD k 0) (fun k => ys.getD k 0)) := ⟨_, rfl⟩
  rw [← hD.out] at hF ⊢
  obtain ⟨N, hN⟩ : ∃ N, Hid (ys.length + 1 = N) := ⟨_, rfl⟩
  rw [hN.out]
  have hN2 : N ≤ 41 := by have := hN.out; omega
  go_enter Try.func42, Try.ntmps42
  go_wp2
  refine wp_region_noPanic ?_
  refine wp_region_held_drew (S := (fun _ => True)) (by kernel_rfl) (trivial) (fun hHeld => ?_)
  refine' wpAnyH_take (i := 0) (v := _) rfl (by kernel_rfl) (by kernel_rfl) (by kernel_rfl) (fun _ _ _ h => h) (Or.inl ⟨by rfl, ?hy1001⟩) hHeld ?hr1001
  case hy1001 => (intro w hSw; (try dsimp only at hSw); go_simp; (try with_reducible rfl))
  simp only [Act.put, List.setIfInBounds_toArray, List.set_cons_zero, List.set_cons_succ, List.getElem_toArray, List.getElem_cons_zero]
  refine' wpAnyH_take (i := 1) (v := _) rfl (by kernel_rfl) (by kernel_rfl) (by kernel_rfl) (fun _ _ _ h => h) (Or.inl ⟨by rfl, ?hy1002⟩) hHeld ?hr1002
  case hy1002 => (intro w hSw; (try dsimp only at hSw); go_simp; (try with_reducible rfl))
  simp only [Act.put, List.setIfInBounds_toArray, List.set_cons_zero, List.set_cons_succ, List.getElem_toArray, List.getElem_cons_zero, List.getElem_cons_succ]
  refine' wpAnyH_take (i := 3) (v := _) rfl (by kernel_rfl) (by kernel_rfl) (by kernel_rfl) (fun _ _ _ h => h) (Or.inl ⟨by rfl, ?hy1003⟩) hHeld ?hr1003
  case hy1003 => (intro w hSw; (try dsimp only at hSw); go_simp; (try with_reducible rfl))
  simp only [Act.put, List.setIfInBounds_toArray, List.set_cons_zero, List.set_cons_succ, List.getElem_toArray, List.getElem_cons_zero, List.getElem_cons_succ]
  refine' wpAnyH_take (i := 4) (v := _) rfl (by kernel_rfl) (by kernel_rfl) (by kernel_rfl) (fun _ _ _ h => h) (Or.inl ⟨by rfl, ?hy1004⟩) hHeld ?hr1004
  case hy1004 => (intro w hSw; (try dsimp only at hSw); go_simp; (try with_reducible rfl))
  simp only [Act.put, List.setIfInBounds_toArray, List.set_cons_zero, List.set_cons_succ, List.getElem_toArray, List.getElem_cons_zero, List.getElem_cons_succ]
  refine wpAnyH_ready (rs := [2]) (by kernel_rfl) (by simp) (allReady_1 rfl rfl (fun K hK => ?_))
  go_simp
  refine (allBeyond_any _).mono ?_
  rintro e w1 ⟨rfl, hb9⟩
  replace hd := hd.trans (hb9.mono hd.size)
  have hB1 := BlkC.below h1 hd
  go_wp2_with fail
  refine hK.out _ _ (trivial) (fun hHeld => ?_)
  clear hK K
  (try simp only [Act.put, List.setIfInBounds_toArray, List.set_cons_zero, List.set_cons_succ, List.getElem_toArray, List.getElem_cons_zero, List.getElem_cons_succ])
  refine' wpAnyH_take (i := 5) (v := _) rfl (by kernel_rfl) (by kernel_rfl) (by kernel_rfl) (fun _ _ _ h => h) (Or.inl ⟨by rfl, ?hy1005⟩) hHeld ?hr1005
  case hy1005 => (intro w hSw; (try dsimp only at hSw); go_simp; (try with_reducible rfl))
  simp only [Act.put, List.setIfInBounds_toArray, List.set_cons_zero, List.set_cons_succ, List.getElem_toArray, List.getElem_cons_zero, List.getElem_cons_succ]
  refine wpAnyH_ready (rs := [6]) (by kernel_rfl) (by simp) (allReady_1 rfl rfl (fun K hK => ?_))
  refine wp_store_at 65 _ _ (by rfl) (v := .agg (rowV (fun _ => 160)).toArray) info_row hB1 (by rfl) (by rfl) (by rfl) (rowV_one _) (Nat.ble_eq_true_of_le (by rw [hl]; omega)) ?_
  refine hK.out _ _ (trivial) (fun hHeld => ?_)
  clear hK K
  (try simp only [Act.put])
  refine wpAnyH_done (by kernel_rfl) ?_ _
  refine NoPanic.normal ?_
  have hB2 : BlkC (w1.setCells B (4 + i * 41) (rowV (fun _ => 160))) B 68 (setV cs (4 + i * 41) (rowV (fun _ => 160))) := setCells_heap B _ (rowV (fun _ => 160)) (4 + i * 41) w1 cs hB1
  have hg2 := grown_tr (Below.gr hd (some B)) (setCells_gr B (rowV (fun _ => 160)) (4 + i * 41) w1)
  have ev : (Value.agg (rowV (fun _ => 160)).toArray).cells.toList = rowV (fun _ => 160) := rfl
  rw [ev]
  obtain ⟨w2, hw2⟩ : ∃ w2, w2 = w1.setCells B (4 + i * 41) (rowV (fun _ => 160)) := ⟨_, rfl⟩
  rw [← hw2] at hB2 hg2 ⊢
  clear hw2 ev hB1 h1
  simp only [List.getElem_toArray, List.getElem_cons_zero, List.getElem_cons_succ]
  obtain ⟨g0, g1, g2, g3, h6⟩ := h2
  have hR2 := RtB.row hl g0 g1 g2 g3 h6 i (by omega) (fun _ => 160) hB2
  have hF2 : Fil L D (rowR R i (fun _ => 160)) ys.length i 0 := by
    refine ⟨fun i' j' h1 h2 => ?_, fun j' h1 => absurd h1 (Nat.not_lt_zero _), fun j' _ _ => ?_⟩
    · unfold rowR; rw [if_neg (by omega)]; exact hF i' j' h1 h2
    · unfold rowR; rw [if_pos rfl]
  clear g0 g1 g2 g3 h6 hB2 hl hd hb9 hF
  have kb2 := kb.grown hg2 kb.size (fun k e => by cases e; exact hB0)
  obtain ⟨_, q1, _, _⟩ := hR2.cells
  have hb2 := hb.below kb2
  obtain ⟨vba, vbc, hvb, _⟩ := hb2
  rw [hvb] at q1
  have eW : IntKind.i64.wrap ((ys.length : Int) + 1) = (N : Int) := wid (by have := hN.out; omega) (by omega) (by omega)

  obtain ⟨R2, hR2e⟩ : ∃ R2, R2 = rowR R i (fun _ => 160) := ⟨_, rfl⟩
  rw [← hR2e] at hR2 hF2
  clear hR2e
  replace hF2 := (show Hid _ from hF2)
  go_wp2
  go_loopw [4, 5, 18] (fun _ _ jv wr => ∃ (j : Nat) (R' : Nat → Nat → Int), j ≤ N ∧ jv = .int .i64 j ∧ RtB wr B va vb vw L R' ∧ Hid (Fil L D R' ys.length i j) ∧ w.grownBy wr (some B)) (fun _ _ jv _ => N - (intOf jv).toNat)
  case atStart => exact ⟨0, R2, Nat.zero_le _, rfl, hR2, hF2, hg2⟩
  case round =>
    obtain ⟨j, R', hj, rfl, hR, hFl, hg⟩ := hrel
    clear hR2 hF2 hg2 kb2 q1
    have hFi := hFl.out
    by_cases hlj : j < N
    · have hji : (j : Int) < (N : Int) := by omega
      have hjn : j ≤ ys.length := by have := hN.out; omega
      have kbr := kb.grown hg kb.size (fun k e => by cases e; exact hB0)
      have hdp := fun i' j' => (edD_bd t (fun k => xs.getD k 0) (fun k => ys.getD k 0) i' j').1
      rw [← hD.out] at hdp
      have hcut := edS_cut t (fun k => xs.getD k 0) (fun k => ys.getD k 0) L hL R' i j (fun i' j' h => by
        rw [← hD.out]
        rcases h with ⟨h1, h2⟩ | ⟨rfl, h2⟩
        · exact hFi.1 i' j' h1 (by omega)
        · exact hFi.2.1 j' h2)
      rw [← hD.out] at hcut
      have hst := stepsTo_any t B va vb vw L R' xs ys wr hR (ha.below kbr) (hb.below kbr) (hw.below kbr) hx hy i j hi hjn (fun i' j' h1 h2 h3 => by
        rcases Nat.lt_or_ge i' i with q | q
        · rw [hFi.1 i' j' q (by omega)]; exact edC_bd L _ hL (hdp _ _)
        · have : i' = i := by omega
          subst this
          rw [hFi.2.1 j' (by omega)]; exact edC_bd L _ hL (hdp _ _))
      generalize edS t (fun k => xs.getD k 0) (fun k => ys.getD k 0) R' i j = s at *
      have j41 : (j : Int) < 41 := by omega
      have i40 : i ≤ 40 := by omega
      have j40 : j ≤ 40 := by omega
      by_cases hs : s ≤ L
      · have hs2 : s = edC L (D i j) := by rw [← hcut]; unfold edC; rw [if_pos hs]
        have hF3 : Fil L D (putR R' i j s) ys.length i (j + 1) := by
          refine ⟨fun i' j' h1 h2 => ?_, fun j' h1 => ?_, fun j' h1 h2 => ?_⟩
          · unfold putR; rw [if_neg (by omega)]; exact hFi.1 i' j' h1 h2
          · unfold putR
            by_cases e : j' = j
            · subst e; rw [if_pos ⟨rfl, rfl⟩]; exact hs2
            · rw [if_neg (by omega)]; exact hFi.2.1 j' (by omega)
          · unfold putR; rw [if_neg (by omega)]; exact hFi.2.2 j' (by omega) h2
        clear hs2 hcut hFl hFi
        replace hF3 := (show Hid _ from hF3)
        replace hR := (show Hid _ from hR)
        go_wp2_with fail
        refine hst.mono ?_
        rintro e w3 ⟨rfl, hb3⟩
        have hR3 := RtB.below hR.out hb3
        obtain ⟨_, _, _, q3⟩ := hR3.cells
        have q4 := hR3.at i j i40 j40
        have hR4 := hR3.put i j i40 j40 s
        have hfz : w3.frozen? ⟨B, 4 + i * 41 + j, none⟩ = false := by obtain ⟨cs, h1, _⟩ := hR3; exact frozen_blk h1 _
        have hg4 := grown_tr hg (grown_tr (Below.gr hb3 (some B)) (setCell_gr w3 B (4 + i * 41 + j) (.int .i64 s)))
        clear hR3 hst hdp
        go_wp2
        go_roundw
        case rel => exact ⟨j + 1, _, by omega, by go_num, hR4, hF3, hg4⟩
        case measure => simp [intOf]; omega
      · have hs2 : (160 : Int) = edC L (D i j) := by rw [← hcut]; unfold edC; rw [if_neg hs]
        have hF3 : Fil L D R' ys.length i (j + 1) := by
          refine ⟨hFi.1, fun j' h1 => ?_, fun j' h1 h2 => hFi.2.2 j' (by omega) h2⟩
          by_cases e : j' = j
          · subst e; rw [← hs2]; exact hFi.2.2 _ (Nat.le_refl _) j40
          · exact hFi.2.1 j' (by omega)
        clear hs2 hcut hFl hFi
        replace hF3 := (show Hid _ from hF3)
        replace hR := (show Hid _ from hR)
        go_wp2_with fail
        refine hst.mono ?_
        rintro e w3 ⟨rfl, hb3⟩
        have hR3 := RtB.below hR.out hb3
        obtain ⟨_, _, _, q3⟩ := hR3.cells
        have hg4 := grown_tr hg (Below.gr hb3 (some B))
        replace hR3 := (show Hid _ from hR3)
        clear hst hdp
        go_wp2
        go_roundw
        case rel => exact ⟨j + 1, _, by omega, by go_num, hR3.out, hF3, hg4⟩
        case measure => simp [intOf]; omega
    · have hjN : j = N := by omega
      subst hjN
      go_wp2
      refine bodyPost_end (results_none rfl _ _ _) rfl ?_
      exact ⟨rfl, hg, R', hR, hFi⟩

end Go.Proofs.Ytokoohmakjabnaa
namespace Go.Proofs.Ytokoohmakjabnaa
open Go.ChangeShapes Go.WideShapes Go.ChangeAt Go.RowKit
theorem under_dist : Try.prog.underlying 65 = some (.array 41 2) := by kernel_rfl
theorem plain_i64 : Try.prog.plainKey 2 = true := by kernel_rfl
theorem cells_i64 : Try.prog.cellsOf 2 = 1 := by kernel_rfl
theorem eq_one (d : Nat) (a b : Int) (W : World) : (Op.equalIn (d + 1) 2 (.int .i64 a) (.int .i64 b)).run Try.prog W = .ok (a == b) W := by
  have hu := Try.underlying2
  simp [Op.equalIn, run_underlying hu]
theorem eq_items (f g : Nat → Int) (W : World) : ∀ is : List Nat, (∀ i ∈ is, i < 41) → (Op.eqItems 9999 2 1 (rowV f).toArray (rowV g).toArray is).run Try.prog W = .ok (decide (∀ j ∈ is, f j = g j)) W
  | [], _ => by simp [Op.eqItems]
  | i :: is, h => by
    have ih := eq_items f g W is (fun j hj => h j (List.mem_cons_of_mem _ hj))
    have hi := h i List.mem_cons_self
    have ha : (part 2 (rowV f).toArray (i * 1)).run Try.prog W = .ok (.int .i64 (f i)) W := run_part_plain W plain_i64 (by rw [Nat.mul_one]; simpa using rowV_get f i hi)
    have hb : (part 2 (rowV g).toArray (i * 1)).run Try.prog W = .ok (.int .i64 (g i)) W := run_part_plain W plain_i64 (by rw [Nat.mul_one]; simpa using rowV_get g i hi)
    have he : (Op.equalIn 9999 2 (.int .i64 (f i)) (.int .i64 (g i))).run Try.prog W = .ok (f i == g i) W := eq_one 9998 (f i) (g i) W
    simp only [Op.eqItems, Sem.run_bind, ha, hb, he, Result.andThen_ok]
    by_cases hq : f i = g i
    · simp [hq, ih]
    · simp [hq]
theorem eq_row_t (f g : Nat → Int) (W : World) (h : ∀ j, j < 41 → f j = g j) : (Op.equalIn 10000 65 (.agg (rowV f).toArray) (.agg (rowV g).toArray)).run Try.prog W = .ok true W := by
  obtain ⟨i0, hi, _⟩ := info_parts info_i64
  rw [run_equalIn_array W 9999 _ _ under_dist hi, cells_i64, eq_items f g W _ (fun i hi => List.mem_range.1 hi)]
  rw [decide_eq_true (fun j hj => h j (List.mem_range.1 hj))]
theorem eq_row_f (f g : Nat → Int) (W : World) (h : ¬ ∀ j, j < 41 → f j = g j) : (Op.equalIn 10000 65 (.agg (rowV f).toArray) (.agg (rowV g).toArray)).run Try.prog W = .ok false W := by
  obtain ⟨i0, hi, _⟩ := info_parts info_i64
  rw [run_equalIn_array W 9999 _ _ under_dist hi, cells_i64, eq_items f g W _ (fun i hi => List.mem_range.1 hi)]
  rw [decide_eq_false (fun q => h (fun j hj => q j (List.mem_range.2 hj)))]
/-- A new route's cells. -/
def rtC (va vb vw : Value) : List Value := va :: vb :: vw :: .int .i64 0 :: List.replicate 1681 (.int .i64 0)
theorem built_rt (a a' a'' : Option Addr) (n c n' c' n'' c'' : Nat) : Try.prog.built 68 [(0, .slice a n c), (1, .slice a' n' c'), (2, .slice a'' n'' c'')] = some (rtC (.slice a n c) (.slice a' n' c') (.slice a'' n'' c'')).toArray := by kernel_rfl
theorem build3_T {w : World} {ops : Array Oper} {rest : List Oper} {o : Oper} {a : Act} {Q : Exit → Act → World → Prop} (hgd : Region.wanted o (yielded ops a.tmps) = true) (t : TypeId) (i0 i1 i2 : Nat) (x0 x1 x2 : Operand) (ho : o.op = .build t #[(i0, x0), (i1, x1), (i2, x2)]) (v0 v1 v2 : Value) (cs : Array Value)
    (h0 : a.eval x0 = v0) (h1 : a.eval x1 = v1) (h2 : a.eval x2 = v2) (hf : Try.prog.built t [(i0, v0), (i1, v1), (i2, v2)] = some cs)
    (h : wpList Try.prog ops Q rest (a.put o.dst (.agg cs)) w) : wpList Try.prog ops Q (o :: rest) a w := by
  refine wpList_step fun K hK => ?_
  rw [if_pos hgd]
  have e : (#[(i0, x0), (i1, x1), (i2, x2)].map fun (i, x) => (i, a.eval x)).toList = [(i0, v0), (i1, v1), (i2, v2)] := by simp [h0, h1, h2]
  exact wp_build t _ ho (by rw [e, hf]; rfl) (by rw [e, hf]; exact hK _ _ h)
theorem run_load_row {W : World} {B k : Nat} {e : TypeId} {cs : List Value} (f : Nat → Int) (hb : BlkC W B e cs) (a : Act) (o : Oper) (x : Operand) (ho : o.op = .load 65 x) (hx : a.eval x = .pointer (some ⟨B, k, none⟩)) (hp : (cs.drop k).take 41 = rowV f) :
    (execOp a.eval o).run Try.prog W = .ok (.value (.agg (rowV f).toArray)) W := by
  unfold execOp
  simp only [ho, hx, Instr.loadAt, Instr.sureAddr, Sem.run_bind, Sem.run_pure, Result.andThen_ok, run_loadVar_part W B k e 65 cs (rowV f) _ hb under_dist rfl (by rw [rowV_len]; exact info_row) (by rw [rowV_len]; exact hp)]
set_option maxRecDepth 20000 in
theorem rtC_b {w : World} {B : Nat} {va vb vw : Value} (h : BlkC w B 68 (rtC va vb vw)) : RtB w B va vb vw 0 (fun _ _ => 0) := by
  refine ⟨_, h, by simp [rtC], rfl, rfl, rfl, rfl, fun i j hi hj => ?_⟩
  show (va :: vb :: vw :: .int .i64 0 :: List.replicate 1681 (.int .i64 0))[4 + i * 41 + j]? = _
  rw [show 4 + i * 41 + j = (i * 41 + j) + 1 + 1 + 1 + 1 by omega, List.getElem?_cons_succ, List.getElem?_cons_succ, List.getElem?_cons_succ, List.getElem?_cons_succ, List.getElem?_replicate, if_pos (by omega)]
end Go.Proofs.Ytokoohmakjabnaa
namespace Go.Proofs.Ytokoohmakjabnaa
open Go.ChangeShapes Go.WideShapes Go.ChangeAt Go.RowKit
/-- The limit of the route in a block. -/
def limOf (w : World) (B : Nat) : Int := match w.cell? ⟨B, 3, none⟩ with
  | some (.int _ z) => z
  | _ => 0
theorem RtB.limIs {w : World} {B : Nat} {va vb vw : Value} {L : Int} {R : Nat → Nat → Int} (h : RtB w B va vb vw L R) : limOf w B = L := by
  unfold limOf; rw [h.cells.2.2.2]
theorem RtB.lim {w : World} {B : Nat} {va vb vw : Value} {L : Int} {R : Nat → Nat → Int} (h : RtB w B va vb vw L R) (x : Int) : RtB (w.setCell ⟨B, 3, none⟩ (.int .i64 x)) B va vb vw x R := by
  obtain ⟨cs, h1, hl, h2, h3, h4, h5, h6⟩ := h
  refine ⟨_, blk_set h1 _ _, by rw [List.length_set]; exact hl, ?_, ?_, ?_, ?_, fun i' j' hi' hj' => ?_⟩
  · rw [List.getElem?_set_ne (by omega)]; exact h2
  · rw [List.getElem?_set_ne (by omega)]; exact h3
  · rw [List.getElem?_set_ne (by omega)]; exact h4
  · rw [List.getElem?_set_self (by omega)]
  · rw [List.getElem?_set_ne (by omega)]; exact h6 i' j' hi' hj'
theorem RtB.kept {w w' : World} {B : Nat} {va vb vw : Value} {L : Int} {R : Nat → Nat → Int} {row : Option Nat} (h : RtB w B va vb vw L R) (hg : w.grownBy w' row) (hne : row ≠ some B) : RtB w' B va vb vw L R := by
  obtain ⟨cs, h1, h2⟩ := h
  exact ⟨cs, h1.kept hg hne, h2⟩
theorem row_part (cs : List Value) (R : Nat → Nat → Int) (hl : cs.length = 1685) (h6 : ∀ i j, i ≤ 40 → j ≤ 40 → cs[4 + i * 41 + j]? = some (.int .i64 (R i j))) (i : Nat) (hi : i ≤ 40) : (cs.drop (4 + i * 41)).take 41 = rowV (fun j => R i j) := by
  refine rowV_ext _ _ (by rw [List.length_take, List.length_drop]; omega) (fun j hj => ?_)
  rw [List.getElem?_take_of_lt hj, List.getElem?_drop]
  exact h6 i j hi (by omega)
theorem edC_far (L d : Int) (hL : L < 160) (h : edC L d = 160) : L < d := by
  unfold edC at h
  split at h
  · omega
  · omega
set_option maxHeartbeats 4000000 in
set_option maxRecDepth 20000 in
theorem routeOf_any (t : Bool) (va vb vw : Value) (xs ys : List Int) (w : World) (ha : SlI w va xs) (hb : SlI w vb ys) (hw : WyS w vw (waysL t)) (hx : xs.length ≤ 40) (hy : ys.length ≤ 40) :
    Calls Try.prog 25 #[va, vb, vw] w fun e w' => e = .returned (.pointer (some ⟨w.heap.size, 0, none⟩)) ∧ Below w.heap.size w w' ∧ ∃ L R, RtB w' w.heap.size va vb vw L R ∧ (0 ≤ L ∧ L < 160) ∧ (∀ i j, i ≤ xs.length → j ≤ ys.length → R i j = edC L (edD t (fun k => xs.getD k 0) (fun k => ys.getD k 0) i j)) ∧ edD t (fun k => xs.getD k 0) (fun k => ys.getD k 0) xs.length ys.length ≤ L := by
  obtain ⟨a, c, hva, _⟩ := id ha
  obtain ⟨a', c', hvb, _⟩ := id hb
  obtain ⟨V, cw, hvw, _⟩ := id hw
  subst hva; subst hvb; subst hvw
  have hdp := fun i' j' => edD_bd t (fun k => xs.getD k 0) (fun k => ys.getD k 0) i' j'
  have hrows := fun i d j => edD_rows t (fun k => xs.getD k 0) (fun k => ys.getD k 0) i d j
  have hfr := fun L (hL : 0 ≤ L ∧ L < 160) R i (hi : i ≤ xs.length) W => fillRow_any t w w.heap.size (Nat.le_refl _) (.slice a xs.length c) (.slice a' ys.length c') (.slice (some ⟨V, 0, none⟩) (waysL t).length cw) L hL R xs ys ha hb hw hx hy i hi W
  obtain ⟨D, hD⟩ : ∃ D, Hid (D = edD t (fun k => xs.getD k 0) (fun k => ys.getD k 0)) := ⟨_, rfl⟩
  rw [← hD.out] at hdp hrows hfr ⊢
  obtain ⟨Dm, hDm⟩ : ∃ Dm, Hid (D xs.length ys.length = Dm) := ⟨_, rfl⟩
  rw [hDm.out]
  have hst := fun L R W h1 => steps_any w.heap.size (.slice a xs.length c) (.slice a' ys.length c') (.slice (some ⟨V, 0, none⟩) (waysL t).length cw) L R xs ys W h1
  have haw := fun W (k : Below w.heap.size w W) => ha.below k
  have hbw := fun W (k : Below w.heap.size w W) => hb.below k
  have hwl : (waysL t).length ≤ 3 := by cases t <;> decide
  generalize (waysL t).length = nw at *
  obtain ⟨m, hm⟩ : ∃ m, Hid (m = xs.length) := ⟨_, rfl⟩
  obtain ⟨n, hn⟩ : ∃ n, Hid (n = ys.length) := ⟨_, rfl⟩
  rw [← hm.out, ← hn.out]
  rw [← hm.out] at hx hfr haw hst hDm
  rw [← hn.out] at hy hfr hbw hst hDm
  replace hdp := (show Hid _ from hdp)
  replace hrows := (show Hid _ from hrows)
  replace hfr := (show Hid _ from hfr)
  replace hst := (show Hid _ from hst)
  replace haw := (show Hid _ from haw)
  replace hbw := (show Hid _ from hbw)
  clear ha hb hw
  go_enter Try.func25, Try.ntmps25
  go_wp2
  refine wp_scope_straight ?_
  go_wp2_with (refine build3_T (by rfl) 68 0 1 2 _ _ _ (by rfl) (.slice a m c) (.slice a' n c') (.slice (some ⟨V, 0, none⟩) nw cw) _ (by rfl) (by rfl) (by rfl) (built_rt _ _ _ _ _ _ _ _ _) ?_)
  refine (allBeyond_any _).mono ?_
  rintro e w1 ⟨rfl, hb1⟩
  have kb1 := (bal' w (Obj.cells (rtC (.slice a m c) (.slice a' n c') (.slice (some ⟨V, 0, none⟩) nw cw)).toArray 68)).trans (hb1.mono (by simp))
  have hR1 := rtC_b (BlkC.below (BlkC.new w _ _) hb1)
  have hz1 : w.heap.size < w1.heap.size := by have := hb1.size; simp at this; omega
  clear hb1
  have hS0 : (w1.alloc (Obj.cells (rowV (fun _ => 0)).toArray 65)).heap[w1.heap.size]? = some (.cells (rowV (fun _ => 0)).toArray 65 (0, 0)) := heap_alloc_new w1 _
  have hal := bal' w1 (Obj.cells (rowV (fun _ => 0)).toArray 65)
  have hR2 := RtB.below hR1 hal
  have hk2 := kb1.trans (hal.mono kb1.size)
  clear hR1 kb1
  go_wp2_with (refine store_T (cs := (rowV (fun _ => 160)).toArray) (by rfl) 65 _ _ (by rfl) (info_row' _) (by rfl) (rowV_one _) hS0 (by rfl) (by rfl) ?_; intro w2 hg hS2 hz2)
  refine wp_label ?_
  go_wp2
  have hz3 : w2.heap.size = w1.heap.size + 1 := by rw [hz2]; simp
  have hk3 := hk2.grown hg hk2.size (fun k e => by cases e; omega)
  have hR3 := RtB.kept hR2 hg (fun e => by injection e with e; omega)
  have hBN : w.heap.size < w1.heap.size := hz1
  generalize hN1 : w1.heap.size = N1 at *
  have hS3 : BlkC w2 N1 65 (rowV (fun _ => 160)) := hS2
  clear hR2 hg hz2 hk2 hal hS0 hN1 hS2
  have eN : IntKind.i64.wrap ((m : Int) + 1) = ((m + 1 : Nat) : Int) := wid (by omega) (by omega) (by omega)
  obtain ⟨M, hM⟩ : ∃ M, Hid (m + 1 = M) := ⟨_, rfl⟩
  rw [hM.out] at eN
  simp only [Act.put]
  go_loopw [9, 28] (fun _ _ wr => ∃ (L : Int) (R : Nat → Nat → Int), RtB wr w.heap.size (.slice a m c) (.slice a' n c') (.slice (some ⟨V, 0, none⟩) nw cw) L R ∧ BlkC wr N1 65 (rowV (fun _ => 160)) ∧ Below w.heap.size w wr ∧ 0 ≤ L ∧ Hid (L = 0 ∨ ∃ l, L = 2 * l + 1 ∧ l < Dm)) (fun _ _ wr => (200 - limOf wr w.heap.size).toNat)
  case atStart => exact ⟨0, _, hR3, hS3, hk3, Int.le_refl _, .inl rfl⟩
  case round =>
    obtain ⟨L, R, hR, hN, kb, hL0, hlim⟩ := hrel
    clear hR3 hS3 hk3 hz3
    have hDb : 0 ≤ Dm ∧ Dm ≤ 80 := by rw [← hDm.out]; have := hdp.out m n; omega
    have hL1 : L < 160 := by
      rcases hlim.out with h | ⟨l, h1, h2⟩
      · omega
      · omega
    have hRlw := RtB.limIs hR
    obtain ⟨c0, _⟩ := hR.cells
    go_wp2
    go_loopw [9, 28] (fun _ iv wr => ∃ (i : Nat) (R : Nat → Nat → Int), i ≤ M ∧ iv = .int .i64 i ∧ RtB wr w.heap.size (.slice a m c) (.slice a' n c') (.slice (some ⟨V, 0, none⟩) nw cw) L R ∧ BlkC wr N1 65 (rowV (fun _ => 160)) ∧ Below w.heap.size w wr ∧ Hid (∀ i' j', i' < i → j' ≤ n → R i' j' = edC L (D i' j'))) (fun _ iv _ => M - (intOf iv).toNat)
    case atStart => exact ⟨0, R, Nat.zero_le _, rfl, hR, hN, kb, fun i' j' h => absurd h (Nat.not_lt_zero _)⟩
    case round =>
      obtain ⟨i, R1, hi, rfl, hR1, hN1, kb1, hF1⟩ := hrel
      clear hR hN kb c0
      by_cases hiM : i < M
      · have him : i ≤ m := by have := hM.out; omega
        have hii : (i : Int) < (M : Int) := by omega
        have hcall := hfr.out L ⟨hL0, hL1⟩ R1 i him wr hR1 kb1 (fun i' j' h1 h2 => hF1.out i' j' h1 h2)
        replace hR1 := (show Hid _ from hR1)
        go_wp2_with fail
        refine hcall.mono ?_
        rintro e w3 ⟨rfl, hg3, R2, hR3, hF2⟩
        have hN3 := BlkC.kept hN1 hg3 (fun e => by injection e with e; have := hBN; omega)
        have kb3 := kb1.grown hg3 kb1.size (fun k e => by cases e; exact Nat.le_refl _)
        have kb3d : Below w.heap.size w w3.drew := kb3.trans ⟨rfl, rfl, rfl, Nat.le_refl _, fun _ _ => rfl⟩
        clear hcall hN1 kb1 hg3 hF1 hR1
        obtain ⟨cs, hcs, hl, hx0⟩ := id hR3
        have hpt := row_part cs R2 hl hx0.2.2.2.2 i (by omega)
        have i41 : (i : Int) < 41 := by omega
        by_cases hq : ∀ j, j < 41 → R2 i j = 160
        · have heq := fun W => eq_row_t (fun j => R2 i j) (fun _ => 160) W hq
          have hfar : L < Dm := by
            obtain ⟨k, hk, hle⟩ := hrows.out i (m - i) n
            rw [show i + (m - i) = m by omega, hDm.out] at hle
            have h1 := hq k (by omega)
            rw [hF2.2.1 k (by omega)] at h1
            have := edC_far L _ hL1 h1
            omega
          clear hq hF2 hx0
          replace hlim := (show Hid _ from hlim)
          have hRl := RtB.limIs hR3
          have q3 : w3.drew.cell? ⟨w.heap.size, 3, none⟩ = some (.int .i64 L) := hR3.cells.2.2.2
          have hfz : w3.drew.frozen? ⟨w.heap.size, 3, none⟩ = false := by obtain ⟨cs, h1, _⟩ := id hR3; exact frozen_blk h1 _
          obtain ⟨L2, hL2⟩ : ∃ L2, Hid (L2 = 2 * L) := ⟨_, rfl⟩
          obtain ⟨L3, hL3⟩ : ∃ L3, Hid (L3 = L2 + 1) := ⟨_, rfl⟩
          have e1 : IntKind.i64.wrap (2 * L) = L2 := wid hL2.out.symm (by omega) (by omega)
          have e2 : IntKind.i64.wrap (L2 + 1) = L3 := wid hL3.out.symm (by have := hL2.out; omega) (by have := hL2.out; omega)
          have hR4 : RtB (w3.drew.setCell ⟨w.heap.size, 3, none⟩ (.int .i64 L3)) w.heap.size (.slice a m c) (.slice a' n c') (.slice (some ⟨V, 0, none⟩) nw cw) L3 R2 := RtB.lim (w := w3.drew) hR3 L3
          have hN4 : BlkC (w3.drew.setCell ⟨w.heap.size, 3, none⟩ (.int .i64 L3)) N1 65 (rowV (fun _ => 160)) := blk_set_ne (w := w3.drew) hN3 (by omega) 3 _
          have kb4 : Below w.heap.size w (w3.drew.setCell ⟨w.heap.size, 3, none⟩ (.int .i64 L3)) := Below.grown (w := w3.drew) kb3d (setCell_gr w3.drew w.heap.size 3 (.int .i64 L3)) kb3.size (fun k e => by cases e; exact Nat.le_refl _)
          have hlim2 : Hid (L3 = 0 ∨ ∃ l, L3 = 2 * l + 1 ∧ l < Dm) := .inr ⟨L, by rw [hL3.out, hL2.out], hfar⟩
          have hmes := RtB.limIs hR4
          have hRl2 := hRlw
          go_wp2
          refine wp_region_noPanic ?_
          refine wp_region_held_drew (S := (fun W => BlkC W w.heap.size 68 cs ∧ BlkC W N1 65 (rowV (fun _ => 160)))) (by kernel_rfl) (⟨hcs, hN3⟩) (fun hHeld => ?_)
          refine' wpAnyH_take (i := 0) (v := _) rfl (by kernel_rfl) (by kernel_rfl) (by kernel_rfl) (fun _ _ _ h => h) (Or.inl ⟨by rfl, ?hy1001⟩) hHeld ?hr1001
          case hy1001 => (intro w hSw; (try dsimp only at hSw); go_simp; (try with_reducible rfl))
          simp only [Act.put, List.setIfInBounds_toArray, List.set_cons_zero, List.set_cons_succ, List.getElem_toArray, List.getElem_cons_zero]
          refine' wpAnyH_take (i := 1) (v := _) rfl (by kernel_rfl) (by kernel_rfl) (by kernel_rfl) (fun _ _ _ h => h) (Or.inl ⟨by rfl, ?hy1002⟩) hHeld ?hr1002
          case hy1002 => (intro w hSw; (try dsimp only at hSw); go_simp; (try with_reducible rfl))
          simp only [Act.put, List.setIfInBounds_toArray, List.set_cons_zero, List.set_cons_succ, List.getElem_toArray, List.getElem_cons_zero, List.getElem_cons_succ]
          refine' wpAnyH_take (i := 2) (v := _) rfl (by kernel_rfl) (by kernel_rfl) (by kernel_rfl) (fun _ _ _ h => h) (Or.inl ⟨by rfl, ?hy1003⟩) hHeld ?hr1003
          case hy1003 => (intro w hSw; (try dsimp only at hSw); go_simp; (try with_reducible rfl))
          simp only [Act.put, List.setIfInBounds_toArray, List.set_cons_zero, List.set_cons_succ, List.getElem_toArray, List.getElem_cons_zero, List.getElem_cons_succ]
          refine' wpAnyH_take (i := 3) (v := _) rfl (by kernel_rfl) (by kernel_rfl) (by kernel_rfl) (fun _ _ _ h => h) (Or.inl ⟨by rfl, ?hy1004⟩) hHeld ?hr1004
          case hy1004 => (intro w hSw; (try dsimp only at hSw); go_simp; (try with_reducible rfl))
          simp only [Act.put, List.setIfInBounds_toArray, List.set_cons_zero, List.set_cons_succ, List.getElem_toArray, List.getElem_cons_zero, List.getElem_cons_succ]
          refine' wpAnyH_take (i := 4) (v := _) rfl (by kernel_rfl) (by kernel_rfl) (by kernel_rfl) (fun _ _ _ h => h) (Or.inl ⟨by rfl, ?hy1005⟩) hHeld ?hr1005
          case hy1005 => (intro w hSw; (try dsimp only at hSw); go_simp; (try with_reducible rfl))
          simp only [Act.put, List.setIfInBounds_toArray, List.set_cons_zero, List.set_cons_succ, List.getElem_toArray, List.getElem_cons_zero, List.getElem_cons_succ]
          refine' wpAnyH_take (i := 5) (v := .agg (rowV (fun j => R2 i j)).toArray) rfl (by kernel_rfl) (by kernel_rfl) (by kernel_rfl) (fun _ _ _ h => h) (Or.inl ⟨by rfl, ?hy1006⟩) hHeld ?hr1006
          case hy1006 => (intro W hSw; exact run_load_row (fun j => R2 i j) hSw.1 _ _ _ rfl rfl hpt)
          simp only [Act.put, List.setIfInBounds_toArray, List.set_cons_zero, List.set_cons_succ, List.getElem_toArray, List.getElem_cons_zero, List.getElem_cons_succ]
          refine' wpAnyH_take (i := 6) (v := .agg (rowV (fun _ => 160)).toArray) rfl (by kernel_rfl) (by kernel_rfl) (by kernel_rfl) (fun _ _ _ h => h) (Or.inl ⟨by rfl, ?hy1007⟩) hHeld ?hr1007
          case hy1007 => (intro W hSw; exact run_load_row (fun _ => 160) hSw.2 _ _ _ rfl rfl rfl)
          simp only [Act.put, List.setIfInBounds_toArray, List.set_cons_zero, List.set_cons_succ, List.getElem_toArray, List.getElem_cons_zero, List.getElem_cons_succ]
          refine' wpAnyH_take (i := 7) (v := _) rfl (by kernel_rfl) (by kernel_rfl) (by kernel_rfl) (fun _ _ _ h => h) (Or.inl ⟨by rfl, ?hy1008⟩) hHeld ?hr1008
          case hy1008 => (intro w hSw; (try dsimp only at hSw); go_simp; (try with_reducible rfl))
          simp only [Act.put, List.setIfInBounds_toArray, List.set_cons_zero, List.set_cons_succ, List.getElem_toArray, List.getElem_cons_zero, List.getElem_cons_succ]
          refine wpAnyH_done (by kernel_rfl) ?_ _
          refine NoPanic.normal ?_
          go_wp2
          go_roundw
          case rel => exact ⟨L3, R2, hR4, hN4, kb4, by have := hL2.out; have := hL3.out; omega, hlim2⟩
          case measure => (refine Nat.lt_of_le_of_lt (Nat.le_of_eq (congrArg (fun z => (200 - z).toNat) (show limOf _ w.heap.size = L3 from hmes))) ?_; rw [hRlw]; have := hL2.out; have := hL3.out; omega)
        · have heq := fun W => eq_row_f (fun j => R2 i j) (fun _ => 160) W hq
          have hF3 : Hid (∀ i' j', i' < i + 1 → j' ≤ n → R2 i' j' = edC L (D i' j')) := fun i' j' h1 h2 => by
            by_cases e : i' = i
            · subst e; exact hF2.2.1 j' (by omega)
            · exact hF2.1 i' j' (by omega) h2
          clear hq hF2 hx0
          replace hR3 := (show Hid _ from hR3)
          go_wp2
          refine wp_region_noPanic ?_
          refine wp_region_held_drew (S := (fun W => BlkC W w.heap.size 68 cs ∧ BlkC W N1 65 (rowV (fun _ => 160)))) (by kernel_rfl) (⟨hcs, hN3⟩) (fun hHeld => ?_)
          refine' wpAnyH_take (i := 0) (v := _) rfl (by kernel_rfl) (by kernel_rfl) (by kernel_rfl) (fun _ _ _ h => h) (Or.inl ⟨by rfl, ?hy1009⟩) hHeld ?hr1009
          case hy1009 => (intro w hSw; (try dsimp only at hSw); go_simp; (try with_reducible rfl))
          simp only [Act.put, List.setIfInBounds_toArray, List.set_cons_zero, List.set_cons_succ, List.getElem_toArray, List.getElem_cons_zero]
          refine' wpAnyH_take (i := 1) (v := _) rfl (by kernel_rfl) (by kernel_rfl) (by kernel_rfl) (fun _ _ _ h => h) (Or.inl ⟨by rfl, ?hy1010⟩) hHeld ?hr1010
          case hy1010 => (intro w hSw; (try dsimp only at hSw); go_simp; (try with_reducible rfl))
          simp only [Act.put, List.setIfInBounds_toArray, List.set_cons_zero, List.set_cons_succ, List.getElem_toArray, List.getElem_cons_zero, List.getElem_cons_succ]
          refine' wpAnyH_take (i := 2) (v := _) rfl (by kernel_rfl) (by kernel_rfl) (by kernel_rfl) (fun _ _ _ h => h) (Or.inl ⟨by rfl, ?hy1011⟩) hHeld ?hr1011
          case hy1011 => (intro w hSw; (try dsimp only at hSw); go_simp; (try with_reducible rfl))
          simp only [Act.put, List.setIfInBounds_toArray, List.set_cons_zero, List.set_cons_succ, List.getElem_toArray, List.getElem_cons_zero, List.getElem_cons_succ]
          refine' wpAnyH_take (i := 3) (v := _) rfl (by kernel_rfl) (by kernel_rfl) (by kernel_rfl) (fun _ _ _ h => h) (Or.inl ⟨by rfl, ?hy1012⟩) hHeld ?hr1012
          case hy1012 => (intro w hSw; (try dsimp only at hSw); go_simp; (try with_reducible rfl))
          simp only [Act.put, List.setIfInBounds_toArray, List.set_cons_zero, List.set_cons_succ, List.getElem_toArray, List.getElem_cons_zero, List.getElem_cons_succ]
          refine' wpAnyH_take (i := 4) (v := _) rfl (by kernel_rfl) (by kernel_rfl) (by kernel_rfl) (fun _ _ _ h => h) (Or.inl ⟨by rfl, ?hy1013⟩) hHeld ?hr1013
          case hy1013 => (intro w hSw; (try dsimp only at hSw); go_simp; (try with_reducible rfl))
          simp only [Act.put, List.setIfInBounds_toArray, List.set_cons_zero, List.set_cons_succ, List.getElem_toArray, List.getElem_cons_zero, List.getElem_cons_succ]
          refine' wpAnyH_take (i := 5) (v := .agg (rowV (fun j => R2 i j)).toArray) rfl (by kernel_rfl) (by kernel_rfl) (by kernel_rfl) (fun _ _ _ h => h) (Or.inl ⟨by rfl, ?hy1014⟩) hHeld ?hr1014
          case hy1014 => (intro W hSw; exact run_load_row (fun j => R2 i j) hSw.1 _ _ _ rfl rfl hpt)
          simp only [Act.put, List.setIfInBounds_toArray, List.set_cons_zero, List.set_cons_succ, List.getElem_toArray, List.getElem_cons_zero, List.getElem_cons_succ]
          refine' wpAnyH_take (i := 6) (v := .agg (rowV (fun _ => 160)).toArray) rfl (by kernel_rfl) (by kernel_rfl) (by kernel_rfl) (fun _ _ _ h => h) (Or.inl ⟨by rfl, ?hy1015⟩) hHeld ?hr1015
          case hy1015 => (intro W hSw; exact run_load_row (fun _ => 160) hSw.2 _ _ _ rfl rfl rfl)
          simp only [Act.put, List.setIfInBounds_toArray, List.set_cons_zero, List.set_cons_succ, List.getElem_toArray, List.getElem_cons_zero, List.getElem_cons_succ]
          refine' wpAnyH_take (i := 7) (v := _) rfl (by kernel_rfl) (by kernel_rfl) (by kernel_rfl) (fun _ _ _ h => h) (Or.inl ⟨by rfl, ?hy1016⟩) hHeld ?hr1016
          case hy1016 => (intro w hSw; (try dsimp only at hSw); go_simp; (try with_reducible rfl))
          simp only [Act.put, List.setIfInBounds_toArray, List.set_cons_zero, List.set_cons_succ, List.getElem_toArray, List.getElem_cons_zero, List.getElem_cons_succ]
          refine wpAnyH_done (by kernel_rfl) ?_ _
          refine NoPanic.normal ?_
          go_wp2
          go_roundw
          case rel => exact ⟨i + 1, R2, by omega, by go_num, hR3.out, hN3, kb3d, hF3⟩
          case measure => simp [intOf]; omega
      · have hMi : i = M := by omega
        subst hMi
        have hMm : i = m + 1 := hM.out.symm
        have hRmn := hF1.out m n (by omega) (Nat.le_refl _)
        rw [hDm.out] at hRmn
        have hqs := fun k => hst.out L R1 (wr.drewN k) (RtB.below hR1 (drwB wr k)) (haw.out _ (kb1.trans ((drwB wr k).mono kb1.size))) (hbw.out _ (kb1.trans ((drwB wr k).mono kb1.size))) hx hy
        have c3 : wr.cell? ⟨w.heap.size, 3, none⟩ = some (.int .i64 L) := hR1.cells.2.2.2
        have hR3 : Hid (RtB wr w.heap.size (.slice a m c) (.slice a' n c') (.slice (some ⟨V, 0, none⟩) nw cw) L R1) := hR1
        clear hR1
        obtain ⟨q, hq⟩ : ∃ q, Hid (R1 m n = q) := ⟨_, rfl⟩
        rw [hq.out] at hRmn
        simp only [hq.out] at hqs
        by_cases hle : q ≤ L
        · have hDL : Dm ≤ L := by
            rw [hRmn] at hle
            unfold edC at hle
            split at hle
            · assumption
            · omega
          clear hRmn
          go_wp2
          go_quiet (exact Calls.quiet_of (hqs _))
          go_wp2
          rw [Exit.noGoto_ret]
          go_ret
          exact ⟨rfl, kb1.trans ((drwB wr nq).mono kb1.size), L, R1, RtB.below hR3.out (drwB wr nq), ⟨hL0, hL1⟩, fun i' j' h1 h2 => hF1.out i' j' (by omega) h2, hDL⟩
        · have hfar : L < Dm := by
            rcases Int.lt_or_le L Dm with h | h
            · exact h
            · exfalso; apply hle; rw [hRmn]; unfold edC; rw [if_pos h]; exact h
          clear hRmn
          go_wp2
          go_quiet (exact Calls.quiet_of (hqs _))
          clear hqs c3
          have hN3 := hN1
          have kb3 := kb1
          have kb3d : Below w.heap.size w (wr.drewN nq) := kb1.trans ((drwB wr nq).mono kb1.size)
          replace hR3 := hR3.out
          replace hlim := (show Hid _ from hlim)
          have hRl := RtB.limIs hR3
          have q3 : (wr.drewN nq).cell? ⟨w.heap.size, 3, none⟩ = some (.int .i64 L) := hR3.cells.2.2.2
          have hfz : (wr.drewN nq).frozen? ⟨w.heap.size, 3, none⟩ = false := by obtain ⟨cs, h1, _⟩ := id hR3; exact frozen_blk h1 _
          obtain ⟨L2, hL2⟩ : ∃ L2, Hid (L2 = 2 * L) := ⟨_, rfl⟩
          obtain ⟨L3, hL3⟩ : ∃ L3, Hid (L3 = L2 + 1) := ⟨_, rfl⟩
          have e1 : IntKind.i64.wrap (2 * L) = L2 := wid hL2.out.symm (by omega) (by omega)
          have e2 : IntKind.i64.wrap (L2 + 1) = L3 := wid hL3.out.symm (by have := hL2.out; omega) (by have := hL2.out; omega)
          have hR4 : RtB ((wr.drewN nq).setCell ⟨w.heap.size, 3, none⟩ (.int .i64 L3)) w.heap.size (.slice a m c) (.slice a' n c') (.slice (some ⟨V, 0, none⟩) nw cw) L3 R1 := RtB.lim (w := (wr.drewN nq)) hR3 L3
          have hN4 : BlkC ((wr.drewN nq).setCell ⟨w.heap.size, 3, none⟩ (.int .i64 L3)) N1 65 (rowV (fun _ => 160)) := blk_set_ne (w := (wr.drewN nq)) hN3 (by omega) 3 _
          have kb4 : Below w.heap.size w ((wr.drewN nq).setCell ⟨w.heap.size, 3, none⟩ (.int .i64 L3)) := Below.grown (w := (wr.drewN nq)) kb3d (setCell_gr (wr.drewN nq) w.heap.size 3 (.int .i64 L3)) kb3.size (fun k e => by cases e; exact Nat.le_refl _)
          have hlim2 : Hid (L3 = 0 ∨ ∃ l, L3 = 2 * l + 1 ∧ l < Dm) := .inr ⟨L, by rw [hL3.out, hL2.out], hfar⟩
          have hmes := RtB.limIs hR4
          have hRl2 := hRlw
          clear hN1 kb1 hR3
          go_wp2
          go_roundw
          case rel => exact ⟨L3, R1, hR4, hN4, kb4, by have := hL2.out; have := hL3.out; omega, hlim2⟩
          case measure => (refine Nat.lt_of_le_of_lt (Nat.le_of_eq (congrArg (fun z => (200 - z).toNat) (show limOf _ w.heap.size = L3 from hmes))) ?_; rw [hRlw]; have := hL2.out; have := hL3.out; omega)
end Go.Proofs.Ytokoohmakjabnaa
namespace Go.Proofs.Ytokoohmakjabnaa
open Go.ChangeShapes Go.WideShapes Go.ChangeAt Go.RowKit
theorem listsOk_any (va vb : Value) (xs ys : List Int) (w : World) (ha : SlI w va xs) (hb : SlI w vb ys) :
    Calls Try.prog 24 #[va, vb] w fun e w' => e = .returned (.bool (decide (xs.length ≤ 40 ∧ ys.length ≤ 40))) ∧ w' = w := by
  obtain ⟨a, c, rfl, _⟩ := ha
  obtain ⟨a', c', rfl, _⟩ := hb
  obtain ⟨r, hr⟩ : ∃ r, Hid (decide (xs.length ≤ 40 ∧ ys.length ≤ 40) = r) := ⟨_, rfl⟩
  rw [hr.out]
  have hr2 : r = decide (xs.length ≤ 40 ∧ ys.length ≤ 40) := hr.out.symm
  generalize xs.length = m at *
  generalize ys.length = n at *
  clear hr
  go_enter Try.func24, Try.ntmps24
  by_cases h1 : m ≤ 40
  · have h1i : (m : Int) ≤ 40 := by omega
    by_cases h2 : n ≤ 40
    · have h2i : (n : Int) ≤ 40 := by omega
      have hr3 : r = true := by rw [hr2]; exact decide_eq_true ⟨h1, h2⟩
      subst hr3; clear hr2
      go_wp2
      go_ret
      exact ⟨rfl, rfl⟩
    · have h2i : ¬ (n : Int) ≤ 40 := by omega
      have hr3 : r = false := by rw [hr2]; exact decide_eq_false (by omega)
      subst hr3; clear hr2
      go_wp2
      go_ret
      exact ⟨rfl, rfl⟩
  · have h1i : ¬ (m : Int) ≤ 40 := by omega
    have hr3 : r = false := by rw [hr2]; exact decide_eq_false (by omega)
    subst hr3; clear hr2
    go_wp2
    go_ret
    exact ⟨rfl, rfl⟩
theorem waysT_new (w : World) : WyS (w.alloc (Obj.cells #[.int .i64 3, .int .i64 1, .int .i64 1, .int .i64 1, .int .i64 1, .int .i64 0, .int .i64 2, .int .i64 0, .int .i64 1] 73)) (.slice (some ⟨w.heap.size, 0, none⟩) 3 3) (waysL true) := by
  have hc : ∀ k, (w.alloc (Obj.cells #[.int .i64 3, .int .i64 1, .int .i64 1, .int .i64 1, .int .i64 1, .int .i64 0, .int .i64 2, .int .i64 0, .int .i64 1] 73)).cell? ⟨w.heap.size, k, none⟩ = _ := fun k => cell_of_row _ w.heap.size k _ _ (0, 0) (heap_alloc_new w _)
  refine ⟨w.heap.size, 3, rfl, by simp, fun k hk => ?_⟩
  match k, hk with
  | 0, _ => exact ⟨(hc 0).trans rfl, (hc 1).trans rfl, (hc 2).trans rfl⟩
  | 1, _ => exact ⟨(hc 3).trans rfl, (hc 4).trans rfl, (hc 5).trans rfl⟩
  | 2, _ => exact ⟨(hc 6).trans rfl, (hc 7).trans rfl, (hc 8).trans rfl⟩
theorem allWays_any (w : World) :
    Calls Try.prog 26 #[] w fun e w' => ∃ vw, e = .returned vw ∧ WyS w' vw (waysL true) ∧ Below w.heap.size w w' := by
  have h1 := waysT_new w
  have h2 := bal' w (Obj.cells #[.int .i64 3, .int .i64 1, .int .i64 1, .int .i64 1, .int .i64 1, .int .i64 0, .int .i64 2, .int .i64 0, .int .i64 1] 73)
  replace h1 := (show Hid _ from h1)
  replace h2 := (show Hid _ from h2)
  go_enter Try.func26, Try.ntmps26
  go_wp2
  go_ret
  exact ⟨_, rfl, h1.out, h2.out⟩
end Go.Proofs.Ytokoohmakjabnaa
namespace Go.Proofs.Ytokoohmakjabnaa
open Go.ChangeShapes Go.WideShapes Go.ChangeAt Go.RowKit
theorem mid_alloc (w : World) (o1 o3 : Obj) (cs : Array Value) (t : TypeId) : (((w.alloc o1).alloc (Obj.cells cs t)).alloc o3).heap[w.heap.size + 1]? = some (.cells cs t (0, 0)) := by
  have h1 := heap_alloc_new (w.alloc o1) (Obj.cells cs t)
  have hz : (w.alloc o1).heap.size = w.heap.size + 1 := by simp
  rw [hz] at h1
  rw [← h1]
  exact (bal' ((w.alloc o1).alloc (Obj.cells cs t)) o3).block _ (by simp)
theorem three_below (w : World) (o1 o2 o3 : Obj) : Below w.heap.size w (((w.alloc o1).alloc o2).alloc o3) :=
  (((Below.refl _ _).alloc (Nat.le_refl _) o1).alloc (by simp) o2).alloc (by simp; omega) o3
theorem info_e3 : (Try.prog.info? 56).map (·.size) = some 3 := by kernel_rfl
set_option maxHeartbeats 1000000 in
set_option maxRecDepth 20000 in
theorem edit_any (B : Nat) (va vb vw : Value) (L : Int) (R : Nat → Nat → Int) (ys : List Int) (w : World) (h : RtB w B va vb vw L R) (hb : SlI w vb ys) (hy : ys.length ≤ 40) (kd : Int) (fa fb i j : Nat) (hfa : fa ≤ i) (hfb : fb ≤ 1 ∧ fb ≤ j) (hi : i ≤ 40) (hj : j ≤ ys.length) :
    Calls Try.prog 46 #[.pointer (some ⟨B, 0, none⟩), .agg #[.int .i64 kd, .int .i64 fa, .int .i64 fb], .int .i64 i, .int .i64 j] w fun e w' => e = .returned (.agg #[.int .i64 kd, .int .i64 ((i - fa : Nat) : Int), .int .i64 (if fb = 0 then 0 else ys.getD (j - 1) 0)]) ∧ Below w.heap.size w w' := by
  have hlt := h.lt
  obtain ⟨p, hp⟩ : ∃ p, Hid (i - fa = p) := ⟨_, rfl⟩
  rw [hp.out]
  have e1 : IntKind.i64.wrap ((i : Int) - (fa : Int)) = (p : Int) := wid (by have := hp.out; omega) (by omega) (by omega)
  obtain ⟨_, q1, _, _⟩ := h.cells
  by_cases h0 : fb = 0
  · subst h0
    rw [if_pos rfl]
    clear h hb
    go_enter Try.func46, Try.ntmps46
    go_wp2
    exact bodyPost_ret (v := .agg #[.int .i64 kd, .int .i64 p, .int .i64 0]) (results_cell_row Try.results46 _ _ (w.heap.size + 1) 56 _ _ _ rfl (mid_alloc w _ _ _ _) Try.underlying56 rfl info_e3) rfl ⟨rfl, three_below w _ _ _⟩
  · obtain rfl : fb = 1 := by omega
    rw [if_neg h0]
    obtain ⟨j1, hj1'⟩ : ∃ j1, Hid (j = j1 + 1) := ⟨j - 1, by show j = j - 1 + 1; omega⟩
    have e8 : IntKind.i64.wrap ((j : Int) - 1) = (j1 : Int) := wid (by have := hj1'.out; omega) (by omega) (by omega)
    rw [show j - 1 = j1 by have := hj1'.out; omega]
    have hjm : j1 < ys.length := by have := hj1'.out; omega
    obtain ⟨a', c', rfl, hcb⟩ := hb
    rcases hcb with h | ⟨b', off', rfl, hbb', hs2⟩
    · exfalso; rw [h] at hjm; simp at hjm
    have c2 := hs2 j1 hjm
    generalize ys.length = n at *
    generalize ys.getD j1 0 = y at *
    have l1 : B < w.heap.size + 1 := by omega
    have l2 : B < w.heap.size + 1 + 1 := by omega
    have l3 : b' < w.heap.size + 1 := by omega
    have l4 : b' < w.heap.size + 1 + 1 := by omega
    clear hs2 h h0
    go_enter Try.func46, Try.ntmps46
    go_wp2
    exact bodyPost_ret (v := .agg #[.int .i64 kd, .int .i64 p, .int .i64 y]) (results_cell_row Try.results46 _ _ (w.heap.size + 1) 56 _ _ _ rfl (mid_alloc w _ _ _ _) Try.underlying56 rfl info_e3) rfl ⟨rfl, three_below w _ _ _⟩
end Go.Proofs.Ytokoohmakjabnaa
