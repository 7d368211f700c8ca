/- Contract of the program's Resized, whole. Grids that are moved and resized stay right. The mathematics of the law of grids. Short words for the steps of a region that draws its order. Contract of the program's Patched. Contract of the specification's Patched. A cell stored as the last step of a drawn region. Contract of the specification's Patched. The walk of the exact law of Patched. -/
import Derived.Test.YtpijokologkbeaaDoorP4
import Derived.OrdersHeld
import Derived.Deep.RegionHeld3
import Derived.WalkKit
import Derived.Laws.IdiomCopy
namespace Go.Proofs.YtpijokologkbeaaDoor
open Go.ChangeShapes Go.WideShapes Go.ChangeAt Go.RowKit
theorem GrN.low {w w' : World} {B K : Nat} {cols : Int} {v : Value} (h : GrN w B cols v) (hb : Below K w w') (hlt : B < K) : GrN w' B cols v :=
  ⟨Nat.lt_of_lt_of_le h.1 hb.size, (hb.cell (p := ⟨B, 0, none⟩) hlt).trans h.2.1, (hb.cell (p := ⟨B, 1, none⟩) hlt).trans h.2.2⟩
theorem genR_set (n : Nat) (f h : Nat → List Ce) (j : Nat) (hj : j < n) : (genR n fun i => if i < j then f i else h i).set j (f j) = genR n fun i => if i < j + 1 then f i else h i :=
  ext_rowX _ _ (by rw [List.length_set, genR_len, genR_len]) fun i hi => by
    rw [List.length_set, genR_len] at hi
    rw [rowX_set (by rw [genR_len]; exact hj), genR_at _ _ _ hi, genR_at _ _ _ hi]
    by_cases e : i = j
    · rw [if_pos e, if_pos (by omega), e]
    · rw [if_neg e]
      by_cases c : i < j
      · rw [if_pos c, if_pos (by omega)]
      · rw [if_neg c, if_neg (by omega)]
theorem genR_start (n : Nat) (f h : Nat → List Ce) : (genR n fun i => if i < 0 then f i else h i) = genR n h :=
  ext_rowX _ _ (by rw [genR_len, genR_len]) fun i hi => by
    rw [genR_len] at hi
    rw [genR_at _ _ _ hi, genR_at _ _ _ hi, if_neg (Nat.not_lt_zero i)]
theorem genR_self (rows : List (List Ce)) : (genR rows.length fun i => rowX rows i) = rows :=
  ext_rowX _ _ (genR_len _ _) fun i hi => by
    rw [genR_len] at hi
    rw [genR_at _ _ _ hi]
/-- The rows resized, as the program makes them. -/
theorem resized_way (rows : List (List Ce)) (gc cn n : Nat) (hR : ∀ i, i < rows.length → Right (rowX rows i)) (hx : ∀ i, i < rows.length → (rowX rows i).length = gc) (hn : 1 ≤ n) :
    (genR n fun i => if i < rows.length - (rows.length - n) then windL (rowL cn St.zero) 0 ((partW (rowX (rows.drop (rows.length - n)) i) cn).take (min cn gc)) else rowL cn St.zero) = resUp rows cn (min cn gc) (rows.length - n) n :=
  ext_rowX _ _ (by rw [genR_len, resUp_len]) fun i hi => by
    rw [genR_len] at hi
    unfold resUp
    rw [genR_at _ _ _ hi, genR_at _ _ _ hi]
    have hdx : rowX (rows.drop (rows.length - n)) i = rowX rows (rows.length - n + i) := by simp [rowX, List.getD]
    unfold resI rowPart
    by_cases c : i < rows.length - (rows.length - n)
    · rw [if_pos c, if_pos (by omega), hdx]
      have h1 := res_way (hR (rows.length - n + i) (by omega)) cn
      rw [hx _ (by omega)] at h1
      exact h1
    · rw [if_neg c, if_neg (by omega)]
      simp
theorem SlC.src' {w : World} {a : Option Addr} {n c : Nat} {xs : List Ce} (h : SlC w (.slice a n c) xs) (h0 : 0 < xs.length) : ∃ b off, a = some ⟨b, off, none⟩ ∧ ∀ i, i < xs.length → CeAt w b (off + i * 7) (atC xs i) := by
  obtain ⟨a', c', hv, _, _, hr⟩ := h
  simp only [Value.slice.injEq] at hv
  obtain ⟨rfl, _, _⟩ := hv
  rcases hr with hr | ⟨b, off, hab, _, hi⟩
  · rw [hr] at h0; simp at h0
  · exact ⟨b, off, hab, hi⟩
set_option maxHeartbeats 16000000 in
set_option maxRecDepth 20000 in
theorem implResized_any (cols : Int) (v : Value) (rows : List (List Ce)) (a0 a1 : Int) (w : World) (hSp : SpansAt w) (hv : SlG w v rows) (hl : rows.length ≤ 1048576) (hx : ∀ i, i < rows.length → (rowX rows i).length ≤ 1048576) :
    Calls Tryd.prog 35 #[gridV cols v, .int .i64 a0, .int .i64 a1] w fun e w' => ∃ u, e = .returned (gridV (resC cols rows a0 a1) u) ∧ OwnG w' w.heap.size w'.heap.size u (resR cols rows a0 a1) ∧ Below w.heap.size w w' := by
  have hG0 := GrN.new w cols v 26
  have hb1 := bal' w (Obj.cells #[.int .i64 cols, v] 26)
  have e1 : (w.alloc (Obj.cells #[.int .i64 cols, v] 26)).heap.size = w.heap.size + 1 := by simp
  have hok := fun W hS h => implGridOk_any cols v rows W hS h hl hx
  have hnew := fun W => implNewGrid_any a0 a1 W
  have hv1 := hv.below hb1
  obtain ⟨pa, pc, pvs, rfl, hpc, _, hpr, _⟩ := id hv
  unfold gridV at *
  generalize hw1 : w.alloc (Obj.cells #[.int .i64 cols, .slice pa rows.length pc] 26) = w1 at *
  have hR3 := GrW.new w1 0 (.slice none 0 0) 26
  have hb3 := bal' w1 (Obj.cells #[Value.int IntKind.i64 0, Value.slice none 0 0] 26)
  rw [e1] at hR3
  have hv3 := hv1.below hb3
  have hG3 := hG0.below hb3
  have kb3 := hb1.trans (hb3.mono hb1.size)
  have hSp3 := hSp.below kb3 hSp.lt
  have hs3 : (w1.alloc (Obj.cells #[Value.int IntKind.i64 0, Value.slice none 0 0] 26)).heap.size = w.heap.size + 2 := by simp; omega
  clear hv hv1 hG0 hb1 hb3
  subst hw1
  clear e1
  have hT : Hid (resOkB cols rows a0 a1 = (gridOkB cols rows && decide (newOk a0 a1))) := by
    show _ = _
    unfold resOkB newOk
    congr 1
    rw [← Bool.decide_and]
  have hno : resOkB cols rows a0 a1 = false → Hid (resC cols rows a0 a1 = 0) ∧ Hid (resR cols rows a0 a1 = []) := fun h => ⟨by show _ = _; unfold resC; rw [h]; rfl, by show _ = _; unfold resR; rw [h]; rfl⟩
  have hFail : ∀ W : World, GrW W (w.heap.size + 1) 0 (.slice none 0 0) → Below w.heap.size w W → (((W.setCell ⟨w.heap.size + 1, 0, none⟩ (.int .i64 0)).setCell ⟨w.heap.size + 1, 1, none⟩ (.slice none 0 0)).cell? ⟨w.heap.size + 1, 0, none⟩ = some (.int .i64 0) ∧ ((W.setCell ⟨w.heap.size + 1, 0, none⟩ (.int .i64 0)).setCell ⟨w.heap.size + 1, 1, none⟩ (.slice none 0 0)).cell? ⟨w.heap.size + 1, 1, none⟩ = some (.slice none 0 0)) ∧ Below w.heap.size w ((W.setCell ⟨w.heap.size + 1, 0, none⟩ (.int .i64 0)).setCell ⟨w.heap.size + 1, 1, none⟩ (.slice none 0 0)) := fun W hR kb => by
    have kF := (hR.put2 0 (.slice none 0 0)).2.1
    have hbF := kb.grown (putG2_grown W (w.heap.size + 1) 0 (.slice none 0 0)) (by have := hR.1; omega) (fun g e => by cases e; omega)
    exact ⟨kF, hbF⟩
  go_enter Tryd.func35, Tryd.ntmps35
  go_wp2_with fail
  refine (hnew _).mono ?_
  rintro e w4 ⟨u, rfl, hu, hb⟩
  rw [hs3] at hu
  have hs4 := hb.size
  rw [hs3] at hs4
  obtain ⟨ua, un, uc, rfl⟩ := slSh (SlG.of_own hu)
  by_cases hnk : newOk a0 a1
  · rw [decide_eq_true hnk]
    rw [if_pos hnk] at hu ⊢
    rw [decide_eq_true hnk, Bool.and_true] at hT
    have hM5 := GrN.new w4 a0 (.slice ua un uc) 26
    have hal := bal' w4 (Obj.cells #[.int .i64 a0, .slice ua un uc] 26)
    have hbb := hb.trans (hal.mono hb.size)
    have hR5 := hR3.below hbb
    have hv5 := hv3.below hbb
    have hG5 := hG3.below hbb
    have kb5 := kb3.trans (hbb.mono kb3.size)
    have hSp5 := hSp3.below hbb hSp3.lt
    obtain ⟨vsM, hu4⟩ := hu.v
    have hu5 : OwnV (w4.alloc (Obj.cells #[.int .i64 a0, .slice ua un uc] 26)) (w.heap.size + 2) w4.heap.size (.slice ua un uc) vsM (newR a0.toNat a1.toNat) := hu4.below hal
    have hug := fun g e => (hu.lt g e).2
    have hs5 : w4.heap.size < (w4.alloc (Obj.cells #[.int .i64 a0, .slice ua un uc] 26)).heap.size := by simp
    clear hR3 hv3 hG3 kb3 hSp3 hb hal hbb hu hu4 hnew hs3
    obtain ⟨_, g0, g1⟩ := id hG5
    go_wp2_with fail
    generalize w4.alloc (Obj.cells #[.int .i64 a0, .slice ua un uc] 26) = w5 at *
    refine (hok _ hSp5 hv5).mono ?_
    rintro e w6 ⟨rfl, hb⟩
    have hR6 := hR5.below hb
    have hv6 := hv5.below hb
    have hG6 := hG5.below hb
    have hM6 := hM5.below hb
    have hu6 := hu5.below hb
    have kb6 := kb5.trans (hb.mono kb5.size)
    have hs6 := hb.size
    clear hR5 hv5 hG5 hM5 hu5 kb5 hSp5 hb hok g0 g1
    cases hg : gridOkB cols rows
    · rw [hg] at hT
      obtain ⟨hC, hR⟩ := hno hT.out
      obtain ⟨_, ⟨d0, d1⟩, ⟨y0, y1⟩⟩ := id hR6
      obtain ⟨⟨f0, f1⟩, hbF⟩ := hFail w6 hR6 kb6
      clear hv6 hG6 hR6 hM6 hu6 kb6 hFail
      go_wp2
      exact bodyPost_ret (v := .agg #[.int .i64 0, .slice none 0 0]) (by simp [results, Tryd.results35, go_sem, f0, f1]) rfl ⟨_, by rw [hC.out], by rw [hR.out]; exact ownG_none _ _ _, hbF⟩
    · rw [hg] at hT
      obtain ⟨⟨hc1, hc2⟩, ⟨hr1, hr2⟩, hfit⟩ := (gridOk_iff cols rows).1 hg
      obtain ⟨⟨q1, q2⟩, q3, q4⟩ := hnk
      obtain ⟨gc, rfl⟩ : ∃ k : Nat, cols = k := ⟨cols.toNat, by omega⟩
      obtain ⟨cn, rfl⟩ : ∃ k : Nat, a0 = k := ⟨a0.toNat, by omega⟩
      obtain ⟨n, rfl⟩ : ∃ k : Nat, a1 = k := ⟨a1.toNat, by omega⟩
      rw [Int.toNat_natCast, Int.toNat_natCast] at hu6
      have hfl : ∀ i, i < rows.length → (rowX rows i).length = gc := fun i hi => by have := fitB_len (hfit i hi); unfold rowX; omega
      have hRr : ∀ i, i < rows.length → Right (rowX rows i) := fun i hi => by
        have h := hfit i hi
        unfold fitB at h
        rw [Bool.and_eq_true] at h
        exact ((right_iff _).1 h.2).2
      have hway := resized_way rows gc cn n hRr hfl (by omega)
      have hC : Hid (resC gc rows cn n = (cn : Int)) := by show _ = _; unfold resC; rw [hT.out]; rfl
      have hR : Hid (resR gc rows cn n = resUp rows cn (min cn gc) (rows.length - n) n) := by show _ = _; unfold resR; rw [hT.out]; rfl
      rcases hpr with h | ⟨b, off, rfl, hbb, _⟩
      · rw [h] at hr1; simp at hr1
      have hlow := fun W => lowest_any b off rows.length pc n W hr1 (by omega) hpc (by omega) (by omega)
      obtain ⟨fr, hfr⟩ : ∃ fr, fr = rows.length - n := ⟨_, rfl⟩
      rw [← hfr] at hway hlow hR
      obtain ⟨m, hm⟩ : ∃ m, m = rows.length - fr := ⟨_, rfl⟩
      rw [← hm] at hway
      have hfrl : fr < rows.length := by omega
      simp only [← hm] at hlow
      have hdrop := hv6.drop fr hfrl
      rw [← hm] at hdrop
      have hdl : (rows.drop fr).length = m := by rw [List.length_drop]; omega
      have hdx : ∀ i, i < m → rowX (rows.drop fr) i = rowX rows (fr + i) := fun i hi => by simp [rowX, List.getD]
      have hDl : ∀ i, i < m → (rowX (rows.drop fr) i).length = gc := fun i hi => by rw [hdx i hi]; exact hfl _ (by omega)
      have hDR : ∀ i, i < m → Right (rowX (rows.drop fr) i) := fun i hi => by rw [hdx i hi]; exact hRr _ (by omega)
      have hcp := copiedG_any _ (rows.drop fr) w6 hdrop (by omega) (fun i hi => by rw [hDl i (by omega)]; omega)
      rw [hdl] at hcp
      have hmn : m ≤ n := by omega
      have hgsome : ∃ gM cM, Value.slice ua un uc = .slice (some ⟨gM, 0, none⟩) n cM ∧ n ≤ cM := by
        rcases hu6.shape with ⟨_, h⟩ | ⟨g, cap, h, _, _, hc⟩
        · have := congrArg List.length h; rw [newR_len] at this; simp at this; omega
        · rw [newR_len] at h hc; exact ⟨g, cap, h, hc⟩
      obtain ⟨gM, cM, hgM, hcM⟩ := hgsome
      rw [hgM] at hu6 hM6 hug
      simp only [Value.slice.injEq] at hgM
      obtain ⟨rfl, hn2, hc3⟩ := hgM
      have hn2 := hn2.symm
      have hc3 := hc3.symm
      subst hn2
      subst hc3
      have hgMlt := hug gM rfl
      obtain ⟨_, g0, g1⟩ := id hG6
      have HM : Hid (m = rows.length - fr) := hm
      clear hfit hfl hRr hg hno hFail hx hl hv6 hdrop hdx hT hfr hm hdl
      go_wp2_with fail
      refine (hlow _).mono ?_
      rintro e w7 ⟨rfl, hw⟩
      subst hw
      go_wp2_with fail
      refine hcp.mono ?_
      rintro e w8 ⟨vsC, rfl, kC, hb⟩
      have hR8 := hR6.below hb
      have hM8 := hM6.below hb
      have hu8 := hu6.below hb
      have kb8 := kb6.trans (hb.mono kb6.size)
      have hs8 := hb.size
      have hs67 : w4.heap.size ≤ w7.heap.size := by omega
      have hs68 : w4.heap.size < w7.heap.size := by omega
      have hs24 : w.heap.size + 2 ≤ w4.heap.size := hs4
      clear hR6 hG6 hM6 hu6 kb6 hb hcp hlow g0 g1
      have hDm : (rows.drop fr).length = m := by rw [List.length_drop, HM.out]
      generalize rows.drop fr = D at *
      obtain ⟨q0, hq0⟩ : ∃ q, q = min cn gc := ⟨_, rfl⟩
      rw [← hq0] at hway hR
      have hC0 : OwnV w8 w7.heap.size w8.heap.size (.slice (some ⟨w7.heap.size, 0, none⟩) m m) vsC (genR m fun i => if i < 0 then partW (rowX D i) cn else rowX D i) := by
        rw [genR_start m (fun i => partW (rowX D i) cn) (fun i => rowX D i), ← hDm, genR_self D, hDm]; exact kC
      have hM0 : OwnV w8 (w.heap.size + 2) w4.heap.size (.slice (some ⟨gM, 0, none⟩) n cM) vsM (genR n fun i => if i < 0 then windL (rowL cn St.zero) 0 ((partW (rowX D i) cn).take q0) else rowL cn St.zero) := by
        rw [genR_start n (fun i => windL (rowL cn St.zero) 0 ((partW (rowX D i) cn).take q0)) (fun _ => rowL cn St.zero)]
        have e : (genR n fun _ => rowL cn St.zero) = newR cn n := ext_rowX _ _ (by rw [genR_len, newR_len]) fun i hi => by
          rw [genR_len] at hi
          rw [genR_at _ _ _ hi, newR_at _ _ _ hi]
        rw [e]; exact hu8
      have hlC : w7.heap.size < w8.heap.size := (World.ownsRow.lt kC.2.1 w7.heap.size rfl).2
      have hq0c : q0 ≤ cn := by omega
      have hq0g : q0 ≤ gc := by omega
      have hq01 : 1 ≤ q0 := by omega
      have HQ : Hid (q0 = min cn gc) := hq0
      have HD : Hid (D.length = m) := hDm
      clear kC hu8 hq0 hDm
      go_wp2
      go_loopw [9, 10, 31] (fun _ _ i wr => ∃ (j : Nat), i = .int .i64 j ∧ j ≤ m ∧ OwnV wr w7.heap.size w8.heap.size (.slice (some ⟨w7.heap.size, 0, none⟩) m m) vsC (genR m fun i => if i < j then partW (rowX D i) cn else rowX D i) ∧ OwnV wr (w.heap.size + 2) w4.heap.size (.slice (some ⟨gM, 0, none⟩) n cM) vsM (genR n fun i => if i < j then windL (rowL cn St.zero) 0 ((partW (rowX D i) cn).take q0) else rowL cn St.zero) ∧ GrW wr (w.heap.size + 1) 0 (.slice none 0 0) ∧ GrN wr w4.heap.size (cn : Int) (.slice (some ⟨gM, 0, none⟩) n cM) ∧ Below w.heap.size w wr ∧ w8.heap.size ≤ wr.heap.size) (fun _ _ i _ => m - (intOf i).toNat)
      case atStart => exact ⟨0, rfl, Nat.zero_le _, hC0, hM0, hR8, hM8, kb8, Nat.le_refl _⟩
      case round =>
        clear hC0 hM0 hR8 hM8 kb8
        obtain ⟨j, rfl, hj, kC, kM, kR, kN, kb, ks⟩ := hrel
        by_cases hlt : j < m
        · have hji : (j : Int) < (m : Int) := by omega
          have hjn : (j : Int) < (n : Int) := by omega
          have hj0 : (0 : Int) ≤ (j : Int) := by omega
          have hCl : (genR m fun i => if i < j then partW (rowX D i) cn else rowX D i).length = m := genR_len _ _
          have hMl : (genR n fun i => if i < j then windL (rowL cn St.zero) 0 ((partW (rowX D i) cn).take q0) else rowL cn St.zero).length = n := genR_len _ _
          have hcC := kC.cell hCl j hlt
          have hrC := kC.2.2.1 j (by omega)
          have hBC := kC.2.2.2.1 j (by omega)
          rw [genR_at _ _ _ hlt, if_neg (Nat.lt_irrefl j)] at hrC
          have hX := hDl j hlt
          have hXR := hDR j hlt
          rcases hrC.shape with ⟨_, h⟩ | ⟨gr, cr, hvC, hgr1, hgr2, hcr⟩
          · rw [h] at hX; simp at hX; omega
          rw [hX] at hvC hcr
          rw [hvC] at hcC hrC hBC
          have hgrB := hBC gr rfl
          have hcM := kM.cell hMl j (by omega)
          have hrM := kM.2.2.1 j (by omega)
          have hBM := kM.2.2.2.1 j (by omega)
          rw [genR_at _ _ _ (by omega), if_neg (Nat.lt_irrefl j)] at hrM
          rcases hrM.shape with ⟨_, h⟩ | ⟨gm, cm, hvM, hgm1, hgm2, hcm⟩
          · have := congrArg List.length h; rw [rowL_len] at this; simp at this; omega
          rw [rowL_len] at hvM hcm
          rw [hvM] at hcM hrM hBM
          have hgmB := hBM gm rfl
          have hpa := part_all w7.heap.size gr gc cr cn (rowX D j) wr hrC hX hXR (by omega)
          have hsetC := fun W' (h1 : OwnC W' w7.heap.size (.slice (some ⟨gr, 0, none⟩) gc cr) (partW (rowX D j) cn)) (h2 : wr.grownBy W' (some gr)) => (show OwnV W' w7.heap.size w8.heap.size (.slice (some ⟨w7.heap.size, 0, none⟩) m m) vsC (genR m fun i => if i < j + 1 then partW (rowX D i) cn else rowX D i) from by
            rw [← genR_set m (fun i => partW (rowX D i) cn) (fun i => rowX D i) j hlt]
            exact kC.rowset (by omega) _ (by rw [hvC]; exact h1) (by rw [hvC]; exact h2))
          obtain ⟨_, g0, g1⟩ := id kN
          clear hrC hBC hBM
          go_wp2_with fail
          refine hpa.mono ?_
          rintro e w9 ⟨rfl, hp9, hg9⟩
          have kC9 := hsetC w9 hp9 hg9
          have hgb := GrB.of_grown (lo := w7.heap.size) (hi := w8.heap.size) hg9 (fun g e => by cases e; exact ⟨hgr1, hgrB⟩)
          have kM9 := kM.gr (fun g e => by cases e; exact hgMlt) hgb (.inl hs67)
          have kR9 := kR.gr hgb (.inl (by omega))
          have kN9 := kN.gr hgb (.inl (by omega))
          have kb9 := kb.trans (hgb.to_below (by omega) kb.size)
          have ks9 := Nat.le_trans ks hgb.size
          have hcM9 := kM9.cell hMl j (by omega)
          have hrM9 := kM9.2.2.1 j (by omega)
          rw [genR_at _ _ _ (by omega), if_neg (Nat.lt_irrefl j)] at hrM9
          rw [hvM] at hcM9 hrM9
          have hPl : (partW (rowX D j) cn).length = gc := by rw [partW_len]; exact hX
          have hTl : ((partW (rowX D j) cn).take q0).length = q0 := by rw [List.length_take, hPl]; omega
          have hmn2 : Hid (((partW (rowX D j) cn).take q0).length = Nat.min gc cn) := by show _ = _; rw [hTl, HQ.out]; exact Nat.min_comm _ _
          have hqn2 : Hid (0 + ((partW (rowX D j) cn).take q0).length ≤ cn) := by show _ ≤ _; rw [hTl]; omega
          have hposs : Hid (0 < ((partW (rowX D j) cn).take q0).length → ∃ b off, some (⟨gr, 0, none⟩ : Addr) = some ⟨b, off, none⟩ ∧ ∀ i, i < ((partW (rowX D j) cn).take q0).length → CeAt w9 b (off + i * 7) (atC ((partW (rowX D j) cn).take q0) i)) := (show 0 < ((partW (rowX D j) cn).take q0).length → ∃ b off, some (⟨gr, 0, none⟩ : Addr) = some ⟨b, off, none⟩ ∧ ∀ i, i < ((partW (rowX D j) cn).take q0).length → CeAt w9 b (off + i * 7) (atC ((partW (rowX D j) cn).take q0) i) from fun _ => by
            obtain ⟨b', off', hab, hce⟩ := (SlC.of_own hp9).src' (by rw [hPl]; omega)
            refine ⟨b', off', hab, fun i hi => ?_⟩
            rw [hTl] at hi
            rw [atC_take _ _ _ hi]
            exact hce i (by rw [hPl]; omega))
          have hrl : Hid ((rowL cn St.zero).length = cn) := rowL_len _ _
          have hsetM := fun W' (h1 : OwnC W' (w.heap.size + 2) (.slice (some ⟨gm, 0, none⟩) cn cm) (windL (rowL cn St.zero) 0 ((partW (rowX D j) cn).take q0))) (h2 : w9.grownBy W' (some gm)) => (show OwnV W' (w.heap.size + 2) w4.heap.size (.slice (some ⟨gM, 0, none⟩) n cM) vsM (genR n fun i => if i < j + 1 then windL (rowL cn St.zero) 0 ((partW (rowX D i) cn).take q0) else rowL cn St.zero) from by
            rw [← genR_set n (fun i => windL (rowL cn St.zero) 0 ((partW (rowX D i) cn).take q0)) (fun _ => rowL cn St.zero) j (by omega)]
            exact kM9.rowset (by omega) _ (by rw [hvM]; exact h1) (by rw [hvM]; exact h2))
          have hX1 := hX
          clear hX hXR hcC hvC hcM hrM hvM hpa hsetC hp9 hg9 hgb kC kM kR kN kb hPl hTl g0 g1 hCl hMl
          generalize (partW (rowX D j) cn).take q0 = MM at *
          obtain ⟨_, g0, g1⟩ := id kN9
          go_wp2_with (refine copy_oc (by rfl) _ _ (by rfl) (w.heap.size + 2) gm cn cm 0 (rowL cn St.zero) MM hrM9 hrl.out (some ⟨gm, 0, none⟩) (some ⟨gr, 0, none⟩) cn cm gc cr (by rfl) (by rfl) hmn2.out hqn2.out (fun h0 => ⟨rfl, hposs.out h0⟩) ?_; intro w10 ho10 hg10)
          have kM10 := hsetM w10 ho10 hg10
          have hgb := GrB.of_grown (lo := w.heap.size + 2) (hi := w4.heap.size) hg10 (fun g e => by cases e; exact ⟨hgm1, hgmB⟩)
          have kC10 := kC9.gr (fun g e => by cases e; exact hlC) hgb (.inr hs67)
          have kR10 := kR9.gr hgb (.inl (by omega))
          have kN10 := kN9.gr hgb (.inr (Nat.le_refl _))
          have kb10 := kb9.trans (hgb.to_below (by omega) kb9.size)
          have ks10 := Nat.le_trans ks9 hgb.size
          clear hsetM ho10 hg10 hgb kM9 kC9 kR9 kN9 kb9 ks9 hposs hmn2 hqn2 hrl hrM9 hcM9 g0 g1
          go_wp2
          go_roundw
          case rel => exact ⟨j + 1, by go_num, by omega, kC10, kM10, kR10, kN10, kb10, ks10⟩
          case measure => simp [intOf]; omega
        · have hjn : j = m := by omega
          have hji : ¬ (j : Int) < (m : Int) := by omega
          subst hjn
          rw [hway] at kM
          have kF := (kR.put2 cn (.slice (some ⟨gM, 0, none⟩) n cM)).2.1
          have hgF := putG2_grown wr (w.heap.size + 1) cn (.slice (some ⟨gM, 0, none⟩) n cM)
          have hoF := ((kM.g.up (by have := kb.size; omega : w4.heap.size ≤ wr.heap.size)).kept hgF (fun g e => by cases e; omega)).up hgF.size
          have hs7 := kb.size
          have hbF := kb.grown hgF (by omega) (fun g e => by cases e; omega)
          obtain ⟨f0, f1⟩ := kF
          obtain ⟨_, ⟨d0, d1⟩, ⟨y0, y1⟩⟩ := kR
          obtain ⟨_, g0, g1⟩ := kN
          simp only [putG2] at f0 f1 hoF hbF
          clear hgF kb kC kM hway hDl hDR
          go_wp2
          exact bodyPost_ret (v := .agg #[.int .i64 cn, .slice (some ⟨gM, 0, none⟩) n cM]) (by simp [results, Tryd.results35, go_sem, f0, f1]) rfl ⟨_, by rw [hC.out], by rw [hR.out]; exact hoF.low (by omega), hbF⟩
  · rw [decide_eq_false hnk]
    rw [decide_eq_false hnk, Bool.and_false] at hT
    obtain ⟨hC, hR⟩ := hno hT.out
    rw [if_neg hnk]
    have hal := bal' w4 (Obj.cells #[.int .i64 0, .slice ua un uc] 26)
    have hbb := hb.trans (hal.mono hb.size)
    have hR5 := hR3.below hbb
    have kb5 := kb3.trans (hbb.mono kb3.size)
    obtain ⟨_, ⟨d0, d1⟩, ⟨y0, y1⟩⟩ := id hR5
    obtain ⟨⟨f0, f1⟩, hbF⟩ := hFail _ hR5 kb5
    clear hok hnew hFail hv3 hG3 hR3 hu hb hal hbb kb3 kb5 hR5 hSp3
    go_wp2
    exact bodyPost_ret (v := .agg #[.int .i64 0, .slice none 0 0]) (by simp [results, Tryd.results35, go_sem, f0, f1]) rfl ⟨_, by rw [hC.out], by rw [hR.out]; exact ownG_none _ _ _, hbF⟩
end Go.Proofs.YtpijokologkbeaaDoor
namespace Go.Proofs.YtpijokologkbeaaDoor
open Go.ChangeShapes Go.WideShapes Go.ChangeAt Go.RowKit
theorem rowOk_of {l : List Ce} (h : Right l) (h1 : 1 ≤ l.length) (h2 : l.length ≤ 60) : rowOkB l = true := (right_iff l).2 ⟨⟨h1, h2⟩, h⟩
theorem gridOk_of2 {cols : Nat} {rows : List (List Ce)} (hc : 1 ≤ cols ∧ cols ≤ 60) (hn : 1 ≤ rows.length ∧ rows.length ≤ 30) (h : ∀ i, i < rows.length → (rowX rows i).length = cols ∧ Right (rowX rows i)) : gridOkB (cols : Int) rows = true := by
  rw [gridOk_iff]
  refine ⟨by omega, hn, fun i hi => ?_⟩
  obtain ⟨h1, h2⟩ := h i hi
  have h1' : (rows.getD i []).length = cols := h1
  unfold fitB
  rw [Bool.and_eq_true, decide_eq_true_eq]
  exact ⟨by omega, rowOk_of h2 (by omega) (by omega)⟩
theorem gridOk_rows {cols : Nat} {rows : List (List Ce)} (h : gridOkB (cols : Int) rows = true) : (1 ≤ cols ∧ cols ≤ 60) ∧ (1 ≤ rows.length ∧ rows.length ≤ 30) ∧ ∀ i, i < rows.length → (rowX rows i).length = cols ∧ Right (rowX rows i) := by
  obtain ⟨h1, h2, h3⟩ := (gridOk_iff _ _).1 h
  refine ⟨by omega, h2, fun i hi => ?_⟩
  have h4 := h3 i hi
  unfold fitB at h4
  rw [Bool.and_eq_true, decide_eq_true_eq] at h4
  have h5 : ((rowX rows i).length : Int) = cols := h4.1
  exact ⟨by omega, ((right_iff _).1 h4.2).2⟩
theorem resI_right {rows : List (List Ce)} (h : ∀ i, i < rows.length → Right (rowX rows i)) (cn q i : Nat) : Right (resI rows cn q i) := by
  unfold resI
  refine Right.append ?_ (rowL_right _ _ rfl)
  unfold rowPart
  split
  · rename_i hi
    exact ((h i hi).semi.take q).mend
  · exact rowL_right 0 St.zero rfl
theorem resUp_ok {gc : Nat} {rows : List (List Ce)} (h : gridOkB (gc : Int) rows = true) (cn n q fr : Nat) (hc : 1 ≤ cn ∧ cn ≤ 60) (hn : 1 ≤ n ∧ n ≤ 30) (hq : q ≤ cn) : gridOkB (cn : Int) (resUp rows cn q fr n) = true := by
  obtain ⟨h1, h2, h3⟩ := gridOk_rows h
  refine gridOk_of2 hc (by rw [resUp_len]; exact hn) fun i hi => ?_
  rw [resUp_len] at hi
  unfold resUp
  rw [genR_at _ _ _ hi]
  exact ⟨resI_len _ _ _ _ hq, resI_right (fun i hi => (h3 i hi).2) _ _ _⟩
theorem resUp_same {gc : Nat} {rows : List (List Ce)} (h : gridOkB (gc : Int) rows = true) : resUp rows gc (min gc gc) (rows.length - rows.length) rows.length = rows := by
  obtain ⟨h1, h2, h3⟩ := gridOk_rows h
  rw [Nat.min_self, Nat.sub_self]
  refine ext_rowX _ _ (resUp_len _ _ _ _ _) fun i hi => ?_
  rw [resUp_len] at hi
  obtain ⟨h4, h5⟩ := h3 i hi
  unfold resUp
  rw [genR_at _ _ _ hi, Nat.zero_add]
  unfold resI rowPart
  rw [if_pos hi, List.take_of_length_le (by omega), h5.mend, h4, Nat.sub_self]
  simp [rowL]
end Go.Proofs.YtpijokologkbeaaDoor
namespace Go.Proofs.YtpijokologkbeaaDoor
open Go.ChangeShapes Go.WideShapes Go.ChangeAt Go.RowKit
theorem res_some {C M : _} {p q : Int} (h : resR C M p q ≠ []) : gridOkB (resC C M p q) (resR C M p q) = true ∧ resC C M p q = p ∧ ((resR C M p q).length : Int) = q ∧ resC C M C (M.length : Int) = C ∧ resR C M C (M.length : Int) = M := by
  have hk : resOkB C M p q = true := by
    by_cases hb : resOkB C M p q = true
    · exact hb
    · exfalso; apply h; unfold resR; rw [if_neg hb]
  have e1 : resC C M p q = p := by unfold resC; rw [if_pos hk]
  have e2 : resR C M p q = resUp M p.toNat (min p.toNat C.toNat) (M.length - q.toNat) q.toNat := by unfold resR; rw [if_pos hk]
  unfold resOkB at hk
  simp only [Bool.and_eq_true, decide_eq_true_eq] at hk
  obtain ⟨hg, hp, hq⟩ := hk
  obtain ⟨⟨hc1, hc2⟩, ⟨hn1, hn2⟩, _⟩ := (gridOk_iff C M).1 hg
  obtain ⟨cn, rfl⟩ : ∃ k : Nat, C = k := ⟨C.toNat, by omega⟩
  have hs : resOkB (cn : Int) M cn (M.length : Int) = true := by
    unfold resOkB
    rw [hg, decide_eq_true (show (1 : Int) ≤ cn ∧ (cn : Int) ≤ 60 from ⟨hc1, hc2⟩), decide_eq_true (show (1 : Int) ≤ (M.length : Int) ∧ (M.length : Int) ≤ 30 by omega)]
    rfl
  refine ⟨?_, e1, ?_, by unfold resC; rw [if_pos hs], ?_⟩
  · rw [e1, e2, show p = ((p.toNat : Nat) : Int) by omega, Int.toNat_natCast]
    exact resUp_ok hg _ _ _ _ (by omega) (by omega) (Nat.min_le_left _ _)
  · rw [e2, resUp_len]; omega
  · unfold resR
    rw [if_pos hs, Int.toNat_natCast, Int.toNat_natCast]
    exact resUp_same hg
end Go.Proofs.YtpijokologkbeaaDoor
namespace Go.Proofs.YtpijokologkbeaaDoor
open Go.RowKit
/-- An operation of a region that reads alone is taken. -/
theorem tk (i : Nat) {P : Program} {ops : Array Oper} {Q : Exit → Act → World → Prop} {md : Region.Mode} {S : World → Prop} {oi : Oper} {v : Value} {fuel : Nat} {listed : Array Bool} {a : Act} {w : World}
    (h : wpAnyH P md ops Q S fuel (listed.setIfInBounds i true) (a.put oi.dst v) w) (hS : S w := by with_reducible assumption) (hi : ops[i]? = some oi := by exact rfl)
    (hs : Region.noSelect ops = true := by kernel_rfl) (hf : Region.free md ops listed i = true := by kernel_rfl) (hr : (Region.ready md ops listed).contains i = true := by kernel_rfl)
    (hQ : ∀ c a w, Q (.panic c) (a.put oi.dst v) w → Q (.panic c) a w := by exact fun _ _ _ h => h) (hg : Region.wanted oi (yielded ops a.tmps) = true := by rfl)
    (hy : ∀ w, S w → (execOp a.eval oi).run P w = .ok (.value v) w := by (intro w hSw; (try dsimp only at hSw); go_simp; (try with_reducible rfl))) : wpAnyH P md ops Q S (fuel + 1) listed a w :=
  wpAnyH_take hi hs hf hr hQ (Or.inl ⟨hg, hy⟩) hS h
/-- A function without results ends. -/
theorem be {P : Program} {fn : Func} {R : Ending → World → Prop} {a : Act} {w : World} (hR : R (.returned (.tuple #[])) w) (h : fn.results = #[] := by rfl) (hd : a.defers = [] := by rfl) : bodyPost P fn R .normal a w := bodyPost_end (results_none h _ _ _) hd hR
/-- All are done. -/
theorem dn {P : Program} {ops : Array Oper} {Q : Exit → Act → World → Prop} {md : Region.Mode} {S : World → Prop} {fuel : Nat} {listed : Array Bool} {a : Act} {w : World} (h : Q .normal a w) (hr : Region.ready md ops listed = [] := by kernel_rfl) : wpAnyH P md ops (NoPanic Q) S fuel listed a w := wpAnyH_done hr (NoPanic.normal h) _
/-- One operation alone is ready. -/
theorem rd (i : Nat) {P : Program} {ops : Array Oper} {Q : Exit → Act → World → Prop} {md : Region.Mode} {S : World → Prop} {o : Oper} {fuel : Nat} {listed : Array Bool} {a : Act} {w : World}
    (h : ∀ K' : Act → World → Prop, Shut (∀ a w, S w → (S w → wpAnyH P md ops Q S fuel (listed.setIfInBounds i true) a w) → K' a w) → if Region.wanted o (yielded ops a.tmps) = true then Oper.wp P o a w K' Q else K' (a.put o.dst undef) w)
    (hr : Region.ready md ops listed = [i] := by kernel_rfl) (ho : ops[i]? = some o := by exact rfl) : wpAnyH P md ops Q S (fuel + 1) listed a w :=
  wpAnyH_ready hr (by simp) (AllReadyH.cons ho h AllReadyH.nil)
theorem rdo (i : Nat) {P : Program} {ops : Array Oper} {Q : Exit → Act → World → Prop} {md : Region.Mode} {S : World → Prop} {o : Oper} {fuel : Nat} {listed : Array Bool} {a : Act} {w : World}
    (h : ∀ K' : Act → World → Prop, Shut (∀ a w, S w → (S w → wpAnyH P md ops Q S fuel (listed.setIfInBounds i true) a w) → K' a w) → Oper.wp P o a w K' Q)
    (hr : Region.ready md ops listed = [i] := by kernel_rfl) (ho : ops[i]? = some o := by exact rfl) (hg : o.guard = none := by exact rfl) : wpAnyH P md ops Q S (fuel + 1) listed a w :=
  rd i (fun K' hK => by rw [if_pos (by simp [Region.wanted, hg])]; exact h K' hK) hr ho
end Go.Proofs.YtpijokologkbeaaDoor
namespace Go.Proofs.YtpijokologkbeaaDoor
open Go.ChangeShapes Go.WideShapes Go.ChangeAt Go.RowKit
theorem wp_copy_oc {o : Oper} {ac : Act} {w : World} {K : Act → World → Prop} {Q : Exit → Act → World → Prop} (d s : Operand)
    (ho : o.op = .call { callee := .builtin .copy, args := #[d, s], argTypes := #[66, 66] })
    (base g n cap q : Nat) (L M : List Ce) (h : OwnC w base (.slice (some ⟨g, 0, none⟩) n cap) L) (hn : L.length = n) (dp sp : Option Addr) (dLen dCap sLen sCap : Nat) (hd : ac.eval d = .slice dp dLen dCap) (hs : ac.eval s = .slice sp sLen sCap) (hM : M.length = Nat.min sLen dLen) (hq : q + M.length ≤ n)
    (hpos : 0 < M.length → dp = some ⟨g, q * 7, none⟩ ∧ ∃ b off, sp = some ⟨b, off, none⟩ ∧ ∀ i, i < M.length → CeAt w b (off + i * 7) (atC M i))
    (hK : ∀ w', OwnC w' base (.slice (some ⟨g, 0, none⟩) n cap) (windL L q M) → w.grownBy w' (some g) → K (ac.put o.dst (goInt M.length)) w') : Oper.wp Tryd.prog o ac w K Q := by
  obtain ⟨w', hrun, h1, h2⟩ := run_copy_oc (w := w) o.type base g n cap q L M h hn dp sp dLen dCap sLen sCap hM hq hpos
  unfold Oper.wp
  simp [execOp, ho, resolve, invoke, builtin, hd, hs, hrun, Result.andThen]
  exact hK w' h1 h2
theorem res_even (C : Int) (M : List (List Ce)) (p q : Int) : evenR (resC C M p q) (resR C M p q) := fun i hi => by
  have hne : resR C M p q ≠ [] := fun h => by rw [h] at hi; simp at hi
  obtain ⟨hg, _⟩ := res_some hne
  obtain ⟨_, _, hf⟩ := (gridOk_iff _ _).1 hg
  have := fitB_len (hf i hi)
  unfold rowX
  exact this
theorem res_cols (C : Int) (M : List (List Ce)) (p q : Int) : 0 ≤ resC C M p q ∧ resC C M p q ≤ 60 := by
  unfold resC
  split
  · rename_i h
    obtain ⟨_, ⟨h1, h2⟩, _⟩ := resOk_iff h
    omega
  · omega
set_option maxHeartbeats 16000000 in
set_option maxRecDepth 20000 in
theorem implPatched_any (cols : Int) (v : Value) (rows : List (List Ce)) (x y : Int) (pv : Value) (cs : List Ch) (w : World) (hSp : SpansAt w) (hv : SlG w v rows) (hp : SlP w pv cs) (hl : rows.length ≤ 1048576) (hx : ∀ i, i < rows.length → (rowX rows i).length ≤ 1048576) (hcl : cs.length ≤ 1048576) (hcx : ∀ i, i < cs.length → (chX cs i).cells.length ≤ 1048576) :
    Calls Tryd.prog 12 #[gridV cols v, patV x y pv] w fun e w' => ∃ u, e = .returned (.tuple #[gridV (patA (resC cols rows x y) (resR cols rows x y) cs).1 u, .bool (patA (resC cols rows x y) (resR cols rows x y) cs).2.2]) ∧ OwnG w' w.heap.size w'.heap.size u (patA (resC cols rows x y) (resR cols rows x y) cs).2.1 ∧ Below w.heap.size w w' := by
  have hb0 := bal' w (Obj.cells #[.int .i64 cols, v] 26)
  have hG0 := GrN.new w cols v 26
  have e0 : (w.alloc (Obj.cells #[.int .i64 cols, v] 26)).heap.size = w.heap.size + 1 := by simp
  have hv1 := hv.below hb0
  have hp1 := hp.below hb0
  obtain ⟨va, vn, vc, rfl⟩ := slSh hv
  obtain ⟨pa, pc, pvs, rfl, hpc, hpr, hps⟩ := id hp
  unfold gridV patV at *
  generalize hw1 : w.alloc (Obj.cells #[.int .i64 cols, .slice va vn vc] 26) = w1 at *
  have hP0 := P3.new w1 x y (.slice pa cs.length pc) 31
  have hb1 := bal' w1 (Obj.cells #[.int .i64 x, .int .i64 y, .slice pa cs.length pc] 31)
  have e1 : (w1.alloc (Obj.cells #[.int .i64 x, .int .i64 y, .slice pa cs.length pc] 31)).heap.size = w.heap.size + 2 := by simp; omega
  rw [e0] at hP0
  have hv2 := hv1.below hb1
  have hp2 := hp1.below hb1
  have hG1 := hG0.below hb1
  have kb1 := hb0.trans (hb1.mono hb0.size)
  have hpw := (show Hid (SlP _ _ _) from hp)
  clear hv1 hp1 hG0 hb0 hb1
  subst hw1
  generalize hw2 : (w.alloc (Obj.cells #[.int .i64 cols, .slice va vn vc] 26)).alloc (Obj.cells #[.int .i64 x, .int .i64 y, .slice pa cs.length pc] 31) = w2 at *
  have hR0 := GrW.new w2 0 (.slice none 0 0) 26
  have hb2 := bal' w2 (Obj.cells #[Value.int IntKind.i64 0, Value.slice none 0 0] 26)
  have e2 : (w2.alloc (Obj.cells #[Value.int IntKind.i64 0, Value.slice none 0 0] 26)).heap.size = w.heap.size + 3 := by simp; omega
  rw [e1] at hR0
  have hv3 := hv2.below hb2
  have hp3 := hp2.below hb2
  have hG3 := hG1.below hb2
  have hP3 := hP0.below hb2
  have kb3 := kb1.trans (hb2.mono kb1.size)
  have hSp3 := hSp.below kb3 hSp.lt
  clear hv2 hp2 hG1 hP0 kb1 hb2 hv hp
  subst hw2
  clear e0 e1
  have hFail : ∀ W : World, GrW W (w.heap.size + 2) 0 (.slice none 0 0) → Below w.heap.size w W → (((W.setCell ⟨w.heap.size + 2, 0, none⟩ (.int .i64 0)).setCell ⟨w.heap.size + 2, 1, none⟩ (.slice none 0 0)).cell? ⟨w.heap.size + 2, 0, none⟩ = some (.int .i64 0) ∧ ((W.setCell ⟨w.heap.size + 2, 0, none⟩ (.int .i64 0)).setCell ⟨w.heap.size + 2, 1, none⟩ (.slice none 0 0)).cell? ⟨w.heap.size + 2, 1, none⟩ = some (.slice none 0 0)) ∧ Below w.heap.size w ((W.setCell ⟨w.heap.size + 2, 0, none⟩ (.int .i64 0)).setCell ⟨w.heap.size + 2, 1, none⟩ (.slice none 0 0)) := fun W hR kb => by
    have kF := (hR.put2 0 (.slice none 0 0)).2.1
    have hbF := kb.grown (putG2_grown W (w.heap.size + 2) 0 (.slice none 0 0)) (by have := hR.1; omega) (fun g e => by cases e; omega)
    exact ⟨kF, hbF⟩
  by_cases hbig : (cs.length : Int) > 400
  · have hA : Hid (patA (resC cols rows x y) (resR cols rows x y) cs = (0, [], false)) := patA_many (by omega)
    rw [hA.out]
    obtain ⟨_, ⟨d0, d1⟩, ⟨y0, y1⟩⟩ := id hR0
    obtain ⟨_, ⟨p0, p1, p2⟩, _⟩ := id hP3
    clear hv3 hp3 hG3 hFail hpr hps hSp hSp3 hR0 hP3
    go_enter Tryd.func12, Tryd.ntmps12
    go_wp2
    exact bodyPost_ret (v := .tuple #[.agg #[.int .i64 0, .slice none 0 0], .bool false]) (by simp [results, Tryd.results12, go_sem]) rfl ⟨_, rfl, ownG_none _ _ _, kb3⟩
  · have hrz := implResized_any cols (.slice va vn vc) rows x y _ hSp3 hv3 hl hx
    unfold gridV at hrz
    obtain ⟨hC0, hC60⟩ := res_cols cols rows x y
    have hev := res_even cols rows x y
    obtain ⟨hrl, hrx⟩ := resR_bd cols rows x y
    obtain ⟨C, hC⟩ : ∃ C, Hid (C = resC cols rows x y) := ⟨_, rfl⟩
    obtain ⟨R0, hR⟩ : ∃ R, Hid (R = resR cols rows x y) := ⟨_, rfl⟩
    rw [← hC.out, ← hR.out] at hrz hev ⊢
    rw [← hC.out] at hC0 hC60
    rw [← hR.out] at hrl
    have hs3 := kb3.size
    obtain ⟨_, ⟨p0, p1, p2⟩, _⟩ := id hP3
    obtain ⟨_, g0, g1⟩ := id hG3
    replace hv3 := (show Hid (SlG _ _ _) from hv3)
    replace hev := (show Hid (evenR _ _) from hev)
    have hmany : Hid (¬ 400 < cs.length) := by show ¬ _; omega
    have hSpw := (show Hid (SpansAt w) from hSp)
    clear hpr hps hSp hx hl hC hR hrx
    go_enter Tryd.func12, Tryd.ntmps12
    go_wp2_with fail
    refine hrz.mono ?_
    rintro e w4 ⟨u, rfl, hu, hb⟩
    have hp4 := hp3.below hb
    have hP4 := hP3.below hb
    have hR4 := hR0.below hb
    have kb4 := kb3.trans (hb.mono kb3.size)
    have hSp4 := hSp3.below hb hSp3.lt
    have hs4 := hb.size
    rw [e2] at hs4 hu
    obtain ⟨ua, un, uc, rfl⟩ := slSh (SlG.of_own hu)
    obtain ⟨vs, hu4⟩ := hu.v
    have hM5 := GrN.new w4 C (.slice ua un uc) 26
    have hal := bal' w4 (Obj.cells #[.int .i64 C, .slice ua un uc] 26)
    have hs5 : w4.heap.size < (w4.alloc (Obj.cells #[.int .i64 C, .slice ua un uc] 26)).heap.size := by simp
    have hu5 : OwnV (w4.alloc (Obj.cells #[.int .i64 C, .slice ua un uc] 26)) (w.heap.size + 3) w4.heap.size (.slice ua un uc) vs R0 := hu4.below hal
    have hug := fun g e => (hu.lt g e).2
    have hp5 := hp4.below hal
    have hP5 := hP4.below hal
    have hR5 := hR4.below hal
    have kb5 := kb4.trans (hal.mono kb4.size)
    have hSp5 := hSp4.below hal hSp4.lt
    clear p0 p1 p2
    obtain ⟨_, ⟨p0, p1, p2⟩, _⟩ := id hP5
    clear g0 g1 hG3 hP3 hR0 kb3 hSp3 hp3 hb hrz hv3 hu hu4 hp4 hP4 hR4 kb4 hSp4 hal e2
    go_wp2
    generalize w4.alloc (Obj.cells #[.int .i64 C, .slice ua un uc] 26) = w5 at *
    go_loopw [23] (fun i wr => ∃ (j : Nat) (R : List (List Ce)), i = .int .i64 j ∧ j ≤ cs.length ∧ Hid (patJ C R0 cs j = some R) ∧ OwnV wr (w.heap.size + 3) w4.heap.size (.slice ua un uc) vs R ∧ GrN wr w4.heap.size C (.slice ua un uc) ∧ GrW wr (w.heap.size + 2) 0 (.slice none 0 0) ∧ Below w.heap.size w wr ∧ w4.heap.size < wr.heap.size) (fun i _ => cs.length - (intOf i).toNat)
    case atStart => exact ⟨0, R0, rfl, Nat.zero_le _, rfl, hu5, hM5, hR5, kb5, by omega⟩
    case round =>
      clear hu5 hM5 hR5 kb5 hp5 hP5 hSp5 p0 p1 p2 hs3 hs5
      obtain ⟨j, R, rfl, hj, hpj, hou, hM, hRw, kb, hsM⟩ := hrel
      obtain ⟨hRl, hRe⟩ := patJ_even hev.out hpj.out
      have hRb : R.length ≤ 60 := by omega
      replace hRl := (show Hid _ from hRl)
      obtain ⟨_, m0, m1⟩ := id hM
      by_cases hlt : j < cs.length
      · have hji : (j : Int) < (cs.length : Int) := by omega
        have hj0 : (0 : Int) ≤ (j : Int) := by omega
        obtain ⟨b, off, r, rfl, hbb, ⟨c0, c1, c2⟩, hsl⟩ := (hpw.out.below kb).at hlt
        have hcl1 := hcx j hlt
        obtain ⟨⟨crow, cfrm, ccells⟩, hch⟩ : ∃ c, Hid (c = chX cs j) := ⟨_, rfl⟩
        rw [← hch.out] at c0 c1 hsl hcl1
        simp only at c0 c1 hsl hcl1
        obtain ⟨ra, rc, rfl⟩ := slC_shp hsl
        have hal := bal' wr (Obj.cells #[.int .i64 crow, .int .i64 cfrm, .slice ra ccells.length rc] 68)
        have hCh := P3.new wr crow cfrm (.slice ra ccells.length rc) 68
        have hcw := changeWithin_any ⟨crow, cfrm, ccells⟩ (.slice ra ccells.length rc) C (.slice ua un uc) R _ (hsl.below hal) (SlG.of_own (hou.below hal).g) (by simp only; omega) (by omega) ⟨hC0, by omega⟩
        unfold gridV at hcw
        simp only at hcw
        have hou1 := hou.below hal
        have hM1 := hM.below hal
        have hRw1 := hRw.below hal
        have hsl1 := hsl.below hal
        have kb1 := kb.trans (hal.mono kb.size)
        have hsr : wr.heap.size < (wr.alloc (Obj.cells #[.int .i64 crow, .int .i64 cfrm, .slice ra ccells.length rc] 68)).heap.size := by simp
        have hwr3 : w.heap.size + 3 ≤ wr.heap.size := by omega
        obtain ⟨_, ⟨q0, q1, q2⟩, _⟩ := id hCh
        obtain ⟨_, n0, n1⟩ := id hM1
        clear hou hM hRw hsl hal hug
        go_wp2_with fail
        generalize wr.alloc (Obj.cells #[.int .i64 crow, .int .i64 cfrm, .slice ra ccells.length rc] 68) = w6 at *
        refine hcw.mono ?_
        rintro e w7 ⟨rfl, hb⟩
        have hCh7 := hCh.below hb
        have hou7 := hou1.below hb
        have hM7 := hM1.below hb
        have hRw7 := hRw1.below hb
        have hsl7 := hsl1.below hb
        have kb7 := kb1.trans (hb.mono kb1.size)
        have hs7 := hb.size
        clear hCh hou1 hM1 hRw1 hsl1 kb1 hb hcw q0 q1 q2 n0 n1 c0 c1 c2 m0 m1 hbb
        by_cases hin : inP C R.length ⟨crow, cfrm, ccells⟩
        · rw [decide_eq_true hin]
          have hst : Hid (patJ C R0 cs (j + 1) = some (onP R ⟨crow, cfrm, ccells⟩)) := by
            show _ = _
            rw [hch.out]
            exact patJ_step hpj.out (by rw [← hch.out]; exact hin)
          obtain ⟨i1, i2, i3, i4, i5⟩ := hin
          simp only at i1 i2 i3 i4 i5
          obtain ⟨rn, rfl⟩ : ∃ k : Nat, crow = k := ⟨crow.toNat, by omega⟩
          obtain ⟨fn, rfl⟩ : ∃ k : Nat, cfrm = k := ⟨cfrm.toNat, by omega⟩
          have hrn : rn < R.length := by omega
          have hrow := hou7.2.2.1 rn hrn
          have hrlen := hRe rn hrn
          have hrB := hou7.2.2.2.1 rn hrn
          have hfit := fun W' ys h1 h2 => hou7.rowset (w' := W') hrn ys h1 h2
          obtain ⟨gu, hgu⟩ : ∃ gu, ua = some ⟨gu, 0, none⟩ ∧ un = R.length := by
            rcases hou7.shape with ⟨_, h⟩ | ⟨g, cap, h, _⟩
            · rw [h] at hrn; simp at hrn
            · cases h; exact ⟨g, rfl, rfl⟩
          obtain ⟨rfl, rfl⟩ := hgu
          have hcr := hou7.cell rfl rn hrn
          obtain ⟨gr, cr, hgr⟩ : ∃ gr cr, rowV vs rn = .slice (some ⟨gr, 0, none⟩) (rowX R rn).length cr ∧ (rowX R rn).length ≤ cr := by
            rcases hrow.shape with ⟨_, h⟩ | ⟨g, cap, h, _, _, hc⟩
            · rw [h] at hrlen; simp at hrlen; omega
            · exact ⟨g, cap, h, hc⟩
          obtain ⟨hgr1, hcrl⟩ := hgr
          rw [hgr1] at hrow hcr hfit hrB
          obtain ⟨m, hm⟩ : ∃ m, m = (rowX R rn).length := ⟨_, rfl⟩
          rw [← hm] at hrow hcr hfit hrlen hcrl hgr1
          have hfm : (fn : Int) ≤ (m : Int) := by omega
          have hfmn : fn ≤ m := by omega
          have hmcn : m ≤ cr := by omega
          have hmc : (m : Int) ≤ (cr : Int) := by omega
          have hri : (rn : Int) < (R.length : Int) := by omega
          have hri0 : (0 : Int) ≤ (rn : Int) := by omega
          obtain ⟨_, ⟨q0, q1, q2⟩, _⟩ := id hCh7
          obtain ⟨_, n0, n1⟩ := id hM7
          obtain ⟨bs, offs, hra, hbs, hats⟩ : ∃ b off, ra = some ⟨b, off, none⟩ ∧ b < w7.heap.size ∧ ∀ i, i < ccells.length → CeAt w7 b (off + i * 7) (atC ccells i) := by
            obtain ⟨a', c', h, _, _, hr⟩ := id hsl7
            cases h
            rcases hr with h | h
            · rw [h] at i3; simp at i3
            · exact h
          subst hra
          have hcf : (cr = fn) = False := eq_false (by omega)
          replace hm := (show Hid _ from hm)
          have hle : Hid (ccells.length ≤ m - fn ∧ fn + ccells.length ≤ m) := by show _ ∧ _; omega
          replace hrlen := (show Hid _ from hrlen)
          have hd := bdr w7
          have hou8 := hou7.below hd
          have hM8 := hM7.below hd
          have hRw8 := hRw7.below hd
          have kb8 := kb7.trans (hd.mono kb7.size)
          have hrow8 := hrow.below hd
          have hgrB := hrB gr rfl
          have hgrb := (hrow.lt gr rfl).1
          have hgu : gu ≠ gr := by
            have := outer_apart hou7.2.1 (hou7.2.2.1 rn hrn)
            rw [hgr1] at this
            simp [Value.ownBlock] at this
            exact fun e => this e.symm
          have hgul := (hou7.2.1.lt gu rfl).2
          have hc8 := hCh7.1
          have hm8 := hM7.1
          obtain ⟨S, hS⟩ : ∃ S : World → Prop, Hid (S = fun W => W.cell? ⟨w4.heap.size, 1, none⟩ = some (.slice (some ⟨gu, 0, none⟩) R.length uc) ∧ W.cell? ⟨wr.heap.size, 0, none⟩ = some (.int .i64 rn) ∧ W.cell? ⟨wr.heap.size, 1, none⟩ = some (.int .i64 fn) ∧ W.cell? ⟨wr.heap.size, 2, none⟩ = some (.slice (some ⟨bs, offs, none⟩) ccells.length rc) ∧ W.cell? ⟨gu, rn, none⟩ = some (.slice (some ⟨gr, 0, none⟩) m cr)) := ⟨_, rfl⟩
          have hS7 : S w7.drew := by rw [hS.out]; exact ⟨n1, q0, q1, q2, hcr⟩
          have hS8 : Hid (∀ W, w7.drew.grownBy W (some gr) → S W) := fun W hg => by
            rw [hS.out] at hS7 ⊢
            have hk : ∀ k o, k < w7.heap.size → k ≠ gr → W.cell? ⟨k, o, none⟩ = w7.drew.cell? ⟨k, o, none⟩ := fun k o h1 h2 => World.cell?_of_block (w := w7.drew) (hg.block k h1 (fun e => h2 (Option.some.inj e)))
            refine ⟨?_, ?_, ?_, ?_, ?_⟩
            · rw [hk _ _ hm8 (by omega)]; exact hS7.1
            · rw [hk _ _ hc8 (by omega)]; exact hS7.2.1
            · rw [hk _ _ hc8 (by omega)]; exact hS7.2.2.1
            · rw [hk _ _ hc8 (by omega)]; exact hS7.2.2.2.1
            · rw [hk _ _ hgul hgu]; exact hS7.2.2.2.2
          have hats8 : Hid (∀ i, i < ccells.length → CeAt w7.drew bs (offs + i * 7) (atC ccells i)) := fun i hi => hats i hi
          have hfin : Hid (∀ W, OwnC W (w.heap.size + 3) (.slice (some ⟨gr, 0, none⟩) m cr) (windL (rowX R rn) fn ccells) → w7.drew.grownBy W (some gr) → OwnV W (w.heap.size + 3) w4.heap.size (.slice (some ⟨gu, 0, none⟩) R.length uc) vs (onP R ⟨rn, fn, ccells⟩) ∧ GrN W w4.heap.size C (.slice (some ⟨gu, 0, none⟩) R.length uc) ∧ GrW W (w.heap.size + 2) 0 (.slice none 0 0) ∧ Below w.heap.size w W ∧ w4.heap.size < W.heap.size) := fun W h1 h2 => by
            rw [← hgr1] at h1
            refine ⟨?_, hM8.gr (GrB.of_grown (lo := gr) (hi := gr + 1) h2 (fun g e => by cases e; omega)) (.inr (by omega)), hRw8.grown h2 (fun e => by have := Option.some.inj e; omega), kb8.grown h2 kb8.size (fun g e => by cases e; omega), Nat.lt_of_lt_of_le hm8 h2.size⟩
            have := hou8.rowset hrn _ h1 (by rw [hgr1]; exact h2)
            simpa [onP] using this
          clear hCh7 hou7 hM7 hRw7 hsl7 kb7 hrow hfit hou8 hM8 hRw8 kb8 hats hpw hSpw hFail hcx hgrB hgul hc8 hm8 hgu hRe
          go_wp2
          refine wp_region_noPanic ?_
          refine wp_region_held_drew (S := S) (by kernel_rfl) hS7 (fun hHeld => ?_)
          clear hS7
          have hS := hS.out
          subst hS
          refine tk 0 ?_
          refine tk 1 ?_
          refine tk 2 ?_
          refine tk 3 ?_
          refine tk 4 ?_
          refine tk 5 ?_
          refine tk 6 ?_
          refine tk 7 ?_
          refine tk 8 ?_
          refine tk 9 ?_
          refine tk 10 ?_
          refine rdo 11 fun K hK => ?_
          simp only [Act.put, List.setIfInBounds_toArray, List.set_cons_zero, List.set_cons_succ, List.getElem_toArray, List.getElem_cons_zero, List.getElem_cons_succ]
          refine wp_copy_oc _ _ (by rfl) (w.heap.size + 3) gr m cr fn (rowX R rn) ccells hrow8 hm.out.symm (some ⟨gr, fn * 7, none⟩) (some ⟨bs, offs, none⟩) (m - fn) (cr - fn) ccells.length rc (by rfl) (by rfl) (Nat.min_eq_left hle.out.1).symm hle.out.2 (fun _ => ⟨rfl, bs, offs, rfl, hats8.out⟩) ?_
          intro w8 ho8 hg8
          refine hK.out _ _ (hS8.out w8 hg8) (fun hHeld => ?_)
          refine dn ?_
          obtain ⟨k1, k2, k3, k4, k5⟩ := hfin.out w8 ho8 hg8
          clear hfin hS8 ho8 hg8 hK K hHeld hats8 hrow8
          go_wp2
          go_roundw
          case rel => exact ⟨j + 1, onP R ⟨rn, fn, ccells⟩, by go_num, by omega, hst, k1, k2, k3, k4, k5⟩
          case measure => simp [intOf]; omega
        · rw [decide_eq_false hin]
          have hA : Hid (patA C R0 cs = (0, [], false)) := by
            show _ = _
            exact patA_none (j := j + 1) (patJ_out hpj.out (by rw [← hch.out]; exact hin)) hlt
          obtain ⟨_, ⟨d0, d1⟩, ⟨y0, y1⟩⟩ := id hRw7
          obtain ⟨⟨f0, f1⟩, hbF⟩ := hFail w7 hRw7 kb7
          clear hFail hCh7 hou7 hM7 hRw7 hsl7 kb7
          go_wp2
          exact bodyPost_ret (v := .tuple #[.agg #[.int .i64 0, .slice none 0 0], .bool false]) (by simp [results, Tryd.results12, go_sem, f0, f1]) rfl ⟨_, by rw [hA.out], by rw [hA.out]; exact ownG_none _ _ _, hbF⟩
      · have hjn : j = cs.length := by omega
        have hji : ¬ (j : Int) < (cs.length : Int) := by omega
        subst hjn
        have hok := implGridOk_any C (.slice ua un uc) R wr (hSpw.out.below kb hSpw.out.lt) (SlG.of_own hou.g) (by omega) (fun i hi => by have := hRe i hi; omega)
        unfold gridV at hok
        clear hug hcx
        go_wp2_with fail
        refine hok.mono ?_
        rintro e w7 ⟨rfl, hb⟩
        have hou7 := hou.below hb
        have hM7 := hM.below hb
        have hRw7 := hRw.below hb
        have kb7 := kb.trans (hb.mono kb.size)
        obtain ⟨_, n0, n1⟩ := id hM7
        clear hou hM hRw hb hok m0 m1
        cases hg : gridOkB C R
        · have hA : Hid (patA C R0 cs = (0, [], false)) := by show _ = _; rw [patA_some hmany.out hpj.out, hg]; rfl
          obtain ⟨_, ⟨d0, d1⟩, ⟨y0, y1⟩⟩ := id hRw7
          obtain ⟨⟨f0, f1⟩, hbF⟩ := hFail w7 hRw7 kb7
          clear hFail hou7 hM7 hRw7 kb7 n0 n1
          go_wp2
          exact bodyPost_ret (v := .tuple #[.agg #[.int .i64 0, .slice none 0 0], .bool false]) (by simp [results, Tryd.results12, go_sem, f0, f1]) rfl ⟨_, by rw [hA.out], by rw [hA.out]; exact ownG_none _ _ _, hbF⟩
        · have hA : Hid (patA C R0 cs = (C, R, true)) := by show _ = _; rw [patA_some hmany.out hpj.out, hg]; rfl
          obtain ⟨_, ⟨d0, d1⟩, ⟨y0, y1⟩⟩ := id hRw7
          obtain ⟨f0, f1⟩ := (hRw7.put2 C (.slice ua un uc)).2.1
          have hg8 := putG2_grown w7 (w.heap.size + 2) C (.slice ua un uc)
          have hbF := kb7.grown hg8 kb7.size (fun g e => by cases e; omega)
          have how := ((hou7.g.kept hg8 (fun g e => by cases e; omega)).now).low (show w.heap.size ≤ w.heap.size + 3 by omega)
          simp only [putG2] at f0 f1 hbF how
          clear hFail hou7 hM7 hRw7 kb7 hg8
          go_wp2
          exact bodyPost_ret (v := .tuple #[.agg #[.int .i64 C, .slice ua un uc], .bool true]) (by simp [results, Tryd.results12, go_sem, f0, f1]) rfl ⟨_, by rw [hA.out], by rw [hA.out]; exact how, hbF⟩
end Go.Proofs.YtpijokologkbeaaDoor
namespace Go.Proofs.YtpijokologkbeaaDoor
open Go.ChangeShapes Go.WideShapes Go.ChangeAt Go.RowKit
theorem patA_empty (C : Int) (cs : List Ch) : patA C [] cs = (0, [], false) := by
  by_cases h : 400 < cs.length
  · exact patA_many h
  · by_cases h0 : cs.length = 0
    · rw [patA_some h (R' := []) (by rw [h0]; rfl)]
      rw [gridOk_len (by simp)]
      rfl
    · exact patA_none (j := 1) (patJ_out (R := []) rfl (fun hi => by have := hi.1; have := hi.2.1; simp at this; omega)) (by omega)
/-- One cell more of a change is written. -/
theorem windL_one (L M : List Ce) (q k : Nat) (hk : k < M.length) (hq : q + M.length ≤ L.length) : (windL L q (M.take k)).set (q + k) (atC M k) = windL L q (M.take (k + 1)) := by
  have l0 : (M.take k).length = k := by rw [List.length_take]; omega
  have l1 : (M.take (k + 1)).length = k + 1 := by rw [List.length_take]; omega
  apply ext_atC
  · rw [List.length_set, windL_len _ _ _ (by omega), windL_len _ _ _ (by omega)]
  intro i hi
  rw [atC_set, windL_at _ _ _ (by omega), windL_at _ _ _ (by omega), windL_len _ _ _ (by omega), l0, l1]
  have ht : ∀ j n, j < n → atC (M.take n) j = atC M j := fun j n h => by simp [atC, List.getD, h]
  by_cases e : i = q + k
  · subst e
    rw [if_pos ⟨rfl, by omega⟩, if_pos ⟨by omega, by omega⟩, ht _ _ (by omega)]
    congr 1; omega
  · rw [if_neg (fun h => e h.1)]
    by_cases c : q ≤ i ∧ i < q + k
    · rw [if_pos c, if_pos ⟨c.1, by omega⟩, ht _ _ (by omega), ht _ _ (by omega)]
    · rw [if_neg c, if_neg (by omega)]
end Go.Proofs.YtpijokologkbeaaDoor
namespace Go.Proofs.YtpijokologkbeaaDoor
open Go.ChangeShapes Go.WideShapes Go.ChangeAt Go.RowKit
theorem wp_store_ce {o : Oper} {ac : Act} {w : World} {K : Act → World → Prop} {Q : Exit → Act → World → Prop} (x y : Operand) (ho : o.op = .store 75 x y)
    (base g n cap i : Nat) (L : List Ce) (c : Ce) (h : OwnC w base (.slice (some ⟨g, 0, none⟩) n cap) L) (hn : L.length = n) (hi : i < n) (hx : ac.eval x = .pointer (some ⟨g, i * 7, none⟩)) (hy : ac.eval y = ceV c)
    (hK : ∀ w', OwnC w' base (.slice (some ⟨g, 0, none⟩) n cap) (L.set i c) → w.grownBy w' (some g) → K (ac.put o.dst undef) w') : Oper.wp Tryd.prog o ac w K Q := by
  obtain ⟨h1, h2⟩ := h.put hn i hi c
  obtain ⟨i0, hi0, _, hz1, _⟩ := info_parts info_cell
  have hat := h.at hn i hi
  have hs := run_storeCells_cells (P := Tryd.prog) g (i * 7) (ceL c) 0 w (fun j hj => by
      rw [Nat.add_zero]
      have hj : j < 7 := hj
      obtain ⟨c0, c1, c2, c3, c4, c5, c6⟩ := hat
      rcases (by omega : j = 0 ∨ j = 1 ∨ j = 2 ∨ j = 3 ∨ j = 4 ∨ j = 5 ∨ j = 6) with rfl | rfl | rfl | rfl | rfl | rfl | rfl
      · rw [Nat.add_zero, c0]; rfl
      · rw [c1]; rfl
      · rw [c2]; rfl
      · rw [c3]; rfl
      · rw [c4]; rfl
      · rw [c5]; rfl
      · rw [c6]; rfl) (fun j _ => h.frozen hn _) (by intro u hu; simp [ceL] at hu; rcases hu with rfl | rfl | rfl | rfl | rfl | rfl | rfl <;> rfl)
  rw [Nat.add_zero] at hs
  have e : w.setCells g (i * 7) (ceL c) = putCe w g (i * 7) c := rfl
  rw [e] at hs
  have hcs : (ceV c).cells = (ceL c).toArray := rfl
  unfold Oper.wp
  have hsz : (ceV c).cells.size = i0.size := by rw [hz1]; rfl
  have hs' : (storeCells ⟨g, i * 7, none⟩ (ceV c).cells.toList).run Tryd.prog w = .ok () (putCe w g (i * 7) c) := hs
  simp [execOp, ho, hx, hy, Instr.storeAt, Instr.sureAddr, storeVar, sizeOf, typeInfo, hi0, hsz, Result.andThen, hs']
  exact hK _ h1 h2
/-- One cell more in one row of rows. -/
theorem onP_take (R : List (List Ce)) (rn fn k : Nat) (cells : List Ce) (hr : rn < R.length) (hk : k < cells.length) (hq : fn + cells.length ≤ (rowX R rn).length) :
    (R.set rn (windL (rowX R rn) fn (cells.take k))).set rn ((rowX (R.set rn (windL (rowX R rn) fn (cells.take k))) rn).set (fn + k) (atC cells k)) = R.set rn (windL (rowX R rn) fn (cells.take (k + 1))) := by
  rw [rowX_set' hr, if_pos rfl, windL_one _ _ _ _ hk hq, List.set_set]
theorem onP_zero (R : List (List Ce)) (rn fn : Nat) (cells : List Ce) (hr : rn < R.length) (hq : fn ≤ (rowX R rn).length) : R.set rn (windL (rowX R rn) fn (cells.take 0)) = R := by
  have e : windL (rowX R rn) fn (cells.take 0) = rowX R rn := by
    apply ext_atC
    · rw [windL_len _ _ _ (by simpa using hq)]
    · intro i hi
      rw [windL_at _ _ _ (by simpa using hq), if_neg (by simp only [List.take_zero, List.length_nil]; omega)]
  rw [e]
  apply List.ext_getElem?
  intro i
  by_cases h : i = rn
  · subst h
    rw [List.getElem?_set_self hr]
    unfold rowX
    simp [List.getD_eq_getElem?_getD, hr]
  · rw [List.getElem?_set_ne (fun e => h e.symm)]
end Go.Proofs.YtpijokologkbeaaDoor
namespace Go.Proofs.YtpijokologkbeaaDoor
open Go.ChangeShapes Go.WideShapes Go.ChangeAt Go.RowKit
set_option maxHeartbeats 16000000 in
set_option maxRecDepth 20000 in
theorem specPatched_any (cols : Int) (v : Value) (rows : List (List Ce)) (x y : Int) (pv : Value) (cs : List Ch) (w : World) (hv : SlG w v rows) (hp : SlP w pv cs) (hl : rows.length ≤ 1048576) (hx : ∀ i, i < rows.length → (rowX rows i).length ≤ 1048576) (hcl : cs.length ≤ 1048576) (hcx : ∀ i, i < cs.length → (chX cs i).cells.length ≤ 1048576) :
    Calls Tryd.prog 15 #[gridV cols v, patV x y pv] w fun e w' => ∃ u, e = .returned (.tuple #[gridV (patA (resC cols rows x y) (resR cols rows x y) cs).1 u, .bool (patA (resC cols rows x y) (resR cols rows x y) cs).2.2]) ∧ OwnG w' w.heap.size w'.heap.size u (patA (resC cols rows x y) (resR cols rows x y) cs).2.1 ∧ Below w.heap.size w w' := by
  have hb0 := bal' w (Obj.cells #[.int .i64 cols, v] 26)
  have hG0 := GrN.new w cols v 26
  have e0 : (w.alloc (Obj.cells #[.int .i64 cols, v] 26)).heap.size = w.heap.size + 1 := by simp
  have hv1 := hv.below hb0
  have hp1 := hp.below hb0
  obtain ⟨va, vn, vc, rfl⟩ := slSh hv
  obtain ⟨pa, pc, pvs, rfl, hpc, hpr, hps⟩ := id hp
  unfold gridV patV at *
  generalize hw1 : w.alloc (Obj.cells #[.int .i64 cols, .slice va vn vc] 26) = w1 at *
  have hP0 := P3.new w1 x y (.slice pa cs.length pc) 31
  have hb1 := bal' w1 (Obj.cells #[.int .i64 x, .int .i64 y, .slice pa cs.length pc] 31)
  have e1 : (w1.alloc (Obj.cells #[.int .i64 x, .int .i64 y, .slice pa cs.length pc] 31)).heap.size = w.heap.size + 2 := by simp; omega
  rw [e0] at hP0
  have hv2 := hv1.below hb1
  have hp2 := hp1.below hb1
  have hG1 := hG0.below hb1
  have kb1 := hb0.trans (hb1.mono hb0.size)
  have hpw := (show Hid (SlP _ _ _) from hp)
  clear hv1 hp1 hG0 hb0 hb1
  subst hw1
  generalize hw2 : (w.alloc (Obj.cells #[.int .i64 cols, .slice va vn vc] 26)).alloc (Obj.cells #[.int .i64 x, .int .i64 y, .slice pa cs.length pc] 31) = w2 at *
  have hR0 := GrW.new w2 0 (.slice none 0 0) 26
  have hb2 := bal' w2 (Obj.cells #[Value.int IntKind.i64 0, Value.slice none 0 0] 26)
  have e2 : (w2.alloc (Obj.cells #[Value.int IntKind.i64 0, Value.slice none 0 0] 26)).heap.size = w.heap.size + 3 := by simp; omega
  rw [e1] at hR0
  have hv3 := hv2.below hb2
  have hp3 := hp2.below hb2
  have hG3 := hG1.below hb2
  have hP3 := hP0.below hb2
  have kb3 := kb1.trans (hb2.mono kb1.size)
  clear hv2 hp2 hG1 hP0 kb1 hb2 hv hp
  subst hw2
  clear e0 e1
  have hFail : ∀ W : World, GrW W (w.heap.size + 2) 0 (.slice none 0 0) → Below w.heap.size w W → (((W.setCell ⟨w.heap.size + 2, 0, none⟩ (.int .i64 0)).setCell ⟨w.heap.size + 2, 1, none⟩ (.slice none 0 0)).cell? ⟨w.heap.size + 2, 0, none⟩ = some (.int .i64 0) ∧ ((W.setCell ⟨w.heap.size + 2, 0, none⟩ (.int .i64 0)).setCell ⟨w.heap.size + 2, 1, none⟩ (.slice none 0 0)).cell? ⟨w.heap.size + 2, 1, none⟩ = some (.slice none 0 0)) ∧ Below w.heap.size w ((W.setCell ⟨w.heap.size + 2, 0, none⟩ (.int .i64 0)).setCell ⟨w.heap.size + 2, 1, none⟩ (.slice none 0 0)) := fun W hR kb => by
    have kF := (hR.put2 0 (.slice none 0 0)).2.1
    have hbF := kb.grown (putG2_grown W (w.heap.size + 2) 0 (.slice none 0 0)) (by have := hR.1; omega) (fun g e => by cases e; omega)
    exact ⟨kF, hbF⟩
  have hrz := specResized_any cols (.slice va vn vc) rows x y _ hv3 hl hx
  unfold gridV at hrz
  obtain ⟨hC0, hC60⟩ := res_cols cols rows x y
  have hev := res_even cols rows x y
  obtain ⟨hrl, hrx⟩ := resR_bd cols rows x y
  obtain ⟨C, hC⟩ : ∃ C, Hid (C = resC cols rows x y) := ⟨_, rfl⟩
  obtain ⟨R0, hR⟩ : ∃ R, Hid (R = resR cols rows x y) := ⟨_, rfl⟩
  rw [← hC.out, ← hR.out] at hrz hev ⊢
  rw [← hC.out] at hC0 hC60
  rw [← hR.out] at hrl
  have hs3 := kb3.size
  obtain ⟨_, ⟨p0, p1, p2⟩, _⟩ := id hP3
  obtain ⟨_, g0, g1⟩ := id hG3
  replace hv3 := (show Hid (SlG _ _ _) from hv3)
  replace hev := (show Hid (evenR _ _) from hev)
  clear hpr hps hx hl hrx
  go_enter Tryd.func15, Tryd.ntmps15
  go_wp2_with fail
  refine hrz.mono ?_
  rintro e w4 ⟨u, rfl, hu, hb⟩
  have hp4 := hp3.below hb
  have hP4 := hP3.below hb
  have hR4 := hR0.below hb
  have kb4 := kb3.trans (hb.mono kb3.size)
  have hs4 := hb.size
  rw [e2] at hs4 hu
  obtain ⟨ua, un, uc, rfl⟩ := slSh (SlG.of_own hu)
  obtain ⟨vs, hu4⟩ := hu.v
  have hM5 := GrN.new w4 C (.slice ua un uc) 26
  have hal := bal' w4 (Obj.cells #[.int .i64 C, .slice ua un uc] 26)
  have hs5 : w4.heap.size < (w4.alloc (Obj.cells #[.int .i64 C, .slice ua un uc] 26)).heap.size := by simp
  have hu5 : OwnV (w4.alloc (Obj.cells #[.int .i64 C, .slice ua un uc] 26)) (w.heap.size + 3) w4.heap.size (.slice ua un uc) vs R0 := hu4.below hal
  have hug := fun g e => (hu.lt g e).2
  have hp5 := hp4.below hal
  have hP5 := hP4.below hal
  have hR5 := hR4.below hal
  have kb5 := kb4.trans (hal.mono kb4.size)
  clear p0 p1 p2
  obtain ⟨_, ⟨p0, p1, p2⟩, _⟩ := id hP5
  clear g0 g1 hG3 hP3 hR0 kb3 hp3 hb hrz hv3 hu hu4 hp4 hP4 hR4 kb4 hal e2
  by_cases hne : R0.length = 0
  · have hA : Hid (patA C R0 cs = (0, [], false)) := by show _ = _; rw [List.eq_nil_of_length_eq_zero hne]; exact patA_empty _ _
    have hun : un = 0 := by
      rcases hu5.shape with ⟨h, _⟩ | ⟨_, _, h, _⟩
      · cases h; rfl
      · cases h; exact hne
    subst hun
    obtain ⟨_, m0, m1⟩ := id hM5
    obtain ⟨_, ⟨d0, d1⟩, ⟨y0, y1⟩⟩ := id hR5
    obtain ⟨⟨f0, f1⟩, hbF⟩ := hFail _ hR5 kb5
    clear hFail hu5 hM5 hR5 kb5 hp5 hP5
    go_wp2
    exact bodyPost_ret (v := .tuple #[.agg #[.int .i64 0, .slice none 0 0], .bool false]) (by simp [results, Tryd.results15, go_sem, f0, f1]) rfl ⟨_, by rw [hA.out], by rw [hA.out]; exact ownG_none _ _ _, hbF⟩
  · obtain ⟨hxC, hyR⟩ : x = C ∧ y = (R0.length : Int) := by
      have := res_some (C := cols) (M := rows) (p := x) (q := y) (by rw [← hR.out]; intro h; rw [h] at hne; exact hne rfl)
      rw [← hC.out, ← hR.out] at this
      exact ⟨this.2.1.symm, this.2.2.1.symm⟩
    rw [hxC, hyR] at hP5
    clear p0 p1 p2 hC hR
    obtain ⟨_, ⟨p0, p1, p2⟩, _⟩ := id hP5
    have hun : un = R0.length := by
      rcases hu5.shape with ⟨h, h2⟩ | ⟨_, _, h, _⟩
      · exact absurd (by rw [h2]; rfl) hne
      · cases h; rfl
    have hne2 : Hid (R0.length ≠ 0) := hne
    have hune : un ≠ 0 := by omega
    clear hne
    replace hun := (show Hid _ from hun)
    obtain ⟨_, m0, m1⟩ := id hM5
    by_cases hbig : (cs.length : Int) > 400
    · have hA : Hid (patA C R0 cs = (0, [], false)) := patA_many (by omega)
      obtain ⟨_, ⟨d0, d1⟩, ⟨y0, y1⟩⟩ := id hR5
      obtain ⟨⟨f0, f1⟩, hbF⟩ := hFail _ hR5 kb5
      clear hFail hu5 hM5 hR5 kb5 hp5 hP5 hxC hyR
      go_wp2
      exact bodyPost_ret (v := .tuple #[.agg #[.int .i64 0, .slice none 0 0], .bool false]) (by simp [results, Tryd.results15, go_sem, f0, f1]) rfl ⟨_, by rw [hA.out], by rw [hA.out]; exact ownG_none _ _ _, hbF⟩
    · have hmany : Hid (¬ 400 < cs.length) := by show ¬ _; omega
      replace hxC := (show Hid _ from hxC)
      replace hyR := (show Hid _ from hyR)
      have hu0 : ((un : Int) == 0) = false := by simp; exact hune
      have hb0 : decide (400 < (cs.length : Int)) = false := decide_eq_false (by omega)
      go_wp2
      generalize w4.alloc (Obj.cells #[.int .i64 C, .slice ua un uc] 26) = w5 at *
      go_loopw [7] (fun i wr => ∃ (j : Nat) (R : List (List Ce)), i = .int .i64 j ∧ j ≤ cs.length ∧ Hid (patJ C R0 cs j = some R) ∧ OwnV wr (w.heap.size + 3) w4.heap.size (.slice ua un uc) vs R ∧ GrN wr w4.heap.size C (.slice ua un uc) ∧ GrW wr (w.heap.size + 2) 0 (.slice none 0 0) ∧ P3 wr (w.heap.size + 1) C (R0.length : Int) (.slice pa cs.length pc) ∧ Below w.heap.size w wr ∧ w4.heap.size < wr.heap.size) (fun i _ => cs.length - (intOf i).toNat)
      case atStart => exact ⟨0, R0, rfl, Nat.zero_le _, rfl, hu5, hM5, hR5, hP5, kb5, by omega⟩
      case round =>
        clear hu5 hM5 hR5 kb5 hp5 hP5 p0 p1 p2 m0 m1 hs3 hs5
        obtain ⟨j, R, rfl, hj, hpj, hou, hM, hRw, hP, kb, hsM⟩ := hrel
        obtain ⟨hRl, hRe⟩ := patJ_even hev.out hpj.out
        have hRb : R.length ≤ 60 := by omega
        replace hRl := (show Hid _ from hRl)
        obtain ⟨_, m0, m1⟩ := id hM
        obtain ⟨_, ⟨p0, p1, p2⟩, _⟩ := id hP
        by_cases hlt : j < cs.length
        · have hji : (j : Int) < (cs.length : Int) := by omega
          have hj0 : (0 : Int) ≤ (j : Int) := by omega
          obtain ⟨b, off, r, rfl, hbb0, ⟨c00, c10, c20⟩, hsl0⟩ := hpw.out.at hlt
          have c0 := (kb.cell (p := ⟨b, off + j * 3, none⟩) hbb0).trans c00
          have c1 := (kb.cell (p := ⟨b, off + j * 3 + 1, none⟩) hbb0).trans c10
          have c2 := (kb.cell (p := ⟨b, off + j * 3 + 2, none⟩) hbb0).trans c20
          have hbb : b < wr.heap.size := Nat.lt_of_lt_of_le hbb0 kb.size
          have hsl := hsl0.below kb
          clear c00 c10 c20
          have hcl1 := hcx j hlt
          obtain ⟨⟨crow, cfrm, ccells⟩, hch⟩ : ∃ c, Hid (c = chX cs j) := ⟨_, rfl⟩
          rw [← hch.out] at c0 c1 hsl hsl0 hcl1
          simp only at c0 c1 hsl hsl0 hcl1
          obtain ⟨ra, rc, rfl⟩ := slC_shp hsl
          have hal := bal' wr (Obj.cells #[.int .i64 crow, .int .i64 cfrm, .slice ra ccells.length rc] 68)
          have hCh := P3.new wr crow cfrm (.slice ra ccells.length rc) 68
          have hou1 := hou.below hal
          have hM1 := hM.below hal
          have hRw1 := hRw.below hal
          have hP1 := hP.below hal
          have hsl1 := hsl.below hal
          have kb1 := kb.trans (hal.mono kb.size)
          have hsr : wr.heap.size < (wr.alloc (Obj.cells #[.int .i64 crow, .int .i64 cfrm, .slice ra ccells.length rc] 68)).heap.size := by simp
          have hwr3 : w.heap.size + 3 ≤ wr.heap.size := by omega
          obtain ⟨_, ⟨q0, q1, q2⟩, _⟩ := id hCh
          obtain ⟨_, n0, n1⟩ := id hM1
          obtain ⟨_, ⟨t0, t1, t2⟩, _⟩ := id hP1
          have hl1 := fun W => l1In_any crow 0 ((R0.length : Int) - 1) W
          have hl2 := fun W => l1In_any cfrm 0 (C - (ccells.length : Int)) W
          have hw1 : IntKind.i64.wrap ((R0.length : Int) - 1) = (R0.length : Int) - 1 := by simp [IntKind.wrap_i64]; omega
          have hw2 : IntKind.i64.wrap (C - (ccells.length : Int)) = C - (ccells.length : Int) := by simp [IntKind.wrap_i64]; omega
          clear hou hM hRw hP hsl hal hug
          by_cases hA1 : (ccells.length : Int) < 1
          · have hA : Hid (patA C R0 cs = (0, [], false)) := by
              show _ = _
              exact patA_none (j := j + 1) (patJ_out hpj.out (by rw [← hch.out]; intro h; obtain ⟨i1, i2, i3, i4, i5⟩ := h; simp only at i1 i2 i3 i4 i5; omega)) hlt
            obtain ⟨_, ⟨d0, d1⟩, ⟨y0, y1⟩⟩ := id hRw1
            obtain ⟨⟨f0, f1⟩, hbF⟩ := hFail _ hRw1 kb1
            clear hFail hou1 hM1 hRw1 hsl1 kb1 hP1 hCh
            go_wp2
            exact bodyPost_ret (v := .tuple #[.agg #[.int .i64 0, .slice none 0 0], .bool false]) (by simp [results, Tryd.results15, go_sem, f0, f1]) rfl ⟨_, by rw [hA.out], by rw [hA.out]; exact ownG_none _ _ _, hbF⟩
          · by_cases hA2 : 0 ≤ crow ∧ crow ≤ (R0.length : Int) - 1
            · by_cases hA3 : 0 ≤ cfrm ∧ cfrm ≤ C - (ccells.length : Int)
              · have hin : inP C R.length ⟨crow, cfrm, ccells⟩ := by
                  have := hRl.out
                  refine ⟨hA2.1, ?_, ?_, hA3.1, hA3.2⟩
                  · show crow < _; omega
                  · show 0 < ccells.length; omega
                have hst : Hid (patJ C R0 cs (j + 1) = some (onP R ⟨crow, cfrm, ccells⟩)) := by
                  show _ = _
                  rw [hch.out]
                  exact patJ_step hpj.out (by rw [← hch.out]; exact hin)
                obtain ⟨i1, i2, i3, i4, i5⟩ := hin
                simp only at i1 i2 i3 i4 i5
                go_wp2_with fail
                refine (hl1 _).mono ?_
                rintro e wk ⟨rfl, hwk⟩
                subst hwk
                rw [decide_eq_true hA2]
                go_wp2_with fail
                refine (hl2 _).mono ?_
                rintro e wk ⟨rfl, hwk⟩
                subst hwk
                rw [decide_eq_true hA3]
                clear hl1 hl2 hw1 hw2 q0 q1 q2 n0 n1 t0 t1 t2
                obtain ⟨rn, rfl⟩ : ∃ k : Nat, crow = k := ⟨crow.toNat, by omega⟩
                obtain ⟨fn, rfl⟩ : ∃ k : Nat, cfrm = k := ⟨cfrm.toNat, by omega⟩
                have hrn : rn < R.length := by omega
                have hrlen := hRe rn hrn
                obtain ⟨gu, hgu⟩ : ∃ gu, ua = some ⟨gu, 0, none⟩ ∧ un = R.length := by
                  rcases hou1.shape with ⟨_, h⟩ | ⟨g, cap, h, _⟩
                  · rw [h] at hrn; simp at hrn
                  · cases h; exact ⟨g, rfl, rfl⟩
                obtain ⟨rfl, hgun⟩ := hgu
                have hrow := hou1.2.2.1 rn hrn
                have hrB := hou1.2.2.2.1 rn hrn
                obtain ⟨gr, cr, hgr⟩ : ∃ gr cr, rowV vs rn = .slice (some ⟨gr, 0, none⟩) (rowX R rn).length cr ∧ (rowX R rn).length ≤ cr := by
                  rcases hrow.shape with ⟨_, h⟩ | ⟨g, cap, h, _, _, hc⟩
                  · rw [h] at hrlen; simp at hrlen; omega
                  · exact ⟨g, cap, h, hc⟩
                obtain ⟨hgr1, hcrl⟩ := hgr
                obtain ⟨m, hm⟩ : ∃ m, m = (rowX R rn).length := ⟨_, rfl⟩
                rw [← hm] at hgr1 hcrl hrlen
                have hle : fn + ccells.length ≤ m := by omega
                have hgrB := hrB gr (by rw [hgr1]; rfl)
                have hgrb : w.heap.size + 3 ≤ gr := (hrow.lt gr (by rw [hgr1]; rfl)).1
                have hgu2 : gu ≠ gr := by
                  have := outer_apart hou1.2.1 hrow
                  rw [hgr1] at this
                  simp [Value.ownBlock] at this
                  exact fun e => this e.symm
                obtain ⟨bs, offs, hra, hbs, hats⟩ : ∃ b off, ra = some ⟨b, off, none⟩ ∧ b < w.heap.size ∧ ∀ i, i < ccells.length → CeAt w b (off + i * 7) (atC ccells i) := by
                  obtain ⟨a', c', h, _, _, hr⟩ := id hsl0
                  cases h
                  rcases hr with h | h
                  · rw [h] at i3; simp at i3
                  · exact h
                subst hra
                have hatsW : Hid (∀ W, Below w.heap.size w W → ∀ i, i < ccells.length → CeAt W bs (offs + i * 7) (atC ccells i)) := fun W k i hi => (hats i hi).below k hbs
                generalize wr.alloc (Obj.cells #[.int .i64 rn, .int .i64 fn, .slice (some ⟨bs, offs, none⟩) ccells.length rc] 68) = w6 at *
                have hz := onP_zero R rn fn ccells hrn (by rw [← hm]; omega)
                rw [← hz] at hou1
                have hlenR := hRl.out
                replace hm := (show Hid _ from hm)
                replace hgr1 := (show Hid _ from hgr1)
                clear hz hats hsl0 hsl1 hrow hRe hpj c0 c1 c2 hbb hch
                replace hgun := (show Hid _ from hgun)
                replace hrlen := (show Hid _ from hrlen)
                have hgul := (hou1.2.1.lt gu rfl).2
                have hgulW : gu < w6.heap.size := hgul
                have hgub := (hou1.2.1.lt gu rfl).1
                go_wp2
                obtain ⟨wo, hwo⟩ : ∃ x, x = wr := ⟨_, rfl⟩
                subst hwo
                go_loopw [10] (fun kv W => ∃ k : Nat, kv = .int .i64 k ∧ k ≤ ccells.length ∧ OwnV W (w.heap.size + 3) w4.heap.size (.slice (some ⟨gu, 0, none⟩) un uc) vs (R.set rn (windL (rowX R rn) fn (ccells.take k))) ∧ GrN W w4.heap.size C (.slice (some ⟨gu, 0, none⟩) un uc) ∧ GrW W (w.heap.size + 2) 0 (.slice none 0 0) ∧ P3 W (w.heap.size + 1) C (R0.length : Int) (.slice (some ⟨b, off, none⟩) cs.length pc) ∧ P3 W wo.heap.size (rn : Int) (fn : Int) (.slice (some ⟨bs, offs, none⟩) ccells.length rc) ∧ Below w.heap.size w W ∧ w4.heap.size < W.heap.size) (fun kv _ => ccells.length - (intOf kv).toNat)
                case atStart => exact ⟨0, rfl, Nat.zero_le _, hou1, hM1, hRw1, hP1, hCh, kb1, by omega⟩
                case round =>
                  obtain ⟨k, rfl, hkl, hou2, hM2, hRw2, hP2, hCh2, kb2, hs2⟩ := hrel
                  clear hou1 hM1 hRw1 hP1 hCh kb1
                  by_cases hk : k < ccells.length
                  · have hki : (k : Int) < (ccells.length : Int) := by omega
                    obtain ⟨q, hq⟩ : ∃ q, Hid (fn + k = q) := ⟨_, rfl⟩
                    have eq := hq.out
                    have hwk : IntKind.i64.wrap ((fn : Int) + (k : Int)) = (q : Int) := by rw [show ((fn : Int) + (k : Int)) = (q : Int) by omega]; simp [IntKind.wrap, IntKind.bits, IntKind.signed]; omega
                    have hqm : q < m := by omega
                    have hqi : (q : Int) < (m : Int) := by omega
                    have hqi0 : (0 : Int) ≤ (q : Int) := by omega
                    have hrnu : rn < un := by have := hgun.out; omega
                    have hrni : (rn : Int) < (un : Int) := by omega
                    have hrni0 : (0 : Int) ≤ (rn : Int) := by omega
                    have hk0i : (0 : Int) ≤ (k : Int) := by omega
                    have hrow2 := hou2.2.2.1 rn (by rw [List.length_set]; exact hrn)
                    have hcr := hou2.cell (by rw [List.length_set]; exact hgun.out.symm) rn hrnu
                    rw [hgr1.out] at hrow2 hcr
                    rw [rowX_set' hrn, if_pos rfl] at hrow2
                    have hot := onP_take R rn fn k ccells hrn hk (by rw [← hm.out]; exact hle)
                    rw [rowX_set' hrn, if_pos rfl, eq] at hot
                    have hXl : Hid ((windL (rowX R rn) fn (ccells.take k)).length = m) := by
                      show _ = _
                      rw [windL_len _ _ _ (by rw [List.length_take, ← hm.out]; omega), hm.out]
                    obtain ⟨Lk, hLk⟩ : ∃ L, Hid (windL (rowX R rn) fn (ccells.take k) = L) := ⟨_, rfl⟩
                    rw [hLk.out] at hrow2 hot hou2
                    simp only [hLk.out] at hXl
                    have hcat := hatsW.out _ kb2 k hk
                    obtain ⟨z0, z1, z2, z3, z4, z5, z6⟩ := id hcat
                    obtain ⟨_, ⟨q0, q1, q2⟩, _⟩ := id hCh2
                    obtain ⟨_, n0, n1⟩ := id hM2
                    have hc8 := hCh2.1
                    have hm8 := hM2.1
                    have hgulwr : gu < wr.heap.size := (hou2.2.1.lt gu rfl).2
                    have hbswr : bs < wr.heap.size := by have := kb2.size; omega
                    have hd := bdr wr
                    have hou8 := hou2.below hd
                    have hM8 := hM2.below hd
                    have hRw8 := hRw2.below hd
                    have hP8 := hP2.below hd
                    have hCh8 := hCh2.below hd
                    have kb8 := kb2.trans (hd.mono kb2.size)
                    have hrow8 := hrow2.below hd
                    generalize hcc : atC ccells k = cc at *
                    obtain ⟨S, hS⟩ : ∃ S : World → Prop, Hid (S = fun W => W.cell? ⟨w4.heap.size, 1, none⟩ = some (.slice (some ⟨gu, 0, none⟩) un uc) ∧ W.cell? ⟨wo.heap.size, 0, none⟩ = some (.int .i64 rn) ∧ W.cell? ⟨wo.heap.size, 1, none⟩ = some (.int .i64 fn) ∧ W.cell? ⟨wo.heap.size, 2, none⟩ = some (.slice (some ⟨bs, offs, none⟩) ccells.length rc) ∧ W.cell? ⟨gu, rn, none⟩ = some (.slice (some ⟨gr, 0, none⟩) m cr) ∧ W.cell? ⟨bs, offs + k * 7, none⟩ = some (.int .i64 cc.rune) ∧ W.cell? ⟨bs, offs + k * 7 + 1, none⟩ = some (.int .i64 cc.st.fore) ∧ W.cell? ⟨bs, offs + k * 7 + 2, none⟩ = some (.int .i64 cc.st.back) ∧ W.cell? ⟨bs, offs + k * 7 + 3, none⟩ = some (.bool cc.st.bold) ∧ W.cell? ⟨bs, offs + k * 7 + 4, none⟩ = some (.bool cc.st.under) ∧ W.cell? ⟨bs, offs + k * 7 + 5, none⟩ = some (.bool cc.st.turned) ∧ W.cell? ⟨bs, offs + k * 7 + 6, none⟩ = some (.int .i64 cc.part)) := ⟨_, rfl⟩
                    have hS7 : S wr.drew := by rw [hS.out]; exact ⟨n1, q0, q1, q2, hcr, z0, z1, z2, z3, z4, z5, z6⟩
                    have hS8 : Hid (∀ W, wr.drew.grownBy W (some gr) → S W) := fun W hg => by
                      rw [hS.out] at hS7 ⊢
                      have hkk : ∀ t o, t < wr.heap.size → t ≠ gr → W.cell? ⟨t, o, none⟩ = wr.drew.cell? ⟨t, o, none⟩ := fun t o h1 h2 => World.cell?_of_block (w := wr.drew) (hg.block t h1 (fun e => h2 (Option.some.inj e)))
                      have hb1 : bs ≠ gr := by omega
                      obtain ⟨s0, s1, s2, s3, s4, s5, s6, s7, s8, s9, s10, s11⟩ := hS7
                      refine ⟨?_, ?_, ?_, ?_, ?_, ?_, ?_, ?_, ?_, ?_, ?_, ?_⟩
                      · rw [hkk _ _ hm8 (by omega)]; exact s0
                      · rw [hkk _ _ hc8 (by omega)]; exact s1
                      · rw [hkk _ _ hc8 (by omega)]; exact s2
                      · rw [hkk _ _ hc8 (by omega)]; exact s3
                      · rw [hkk _ _ hgulwr hgu2]; exact s4
                      · rw [hkk _ _ hbswr hb1]; exact s5
                      · rw [hkk _ _ hbswr hb1]; exact s6
                      · rw [hkk _ _ hbswr hb1]; exact s7
                      · rw [hkk _ _ hbswr hb1]; exact s8
                      · rw [hkk _ _ hbswr hb1]; exact s9
                      · rw [hkk _ _ hbswr hb1]; exact s10
                      · rw [hkk _ _ hbswr hb1]; exact s11
                    have hfin : Hid (∀ W, OwnC W (w.heap.size + 3) (.slice (some ⟨gr, 0, none⟩) m cr) (Lk.set q cc) → wr.drew.grownBy W (some gr) → OwnV W (w.heap.size + 3) w4.heap.size (.slice (some ⟨gu, 0, none⟩) un uc) vs (R.set rn (windL (rowX R rn) fn (ccells.take (k + 1)))) ∧ GrN W w4.heap.size C (.slice (some ⟨gu, 0, none⟩) un uc) ∧ GrW W (w.heap.size + 2) 0 (.slice none 0 0) ∧ P3 W (w.heap.size + 1) C (R0.length : Int) (.slice (some ⟨b, off, none⟩) cs.length pc) ∧ P3 W wo.heap.size (rn : Int) (fn : Int) (.slice (some ⟨bs, offs, none⟩) ccells.length rc) ∧ Below w.heap.size w W ∧ w4.heap.size < W.heap.size) := fun W h1 h2 => by
                      rw [← hgr1.out] at h1
                      refine ⟨?_, hM8.gr (GrB.of_grown (lo := gr) (hi := gr + 1) h2 (fun g e => by cases e; omega)) (.inr (by omega)), hRw8.grown h2 (fun e => by have := Option.some.inj e; omega), hP8.grown h2 (fun e => by have := Option.some.inj e; omega), hCh8.grown h2 (fun e => by have := Option.some.inj e; omega), kb8.grown h2 kb8.size (fun g e => by cases e; omega), Nat.lt_of_lt_of_le hm8 h2.size⟩
                      have := hou8.rowset (by rw [List.length_set]; exact hrn) _ h1 (by rw [hgr1.out]; exact h2)
                      rw [hot] at this
                      exact this
                    have hdone : Hid (k + 1 ≤ ccells.length) := hk
                    clear hou2 hM2 hRw2 hP2 hCh2 kb2 hrow2 hou8 hM8 hRw8 hP8 hCh8 kb8 hcat hot hc8 hm8 hgulwr hbswr hcc hcr z0 z1 z2 z3 z4 z5 z6 q0 q1 q2 n0 n1 hFail hcx eq hatsW
                    go_wp2
                    refine wp_region_noPanic ?_
                    refine wp_region_held_drew (S := S) (by kernel_rfl) hS7 (fun hHeld => ?_)
                    clear hS7
                    have hS := hS.out
                    subst hS
                    refine tk 0 ?_
                    refine tk 1 ?_
                    refine tk 2 ?_
                    refine tk 3 ?_
                    refine tk 4 ?_
                    refine tk 5 ?_
                    refine tk 6 ?_
                    refine tk 7 ?_
                    refine tk 8 ?_
                    refine tk 9 ?_
                    refine tk 10 ?_
                    refine tk 11 ?_
                    refine tk 12 ?_
                    refine tk 13 ?_
                    refine tk 14 ?_
                    refine tk 15 ?_
                    refine rdo 16 fun K hK => ?_
                    simp only [Act.put, List.setIfInBounds_toArray, List.set_cons_zero, List.set_cons_succ, List.getElem_toArray, List.getElem_cons_zero, List.getElem_cons_succ]
                    refine wp_store_ce _ _ (by rfl) (w.heap.size + 3) gr m cr q Lk cc hrow8 hXl.out hqm (by rfl) (by rfl) ?_
                    intro w8 ho8 hg8
                    refine hK.out _ _ (hS8.out w8 hg8) (fun hHeld => ?_)
                    refine dn ?_
                    obtain ⟨k1, k2, k3, k4, k5, k6, k7⟩ := hfin.out w8 ho8 hg8
                    clear hfin hS8 ho8 hg8 hK K hHeld hrow8
                    go_wp2
                    go_roundw
                    case rel => exact ⟨k + 1, by go_num, hdone.out, k1, k2, k3, k4, k5, k6, k7⟩
                    case measure => simp [intOf]; have := hdone.out; omega
                  · have hki : ¬ (k : Int) < (ccells.length : Int) := by omega
                    have hke : ccells.take k = ccells := List.take_of_length_le (by omega)
                    rw [hke] at hou2
                    have hou3 : OwnV wr (w.heap.size + 3) w4.heap.size (.slice (some ⟨gu, 0, none⟩) un uc) vs (onP R ⟨rn, fn, ccells⟩) := by
                      have := hou2
                      simpa [onP] using this
                    clear hou2 hke
                    have hjd : Hid (j + 1 ≤ cs.length) := hlt
                    clear hFail hcx hatsW hCh2
                    go_wp2
                    exact ⟨⟨j + 1, onP R ⟨rn, fn, ccells⟩, by go_num, hjd.out, hst, hou3, hM2, hRw2, hP2, kb2, hs2⟩, by simp [intOf]; have := hjd.out; omega⟩
              · have hA : Hid (patA C R0 cs = (0, [], false)) := by
                  show _ = _
                  exact patA_none (j := j + 1) (patJ_out hpj.out (by rw [← hch.out]; intro h; obtain ⟨i1, i2, i3, i4, i5⟩ := h; simp only at i1 i2 i3 i4 i5; omega)) hlt
                obtain ⟨_, ⟨d0, d1⟩, ⟨y0, y1⟩⟩ := id hRw1
                obtain ⟨⟨f0, f1⟩, hbF⟩ := hFail _ hRw1 kb1
                clear hFail hou1 hM1 hRw1 hsl1 kb1 hP1 hCh
                go_wp2_with fail
                refine (hl1 _).mono ?_
                rintro e wk ⟨rfl, hwk⟩
                subst hwk
                rw [decide_eq_true hA2]
                go_wp2_with fail
                refine (hl2 _).mono ?_
                rintro e wk ⟨rfl, hwk⟩
                subst hwk
                rw [decide_eq_false hA3]
                go_wp2
                exact bodyPost_ret (v := .tuple #[.agg #[.int .i64 0, .slice none 0 0], .bool false]) (by simp [results, Tryd.results15, go_sem, f0, f1]) rfl ⟨_, by rw [hA.out], by rw [hA.out]; exact ownG_none _ _ _, hbF⟩
            · have hA : Hid (patA C R0 cs = (0, [], false)) := by
                show _ = _
                exact patA_none (j := j + 1) (patJ_out hpj.out (by rw [← hch.out]; intro h; obtain ⟨i1, i2, i3, i4, i5⟩ := h; simp only at i1 i2 i3 i4 i5; have := hRl.out; omega)) hlt
              obtain ⟨_, ⟨d0, d1⟩, ⟨y0, y1⟩⟩ := id hRw1
              obtain ⟨⟨f0, f1⟩, hbF⟩ := hFail _ hRw1 kb1
              clear hFail hou1 hM1 hRw1 hsl1 kb1 hP1 hCh
              go_wp2_with fail
              refine (hl1 _).mono ?_
              rintro e wk ⟨rfl, hwk⟩
              subst hwk
              rw [decide_eq_false hA2]
              go_wp2
              exact bodyPost_ret (v := .tuple #[.agg #[.int .i64 0, .slice none 0 0], .bool false]) (by simp [results, Tryd.results15, go_sem, f0, f1]) rfl ⟨_, by rw [hA.out], by rw [hA.out]; exact ownG_none _ _ _, hbF⟩
        · have hjn : j = cs.length := by omega
          have hji : ¬ (j : Int) < (cs.length : Int) := by omega
          subst hjn
          have hok := specGridOk_any C (.slice ua un uc) R wr (SlG.of_own hou.g) (by omega) (fun i hi => by have := hRe i hi; omega)
          unfold gridV at hok
          clear hug hcx
          go_wp2_with fail
          refine hok.mono ?_
          rintro e w7 ⟨rfl, hb⟩
          have hou7 := hou.below hb
          have hM7 := hM.below hb
          have hRw7 := hRw.below hb
          have kb7 := kb.trans (hb.mono kb.size)
          obtain ⟨_, n0, n1⟩ := id hM7
          clear hou hM hRw hb hok m0 m1 hP p0 p1 p2
          cases hg : gridOkB C R
          · have hA : Hid (patA C R0 cs = (0, [], false)) := by show _ = _; rw [patA_some hmany.out hpj.out, hg]; rfl
            obtain ⟨_, ⟨d0, d1⟩, ⟨y0, y1⟩⟩ := id hRw7
            obtain ⟨⟨f0, f1⟩, hbF⟩ := hFail w7 hRw7 kb7
            clear hFail hou7 hM7 hRw7 kb7 n0 n1
            go_wp2
            exact bodyPost_ret (v := .tuple #[.agg #[.int .i64 0, .slice none 0 0], .bool false]) (by simp [results, Tryd.results15, go_sem, f0, f1]) rfl ⟨_, by rw [hA.out], by rw [hA.out]; exact ownG_none _ _ _, hbF⟩
          · have hA : Hid (patA C R0 cs = (C, R, true)) := by show _ = _; rw [patA_some hmany.out hpj.out, hg]; rfl
            obtain ⟨_, ⟨d0, d1⟩, ⟨y0, y1⟩⟩ := id hRw7
            obtain ⟨f0, f1⟩ := (hRw7.put2 C (.slice ua un uc)).2.1
            have hg8 := putG2_grown w7 (w.heap.size + 2) C (.slice ua un uc)
            have hbF := kb7.grown hg8 kb7.size (fun g e => by cases e; omega)
            have how := ((hou7.g.kept hg8 (fun g e => by cases e; omega)).now).low (show w.heap.size ≤ w.heap.size + 3 by omega)
            simp only [putG2] at f0 f1 hbF how
            clear hFail hou7 hM7 hRw7 kb7 hg8
            go_wp2
            exact bodyPost_ret (v := .tuple #[.agg #[.int .i64 C, .slice ua un uc], .bool true]) (by simp [results, Tryd.results15, go_sem, f0, f1]) rfl ⟨_, by rw [hA.out], by rw [hA.out]; exact how, hbF⟩
end Go.Proofs.YtpijokologkbeaaDoor
namespace Go.Proofs.YtpijokologkbeaaDoor
open Go.ChangeShapes Go.WideShapes Go.ChangeAt Go.RowKit
theorem slShP {w : World} {v : Value} {cs : List Ch} (h : SlP w v cs) : ∃ a n c, v = .slice a n c := by
  obtain ⟨a, c, _, h, _⟩ := h
  exact ⟨a, _, c, h⟩
theorem P3.grB {w w' : World} {B lo hi : Nat} {x y : Int} {v : Value} (h : P3 w B x y v) (hg : GrB lo hi w w') (hne : B < lo ∨ hi ≤ B) : P3 w' B x y v := by
  have hc : ∀ k, w'.cell? ⟨B, k, none⟩ = w.cell? ⟨B, k, none⟩ := fun k => hg.cell h.1 hne
  have hz : ∀ k, w'.frozen? ⟨B, k, none⟩ = w.frozen? ⟨B, k, none⟩ := fun k => hg.frozen h.1 hne
  refine ⟨Nat.lt_of_lt_of_le h.1 hg.size, ?_, ?_⟩
  · rw [hc, hc, hc]; exact h.2.1
  · rw [hz, hz, hz]; exact h.2.2
theorem leftP_sum {cs : List Ch} {left : Nat} : ∀ {j m : Nat}, leftP cs left j = some m → sumP cs j + 7 * m ≤ 2 * j + 7 * (left - cs.length)
  | 0, m, h => by
    rw [leftP] at h
    split at h
    · cases h
    · cases h; rw [sumP]; omega
  | j + 1, m, h => by
    rw [leftP] at h
    split at h
    · cases h
    · rename_i m1 h1
      have h2 := leftP_sum h1
      split at h
      · cases h
      · cases h; rw [sumP]; omega
theorem patA_bd (C : Int) (R : List (List Ce)) (cs : List Ch) : (patA C R cs).2.1.length ≤ 60 ∧ ∀ i, i < (patA C R cs).2.1.length → (rowX (patA C R cs).2.1 i).length ≤ 60 := by
  unfold patA
  split
  · exact ⟨by simp, fun i hi => by simp at hi⟩
  · split
    · exact ⟨by simp, fun i hi => by simp at hi⟩
    · rename_i R' _
      split
      · rename_i hg
        obtain ⟨h1, h2, h3⟩ := (gridOk_iff _ _).1 hg
        refine ⟨by simp only; omega, fun i hi => ?_⟩
        have := fitB_len (h3 i hi)
        unfold rowX at *
        simp only at this ⊢
        omega
      · exact ⟨by simp, fun i hi => by simp at hi⟩
set_option maxHeartbeats 16000000 in
set_option maxRecDepth 20000 in
theorem walk_FnExactPatched' (w : World) (cols : Int) (v : Value) (rows : List (List Ce)) (x y : Int) (pv : Value) (cs : List Ch) (C : Int) (Y : List (List Ce)) (bb : Bool) (hv : SlG w v rows) (hl0 : rows.length ≤ maxLen) (hx0 : ∀ i, i < rows.length → (rowX rows i).length ≤ maxLen) (hp : SlP w pv cs) (hpl : cs.length ≤ maxLen) (hpx : ∀ i, i < cs.length → (chX cs i).cells.length ≤ maxLen) (hYn : Y.length ≤ 60) (hYx : ∀ i, i < Y.length → (rowX Y i).length ≤ 60)
    (hsp0 : ∀ v pv W, SlG W v rows → SlP W pv cs → rows.length ≤ 1048576 → (∀ i, i < rows.length → (rowX rows i).length ≤ 1048576) → cs.length ≤ 1048576 → (∀ i, i < cs.length → (chX cs i).cells.length ≤ 1048576) → Calls Tryd.prog 15 #[gridV cols v, patV x y pv] W fun e w' => ∃ u, e = .returned (.tuple #[gridV C u, .bool bb]) ∧ OwnG w' W.heap.size w'.heap.size u Y ∧ Below W.heap.size W w')
    (him0 : ∀ v pv W, Below w.heap.size w W → SlG W v rows → SlP W pv cs → rows.length ≤ 1048576 → (∀ i, i < rows.length → (rowX rows i).length ≤ 1048576) → cs.length ≤ 1048576 → (∀ i, i < cs.length → (chX cs i).cells.length ≤ 1048576) → Calls Tryd.prog 12 #[gridV cols v, patV x y pv] W fun e w' => ∃ u, e = .returned (.tuple #[gridV C u, .bool bb]) ∧ OwnG w' W.heap.size w'.heap.size u Y ∧ Below W.heap.size W w') :
    Calls Tryd.prog 5 #[gridV cols v, patV x y pv] w fun e w' => e = .returned (.bool true) ∧ Below w.heap.size w w' := by
  have hz := fun W h => szGrid_any cols v rows 1048576 W h hl0 hx0 (by decide)
  have hzp := fun n W h (hn : n ≤ 1048576) => szPatch_any x y pv cs n W h hpl hpx (by omega)
  have hb1 := bal' w (Obj.cells #[.int .i64 cols, v] 43)
  have hG1 := GrN.new w cols v 43
  have e1 : (w.alloc (Obj.cells #[.int .i64 cols, v] 43)).heap.size = w.heap.size + 1 := by simp
  have hA1 := P3.new (w.alloc (Obj.cells #[.int .i64 cols, v] 43)) x y pv 51
  have hb2 := bal' (w.alloc (Obj.cells #[.int .i64 cols, v] 43)) (Obj.cells #[.int .i64 x, .int .i64 y, pv] 51)
  have hGA := hG1.below hb2
  have kbA := hb1.trans (hb2.mono hb1.size)
  rw [e1] at hA1
  obtain ⟨p0, p1, p2, rfl⟩ := slShp hv
  obtain ⟨t0, t1, t2, rfl⟩ := slShP hp
  unfold gridV patV at *
  clear hb1 hG1 hb2 e1
  have hvA := hv.below kbA
  obtain ⟨c0, c1⟩ := hGA.2
  go_enter Tryd.func5, Tryd.ntmps5
  go_wp2_with fail
  refine (hz _ hvA).mono ?_
  rintro e wq ⟨rfl, hb⟩
  have hGQ := hGA.below hb
  have hPQ := hA1.below hb
  have kbQ := kbA.trans (hb.mono kbA.size)
  clear hz hvA hGA hA1 kbA hb c0 c1
  by_cases hL : szG rows 1048576 < 0
  · clear hsp0 him0 hzp
    go_wp2
    go_ret
    exact ⟨rfl, kbQ⟩
  have hfit : ∃ m, szG rows 1048576 = ((m : Nat) : Int) ∧ m ≤ 1048576 ∧ rows.length ≤ 1048576 ∧ (∀ i, i < rows.length → (rowX rows i).length ≤ 1048576) ∧ sumG rows rows.length ≤ 1048576 := by
    unfold szG at hL ⊢
    split at hL
    · exact absurd (by decide) hL
    · rename_i m hm
      refine ⟨m, rfl, ?_, (leftG_le hm).2.1, (leftG_le hm).2.2, by have := leftG_sum hm; omega⟩
      have := leftG_sum hm; omega
  obtain ⟨z, hzz, hz1, hl, hx, hsx⟩ := hfit
  rw [hzz] at hL ⊢
  clear hzz
  obtain ⟨c0, c1, c2⟩ := hPQ.2.1
  go_wp2_with fail
  refine (hzp z _ (hp.below kbQ) hz1).mono ?_
  rintro e w1 ⟨rfl, hb⟩
  have hG1 := hGQ.below hb
  have hP1 := hPQ.below hb
  have kb1 := kbQ.trans (hb.mono kbQ.size)
  clear hzp hGQ hPQ kbQ hb c0 c1 c2
  by_cases hL2 : szPt cs z < 0
  · clear hsp0 him0
    go_wp2
    go_ret
    exact ⟨rfl, kb1⟩
  have hfit : cs.length ≤ 1048576 ∧ (∀ i, i < cs.length → (chX cs i).cells.length ≤ 1048576) ∧ sumP cs cs.length ≤ 16777216 := by
    unfold szPt at hL2
    split at hL2
    · exact absurd (by decide) hL2
    · rename_i m hm
      have h1 := leftP_le hm
      have h2 := leftP_sum hm
      exact ⟨by omega, fun i hi => by have := h1.2.2 i hi; omega, by omega⟩
  obtain ⟨hcl, hcx, hsc⟩ := hfit
  have hsY : sumG Y Y.length ≤ 1048576 := by have := sumG_bd Y 60 hYx Y.length (Nat.le_refl _); have := Nat.mul_le_mul_right 60 hYn; omega
  have hsp := fun v pv W h1 h2 => hsp0 v pv W h1 h2 hl hx hcl hcx
  have him := fun v pv W hb h1 h2 => him0 v pv W hb h1 h2 hl hx hcl hcx
  have hto := fun W h => toGrid_copy cols (.slice p0 p1 p2) rows W h (by omega) (fun i hi => by have := hx i hi; omega)
  have htp := fun W h => toPatch_copy x y (.slice t0 t1 t2) cs W h (by omega) (fun i hi => by have := hcx i hi; omega)
  have heY := fun va vb W h1 h2 => eqGrid_same C va vb Y W h1 h2 (by omega) (fun i hi => by have := hYx i hi; omega)
  have heX := fun va vb W h1 h2 => eqGrid_same cols va vb rows W h1 h2 (by omega) (fun i hi => by have := hx i hi; omega)
  have heP := fun va vb W h1 h2 => eqPatch_same x y va vb cs W h1 h2 (by omega) (fun i hi => by have := hcx i hi; omega)
  have hmX := fun lo hi v W h => markGrid_own lo hi cols v 1 rows W h (by decide) hsx hl
  have hmP := fun lo hi v vs W h hv => markPatch_own lo hi x y v vs (1 + 7 * sumG rows rows.length) cs W h hv (by omega) hsc hcl
  have hmY := fun lo hi v W h => markGrid_own lo hi C v 1 Y W h (by decide) hsY (by omega)
  have hhY := fun v W h => heldGrid_marks C v 1 Y W h (by decide) hsY (by omega)
  have hqX : ¬ (((1 + 7 * sumG rows rows.length + sumP cs cs.length : Nat) : Int) < 0) := by omega
  have hqY : ¬ (((1 + 7 * sumG Y Y.length : Nat) : Int) < 0) := by omega
  have hbb : (bb != bb) = false := by simp
  generalize 1 + 7 * sumG rows rows.length + sumP cs cs.length = mX at *
  generalize 1 + 7 * sumG rows rows.length = mX0 at *
  generalize 1 + 7 * sumG Y Y.length = mY at *
  clear hl0 hx0 hYn hYx hsx hsY hl hx hsp0 him0 hcl hcx hsc hpl hpx
  unfold gridV patV at *
  generalize szPt cs z = z2 at *
  have hall : ∀ W, Below w1.heap.size w1 W → (W.cell? ⟨w.heap.size, 0, none⟩ = some (.int .i64 cols) ∧ W.cell? ⟨w.heap.size, 1, none⟩ = some (.slice p0 p1 p2) ∧ W.cell? ⟨w.heap.size + 1, 0, none⟩ = some (.int .i64 x) ∧ W.cell? ⟨w.heap.size + 1, 1, none⟩ = some (.int .i64 y) ∧ W.cell? ⟨w.heap.size + 1, 2, none⟩ = some (.slice t0 t1 t2) ∧ Below w1.heap.size w1 W) := fun W h => ⟨(hG1.below h).2.1, (hG1.below h).2.2, (hP1.below h).2.1.1, (hP1.below h).2.1.2.1, (hP1.below h).2.1.2.2, h⟩
  have halo : ∀ W o, (W.cell? ⟨w.heap.size, 0, none⟩ = some (.int .i64 cols) ∧ W.cell? ⟨w.heap.size, 1, none⟩ = some (.slice p0 p1 p2) ∧ W.cell? ⟨w.heap.size + 1, 0, none⟩ = some (.int .i64 x) ∧ W.cell? ⟨w.heap.size + 1, 1, none⟩ = some (.int .i64 y) ∧ W.cell? ⟨w.heap.size + 1, 2, none⟩ = some (.slice t0 t1 t2) ∧ Below w1.heap.size w1 W) → ((W.alloc o).cell? ⟨w.heap.size, 0, none⟩ = some (.int .i64 cols) ∧ (W.alloc o).cell? ⟨w.heap.size, 1, none⟩ = some (.slice p0 p1 p2) ∧ (W.alloc o).cell? ⟨w.heap.size + 1, 0, none⟩ = some (.int .i64 x) ∧ (W.alloc o).cell? ⟨w.heap.size + 1, 1, none⟩ = some (.int .i64 y) ∧ (W.alloc o).cell? ⟨w.heap.size + 1, 2, none⟩ = some (.slice t0 t1 t2) ∧ Below w1.heap.size w1 (W.alloc o)) := fun W o h => hall _ (h.2.2.2.2.2.trans ((bal' W o).mono h.2.2.2.2.2.size))
  have hbA : Below w1.heap.size w1 (w1.alloc (Obj.cells #[.int .i64 0, .slice none 0 0] 26)).drew := (bal' w1 _).trans ((bdr _).mono (bal' w1 _).size)
  have hkA := hall _ hbA
  have hkd := hall _ (bdr w1)
  go_wp2
  rename_i K8 hK8
  have hcut8 : ∀ (j8 j9 j10 j11 j12 j13 j14 j15 j16 j17 j18 j19 j20 j21 j22 j23 j24 j25 j26 j27 j28 j29 j30 j31 j32 j33 j34 j35 j36 j37 j38 j39 j40 j41 j42 j43 j44 j45 j46 j47 j48 j49 j50 j51 j52 j53 j54 j55 j56 j57 j58 j59 j60 j61 j62 j63 j64 j65 j66 j67 j68 j69 j70 j71 j72 j73 j74 j75 j76 j77 j78 j79 j80 j81 j82 j83 j84 j85 j86 j87 j88 j89 j90 j91 j92 j93 j94 j95 j96 j97 j98 j99 j100 j101 j102 j103 j104 j105 j106 j107 j108 j109 j110 j111 j112 j113 j114 j115 j116 j117 j118 : Value) (B0 lo0 hi0 : Nat) (q0 : Option Addr) (q1 q2 : Nat) (W : World), Below w.heap.size w W → GrN W w.heap.size cols (.slice p0 p1 p2) → P3 W (w.heap.size + 1) x y (.slice t0 t1 t2) → GrN W B0 C (.slice q0 q1 q2) → OwnR W lo0 hi0 (.slice q0 q1 q2) Y → K8 { tmps := #[.agg #[.int .i64 cols, .slice p0 p1 p2], .agg #[.int .i64 x, .int .i64 y, .slice t0 t1 t2], .pointer (some ⟨w.heap.size, 0, none⟩), .pointer (some ⟨w.heap.size + 1, 0, none⟩), .bool false, .int .i64 z2, .pointer (some ⟨B0, 0, none⟩), .bool bb, j8, j9, j10, j11, j12, j13, j14, j15, j16, j17, j18, j19, j20, j21, j22, j23, j24, j25, j26, j27, j28, j29, j30, j31, j32, j33, j34, j35, j36, j37, j38, j39, j40, j41, j42, j43, j44, j45, j46, j47, j48, j49, j50, j51, j52, j53, j54, j55, j56, j57, j58, j59, j60, j61, j62, j63, j64, j65, j66, j67, j68, j69, j70, j71, j72, j73, j74, j75, j76, j77, j78, j79, j80, j81, j82, j83, j84, j85, j86, j87, j88, j89, j90, j91, j92, j93, j94, j95, j96, j97, j98, j99, j100, j101, j102, j103, j104, j105, j106, j107, j108, j109, j110, j111, j112, j113, j114, j115, j116, j117, j118], defers := [] } W := by
    intro j8 j9 j10 j11 j12 j13 j14 j15 j16 j17 j18 j19 j20 j21 j22 j23 j24 j25 j26 j27 j28 j29 j30 j31 j32 j33 j34 j35 j36 j37 j38 j39 j40 j41 j42 j43 j44 j45 j46 j47 j48 j49 j50 j51 j52 j53 j54 j55 j56 j57 j58 j59 j60 j61 j62 j63 j64 j65 j66 j67 j68 j69 j70 j71 j72 j73 j74 j75 j76 j77 j78 j79 j80 j81 j82 j83 j84 j85 j86 j87 j88 j89 j90 j91 j92 j93 j94 j95 j96 j97 j98 j99 j100 j101 j102 j103 j104 j105 j106 j107 j108 j109 j110 j111 j112 j113 j114 j115 j116 j117 j118 B0 lo0 hi0 q0 q1 q2 W5 kb5 hG5 hP5 hR5 hO5
    clear hG1 hP1 kb1 hkd hkA hbA halo hall
    apply hK8
    clear hK8
    obtain ⟨c0, c1⟩ := hG5.2
    go_wp2_with fail
    refine (hto _ (hv.below kb5)).mono ?_
    rintro e w6 ⟨ux, rfl, hox, hb⟩
    obtain ⟨x0, x1, x2, rfl⟩ := slShp (SlG.of_own hox)
    have hal := bal' w6 (Obj.cells #[.int .i64 cols, .slice x0 x1 x2] 26)
    have hX6 := GrN.new w6 cols (.slice x0 x1 x2) 26
    have hOX6 := (OwnR.of hox).below hal
    have hbb := hb.trans (hal.mono hb.size)
    have n1 := hG5.1
    have n1p := hP5.1
    have n2 := hR5.1
    have n3 := hO5.2.2
    have n4 := hb.size
    have n5 : w6.heap.size < (w6.alloc (Obj.cells #[.int .i64 cols, .slice x0 x1 x2] 26)).heap.size := by simp
    have hG6 := hG5.below hbb
    have hP6 := hP5.below hbb
    have hR6 := hR5.below hbb
    have hO6 := hO5.below hbb
    have kb6 := kb5.trans (hbb.mono kb5.size)
    clear hG5 hP5 hR5 hO5 kb5 hb hal hbb hox c0 c1
    obtain ⟨c0, c1, c2⟩ := hP6.2.1
    go_wp2_with fail
    generalize w6.alloc (Obj.cells #[.int .i64 cols, .slice x0 x1 x2] 26) = W6 at *
    refine (htp _ (hp.below kb6)).mono ?_
    rintro e w7 ⟨uy, vsy, rfl, hoy, hty, hb⟩
    obtain ⟨y0, y1, y2, rfl⟩ := slShP (SlP.of_own hoy)
    have hal := bal' w7 (Obj.cells #[.int .i64 x, .int .i64 y, .slice y0 y1 y2] 31)
    have hY7 := P3.new w7 x y (.slice y0 y1 y2) 31
    have hOY7 := hoy.below hal
    have hbb := hb.trans (hal.mono hb.size)
    have n6 := hb.size
    have n7 : w7.heap.size < (w7.alloc (Obj.cells #[.int .i64 x, .int .i64 y, .slice y0 y1 y2] 31)).heap.size := by simp
    have hG7 := hG6.below hbb
    have hP7 := hP6.below hbb
    have hR7 := hR6.below hbb
    have hO7 := hO6.below hbb
    have hX7 := hX6.below hbb
    have hOX7 := hOX6.below hbb
    have kb7 := kb6.trans (hbb.mono kb6.size)
    clear hG6 hP6 hR6 hO6 hX6 hOX6 kb6 hb hal hbb hoy c0 c1 c2
    obtain ⟨c0, c1⟩ := hX7.2
    obtain ⟨c2, c3, c4⟩ := hY7.2.1
    go_wp2_with fail
    generalize w7.alloc (Obj.cells #[.int .i64 x, .int .i64 y, .slice y0 y1 y2] 31) = W7 at *
    refine (him _ _ _ kb7 hOX7.sl (SlP.of_own hOY7)).mono ?_
    rintro e w8 ⟨ug, rfl, ho, hb⟩
    obtain ⟨g0, g1, g2, rfl⟩ := slShp (SlG.of_own ho)
    have hal := bal' w8 (Obj.cells #[.int .i64 C, .slice g0 g1 g2] 26)
    have hg8 := GrN.new w8 C (.slice g0 g1 g2) 26
    have hOg8 := (OwnR.of ho).below hal
    have hbb := hb.trans (hal.mono hb.size)
    have m1 := hb.size
    have hG8 := hG7.below hbb
    have hP8 := hP7.below hbb
    have hR8 := hR7.below hbb
    have hO8 := hO7.below hbb
    have hX8 := hX7.below hbb
    have hOX8 := hOX7.below hbb
    have hY8 := hY7.below hbb
    have hOY8 := hOY7.below hbb
    have kb8 := kb7.trans (hbb.mono kb7.size)
    clear hG7 hP7 hR7 hO7 hX7 hOX7 hY7 hOY7 kb7 ho hb hal hbb c0 c1 c2 c3 c4
    obtain ⟨c0, c1⟩ := hg8.2
    obtain ⟨c2, c3⟩ := hR8.2
    go_wp2_with fail
    generalize w8.alloc (Obj.cells #[.int .i64 C, .slice g0 g1 g2] 26) = W8 at *
    refine (heY _ _ _ hOg8.sl hO8.sl).mono ?_
    rintro e w9 ⟨rfl, hb⟩
    have hG9 := hG8.below hb
    have hP9 := hP8.below hb
    have hR9 := hR8.below hb
    have hO9 := hO8.below hb
    have hX9 := hX8.below hb
    have hOX9 := hOX8.below hb
    have hY9 := hY8.below hb
    have hOY9 := hOY8.below hb
    have hg9 := hg8.below hb
    have hOg9 := hOg8.below hb
    have kb9 := kb8.trans (hb.mono kb8.size)
    clear hG8 hP8 hR8 hO8 hX8 hOX8 hY8 hOY8 hg8 hOg8 kb8 hb c0 c1 c2 c3
    have hall10 : ∀ W, Below w9.heap.size w9 W → (W.cell? ⟨w6.heap.size, 0, none⟩ = some (.int .i64 cols) ∧ W.cell? ⟨w6.heap.size, 1, none⟩ = some (.slice x0 x1 x2) ∧ W.cell? ⟨w.heap.size, 0, none⟩ = some (.int .i64 cols) ∧ W.cell? ⟨w.heap.size, 1, none⟩ = some (.slice p0 p1 p2) ∧ Below w9.heap.size w9 W) := fun W h => ⟨(hX9.below h).2.1, (hX9.below h).2.2, (hG9.below h).2.1, (hG9.below h).2.2, h⟩
    have hkd10 := hall10 _ (bdr w9)
    have hSX := hOX9.sl
    go_wp2
    go_region_held3 (fun W => W.cell? ⟨w6.heap.size, 0, none⟩ = some (.int .i64 cols) ∧ W.cell? ⟨w6.heap.size, 1, none⟩ = some (.slice x0 x1 x2) ∧ W.cell? ⟨w.heap.size, 0, none⟩ = some (.int .i64 cols) ∧ W.cell? ⟨w.heap.size, 1, none⟩ = some (.slice p0 p1 p2) ∧ Below w9.heap.size w9 W) (with_reducible assumption)
      (first
        | (go_at_call 19; refine (hto _ (hv.below (kb9.trans ((bdr w9).mono kb9.size)))).mono ?_; rintro e wa ⟨uz, rfl, hoz, hb⟩; have hba := (bdr w9).trans hb; have hka := hall10 _ hba; obtain ⟨z0, z1, z3, rfl⟩ := slShp (SlG.of_own hoz))
        | (go_at_call 21; refine (heX _ _ _ (hSX.below hba) (SlG.of_own hoz)).mono ?_; rintro e w10 ⟨rfl, hb'⟩; have hbc := hba.trans (hb'.mono hba.size); have hkb := hall10 _ hbc))
    have hG10 := hG9.below hbc
    have hP10 := hP9.below hbc
    have hR10 := hR9.below hbc
    have hO10 := hO9.below hbc
    have hX10 := hX9.below hbc
    have hOX10 := hOX9.below hbc
    have hY10 := hY9.below hbc
    have hOY10 := hOY9.below hbc
    have hg10 := hg9.below hbc
    have hOg10 := hOg9.below hbc
    have kb10 := kb9.trans (hbc.mono kb9.size)
    clear hG9 hP9 hR9 hO9 hX9 hOX9 hY9 hOY9 hg9 hOg9 kb9 hb hb' hba hbc hka hkb hkd10 hall10 hSX hoz
    have hall10 : ∀ W, Below w10.heap.size w10 W → (W.cell? ⟨w7.heap.size, 0, none⟩ = some (.int .i64 x) ∧ W.cell? ⟨w7.heap.size, 1, none⟩ = some (.int .i64 y) ∧ W.cell? ⟨w7.heap.size, 2, none⟩ = some (.slice y0 y1 y2) ∧ W.cell? ⟨w.heap.size + 1, 0, none⟩ = some (.int .i64 x) ∧ W.cell? ⟨w.heap.size + 1, 1, none⟩ = some (.int .i64 y) ∧ W.cell? ⟨w.heap.size + 1, 2, none⟩ = some (.slice t0 t1 t2) ∧ Below w10.heap.size w10 W) := fun W h => ⟨(hY10.below h).2.1.1, (hY10.below h).2.1.2.1, (hY10.below h).2.1.2.2, (hP10.below h).2.1.1, (hP10.below h).2.1.2.1, (hP10.below h).2.1.2.2, h⟩
    have hkd10 := hall10 _ (bdr w10)
    have hSX := SlP.of_own hOY10
    go_wp2
    go_region_held3 (fun W => W.cell? ⟨w7.heap.size, 0, none⟩ = some (.int .i64 x) ∧ W.cell? ⟨w7.heap.size, 1, none⟩ = some (.int .i64 y) ∧ W.cell? ⟨w7.heap.size, 2, none⟩ = some (.slice y0 y1 y2) ∧ W.cell? ⟨w.heap.size + 1, 0, none⟩ = some (.int .i64 x) ∧ W.cell? ⟨w.heap.size + 1, 1, none⟩ = some (.int .i64 y) ∧ W.cell? ⟨w.heap.size + 1, 2, none⟩ = some (.slice t0 t1 t2) ∧ Below w10.heap.size w10 W) (with_reducible assumption)
      (first
        | (go_at_call 26; refine (htp _ (hp.below (kb10.trans ((bdr w10).mono kb10.size)))).mono ?_; rintro e wa ⟨uz, vz, rfl, hoz, htz, hb⟩; have hba := (bdr w10).trans hb; have hka := hall10 _ hba; obtain ⟨z0, z1, z3, rfl⟩ := slShP (SlP.of_own hoz))
        | (go_at_call 20; refine (heP _ _ _ (hSX.below hba) (SlP.of_own hoz)).mono ?_; rintro e w11 ⟨rfl, hb'⟩; have hbc := hba.trans (hb'.mono hba.size); have hkb := hall10 _ hbc))
    have hG11 := hG10.below hbc
    have hP11 := hP10.below hbc
    have hR11 := hR10.below hbc
    have hO11 := hO10.below hbc
    have hX11 := hX10.below hbc
    have hOX11 := hOX10.below hbc
    have hY11 := hY10.below hbc
    have hOY11 := hOY10.below hbc
    have hg11 := hg10.below hbc
    have hOg11 := hOg10.below hbc
    have kb11 := kb10.trans (hbc.mono kb10.size)
    clear hG10 hP10 hR10 hO10 hX10 hOX10 hY10 hOY10 hg10 hOg10 kb10 hb hb' hba hbc hka hkb hkd10 hall10 hSX hoz
    obtain ⟨c0, c1⟩ := hX11.2
    go_wp2_with fail
    refine (hmX _ _ _ _ hOX11).mono ?_
    rintro e wA ⟨rfl, hOXA, hgr⟩
    have hGA := hG11.gr hgr (.inl (by omega))
    have hPA := hP11.grB hgr (.inl (by omega))
    have hRA := hR11.gr hgr (.inl (by omega))
    have hOA := hO11.gr hgr (.inl (by omega))
    have hYA := hY11.grB hgr (.inr (by omega))
    have hOYA := hOY11.gr hty hgr (.inr (by omega))
    have hgA := hg11.gr hgr (.inr (by omega))
    have hOgA := hOg11.gr hgr (.inr (by omega))
    have kbA := kb11.trans (hgr.to_below (by omega) (by have := kb11.size; omega))
    clear hG11 hP11 hR11 hO11 hX11 hOX11 hY11 hOY11 hg11 hOg11 kb11 hgr hOXA c0 c1
    obtain ⟨c0, c1, c2⟩ := hYA.2.1
    go_wp2_with fail
    refine (hmP _ _ _ _ _ hOYA hty).mono ?_
    rintro e wB ⟨rfl, hOYB, hgr⟩
    have hGB := hGA.gr hgr (.inl (by omega))
    have hPB := hPA.grB hgr (.inl (by omega))
    have hRB := hRA.gr hgr (.inl (by omega))
    have hOB := hOA.gr hgr (.inl (by omega))
    have hgB := hgA.gr hgr (.inr (by omega))
    have hOgB := hOgA.gr hgr (.inr (by omega))
    have kbB := kbA.trans (hgr.to_below (by omega) (by have := kbA.size; omega))
    clear hGA hPA hRA hOA hYA hOYA hgA hOgA kbA hgr hOYB c0 c1 c2
    obtain ⟨c0, c1⟩ := hgB.2
    obtain ⟨c2, c3⟩ := hRB.2
    go_wp2_with fail
    refine (heY _ _ _ hOgB.sl hOB.sl).mono ?_
    rintro e wC ⟨rfl, hb⟩
    have hGC := hGB.below hb
    have hPC := hPB.below hb
    have hRC := hRB.below hb
    have hOC := hOB.below hb
    have hgC := hgB.below hb
    have hOgC := hOgB.below hb
    have kbC := kbB.trans (hb.mono kbB.size)
    clear hGB hPB hRB hOB hgB hOgB kbB hb c0 c1 c2 c3
    obtain ⟨c0, c1⟩ := hgC.2
    go_wp2_with fail
    refine (hmY _ _ _ _ hOgC).mono ?_
    rintro e wD ⟨rfl, hOgD, hgr⟩
    have hGD := hGC.gr hgr (.inl (by omega))
    have hPD := hPC.grB hgr (.inl (by omega))
    have hRD := hRC.gr hgr (.inl (by omega))
    have hOD := hOC.gr hgr (.inl (by omega))
    have hgD := hgC.gr hgr (.inr (Nat.le_refl _))
    have kbD := kbC.trans (hgr.to_below (by omega) (by have := kbC.size; omega))
    clear hGC hPC hRC hOC hgC hOgC kbC hgr c0 c1
    obtain ⟨c0, c1⟩ := hgD.2
    go_wp2_with fail
    refine (hhY _ _ hOgD.sl).mono ?_
    rintro e wE ⟨rfl, hb⟩
    have hGE := hGD.below hb
    have hPE := hPD.below hb
    have hRE := hRD.below hb
    have hOE := hOD.below hb
    have hgE := hgD.below hb
    have hOgE := hOgD.below hb
    have kbE := kbD.trans (hb.mono kbD.size)
    clear hGD hPD hRD hOD hgD hOgD kbD hb c0 c1
    have hall : ∀ W, Below wE.heap.size wE W → (W.cell? ⟨w.heap.size, 0, none⟩ = some (.int .i64 cols) ∧ W.cell? ⟨w.heap.size, 1, none⟩ = some (.slice p0 p1 p2) ∧ W.cell? ⟨w.heap.size + 1, 0, none⟩ = some (.int .i64 x) ∧ W.cell? ⟨w.heap.size + 1, 1, none⟩ = some (.int .i64 y) ∧ W.cell? ⟨w.heap.size + 1, 2, none⟩ = some (.slice t0 t1 t2) ∧ Below wE.heap.size wE W) := fun W h => ⟨(hGE.below h).2.1, (hGE.below h).2.2, (hPE.below h).2.1.1, (hPE.below h).2.1.2.1, (hPE.below h).2.1.2.2, h⟩
    have halo : ∀ W o, (W.cell? ⟨w.heap.size, 0, none⟩ = some (.int .i64 cols) ∧ W.cell? ⟨w.heap.size, 1, none⟩ = some (.slice p0 p1 p2) ∧ W.cell? ⟨w.heap.size + 1, 0, none⟩ = some (.int .i64 x) ∧ W.cell? ⟨w.heap.size + 1, 1, none⟩ = some (.int .i64 y) ∧ W.cell? ⟨w.heap.size + 1, 2, none⟩ = some (.slice t0 t1 t2) ∧ Below wE.heap.size wE W) → ((W.alloc o).cell? ⟨w.heap.size, 0, none⟩ = some (.int .i64 cols) ∧ (W.alloc o).cell? ⟨w.heap.size, 1, none⟩ = some (.slice p0 p1 p2) ∧ (W.alloc o).cell? ⟨w.heap.size + 1, 0, none⟩ = some (.int .i64 x) ∧ (W.alloc o).cell? ⟨w.heap.size + 1, 1, none⟩ = some (.int .i64 y) ∧ (W.alloc o).cell? ⟨w.heap.size + 1, 2, none⟩ = some (.slice t0 t1 t2) ∧ Below wE.heap.size wE (W.alloc o)) := fun W o h => hall _ (h.2.2.2.2.2.trans ((bal' W o).mono h.2.2.2.2.2.size))
    have hbA : Below wE.heap.size wE (wE.alloc (Obj.cells #[.int .i64 0, .slice none 0 0] 26)).drew := (bal' wE _).trans ((bdr _).mono (bal' wE _).size)
    have hkA := hall _ hbA
    have hkd := hall _ (bdr wE)
    go_wp2
    rename_i K31 hK31
    have hcut31 : ∀ (j17 j18 j19 j20 j21 j22 j23 j24 j25 j26 j27 j28 j29 j30 j31 j32 j33 j34 j35 j36 j37 j38 j39 j40 j41 j42 j43 j44 j45 j46 j47 j48 j49 j50 j51 j52 j53 j54 j55 j56 j57 j58 j59 j60 j61 j62 j63 j64 j65 j66 j67 j68 j69 j70 j71 j72 j73 j74 j75 j76 j77 j78 j79 j80 j81 j82 j83 j84 j85 j86 j87 j88 j89 j90 j91 j92 j93 j94 j95 j96 j97 j98 j99 j100 j101 j102 j103 j104 j105 j106 j107 j108 j109 j110 j111 j112 j113 j114 j115 j116 j117 j118 : Value) (Bh loh hih : Nat) (h0 : Option Addr) (h1 h2 : Nat) (W : World), Below w.heap.size w W → GrN W B0 C (.slice q0 q1 q2) → OwnR W lo0 hi0 (.slice q0 q1 q2) Y → GrN W w8.heap.size C (.slice g0 g1 g2) → OwnR W W7.heap.size w8.heap.size (.slice g0 g1 g2) (marksG 1 Y) → GrN W Bh C (.slice h0 h1 h2) → OwnR W loh hih (.slice h0 h1 h2) Y → K31 { tmps := #[.agg #[.int .i64 cols, .slice p0 p1 p2], .agg #[.int .i64 x, .int .i64 y, .slice t0 t1 t2], .pointer (some ⟨w.heap.size, 0, none⟩), .pointer (some ⟨w.heap.size + 1, 0, none⟩), .bool false, .int .i64 z2, .pointer (some ⟨B0, 0, none⟩), .bool bb, .pointer (some ⟨w6.heap.size, 0, none⟩), .pointer (some ⟨w7.heap.size, 0, none⟩), .pointer (some ⟨w8.heap.size, 0, none⟩), .bool bb, .int .i64 (mX : Int), .int .i64 (mY : Int), .int .i64 (mY : Int), .pointer (some ⟨Bh, 0, none⟩), .bool bb, j17, j18, j19, j20, j21, j22, j23, j24, j25, j26, j27, j28, j29, j30, j31, j32, j33, j34, j35, j36, j37, j38, j39, j40, j41, j42, j43, j44, j45, j46, j47, j48, j49, j50, j51, j52, j53, j54, j55, j56, j57, j58, j59, j60, j61, j62, j63, j64, j65, j66, j67, j68, j69, j70, j71, j72, j73, j74, j75, j76, j77, j78, j79, j80, j81, j82, j83, j84, j85, j86, j87, j88, j89, j90, j91, j92, j93, j94, j95, j96, j97, j98, j99, j100, j101, j102, j103, j104, j105, j106, j107, j108, j109, j110, j111, j112, j113, j114, j115, j116, j117, j118], defers := [] } W := by
      intro j17 j18 j19 j20 j21 j22 j23 j24 j25 j26 j27 j28 j29 j30 j31 j32 j33 j34 j35 j36 j37 j38 j39 j40 j41 j42 j43 j44 j45 j46 j47 j48 j49 j50 j51 j52 j53 j54 j55 j56 j57 j58 j59 j60 j61 j62 j63 j64 j65 j66 j67 j68 j69 j70 j71 j72 j73 j74 j75 j76 j77 j78 j79 j80 j81 j82 j83 j84 j85 j86 j87 j88 j89 j90 j91 j92 j93 j94 j95 j96 j97 j98 j99 j100 j101 j102 j103 j104 j105 j106 j107 j108 j109 j110 j111 j112 j113 j114 j115 j116 j117 j118 Bh loh hih h0 h1 h2 WF kbF hRF hOF hgF hOgF hhF hOhF
      clear hGE hPE hRE hOE hgE hOgE kbE hkd hkA hbA halo hall
      apply hK31
      clear hK31
      obtain ⟨c0, c1⟩ := hhF.2
      obtain ⟨c2, c3⟩ := hRF.2
      go_wp2_with fail
      refine (heY _ _ _ hOhF.sl hOF.sl).mono ?_
      rintro e wG ⟨rfl, hb⟩
      have hgG := hgF.below hb
      have hOgG := hOgF.below hb
      have kbG := kbF.trans (hb.mono kbF.size)
      clear hRF hOF hgF hOgF hhF hOhF kbF hb c0 c1 c2 c3
      obtain ⟨c0, c1⟩ := hgG.2
      go_wp2_with fail
      refine (hhY _ _ hOgG.sl).mono ?_
      rintro e wH ⟨rfl, hb⟩
      go_wp2
      go_ret
      exact ⟨rfl, kbG.trans (hb.mono kbG.size)⟩
    go_region_held3 (fun W => W.cell? ⟨w.heap.size, 0, none⟩ = some (.int .i64 cols) ∧ W.cell? ⟨w.heap.size, 1, none⟩ = some (.slice p0 p1 p2) ∧ W.cell? ⟨w.heap.size + 1, 0, none⟩ = some (.int .i64 x) ∧ W.cell? ⟨w.heap.size + 1, 1, none⟩ = some (.int .i64 y) ∧ W.cell? ⟨w.heap.size + 1, 2, none⟩ = some (.slice t0 t1 t2) ∧ Below wE.heap.size wE W) (first | with_reducible assumption | with_reducible exact halo _ _ (by with_reducible assumption))
      (first
        | (go_at_call 19; refine (hto _ (hv.below (by first | exact kbE.trans ((bdr wE).mono kbE.size) | exact kbE.trans (hbA.mono kbE.size)))).mono ?_; rintro e w2 ⟨u2, rfl, ho2, hb2⟩; have hb2' : Below wE.heap.size wE w2 := (by first | exact (bdr wE).trans hb2 | exact hbA.trans (hb2.mono hbA.size)); have hk2 := hall _ hb2'; have hb2A := hb2'.trans ((bal' w2 (Obj.cells #[.int .i64 0, .slice none 0 0] 26)).mono hb2'.size); obtain ⟨r0, r1, r2, rfl⟩ := slShp (SlG.of_own ho2))
        | (go_at_call 26; refine (htp _ (hp.below (by first | exact kbE.trans (hb2'.mono kbE.size) | exact kbE.trans (hb2A.mono kbE.size)))).mono ?_; rintro e w3 ⟨u3, vs3, rfl, ho3, ht3, hb3⟩; have hb3' : Below wE.heap.size wE w3 := (by first | exact hb2'.trans (hb3.mono hb2'.size) | exact hb2A.trans (hb3.mono hb2A.size)); have hk3 := hall _ hb3'; have hb3A := hb3'.trans ((bal' w3 (Obj.cells #[.int .i64 0, .slice none 0 0] 26)).mono hb3'.size); have hsl2 : SlG w3 (.slice r0 r1 r2) rows := (by first | exact (SlG.of_own ho2).below hb3 | exact ((SlG.of_own ho2).below (bal' w2 (Obj.cells #[.int .i64 0, .slice none 0 0] 26))).below hb3); obtain ⟨s0, s1, s2, rfl⟩ := slShP (SlP.of_own ho3))
        | (go_at_call 12; refine (him _ _ _ (by first | exact kbE.trans (hb3'.mono kbE.size) | exact kbE.trans (hb3A.mono kbE.size)) (by first | exact hsl2 | exact hsl2.below (bal' w3 (Obj.cells #[.int .i64 0, .slice none 0 0] 26))) (by first | exact SlP.of_own ho3 | exact (SlP.of_own ho3).below (bal' w3 (Obj.cells #[.int .i64 0, .slice none 0 0] 26)))).mono ?_; rintro e w4 ⟨u4, rfl, ho4, hb4⟩; obtain ⟨q0, q1, q2, rfl⟩ := slShp (SlG.of_own ho4)
           have hb4' : Below wE.heap.size wE w4 := (by first | exact hb3'.trans (hb4.mono hb3'.size) | exact hb3A.trans (hb4.mono hb3A.size))
           have hk4 := hall _ hb4'
           (first
             | (have hR4 : GrW w4 wE.heap.size 0 (.slice none 0 0) := ((((GrW.new wE 0 (.slice none 0 0) 26).below (bdr _)).below hb2).below hb3).below hb4; have hg5 := putG2_grown w4 wE.heap.size C (.slice q0 q1 q2); have hb5 : Below wE.heap.size wE (putG2 w4 wE.heap.size C (.slice q0 q1 q2)) := hb4'.grown hg5 hb4'.size (fun g e => Option.some.inj e ▸ Nat.le_refl _); have hk5 := hall _ hb5; have hd4 := hR4.2; have hR5 := hR4.put2 C (.slice q0 q1 q2); obtain ⟨hO5, hs5⟩ := own_put ho4 hg5 (by first | (have h8 := hb2.size; have h9 := hb3.size; simp at h8 h9 ⊢; omega) | (have h9 := hb3.size; simp at h9 ⊢; omega) | (have h8 := hb2.size; simp at h8 ⊢; omega) | simp); simp only [putG2] at hk5 hR5 hb5 hO5; obtain ⟨⟨d0, d1⟩, ⟨y0, y1⟩⟩ := hd4)
             | (have hR4 : GrW w4 w2.heap.size 0 (.slice none 0 0) := ((GrW.new w2 0 (.slice none 0 0) 26).below hb3).below hb4; have hg5 := putG2_grown w4 w2.heap.size C (.slice q0 q1 q2); have hb5 : Below wE.heap.size wE (putG2 w4 w2.heap.size C (.slice q0 q1 q2)) := hb4'.grown hg5 hb4'.size (fun g e => Option.some.inj e ▸ hb2'.size); have hk5 := hall _ hb5; have hd4 := hR4.2; have hR5 := hR4.put2 C (.slice q0 q1 q2); obtain ⟨hO5, hs5⟩ := own_put ho4 hg5 (by first | (have h8 := hb2.size; have h9 := hb3.size; simp at h8 h9 ⊢; omega) | (have h9 := hb3.size; simp at h9 ⊢; omega) | (have h8 := hb2.size; simp at h8 ⊢; omega) | simp); simp only [putG2] at hk5 hR5 hb5 hO5; obtain ⟨⟨d0, d1⟩, ⟨y0, y1⟩⟩ := hd4)
             | (have hR4 : GrW w4 w3.heap.size 0 (.slice none 0 0) := (GrW.new w3 0 (.slice none 0 0) 26).below hb4; have hg5 := putG2_grown w4 w3.heap.size C (.slice q0 q1 q2); have hb5 : Below wE.heap.size wE (putG2 w4 w3.heap.size C (.slice q0 q1 q2)) := hb4'.grown hg5 hb4'.size (fun g e => Option.some.inj e ▸ hb3'.size); have hk5 := hall _ hb5; have hd4 := hR4.2; have hR5 := hR4.put2 C (.slice q0 q1 q2); obtain ⟨hO5, hs5⟩ := own_put ho4 hg5 (by first | (have h8 := hb2.size; have h9 := hb3.size; simp at h8 h9 ⊢; omega) | (have h9 := hb3.size; simp at h9 ⊢; omega) | (have h8 := hb2.size; simp at h8 ⊢; omega) | simp); simp only [putG2] at hk5 hR5 hb5 hO5; obtain ⟨⟨d0, d1⟩, ⟨y0, y1⟩⟩ := hd4)
             | (have hb5 := hb4'.trans ((bal' w4 (Obj.cells #[.int .i64 C, .slice q0 q1 q2] 26)).mono hb4'.size); have hk5 := hall _ hb5; have hR5 := GrW.new w4 C (.slice q0 q1 q2) 26; have hO5 := (OwnR.of ho4).below (bal' w4 (Obj.cells #[.int .i64 C, .slice q0 q1 q2] 26)); have hs5 : w4.heap.size < w3.heap.size ∨ w4.heap.size ≤ w4.heap.size := .inr (Nat.le_refl _)))))
    all_goals exact hcut31 _ _ _ _ _ _ _ _ _ _ _ _ _ _ _ _ _ _ _ _ _ _ _ _ _ _ _ _ _ _ _ _ _ _ _ _ _ _ _ _ _ _ _ _ _ _ _ _ _ _ _ _ _ _ _ _ _ _ _ _ _ _ _ _ _ _ _ _ _ _ _ _ _ _ _ _ _ _ _ _ _ _ _ _ _ _ _ _ _ _ _ _ _ _ _ _ _ _ _ _ _ _ _ _ _ _ _ _ _ (kbE.trans (hb5.mono kbE.size)) (hRE.below hb5) (hOE.below hb5) (hgE.below hb5) (hOgE.below hb5) ⟨hR5.1, hR5.2.1⟩ hO5
  go_region_held3 (fun W => W.cell? ⟨w.heap.size, 0, none⟩ = some (.int .i64 cols) ∧ W.cell? ⟨w.heap.size, 1, none⟩ = some (.slice p0 p1 p2) ∧ W.cell? ⟨w.heap.size + 1, 0, none⟩ = some (.int .i64 x) ∧ W.cell? ⟨w.heap.size + 1, 1, none⟩ = some (.int .i64 y) ∧ W.cell? ⟨w.heap.size + 1, 2, none⟩ = some (.slice t0 t1 t2) ∧ Below w1.heap.size w1 W) (first | with_reducible assumption | with_reducible exact halo _ _ (by with_reducible assumption))
    (first
      | (go_at_call 19; refine (hto _ (hv.below (by first | exact kb1.trans ((bdr w1).mono kb1.size) | exact kb1.trans (hbA.mono kb1.size)))).mono ?_; rintro e w2 ⟨u2, rfl, ho2, hb2⟩; have hb2' : Below w1.heap.size w1 w2 := (by first | exact (bdr w1).trans hb2 | exact hbA.trans (hb2.mono hbA.size)); have hk2 := hall _ hb2'; have hb2A := hb2'.trans ((bal' w2 (Obj.cells #[.int .i64 0, .slice none 0 0] 26)).mono hb2'.size); obtain ⟨r0, r1, r2, rfl⟩ := slShp (SlG.of_own ho2))
      | (go_at_call 26; refine (htp _ (hp.below (by first | exact kb1.trans (hb2'.mono kb1.size) | exact kb1.trans (hb2A.mono kb1.size)))).mono ?_; rintro e w3 ⟨u3, vs3, rfl, ho3, ht3, hb3⟩; have hb3' : Below w1.heap.size w1 w3 := (by first | exact hb2'.trans (hb3.mono hb2'.size) | exact hb2A.trans (hb3.mono hb2A.size)); have hk3 := hall _ hb3'; have hb3A := hb3'.trans ((bal' w3 (Obj.cells #[.int .i64 0, .slice none 0 0] 26)).mono hb3'.size); have hsl2 : SlG w3 (.slice r0 r1 r2) rows := (by first | exact (SlG.of_own ho2).below hb3 | exact ((SlG.of_own ho2).below (bal' w2 (Obj.cells #[.int .i64 0, .slice none 0 0] 26))).below hb3); obtain ⟨s0, s1, s2, rfl⟩ := slShP (SlP.of_own ho3))
      | (go_at_call 15; refine (hsp _ _ _ (by first | exact hsl2 | exact hsl2.below (bal' w3 (Obj.cells #[.int .i64 0, .slice none 0 0] 26))) (by first | exact SlP.of_own ho3 | exact (SlP.of_own ho3).below (bal' w3 (Obj.cells #[.int .i64 0, .slice none 0 0] 26)))).mono ?_; rintro e w4 ⟨u4, rfl, ho4, hb4⟩; obtain ⟨q0, q1, q2, rfl⟩ := slShp (SlG.of_own ho4)
         have hb4' : Below w1.heap.size w1 w4 := (by first | exact hb3'.trans (hb4.mono hb3'.size) | exact hb3A.trans (hb4.mono hb3A.size))
         have hk4 := hall _ hb4'
         (first
           | (have hR4 : GrW w4 w1.heap.size 0 (.slice none 0 0) := ((((GrW.new w1 0 (.slice none 0 0) 26).below (bdr _)).below hb2).below hb3).below hb4; have hg5 := putG2_grown w4 w1.heap.size C (.slice q0 q1 q2); have hb5 : Below w1.heap.size w1 (putG2 w4 w1.heap.size C (.slice q0 q1 q2)) := hb4'.grown hg5 hb4'.size (fun g e => Option.some.inj e ▸ Nat.le_refl _); have hk5 := hall _ hb5; have hd4 := hR4.2; have hR5 := hR4.put2 C (.slice q0 q1 q2); obtain ⟨hO5, hs5⟩ := own_put ho4 hg5 (by first | (have h8 := hb2.size; have h9 := hb3.size; simp at h8 h9 ⊢; omega) | (have h9 := hb3.size; simp at h9 ⊢; omega) | (have h8 := hb2.size; simp at h8 ⊢; omega) | simp); simp only [putG2] at hk5 hR5 hb5 hO5; obtain ⟨⟨d0, d1⟩, ⟨y0, y1⟩⟩ := hd4)
           | (have hR4 : GrW w4 w2.heap.size 0 (.slice none 0 0) := ((GrW.new w2 0 (.slice none 0 0) 26).below hb3).below hb4; have hg5 := putG2_grown w4 w2.heap.size C (.slice q0 q1 q2); have hb5 : Below w1.heap.size w1 (putG2 w4 w2.heap.size C (.slice q0 q1 q2)) := hb4'.grown hg5 hb4'.size (fun g e => Option.some.inj e ▸ hb2'.size); have hk5 := hall _ hb5; have hd4 := hR4.2; have hR5 := hR4.put2 C (.slice q0 q1 q2); obtain ⟨hO5, hs5⟩ := own_put ho4 hg5 (by first | (have h8 := hb2.size; have h9 := hb3.size; simp at h8 h9 ⊢; omega) | (have h9 := hb3.size; simp at h9 ⊢; omega) | (have h8 := hb2.size; simp at h8 ⊢; omega) | simp); simp only [putG2] at hk5 hR5 hb5 hO5; obtain ⟨⟨d0, d1⟩, ⟨y0, y1⟩⟩ := hd4)
           | (have hR4 : GrW w4 w3.heap.size 0 (.slice none 0 0) := (GrW.new w3 0 (.slice none 0 0) 26).below hb4; have hg5 := putG2_grown w4 w3.heap.size C (.slice q0 q1 q2); have hb5 : Below w1.heap.size w1 (putG2 w4 w3.heap.size C (.slice q0 q1 q2)) := hb4'.grown hg5 hb4'.size (fun g e => Option.some.inj e ▸ hb3'.size); have hk5 := hall _ hb5; have hd4 := hR4.2; have hR5 := hR4.put2 C (.slice q0 q1 q2); obtain ⟨hO5, hs5⟩ := own_put ho4 hg5 (by first | (have h8 := hb2.size; have h9 := hb3.size; simp at h8 h9 ⊢; omega) | (have h9 := hb3.size; simp at h9 ⊢; omega) | (have h8 := hb2.size; simp at h8 ⊢; omega) | simp); simp only [putG2] at hk5 hR5 hb5 hO5; obtain ⟨⟨d0, d1⟩, ⟨y0, y1⟩⟩ := hd4)
           | (have hb5 := hb4'.trans ((bal' w4 (Obj.cells #[.int .i64 C, .slice q0 q1 q2] 26)).mono hb4'.size); have hk5 := hall _ hb5; have hR5 := GrW.new w4 C (.slice q0 q1 q2) 26; have hO5 := (OwnR.of ho4).below (bal' w4 (Obj.cells #[.int .i64 C, .slice q0 q1 q2] 26)); have hs5 : w4.heap.size < w3.heap.size ∨ w4.heap.size ≤ w4.heap.size := .inr (Nat.le_refl _)))))
  all_goals exact hcut8 _ _ _ _ _ _ _ _ _ _ _ _ _ _ _ _ _ _ _ _ _ _ _ _ _ _ _ _ _ _ _ _ _ _ _ _ _ _ _ _ _ _ _ _ _ _ _ _ _ _ _ _ _ _ _ _ _ _ _ _ _ _ _ _ _ _ _ _ _ _ _ _ _ _ _ _ _ _ _ _ _ _ _ _ _ _ _ _ _ _ _ _ _ _ _ _ _ _ _ _ _ _ _ _ _ _ _ _ _ _ _ _ _ _ _ _ _ _ (kb1.trans (hb5.mono kb1.size)) (hG1.below hb5) (hP1.below hb5) ⟨hR5.1, hR5.2.1⟩ hO5
theorem walk_FnExactPatched (w : World) (hS : SpansAt w) (cols : Int) (v : Value) (rows : List (List Ce)) (hv : SlG w v rows) (hl0 : rows.length ≤ maxLen) (hx0 : ∀ i, i < rows.length → (rowX rows i).length ≤ maxLen) (x y : Int) (pv : Value) (cs : List Ch) (hp : SlP w pv cs) (hpl : cs.length ≤ maxLen) (hpx : ∀ i, i < cs.length → (chX cs i).cells.length ≤ maxLen) :
    Calls Tryd.prog 5 #[gridV cols v, patV x y pv] w fun e w' => e = .returned (.bool true) ∧ Below w.heap.size w w' :=
  walk_FnExactPatched' w cols v rows x y pv cs _ _ _ hv hl0 hx0 hp hpl hpx (patA_bd (resC cols rows x y) (resR cols rows x y) cs).1 (patA_bd (resC cols rows x y) (resR cols rows x y) cs).2
    (fun v pv W h1 h2 l1 l2 l3 l4 => specPatched_any cols v rows x y pv cs W h1 h2 l1 l2 l3 l4)
    (fun v pv W hb h1 h2 l1 l2 l3 l4 => implPatched_any cols v rows x y pv cs W (hS.below hb hS.lt) h1 h2 l1 l2 l3 l4)
end Go.Proofs.YtpijokologkbeaaDoor
