/- Contract of the program's Resized, whole. -/
import Derived.Test.YtdbpjfdlibodcaaGreatDoorP7
namespace Go.Proofs.YtdbpjfdlibodcaaGreatDoor
open Go.ChangeShapes Go.WideShapes Go.ChangeAt Go.RowKit
theorem GrN.low {w w' : World} {B K : Nat} {cols : Int} {v : Value} (h : GrN w B cols v) (hb : Below K w w') (hlt : B < K) : GrN w' B cols v :=
  ⟨Nat.lt_of_lt_of_le h.1 hb.size, (hb.cell (p := ⟨B, 0, none⟩) hlt).trans h.2.1, (hb.cell (p := ⟨B, 1, none⟩) hlt).trans h.2.2⟩
theorem genR_set (n : Nat) (f h : Nat → List Ce) (j : Nat) (hj : j < n) : (genR n fun i => if i < j then f i else h i).set j (f j) = genR n fun i => if i < j + 1 then f i else h i :=
  ext_rowX _ _ (by rw [List.length_set, genR_len, genR_len]) fun i hi => by
    rw [List.length_set, genR_len] at hi
    rw [rowX_set (by rw [genR_len]; exact hj), genR_at _ _ _ hi, genR_at _ _ _ hi]
    by_cases e : i = j
    · rw [if_pos e, if_pos (by omega), e]
    · rw [if_neg e]
      by_cases c : i < j
      · rw [if_pos c, if_pos (by omega)]
      · rw [if_neg c, if_neg (by omega)]
theorem genR_start (n : Nat) (f h : Nat → List Ce) : (genR n fun i => if i < 0 then f i else h i) = genR n h :=
  ext_rowX _ _ (by rw [genR_len, genR_len]) fun i hi => by
    rw [genR_len] at hi
    rw [genR_at _ _ _ hi, genR_at _ _ _ hi, if_neg (Nat.not_lt_zero i)]
theorem genR_self (rows : List (List Ce)) : (genR rows.length fun i => rowX rows i) = rows :=
  ext_rowX _ _ (genR_len _ _) fun i hi => by
    rw [genR_len] at hi
    rw [genR_at _ _ _ hi]
/-- The rows resized, as the program makes them. -/
theorem resized_way (rows : List (List Ce)) (gc cn n : Nat) (hR : ∀ i, i < rows.length → Right (rowX rows i)) (hx : ∀ i, i < rows.length → (rowX rows i).length = gc) (hn : 1 ≤ n) :
    (genR n fun i => if i < rows.length - (rows.length - n) then windL (rowL cn St.zero) 0 ((partW (rowX (rows.drop (rows.length - n)) i) cn).take (min cn gc)) else rowL cn St.zero) = resUp rows cn (min cn gc) (rows.length - n) n :=
  ext_rowX _ _ (by rw [genR_len, resUp_len]) fun i hi => by
    rw [genR_len] at hi
    unfold resUp
    rw [genR_at _ _ _ hi, genR_at _ _ _ hi]
    have hdx : rowX (rows.drop (rows.length - n)) i = rowX rows (rows.length - n + i) := by simp [rowX, List.getD]
    unfold resI rowPart
    by_cases c : i < rows.length - (rows.length - n)
    · rw [if_pos c, if_pos (by omega), hdx]
      have h1 := res_way (hR (rows.length - n + i) (by omega)) cn
      rw [hx _ (by omega)] at h1
      exact h1
    · rw [if_neg c, if_neg (by omega)]
      simp
theorem SlC.src' {w : World} {a : Option Addr} {n c : Nat} {xs : List Ce} (h : SlC w (.slice a n c) xs) (h0 : 0 < xs.length) : ∃ b off, a = some ⟨b, off, none⟩ ∧ ∀ i, i < xs.length → CeAt w b (off + i * 7) (atC xs i) := by
  obtain ⟨a', c', hv, _, _, hr⟩ := h
  simp only [Value.slice.injEq] at hv
  obtain ⟨rfl, _, _⟩ := hv
  rcases hr with hr | ⟨b, off, hab, _, hi⟩
  · rw [hr] at h0; simp at h0
  · exact ⟨b, off, hab, hi⟩
set_option maxHeartbeats 16000000 in
set_option maxRecDepth 20000 in
theorem implResized_any (cols : Int) (v : Value) (rows : List (List Ce)) (a0 a1 : Int) (w : World) (hSp : SpansAt w) (hv : SlG w v rows) (hl : rows.length ≤ 1048576) (hx : ∀ i, i < rows.length → (rowX rows i).length ≤ 1048576) :
    Calls Tryz.prog 55 #[gridV cols v, .int .i64 a0, .int .i64 a1] w fun e w' => ∃ u, e = .returned (gridV (resC cols rows a0 a1) u) ∧ OwnG w' w.heap.size w'.heap.size u (resR cols rows a0 a1) ∧ Below w.heap.size w w' := by
  have hG0 := GrN.new w cols v 40
  have hb1 := bal' w (Obj.cells #[.int .i64 cols, v] 40)
  have e1 : (w.alloc (Obj.cells #[.int .i64 cols, v] 40)).heap.size = w.heap.size + 1 := by simp
  have hok := fun W hS h => implGridOk_any cols v rows W hS h hl hx
  have hnew := fun W => implNewGrid_any a0 a1 W
  have hv1 := hv.below hb1
  obtain ⟨pa, pc, pvs, rfl, hpc, _, hpr, _⟩ := id hv
  unfold gridV at *
  generalize hw1 : w.alloc (Obj.cells #[.int .i64 cols, .slice pa rows.length pc] 40) = w1 at *
  have hR3 := GrW.new w1 0 (.slice none 0 0) 40
  have hb3 := bal' w1 (Obj.cells #[Value.int IntKind.i64 0, Value.slice none 0 0] 40)
  rw [e1] at hR3
  have hv3 := hv1.below hb3
  have hG3 := hG0.below hb3
  have kb3 := hb1.trans (hb3.mono hb1.size)
  have hSp3 := hSp.below kb3 hSp.lt
  have hs3 : (w1.alloc (Obj.cells #[Value.int IntKind.i64 0, Value.slice none 0 0] 40)).heap.size = w.heap.size + 2 := by simp; omega
  clear hv hv1 hG0 hb1 hb3
  subst hw1
  clear e1
  have hT : Hid (resOkB cols rows a0 a1 = (gridOkB cols rows && decide (newOk a0 a1))) := by
    show _ = _
    unfold resOkB newOk
    congr 1
    rw [← Bool.decide_and]
  have hno : resOkB cols rows a0 a1 = false → Hid (resC cols rows a0 a1 = 0) ∧ Hid (resR cols rows a0 a1 = []) := fun h => ⟨by show _ = _; unfold resC; rw [h]; rfl, by show _ = _; unfold resR; rw [h]; rfl⟩
  have hFail : ∀ W : World, GrW W (w.heap.size + 1) 0 (.slice none 0 0) → Below w.heap.size w W → (((W.setCell ⟨w.heap.size + 1, 0, none⟩ (.int .i64 0)).setCell ⟨w.heap.size + 1, 1, none⟩ (.slice none 0 0)).cell? ⟨w.heap.size + 1, 0, none⟩ = some (.int .i64 0) ∧ ((W.setCell ⟨w.heap.size + 1, 0, none⟩ (.int .i64 0)).setCell ⟨w.heap.size + 1, 1, none⟩ (.slice none 0 0)).cell? ⟨w.heap.size + 1, 1, none⟩ = some (.slice none 0 0)) ∧ Below w.heap.size w ((W.setCell ⟨w.heap.size + 1, 0, none⟩ (.int .i64 0)).setCell ⟨w.heap.size + 1, 1, none⟩ (.slice none 0 0)) := fun W hR kb => by
    have kF := (hR.put2 0 (.slice none 0 0)).2.1
    have hbF := kb.grown (putG2_grown W (w.heap.size + 1) 0 (.slice none 0 0)) (by have := hR.1; omega) (fun g e => by cases e; omega)
    exact ⟨kF, hbF⟩
  go_enter Tryz.func55, Tryz.ntmps55
  go_wp2_with fail
  refine (hnew _).mono ?_
  rintro e w4 ⟨u, rfl, hu, hb⟩
  rw [hs3] at hu
  have hs4 := hb.size
  rw [hs3] at hs4
  obtain ⟨ua, un, uc, rfl⟩ := slSh (SlG.of_own hu)
  by_cases hnk : newOk a0 a1
  · rw [decide_eq_true hnk]
    rw [if_pos hnk] at hu ⊢
    rw [decide_eq_true hnk, Bool.and_true] at hT
    have hM5 := GrN.new w4 a0 (.slice ua un uc) 40
    have hal := bal' w4 (Obj.cells #[.int .i64 a0, .slice ua un uc] 40)
    have hbb := hb.trans (hal.mono hb.size)
    have hR5 := hR3.below hbb
    have hv5 := hv3.below hbb
    have hG5 := hG3.below hbb
    have kb5 := kb3.trans (hbb.mono kb3.size)
    have hSp5 := hSp3.below hbb hSp3.lt
    obtain ⟨vsM, hu4⟩ := hu.v
    have hu5 : OwnV (w4.alloc (Obj.cells #[.int .i64 a0, .slice ua un uc] 40)) (w.heap.size + 2) w4.heap.size (.slice ua un uc) vsM (newR a0.toNat a1.toNat) := hu4.below hal
    have hug := fun g e => (hu.lt g e).2
    have hs5 : w4.heap.size < (w4.alloc (Obj.cells #[.int .i64 a0, .slice ua un uc] 40)).heap.size := by simp
    clear hR3 hv3 hG3 kb3 hSp3 hb hal hbb hu hu4 hnew hs3
    obtain ⟨_, g0, g1⟩ := id hG5
    go_wp2_with fail
    generalize w4.alloc (Obj.cells #[.int .i64 a0, .slice ua un uc] 40) = w5 at *
    refine (hok _ hSp5 hv5).mono ?_
    rintro e w6 ⟨rfl, hb⟩
    have hR6 := hR5.below hb
    have hv6 := hv5.below hb
    have hG6 := hG5.below hb
    have hM6 := hM5.below hb
    have hu6 := hu5.below hb
    have kb6 := kb5.trans (hb.mono kb5.size)
    have hs6 := hb.size
    clear hR5 hv5 hG5 hM5 hu5 kb5 hSp5 hb hok g0 g1
    cases hg : gridOkB cols rows
    · rw [hg] at hT
      obtain ⟨hC, hR⟩ := hno hT.out
      obtain ⟨_, ⟨d0, d1⟩, ⟨y0, y1⟩⟩ := id hR6
      obtain ⟨⟨f0, f1⟩, hbF⟩ := hFail w6 hR6 kb6
      clear hv6 hG6 hR6 hM6 hu6 kb6 hFail
      go_wp2
      exact bodyPost_ret (v := .agg #[.int .i64 0, .slice none 0 0]) (by simp [results, Tryz.results55, go_sem, f0, f1]) rfl ⟨_, by rw [hC.out], by rw [hR.out]; exact ownG_none _ _ _, hbF⟩
    · rw [hg] at hT
      obtain ⟨⟨hc1, hc2⟩, ⟨hr1, hr2⟩, hfit⟩ := (gridOk_iff cols rows).1 hg
      obtain ⟨⟨q1, q2⟩, q3, q4⟩ := hnk
      obtain ⟨gc, rfl⟩ : ∃ k : Nat, cols = k := ⟨cols.toNat, by omega⟩
      obtain ⟨cn, rfl⟩ : ∃ k : Nat, a0 = k := ⟨a0.toNat, by omega⟩
      obtain ⟨n, rfl⟩ : ∃ k : Nat, a1 = k := ⟨a1.toNat, by omega⟩
      rw [Int.toNat_natCast, Int.toNat_natCast] at hu6
      have hfl : ∀ i, i < rows.length → (rowX rows i).length = gc := fun i hi => by have := fitB_len (hfit i hi); unfold rowX; omega
      have hRr : ∀ i, i < rows.length → Right (rowX rows i) := fun i hi => by
        have h := hfit i hi
        unfold fitB at h
        rw [Bool.and_eq_true] at h
        exact ((right_iff _).1 h.2).2
      have hway := resized_way rows gc cn n hRr hfl (by omega)
      have hC : Hid (resC gc rows cn n = (cn : Int)) := by show _ = _; unfold resC; rw [hT.out]; rfl
      have hR : Hid (resR gc rows cn n = resUp rows cn (min cn gc) (rows.length - n) n) := by show _ = _; unfold resR; rw [hT.out]; rfl
      rcases hpr with h | ⟨b, off, rfl, hbb, _⟩
      · rw [h] at hr1; simp at hr1
      have hlow := fun W => lowest_any b off rows.length pc n W hr1 (by omega) hpc (by omega) (by omega)
      obtain ⟨fr, hfr⟩ : ∃ fr, fr = rows.length - n := ⟨_, rfl⟩
      rw [← hfr] at hway hlow hR
      obtain ⟨m, hm⟩ : ∃ m, m = rows.length - fr := ⟨_, rfl⟩
      rw [← hm] at hway
      have hfrl : fr < rows.length := by omega
      simp only [← hm] at hlow
      have hdrop := hv6.drop fr hfrl
      rw [← hm] at hdrop
      have hdl : (rows.drop fr).length = m := by rw [List.length_drop]; omega
      have hdx : ∀ i, i < m → rowX (rows.drop fr) i = rowX rows (fr + i) := fun i hi => by simp [rowX, List.getD]
      have hDl : ∀ i, i < m → (rowX (rows.drop fr) i).length = gc := fun i hi => by rw [hdx i hi]; exact hfl _ (by omega)
      have hDR : ∀ i, i < m → Right (rowX (rows.drop fr) i) := fun i hi => by rw [hdx i hi]; exact hRr _ (by omega)
      have hcp := copiedG_any _ (rows.drop fr) w6 hdrop (by omega) (fun i hi => by rw [hDl i (by omega)]; omega)
      rw [hdl] at hcp
      have hmn : m ≤ n := by omega
      have hgsome : ∃ gM cM, Value.slice ua un uc = .slice (some ⟨gM, 0, none⟩) n cM ∧ n ≤ cM := by
        rcases hu6.shape with ⟨_, h⟩ | ⟨g, cap, h, _, _, hc⟩
        · have := congrArg List.length h; rw [newR_len] at this; simp at this; omega
        · rw [newR_len] at h hc; exact ⟨g, cap, h, hc⟩
      obtain ⟨gM, cM, hgM, hcM⟩ := hgsome
      rw [hgM] at hu6 hM6 hug
      simp only [Value.slice.injEq] at hgM
      obtain ⟨rfl, hn2, hc3⟩ := hgM
      have hn2 := hn2.symm
      have hc3 := hc3.symm
      subst hn2
      subst hc3
      have hgMlt := hug gM rfl
      obtain ⟨_, g0, g1⟩ := id hG6
      have HM : Hid (m = rows.length - fr) := hm
      clear hfit hfl hRr hg hno hFail hx hl hv6 hdrop hdx hT hfr hm hdl
      go_wp2_with fail
      refine (hlow _).mono ?_
      rintro e w7 ⟨rfl, hw⟩
      subst hw
      go_wp2_with fail
      refine hcp.mono ?_
      rintro e w8 ⟨vsC, rfl, kC, hb⟩
      have hR8 := hR6.below hb
      have hM8 := hM6.below hb
      have hu8 := hu6.below hb
      have kb8 := kb6.trans (hb.mono kb6.size)
      have hs8 := hb.size
      have hs67 : w4.heap.size ≤ w7.heap.size := by omega
      have hs68 : w4.heap.size < w7.heap.size := by omega
      have hs24 : w.heap.size + 2 ≤ w4.heap.size := hs4
      clear hR6 hG6 hM6 hu6 kb6 hb hcp hlow g0 g1
      have hDm : (rows.drop fr).length = m := by rw [List.length_drop, HM.out]
      generalize rows.drop fr = D at *
      obtain ⟨q0, hq0⟩ : ∃ q, q = min cn gc := ⟨_, rfl⟩
      rw [← hq0] at hway hR
      have hC0 : OwnV w8 w7.heap.size w8.heap.size (.slice (some ⟨w7.heap.size, 0, none⟩) m m) vsC (genR m fun i => if i < 0 then partW (rowX D i) cn else rowX D i) := by
        rw [genR_start m (fun i => partW (rowX D i) cn) (fun i => rowX D i), ← hDm, genR_self D, hDm]; exact kC
      have hM0 : OwnV w8 (w.heap.size + 2) w4.heap.size (.slice (some ⟨gM, 0, none⟩) n cM) vsM (genR n fun i => if i < 0 then windL (rowL cn St.zero) 0 ((partW (rowX D i) cn).take q0) else rowL cn St.zero) := by
        rw [genR_start n (fun i => windL (rowL cn St.zero) 0 ((partW (rowX D i) cn).take q0)) (fun _ => rowL cn St.zero)]
        have e : (genR n fun _ => rowL cn St.zero) = newR cn n := ext_rowX _ _ (by rw [genR_len, newR_len]) fun i hi => by
          rw [genR_len] at hi
          rw [genR_at _ _ _ hi, newR_at _ _ _ hi]
        rw [e]; exact hu8
      have hlC : w7.heap.size < w8.heap.size := (World.ownsRow.lt kC.2.1 w7.heap.size rfl).2
      have hq0c : q0 ≤ cn := by omega
      have hq0g : q0 ≤ gc := by omega
      have hq01 : 1 ≤ q0 := by omega
      have HQ : Hid (q0 = min cn gc) := hq0
      have HD : Hid (D.length = m) := hDm
      clear kC hu8 hq0 hDm
      go_wp2
      go_loopw [9, 10, 31] (fun _ _ i wr => ∃ (j : Nat), i = .int .i64 j ∧ j ≤ m ∧ OwnV wr w7.heap.size w8.heap.size (.slice (some ⟨w7.heap.size, 0, none⟩) m m) vsC (genR m fun i => if i < j then partW (rowX D i) cn else rowX D i) ∧ OwnV wr (w.heap.size + 2) w4.heap.size (.slice (some ⟨gM, 0, none⟩) n cM) vsM (genR n fun i => if i < j then windL (rowL cn St.zero) 0 ((partW (rowX D i) cn).take q0) else rowL cn St.zero) ∧ GrW wr (w.heap.size + 1) 0 (.slice none 0 0) ∧ GrN wr w4.heap.size (cn : Int) (.slice (some ⟨gM, 0, none⟩) n cM) ∧ Below w.heap.size w wr ∧ w8.heap.size ≤ wr.heap.size) (fun _ _ i _ => m - (intOf i).toNat)
      case atStart => exact ⟨0, rfl, Nat.zero_le _, hC0, hM0, hR8, hM8, kb8, Nat.le_refl _⟩
      case round =>
        clear hC0 hM0 hR8 hM8 kb8
        obtain ⟨j, rfl, hj, kC, kM, kR, kN, kb, ks⟩ := hrel
        by_cases hlt : j < m
        · have hji : (j : Int) < (m : Int) := by omega
          have hjn : (j : Int) < (n : Int) := by omega
          have hj0 : (0 : Int) ≤ (j : Int) := by omega
          have hCl : (genR m fun i => if i < j then partW (rowX D i) cn else rowX D i).length = m := genR_len _ _
          have hMl : (genR n fun i => if i < j then windL (rowL cn St.zero) 0 ((partW (rowX D i) cn).take q0) else rowL cn St.zero).length = n := genR_len _ _
          have hcC := kC.cell hCl j hlt
          have hrC := kC.2.2.1 j (by omega)
          have hBC := kC.2.2.2.1 j (by omega)
          rw [genR_at _ _ _ hlt, if_neg (Nat.lt_irrefl j)] at hrC
          have hX := hDl j hlt
          have hXR := hDR j hlt
          rcases hrC.shape with ⟨_, h⟩ | ⟨gr, cr, hvC, hgr1, hgr2, hcr⟩
          · rw [h] at hX; simp at hX; omega
          rw [hX] at hvC hcr
          rw [hvC] at hcC hrC hBC
          have hgrB := hBC gr rfl
          have hcM := kM.cell hMl j (by omega)
          have hrM := kM.2.2.1 j (by omega)
          have hBM := kM.2.2.2.1 j (by omega)
          rw [genR_at _ _ _ (by omega), if_neg (Nat.lt_irrefl j)] at hrM
          rcases hrM.shape with ⟨_, h⟩ | ⟨gm, cm, hvM, hgm1, hgm2, hcm⟩
          · have := congrArg List.length h; rw [rowL_len] at this; simp at this; omega
          rw [rowL_len] at hvM hcm
          rw [hvM] at hcM hrM hBM
          have hgmB := hBM gm rfl
          have hpa := part_all w7.heap.size gr gc cr cn (rowX D j) wr hrC hX hXR (by omega)
          have hsetC := fun W' (h1 : OwnC W' w7.heap.size (.slice (some ⟨gr, 0, none⟩) gc cr) (partW (rowX D j) cn)) (h2 : wr.grownBy W' (some gr)) => (show OwnV W' w7.heap.size w8.heap.size (.slice (some ⟨w7.heap.size, 0, none⟩) m m) vsC (genR m fun i => if i < j + 1 then partW (rowX D i) cn else rowX D i) from by
            rw [← genR_set m (fun i => partW (rowX D i) cn) (fun i => rowX D i) j hlt]
            exact kC.rowset (by omega) _ (by rw [hvC]; exact h1) (by rw [hvC]; exact h2))
          obtain ⟨_, g0, g1⟩ := id kN
          clear hrC hBC hBM
          go_wp2_with fail
          refine hpa.mono ?_
          rintro e w9 ⟨rfl, hp9, hg9⟩
          have kC9 := hsetC w9 hp9 hg9
          have hgb := GrB.of_grown (lo := w7.heap.size) (hi := w8.heap.size) hg9 (fun g e => by cases e; exact ⟨hgr1, hgrB⟩)
          have kM9 := kM.gr (fun g e => by cases e; exact hgMlt) hgb (.inl hs67)
          have kR9 := kR.gr hgb (.inl (by omega))
          have kN9 := kN.gr hgb (.inl (by omega))
          have kb9 := kb.trans (hgb.to_below (by omega) kb.size)
          have ks9 := Nat.le_trans ks hgb.size
          have hcM9 := kM9.cell hMl j (by omega)
          have hrM9 := kM9.2.2.1 j (by omega)
          rw [genR_at _ _ _ (by omega), if_neg (Nat.lt_irrefl j)] at hrM9
          rw [hvM] at hcM9 hrM9
          have hPl : (partW (rowX D j) cn).length = gc := by rw [partW_len]; exact hX
          have hTl : ((partW (rowX D j) cn).take q0).length = q0 := by rw [List.length_take, hPl]; omega
          have hmn2 : Hid (((partW (rowX D j) cn).take q0).length = Nat.min gc cn) := by show _ = _; rw [hTl, HQ.out]; exact Nat.min_comm _ _
          have hqn2 : Hid (0 + ((partW (rowX D j) cn).take q0).length ≤ cn) := by show _ ≤ _; rw [hTl]; omega
          have hposs : Hid (0 < ((partW (rowX D j) cn).take q0).length → ∃ b off, some (⟨gr, 0, none⟩ : Addr) = some ⟨b, off, none⟩ ∧ ∀ i, i < ((partW (rowX D j) cn).take q0).length → CeAt w9 b (off + i * 7) (atC ((partW (rowX D j) cn).take q0) i)) := (show 0 < ((partW (rowX D j) cn).take q0).length → ∃ b off, some (⟨gr, 0, none⟩ : Addr) = some ⟨b, off, none⟩ ∧ ∀ i, i < ((partW (rowX D j) cn).take q0).length → CeAt w9 b (off + i * 7) (atC ((partW (rowX D j) cn).take q0) i) from fun _ => by
            obtain ⟨b', off', hab, hce⟩ := (SlC.of_own hp9).src' (by rw [hPl]; omega)
            refine ⟨b', off', hab, fun i hi => ?_⟩
            rw [hTl] at hi
            rw [atC_take _ _ _ hi]
            exact hce i (by rw [hPl]; omega))
          have hrl : Hid ((rowL cn St.zero).length = cn) := rowL_len _ _
          have hsetM := fun W' (h1 : OwnC W' (w.heap.size + 2) (.slice (some ⟨gm, 0, none⟩) cn cm) (windL (rowL cn St.zero) 0 ((partW (rowX D j) cn).take q0))) (h2 : w9.grownBy W' (some gm)) => (show OwnV W' (w.heap.size + 2) w4.heap.size (.slice (some ⟨gM, 0, none⟩) n cM) vsM (genR n fun i => if i < j + 1 then windL (rowL cn St.zero) 0 ((partW (rowX D i) cn).take q0) else rowL cn St.zero) from by
            rw [← genR_set n (fun i => windL (rowL cn St.zero) 0 ((partW (rowX D i) cn).take q0)) (fun _ => rowL cn St.zero) j (by omega)]
            exact kM9.rowset (by omega) _ (by rw [hvM]; exact h1) (by rw [hvM]; exact h2))
          have hX1 := hX
          clear hX hXR hcC hvC hcM hrM hvM hpa hsetC hp9 hg9 hgb kC kM kR kN kb hPl hTl g0 g1 hCl hMl
          generalize (partW (rowX D j) cn).take q0 = MM at *
          obtain ⟨_, g0, g1⟩ := id kN9
          go_wp2_with (refine copy_oc (by rfl) _ _ (by rfl) (w.heap.size + 2) gm cn cm 0 (rowL cn St.zero) MM hrM9 hrl.out (some ⟨gm, 0, none⟩) (some ⟨gr, 0, none⟩) cn cm gc cr (by rfl) (by rfl) hmn2.out hqn2.out (fun h0 => ⟨rfl, hposs.out h0⟩) ?_; intro w10 ho10 hg10)
          have kM10 := hsetM w10 ho10 hg10
          have hgb := GrB.of_grown (lo := w.heap.size + 2) (hi := w4.heap.size) hg10 (fun g e => by cases e; exact ⟨hgm1, hgmB⟩)
          have kC10 := kC9.gr (fun g e => by cases e; exact hlC) hgb (.inr hs67)
          have kR10 := kR9.gr hgb (.inl (by omega))
          have kN10 := kN9.gr hgb (.inr (Nat.le_refl _))
          have kb10 := kb9.trans (hgb.to_below (by omega) kb9.size)
          have ks10 := Nat.le_trans ks9 hgb.size
          clear hsetM ho10 hg10 hgb kM9 kC9 kR9 kN9 kb9 ks9 hposs hmn2 hqn2 hrl hrM9 hcM9 g0 g1
          go_wp2
          go_roundw
          case rel => exact ⟨j + 1, by go_num, by omega, kC10, kM10, kR10, kN10, kb10, ks10⟩
          case measure => simp [intOf]; omega
        · have hjn : j = m := by omega
          have hji : ¬ (j : Int) < (m : Int) := by omega
          subst hjn
          rw [hway] at kM
          have kF := (kR.put2 cn (.slice (some ⟨gM, 0, none⟩) n cM)).2.1
          have hgF := putG2_grown wr (w.heap.size + 1) cn (.slice (some ⟨gM, 0, none⟩) n cM)
          have hoF := ((kM.g.up (by have := kb.size; omega : w4.heap.size ≤ wr.heap.size)).kept hgF (fun g e => by cases e; omega)).up hgF.size
          have hs7 := kb.size
          have hbF := kb.grown hgF (by omega) (fun g e => by cases e; omega)
          obtain ⟨f0, f1⟩ := kF
          obtain ⟨_, ⟨d0, d1⟩, ⟨y0, y1⟩⟩ := kR
          obtain ⟨_, g0, g1⟩ := kN
          simp only [putG2] at f0 f1 hoF hbF
          clear hgF kb kC kM hway hDl hDR
          go_wp2
          exact bodyPost_ret (v := .agg #[.int .i64 cn, .slice (some ⟨gM, 0, none⟩) n cM]) (by simp [results, Tryz.results55, go_sem, f0, f1]) rfl ⟨_, by rw [hC.out], by rw [hR.out]; exact hoF.low (by omega), hbF⟩
  · rw [decide_eq_false hnk]
    rw [decide_eq_false hnk, Bool.and_false] at hT
    obtain ⟨hC, hR⟩ := hno hT.out
    rw [if_neg hnk]
    have hal := bal' w4 (Obj.cells #[.int .i64 0, .slice ua un uc] 40)
    have hbb := hb.trans (hal.mono hb.size)
    have hR5 := hR3.below hbb
    have kb5 := kb3.trans (hbb.mono kb3.size)
    obtain ⟨_, ⟨d0, d1⟩, ⟨y0, y1⟩⟩ := id hR5
    obtain ⟨⟨f0, f1⟩, hbF⟩ := hFail _ hR5 kb5
    clear hok hnew hFail hv3 hG3 hR3 hu hb hal hbb kb3 kb5 hR5 hSp3
    go_wp2
    exact bodyPost_ret (v := .agg #[.int .i64 0, .slice none 0 0]) (by simp [results, Tryz.results55, go_sem, f0, f1]) rfl ⟨_, by rw [hC.out], by rw [hR.out]; exact ownG_none _ _ _, hbF⟩
end Go.Proofs.YtdbpjfdlibodcaaGreatDoor
