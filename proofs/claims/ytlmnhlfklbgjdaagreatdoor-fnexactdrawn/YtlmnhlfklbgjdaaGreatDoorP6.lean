/- Contract of the specification's Drawn. The program's drawing at work: what changes; texts told. Contracts of the program's small functions on styles. -/
import Derived.Test.YtlmnhlfklbgjdaaGreatDoorP5
namespace Go.Proofs.YtlmnhlfklbgjdaaGreatDoor
open Go.ChangeShapes Go.WideShapes Go.ChangeAt Go.RowKit
theorem info_sty : (Tryz.prog.info? 28).map (·.size) = some 5 := by kernel_rfl
theorem ds_start (w w3 : World) (t : Te) (v : Tv) (h : TeB w3 w.heap.size 35 t v) (hb : Below w.heap.size w w3) :
    DS w ((w3.alloc (Obj.cells #[.int .u8 27, .int .u8 99, .int .u8 27, .int .u8 91, .int .u8 63, .int .u8 55, .int .u8 108] 5 (7, 8))).alloc (Obj.cells #[.int .i64 0, .int .i64 0, .bool false, .bool false, .bool false] 28)) (.slice (some ⟨w3.heap.size, 0, none⟩) 7 7) headL St.zero t v (w3.heap.size + 1) := by
  have b1 := bal' w3 (Obj.cells #[.int .u8 27, .int .u8 99, .int .u8 27, .int .u8 91, .int .u8 63, .int .u8 55, .int .u8 108] 5 (7, 8))
  have h1 := heap_alloc_new w3 (Obj.cells #[.int .u8 27, .int .u8 99, .int .u8 27, .int .u8 91, .int .u8 63, .int .u8 55, .int .u8 108] 5 (7, 8))
  have e1 : (w3.alloc (Obj.cells #[.int .u8 27, .int .u8 99, .int .u8 27, .int .u8 91, .int .u8 63, .int .u8 55, .int .u8 108] 5 (7, 8))).heap.size = w3.heap.size + 1 := by simp
  have hw := hb.size
  obtain ⟨w4, hw4⟩ : ∃ w4, w4 = w3.alloc (Obj.cells #[.int .u8 27, .int .u8 99, .int .u8 27, .int .u8 91, .int .u8 63, .int .u8 55, .int .u8 108] 5 (7, 8)) := ⟨_, rfl⟩
  rw [← hw4] at b1 h1 e1 ⊢
  have b2 := bal' w4 (Obj.cells #[.int .i64 0, .int .i64 0, .bool false, .bool false, .bool false] 28)
  have h2 := heap_alloc_new w4 (Obj.cells #[.int .i64 0, .int .i64 0, .bool false, .bool false, .bool false] 28)
  rw [e1] at h2
  have hr : RowT w.heap.size (.slice (some ⟨w3.heap.size, 0, none⟩) 7 7) headL w4 := by
    refine .inr ⟨_, _, _, rfl, hw, h1, fun j hj => ?_⟩
    have hj : j < 7 := hj
    rw [cell_of_row w4 _ _ _ _ (7, 8) h1]
    match j, hj with
    | 0, _ => rfl
    | 1, _ => rfl
    | 2, _ => rfl
    | 3, _ => rfl
    | 4, _ => rfl
    | 5, _ => rfl
    | 6, _ => rfl
  exact ⟨hr.below b2, h2, (h.below b1).below b2, hb.trans ((b1.trans (b2.mono b1.size)).mono hw), by omega⟩
set_option maxHeartbeats 16000000 in
set_option maxRecDepth 20000 in
theorem specDrawn_any (t : Te) (v : Tv) (w : World) (h : SlT w t v) (hz : SzT 1048576 t) :
    Calls Tryz.prog 9 #[.agg (teCs t v)] w fun e w' => e = .returned (.string (strOfNums (drawnL t))) ∧ Below w.heap.size w w' := by
  have hb0 := bal' w (Obj.cells (teCs t v) 35)
  have hB := TeB.new w 35 t v
  obtain ⟨w1, hw1⟩ : ∃ w1, w1 = w.alloc (Obj.cells (teCs t v) 35) := ⟨_, rfl⟩
  rw [← hw1] at hB hb0
  replace hw1 := (show Hid _ from hw1)
  obtain ⟨bT, eT⟩ : ∃ b, Hid (termOkB t = b) := ⟨_, rfl⟩
  have dT := fun W h => specTermOk_any t v W h hz
  rw [eT.out] at dT
  unfold teV at dT
  have kc := fun (w : World) (C : Array Value) (n c : Nat) => Lib.run_convert_bytes_const (P := Tryz.prog) w 22 5 C n c Tryz.underlying22 Tryz.underlying5
  clear hz
  go_enter Tryz.func9, Tryz.ntmps9
  refine wp_seq_k (fun K hK => ?_)
  have hH := (show Hid _ from hK)
  clear hK
  go_wp2
  refine hH.out _ _ ?_
  rw [← hw1.out]
  clear hH hw1
  go_wp2_with (refine load_te hB (by rfl) _ (by rfl) (by rfl) ?_)
  refine (dT _ (h.below hb0)).mono ?_
  rintro e w3 ⟨rfl, hb⟩
  replace hb0 := hb0.trans (hb.mono hb0.size)
  replace hB := hB.below hb
  clear hb dT
  cases bT
  case false =>
    have hv : Hid (drawnL t = []) := by show _ = _; unfold drawnL; rw [eT.out]; rfl
    go_wp2
    go_ret
    exact ⟨by rw [hv.out]; rfl, hb0⟩
  obtain ⟨⟨hn1, hn2⟩, hx, hok, hst, ht1, hbo, hrw, hco⟩ := right_te eT.out
  have hv : Hid (drawnL t = (rowsU t.g t.g.length).1 ++ endL t (rowsU t.g t.g.length).2) := by show _ = _; unfold drawnL; rw [eT.out]; rfl
  have hds := ds_start w w3 t v hB hb0
  have hzz := h.1
  obtain ⟨tg, to, tti, tpp, tpt⟩ := v
  simp only at hzz
  obtain ⟨a, c, vs, rfl, _, _, hr, hs⟩ := hzz
  rcases hr with hr | ⟨b, off, rfl, hbb, hrc⟩
  · rw [hr] at hn1; simp at hn1
  generalize hN : t.g.length = n at *
  replace hN := (show Hid _ from hN)
  generalize hBn : w3.heap.size + 1 = B at *
  have c1 := hB.cells.2.1
  go_wp2
  clear c1
  go_loopw [3, 5, 6, 7, 8] (fun u i _ _ _ wr => ∃ j : Nat, i = .int .i64 j ∧ j ≤ n ∧ DS w wr u (rowsU t.g j).1 (rowsU t.g j).2 t ⟨.slice (some ⟨b, off, none⟩) n c, to, tti, tpp, tpt⟩ B) (fun _ i _ _ _ _ => n - (intOf i).toNat)
  case atStart => exact ⟨0, rfl, Nat.zero_le _, hds⟩
  case round =>
    clear hds kc hB hb0
    obtain ⟨j, rfl, hj, k⟩ := hrel
    obtain ⟨d1, d4, d5, d6, d7, d8, d9, d10, d11, d12, d14, d16⟩ := k.tc
    simp only at d1
    by_cases hlt : j < n
    · have hji : (j : Int) < (n : Int) := by omega
      have hj0 : (0 : Int) ≤ (j : Int) := by omega
      have hlen := rowsU_len t.g (fun i hi => hx i (by have := hN.out; omega)) j (by have := hN.out; omega)
      have hstp : Hid (rowsU t.g (j + 1) = ((rowsU t.g j).1 ++ (rowU (rowX t.g j) j (rowsU t.g j).2).1, (rowU (rowX t.g j) j (rowsU t.g j).2).2)) := rfl
      generalize (rowsU t.g j).1 = L at *
      generalize (rowsU t.g j).2 = s at *
      have hxj := hx j hlt
      have hokj := hok j hlt
      have hcj := (k.bel.cell (p := ⟨b, off + j, none⟩) hbb).trans (hrc j hlt)
      have hsj := hs j hlt
      clear hrc hs hx hok
      replace hxj : (rowX t.g j).length ≤ 60 := hxj
      replace hokj : ∀ k, k < (rowX t.g j).length → (atC (rowX t.g j) k).st.ok = true := hokj
      obtain ⟨aj, cj, ev, hcp, hnj, hrj⟩ := id hsj
      rw [ev] at hcj
      clear ev hsj
      generalize rowX t.g j = X at *
      go_wp2
      go_loopw [7] (fun i wr' => ∃ m : Nat, i = .int .i64 m ∧ m ≤ X.length ∧ Hid (cutT X X.length = cutT X m) ∧ DS w wr' u3 L s t ⟨.slice (some ⟨b, off, none⟩) n c, to, tti, tpp, tpt⟩ B) (fun i _ => (intOf i).toNat)
      case atStart => exact ⟨X.length, rfl, Nat.le_refl _, rfl, k⟩
      case round =>
        clear k d1 d4 d5 d6 d7 d8 d9 d10 d11 d12 d14 d16 hcj
        obtain ⟨m, rfl, hm, hcut, k⟩ := hrel
        by_cases hm0 : m = 0
        case pos =>
          subst hm0
          have hrow : Hid (rowU X j s = ([], s)) := by show _ = _; unfold rowU; rw [hcut.out]; rfl
          go_wp2
          refine wp_loop_rounds 1 ?_
          rw [rounds_succ]
          go_wp2
          go_roundw
          case rel => exact ⟨j + 1, by go_num, by omega, by rw [hstp.out, hrow.out]; simpa using k⟩
          case measure => simp [intOf]; omega
        obtain ⟨q, rfl⟩ : ∃ q, m = q + 1 := ⟨m - 1, by omega⟩
        have hm1 : (0 : Int) < ((q + 1 : Nat) : Int) := by omega
        rcases hrj with hrj | ⟨bj, offj, rfl, hbj, hcl⟩
        · exfalso; rw [hrj] at hm; simp at hm
        have hq0 : (0 : Int) ≤ (((q + 1 : Nat) : Int) - 1) := by omega
        have hq1 : ((q + 1 : Nat) : Int) - 1 < (X.length : Int) := by omega
        have hqe : (((q + 1 : Nat) : Int) - 1).toNat = q := by omega
        obtain ⟨c0, c1, c2, c3, c4, c5, c6⟩ := (hcl q (by omega)).below k.bel hbj
        have hz8 := fun W => l8Zero_any (atC X q) W
        unfold ceV at hz8
        by_cases hbk : atC X q = blankC St.zero
        case pos =>
          have hde : decide (atC X q = blankC St.zero) = true := decide_eq_true hbk
          simp only [hde] at hz8
          have hcut2 : Hid (cutT X X.length = cutT X q) := by show _ = _; rw [hcut.out]; exact cutT_step hbk
          clear hde hbk hcut
          generalize atC X q = x at *
          go_wp2_with fail
          refine (hz8 _).mono ?_
          rintro e w5 ⟨rfl, hb⟩
          have k5 := k.below hb
          clear k hb hz8 c0 c1 c2 c3 c4 c5 c6 hcl
          go_wp2
          go_roundw
          case rel => exact ⟨q, by go_num, by omega, hcut2, k5⟩
          case measure => simp [intOf]
        have hde : decide (atC X q = blankC St.zero) = false := decide_eq_false hbk
        simp only [hde] at hz8
        have hcut2 : Hid (cutT X X.length = q + 1) := by show _ = _; rw [hcut.out]; exact cutT_stop hbk
        have hrow : Hid (rowU X j s = (goL j 0 ++ (cellsU X s (q + 1)).1, (cellsU X s (q + 1)).2)) := by show _ = _; unfold rowU; rw [hcut2.out, if_pos (by omega)]
        clear hde hbk hcut
        generalize atC X q = x at *
        go_wp2_with fail
        refine (hz8 _).mono ?_
        rintro e w5 ⟨rfl, hb⟩
        have k5 := k.below hb
        clear k hb hz8 c0 c1 c2 c3 c4 c5 c6
        have hgo := fun W => l8Go_any j 0 W ⟨by omega, by omega⟩ (by decide)
        go_wp2_with (first
          | (go_at_call 33; refine (hgo _).mono ?_; rintro e w6 ⟨g, rfl, hgn, hb6⟩; have k6 := k5.below hb6; have hgl := goL_len j 0)
          | (at_builtin; refine append_str (by rfl) _ _ (by rfl) w.heap.size _ _ (by rfl) k6.row g (by rfl) _ hgn (by omega) k6.size ?_; intro v7 w7 hr7 hg7; have k7 := k6.app hr7 hg7; clear hr7 hg7 k5 k6 hb6 hgo hgn))
        go_loopw [3, 8] (fun u i wr' => ∃ m : Nat, i = .int .i64 m ∧ m ≤ q + 1 ∧ DS w wr' u (L ++ goL j 0 ++ (cellsU X s m).1) (cellsU X s m).2 t ⟨.slice (some ⟨b, off, none⟩) n c, to, tti, tpp, tpt⟩ B) (fun _ i _ => q + 1 - (intOf i).toNat)
        case atStart => exact ⟨0, rfl, Nat.zero_le _, by rw [cellsU, List.append_nil]; exact k7⟩
        case round =>
          clear k7
          obtain ⟨m, rfl, hm2, k⟩ := hrel
          by_cases hml : m < q + 1
          · have hmi : (m : Int) < ((q + 1 : Nat) : Int) := by omega
            have hmi0 : (0 : Int) ≤ (m : Int) := by omega
            have hmx : (m : Int) < (X.length : Int) := by omega
            have hcm := hcl m (by omega)
            have hcl2 := cellsU_len X s m
            have hsm := hokj m (by omega)
            have hci : ∀ W, Below wr.heap.size wr W → CeAt W bj (offj + m * 7) (atC X m) := fun W hW => (hcm.below k.bel hbj).below hW (Nat.lt_of_lt_of_le hbj k.size)
            unfold CeAt at hci
            have hcs : Hid (cellsU X s (m + 1) = if (atC X m).part = 2 then cellsU X s m else ((cellsU X s m).1 ++ (sgn (cellsU X s m).2 (atC X m).st ++ nums (putS (atC X m).rune)), (atC X m).st)) := rfl
            clear hcm
            generalize atC X m = x at *
            by_cases hp2 : x.part = 2
            · have hcs2 : Hid (cellsU X s (m + 1) = cellsU X s m) := by show _ = _; rw [hcs.out, if_pos hp2]
              have hpi : (x.part != 2) = false := by simp [hp2]
              have hc6 := (hci _ (Below.refl _ _)).2.2.2.2.2.2
              clear hcs hci hp2
              go_wp2
              go_roundw
              case rel => exact ⟨m + 1, by go_num, by omega, by rw [hcs2.out]; exact k⟩
              case measure => simp [intOf]; omega
            have hcs2 : Hid (cellsU X s (m + 1) = ((cellsU X s m).1 ++ (sgn (cellsU X s m).2 x.st ++ nums (putS x.rune)), x.st)) := by show _ = _; rw [hcs.out, if_neg hp2]
            have hpi : (x.part != 2) = true := by simp [hp2]
            generalize hU1 : (cellsU X s m).1 = U at *
            generalize hU2 : (cellsU X s m).2 = y at *
            clear hcs hp2 hU1 hU2
            have hsg := fun W => l3Sign_any y x.st W hsm
            have hpu := fun W => specPut_any x.rune W
            have hsl := sgn_len y x.st
            have hpl : (nums (putS x.rune)).length ≤ 4 := by rw [nums_len]; exact putS_size4 _
            have hpz : (putS x.rune).size ≤ 4 := putS_size4 _
            generalize hP : putS x.rune = P at *
            have hd := bdr wr
            have hcd := hci _ (Below.refl _ _)
            have hsci : ∀ W, Below wr.heap.size wr W → (W.cell? ⟨B, 0, none⟩ = some (.int .i64 y.fore) ∧ W.cell? ⟨B, 1, none⟩ = some (.int .i64 y.back) ∧ W.cell? ⟨B, 2, none⟩ = some (.bool y.bold) ∧ W.cell? ⟨B, 3, none⟩ = some (.bool y.under) ∧ W.cell? ⟨B, 4, none⟩ = some (.bool y.turned)) := fun W hW => (k.below hW).sc
            unfold stV at hsg
            have hla : (L ++ goL j 0 ++ U).length ≤ 100000 := by have := goL_len j 0; simp only [List.length_append]; omega
            obtain ⟨_, _, _, _, _, _, hc6⟩ := hcd
            clear hP
            go_wp2
            clear hc6
            refine wp_region_noPanic ?_
            have hdd := hsci _ hd
            have hcc := hci _ hd
            obtain ⟨s0, s1, s2, s3, s4⟩ := hdd
            obtain ⟨c0, c1, c2, c3, c4, c5, c6⟩ := hcc
            refine wp_region_held_drew (S := (fun W => W.cell? ⟨B, 0, none⟩ = some (.int .i64 y.fore) ∧ W.cell? ⟨B, 1, none⟩ = some (.int .i64 y.back) ∧ W.cell? ⟨B, 2, none⟩ = some (.bool y.bold) ∧ W.cell? ⟨B, 3, none⟩ = some (.bool y.under) ∧ W.cell? ⟨B, 4, none⟩ = some (.bool y.turned) ∧ W.cell? ⟨bj, offj + m * 7, none⟩ = some (.int .i64 x.rune) ∧ W.cell? ⟨bj, offj + m * 7 + 1, none⟩ = some (.int .i64 x.st.fore) ∧ W.cell? ⟨bj, offj + m * 7 + 2, none⟩ = some (.int .i64 x.st.back) ∧ W.cell? ⟨bj, offj + m * 7 + 3, none⟩ = some (.bool x.st.bold) ∧ W.cell? ⟨bj, offj + m * 7 + 4, none⟩ = some (.bool x.st.under) ∧ W.cell? ⟨bj, offj + m * 7 + 5, none⟩ = some (.bool x.st.turned) ∧ W.cell? ⟨bj, offj + m * 7 + 6, none⟩ = some (.int .i64 x.part))) (by kernel_rfl) ⟨s0, s1, s2, s3, s4, c0, c1, c2, c3, c4, c5, c6⟩ (fun hHeld => ?_)
            clear s0 s1 s2 s3 s4 c0 c1 c2 c3 c4 c5 c6
            refine' wpAnyH_take (i := 0) (v := _) rfl (by kernel_rfl) (by kernel_rfl) (by kernel_rfl) (fun _ _ _ h => h) (Or.inl ⟨by rfl, ?hy1⟩) hHeld ?hr1
            case hy1 => (intro w hSw; (try dsimp only at hSw); go_simp; (try with_reducible rfl))
            (try simp only [Act.put, List.setIfInBounds_toArray, List.set_cons_zero, List.set_cons_succ, List.getElem_toArray, List.getElem_cons_zero])
            refine' wpAnyH_take (i := 1) (v := _) rfl (by kernel_rfl) (by kernel_rfl) (by kernel_rfl) (fun _ _ _ h => h) (Or.inl ⟨by rfl, ?hy2⟩) hHeld ?hr2
            case hy2 => (intro w hSw; (try dsimp only at hSw); go_simp; (try with_reducible rfl))
            (try simp only [Act.put, List.setIfInBounds_toArray, List.set_cons_zero, List.set_cons_succ, List.getElem_toArray, List.getElem_cons_zero, List.getElem_cons_succ])
            refine' wpAnyH_take (i := 2) (v := _) rfl (by kernel_rfl) (by kernel_rfl) (by kernel_rfl) (fun _ _ _ h => h) (Or.inl ⟨by rfl, ?hy3⟩) hHeld ?hr3
            case hy3 => (intro w hSw; (try dsimp only at hSw); go_simp; (try with_reducible rfl))
            (try simp only [Act.put, List.setIfInBounds_toArray, List.set_cons_zero, List.set_cons_succ, List.getElem_toArray, List.getElem_cons_zero, List.getElem_cons_succ])
            refine' wpAnyH_take (i := 3) (v := _) rfl (by kernel_rfl) (by kernel_rfl) (by kernel_rfl) (fun _ _ _ h => h) (Or.inl ⟨by rfl, ?hy4⟩) hHeld ?hr4
            case hy4 => (intro w hSw; (try dsimp only at hSw); go_simp; (try with_reducible rfl))
            (try simp only [Act.put, List.setIfInBounds_toArray, List.set_cons_zero, List.set_cons_succ, List.getElem_toArray, List.getElem_cons_zero, List.getElem_cons_succ])
            refine' wpAnyH_take (i := 4) (v := _) rfl (by kernel_rfl) (by kernel_rfl) (by kernel_rfl) (fun _ _ _ h => h) (Or.inl ⟨by rfl, ?hy5⟩) hHeld ?hr5
            case hy5 => (intro w hSw; (try dsimp only at hSw); go_simp; (try with_reducible rfl))
            (try simp only [Act.put, List.setIfInBounds_toArray, List.set_cons_zero, List.set_cons_succ, List.getElem_toArray, List.getElem_cons_zero, List.getElem_cons_succ])
            refine' wpAnyH_take (i := 5) (v := _) rfl (by kernel_rfl) (by kernel_rfl) (by kernel_rfl) (fun _ _ _ h => h) (Or.inl ⟨by rfl, ?hy6⟩) hHeld ?hr6
            case hy6 => (intro w hSw; (try dsimp only at hSw); go_simp; (try with_reducible rfl))
            (try simp only [Act.put, List.setIfInBounds_toArray, List.set_cons_zero, List.set_cons_succ, List.getElem_toArray, List.getElem_cons_zero, List.getElem_cons_succ])
            refine' wpAnyH_take (i := 6) (v := _) rfl (by kernel_rfl) (by kernel_rfl) (by kernel_rfl) (fun _ _ _ h => h) (Or.inl ⟨by rfl, ?hy7⟩) hHeld ?hr7
            case hy7 => (intro w hSw; (try dsimp only at hSw); go_simp; (try with_reducible rfl))
            (try simp only [Act.put, List.setIfInBounds_toArray, List.set_cons_zero, List.set_cons_succ, List.getElem_toArray, List.getElem_cons_zero, List.getElem_cons_succ])
            refine' wpAnyH_take (i := 8) (v := _) rfl (by kernel_rfl) (by kernel_rfl) (by kernel_rfl) (fun _ _ _ h => h) (Or.inl ⟨by rfl, ?hy8⟩) hHeld ?hr8
            case hy8 => (intro w hSw; (try dsimp only at hSw); go_simp; (try with_reducible rfl))
            (try simp only [Act.put, List.setIfInBounds_toArray, List.set_cons_zero, List.set_cons_succ, List.getElem_toArray, List.getElem_cons_zero, List.getElem_cons_succ])
            refine' wpAnyH_take (i := 9) (v := _) rfl (by kernel_rfl) (by kernel_rfl) (by kernel_rfl) (fun _ _ _ h => h) (Or.inl ⟨by rfl, ?hy9⟩) hHeld ?hr9
            case hy9 => (intro w hSw; (try dsimp only at hSw); go_simp; (try with_reducible rfl))
            (try simp only [Act.put, List.setIfInBounds_toArray, List.set_cons_zero, List.set_cons_succ, List.getElem_toArray, List.getElem_cons_zero, List.getElem_cons_succ])
            refine' wpAnyH_take (i := 10) (v := _) rfl (by kernel_rfl) (by kernel_rfl) (by kernel_rfl) (fun _ _ _ h => h) (Or.inl ⟨by rfl, ?hy10⟩) hHeld ?hr10
            case hy10 => (intro w hSw; (try dsimp only at hSw); go_simp; (try with_reducible rfl))
            (try simp only [Act.put, List.setIfInBounds_toArray, List.set_cons_zero, List.set_cons_succ, List.getElem_toArray, List.getElem_cons_zero, List.getElem_cons_succ])
            refine' wpAnyH_take (i := 11) (v := _) rfl (by kernel_rfl) (by kernel_rfl) (by kernel_rfl) (fun _ _ _ h => h) (Or.inl ⟨by rfl, ?hy11⟩) hHeld ?hr11
            case hy11 => (intro w hSw; (try dsimp only at hSw); go_simp; (try with_reducible rfl))
            (try simp only [Act.put, List.setIfInBounds_toArray, List.set_cons_zero, List.set_cons_succ, List.getElem_toArray, List.getElem_cons_zero, List.getElem_cons_succ])
            refine' wpAnyH_take (i := 12) (v := _) rfl (by kernel_rfl) (by kernel_rfl) (by kernel_rfl) (fun _ _ _ h => h) (Or.inl ⟨by rfl, ?hy12⟩) hHeld ?hr12
            case hy12 => (intro w hSw; (try dsimp only at hSw); go_simp; (try with_reducible rfl))
            (try simp only [Act.put, List.setIfInBounds_toArray, List.set_cons_zero, List.set_cons_succ, List.getElem_toArray, List.getElem_cons_zero, List.getElem_cons_succ])
            refine wpAnyH_ready (rs := [7]) (by kernel_rfl) (by simp) (AllReadyH.cons rfl (fun K hK => ?_) AllReadyH.nil)
            go_simp
            refine (hsg _).mono ?_
            rintro e w8 ⟨g, rfl, hgn, hb8⟩
            have hb8d := hd.trans (hb8.mono hd.size)
            have hgz : g.size ≤ 18 := by rw [← nums_len, hgn]; exact hsl
            replace hgn := (show Hid _ from hgn)
            go_wp2_with fail
            have hdd := hsci _ hb8d
            have hcc := hci _ hb8d
            refine hK.out _ _ ⟨hdd.1, hdd.2.1, hdd.2.2.1, hdd.2.2.2.1, hdd.2.2.2.2, hcc⟩ (fun hHeld => ?_)
            clear hK K hdd hcc
            (try simp only [Act.put, List.setIfInBounds_toArray, List.set_cons_zero, List.set_cons_succ, List.getElem_toArray, List.getElem_cons_zero, List.getElem_cons_succ])
            refine wpAnyH_ready (rs := [13]) (by kernel_rfl) (by simp) (AllReadyH.cons rfl (fun K hK => ?_) AllReadyH.nil)
            go_simp
            refine (hpu _).mono ?_
            rintro e w9 ⟨rfl, hb9⟩
            have hb9d := hb8d.trans (hb9.mono hb8d.size)
            go_wp2_with fail
            have hdd := hsci _ hb9d
            have hcc := hci _ hb9d
            refine hK.out _ _ ⟨hdd.1, hdd.2.1, hdd.2.2.1, hdd.2.2.2.1, hdd.2.2.2.2, hcc⟩ (fun hHeld => ?_)
            clear hK K hdd hcc
            (try simp only [Act.put, List.setIfInBounds_toArray, List.set_cons_zero, List.set_cons_succ, List.getElem_toArray, List.getElem_cons_zero, List.getElem_cons_succ])
            have hgp : ¬ 9223372036854775807 < g.size + P.size := by omega
            refine' wpAnyH_take (i := 14) (v := _) rfl (by kernel_rfl) (by kernel_rfl) (by kernel_rfl) (fun _ _ _ h => h) (Or.inl ⟨by rfl, ?hy13⟩) hHeld ?hr13
            case hy13 => (intro w hSw; (try dsimp only at hSw); go_simp; (try with_reducible rfl))
            (try simp only [Act.put, List.setIfInBounds_toArray, List.set_cons_zero, List.set_cons_succ, List.getElem_toArray, List.getElem_cons_zero, List.getElem_cons_succ])
            have k9 := k.below hb9d
            have hM : nums (g ++ P) = sgn y x.st ++ nums P := by rw [nums_app5, hgn.out]; rfl
            refine wpAnyH_ready (rs := [15]) (by kernel_rfl) (by simp) (AllReadyH.cons rfl (fun K hK => ?_) AllReadyH.nil)
            refine step_append_str (by rfl) _ _ (by rfl) w.heap.size _ _ (by rfl) k9.row (g ++ P) (by rfl) _ hM (by simp only [List.length_append] at hla ⊢; omega) k9.size ?_
            intro v10 w10 hr10 hg10
            have k10 := k9.app hr10 hg10
            have hc10 : CeAt w10 bj (offj + m * 7) x := (show CeAt w9 bj (offj + m * 7) x from hci _ hb9d).grown hg10 (Nat.lt_of_lt_of_le hbj k9.size) (fun e => by have := (k9.row.ty e).1; omega)
            have hdd := k10.sc
            refine hK.out _ _ ⟨hdd.1, hdd.2.1, hdd.2.2.1, hdd.2.2.2.1, hdd.2.2.2.2, hc10⟩ (fun hHeld => ?_)
            clear hK K hdd
            (try simp only [Act.put, List.setIfInBounds_toArray, List.set_cons_zero, List.set_cons_succ, List.getElem_toArray, List.getElem_cons_zero, List.getElem_cons_succ])
            refine' wpAnyH_take (i := 16) (v := _) rfl (by kernel_rfl) (by kernel_rfl) (by kernel_rfl) (fun _ _ _ h => h) (Or.inl ⟨by rfl, ?hy14⟩) hHeld ?hr14
            case hy14 => (intro w hSw; (try dsimp only at hSw); go_simp; (try with_reducible rfl))
            (try simp only [Act.put, List.setIfInBounds_toArray, List.set_cons_zero, List.set_cons_succ, List.getElem_toArray, List.getElem_cons_zero, List.getElem_cons_succ])
            refine wpAnyH_done (by kernel_rfl) ?_ _
            refine NoPanic.normal ?_
            obtain ⟨c0, c1, c2, c3, c4, c5, c6⟩ := hc10
            have hstb := k10.st
            clear hr10 hg10 k9 hb9d hb9 hb8d hb8 hM hgn hgz hHeld hci hsci hpu hsg hd k
            go_wp2_with (refine store_T (cs := #[.int .i64 x.st.fore, .int .i64 x.st.back, .bool x.st.bold, .bool x.st.under, .bool x.st.turned]) (by rfl) 28 _ _ (by rfl) info_sty (by rfl) (by rfl) hstb (by rfl) (by rfl) ?_; intro w11 hg11 hA11 hz11; have k11 := k10.sty hg11 hA11; clear hg11 hA11 hz11 hstb k10 c0 c1 c2 c3 c4 c5 c6)
            go_roundw
            case rel => exact ⟨m + 1, by go_num, by omega, by rw [hcs2.out]; simpa [List.append_assoc] using k11⟩
            case measure => simp [intOf]; omega
          · have hmi : ¬ (m : Int) < ((q + 1 : Nat) : Int) := by omega
            have hme : m = q + 1 := by omega
            subst hme
            clear hcl
            go_wp2
            go_roundw
            case rel => exact ⟨j + 1, by go_num, by omega, by rw [hstp.out, hrow.out]; simpa [List.append_assoc] using k⟩
            case measure => simp [intOf]; omega
    · have hji : ¬ (j : Int) < (n : Int) := by omega
      have hjn : j = n := by omega
      subst hjn
      have hlen := rowsU_len t.g (fun i hi => hx i (by have := hN.out; omega)) j (by have := hN.out; omega)
      have hso := rowsU_ok t.g (fun i hi => hok i (by have := hN.out; omega)) j (by have := hN.out; omega)
      generalize (rowsU t.g j).1 = L at *
      generalize (rowsU t.g j).2 = s at *
      clear hx hok hs hrc
      have hsg := fun W => l3Sign_any s t.st W hst
      have hsl := sgn_len s t.st
      have hgo := fun W => l8Go_any t.row t.col W ⟨hrw.1, by omega⟩ ⟨hco.1, by omega⟩
      have hgl := goL_len t.row t.col
      have hi1 := fun W => l3Int_any (t.top + 1) W ⟨by omega, by omega⟩
      have hi2 := fun W => l3Int_any (t.bot + 1) W ⟨by omega, by omega⟩
      have hw1 : IntKind.i64.wrap (t.top + 1) = t.top + 1 := by simp [IntKind.wrap_i64]; omega
      have hw2 : IntKind.i64.wrap (t.bot + 1) = t.bot + 1 := by simp [IntKind.wrap_i64]; omega
      have hw3 : IntKind.i64.wrap ((j : Int) - 1) = (j : Int) - 1 := by simp [IntKind.wrap_i64]; omega
      have hdl1 := digL_len (t.top + 1)
      have hdl2 := digL_len (t.bot + 1)
      have he1 : (⟨#[27, 91]⟩ : ByteArray).size = 2 := rfl
      have he2 : (⟨#[59]⟩ : ByteArray).size = 1 := rfl
      have he3 : (⟨#[114]⟩ : ByteArray).size = 1 := rfl
      have hn114 : nums (⟨#[114]⟩ : ByteArray) = [114] := rfl
      have hn59 : nums (⟨#[59]⟩ : ByteArray) = [59] := rfl
      have hn27 : nums (⟨#[27, 91]⟩ : ByteArray) = [27, 91] := rfl
      replace hn114 := (show Hid _ from hn114)
      replace hn59 := (show Hid _ from hn59)
      replace hn27 := (show Hid _ from hn27)
      unfold stV at hsg
      obtain ⟨s0, s1, s2, s3, s4⟩ := k.sc
      clear s0 s1 s2 s3 s4
      obtain ⟨d1, d4, d5, d6, d7, d8, d9, d10, d11, d12, d14, d16⟩ := k.tc
      simp only at d1
      cases hwr : t.wrap
      case true =>
        cases hhd : t.hid
        case true =>
          by_cases q1 : 0 < t.top
          case pos =>
            have qb : (0 : Int) < t.top := q1
            have hE : Hid (endL t s = sgn s t.st ++ [27, 91, 63, 55, 104] ++ ([27, 91] ++ digL (t.top + 1) ++ [59] ++ digL (t.bot + 1) ++ [114]) ++ goL t.row t.col ++ [27, 91, 63, 50, 53, 108]) := by
              show _ = _
              unfold endL
              rw [hN.out, if_pos hwr, if_pos (by omega), if_pos hhd]
            rw [hwr] at d14
            rw [hhd] at d16
            obtain ⟨s0, s1, s2, s3, s4⟩ := k.sc
            replace hwr := (show Hid _ from hwr)
            replace hhd := (show Hid _ from hhd)
            go_wp2_with (first
              | (go_at_call 34; refine (hsg _).mono ?_; rintro e w6 ⟨g, rfl, hgn, hb6⟩; have k6 := k.below hb6; replace hgn : Hid (nums g = sgn s t.st) := hgn; go_simp)
              | (at_builtin; refine append_str (by rfl) _ _ (by rfl) w.heap.size _ _ (by rfl) k6.row g (by rfl) _ hgn.out (by (try simp only [List.length_append, List.length_cons, List.length_nil]); omega) k6.size ?_; intro v7 w7 hr7 hg7; have k7 := k6.app hr7 hg7; clear hr7 hg7 s0 s1 s2 s3 s4 k6 hb6 hgn hsg; clear d1 d4 d5 d6 d7 d8 d9 d10 d11 d12 d14 d16; obtain ⟨d1, d4, d5, d6, d7, d8, d9, d10, d11, d12, d14, d16⟩ := k7.tc; simp only at d1; rw [hwr.out] at d14; rw [hhd.out] at d16)
              | (at_builtin; refine append_str (by rfl) _ _ (by rfl) w.heap.size _ _ (by rfl) k7.row ⟨#[27, 91, 63, 55, 104]⟩ (by rfl) _ (show nums _ = [27, 91, 63, 55, 104] from rfl) (by (try simp only [List.length_append, List.length_cons, List.length_nil]); omega) k7.size ?_; intro v8 w8 hr8 hg8; have k8 := k7.app hr8 hg8; clear hr8 hg8 k7; clear d1 d4 d5 d6 d7 d8 d9 d10 d11 d12 d14 d16; obtain ⟨d1, d4, d5, d6, d7, d8, d9, d10, d11, d12, d14, d16⟩ := k8.tc; simp only at d1; rw [hwr.out] at d14; rw [hhd.out] at d16))
            have hd := bdr w8
            have hci : ∀ W, Below w8.heap.size w8 W → (W.cell? ⟨w.heap.size, 11, none⟩ = some (.int .i64 t.top) ∧ W.cell? ⟨w.heap.size, 12, none⟩ = some (.int .i64 t.bot)) := fun W hW => by have := (k8.below hW).tc; exact ⟨this.2.2.2.2.2.2.2.2.1, this.2.2.2.2.2.2.2.2.2.1⟩
            refine wp_region_noPanic ?_
            refine wp_region_held_drew (S := (fun W => W.cell? ⟨w.heap.size, 11, none⟩ = some (.int .i64 t.top) ∧ W.cell? ⟨w.heap.size, 12, none⟩ = some (.int .i64 t.bot))) (by kernel_rfl) (hci _ hd) (fun hHeld => ?_)
            refine' wpAnyH_take (i := 0) (v := _) rfl (by kernel_rfl) (by kernel_rfl) (by kernel_rfl) (fun _ _ _ h => h) (Or.inl ⟨by rfl, ?hy15⟩) hHeld ?hr15
            case hy15 => (intro w hSw; (try dsimp only at hSw); go_simp; (try with_reducible rfl))
            (try simp only [Act.put, List.setIfInBounds_toArray, List.set_cons_zero, List.set_cons_succ, List.getElem_toArray, List.getElem_cons_zero])
            refine' wpAnyH_take (i := 1) (v := _) rfl (by kernel_rfl) (by kernel_rfl) (by kernel_rfl) (fun _ _ _ h => h) (Or.inl ⟨by rfl, ?hy16⟩) hHeld ?hr16
            case hy16 => (intro w hSw; (try dsimp only at hSw); go_simp; (try with_reducible rfl))
            (try simp only [Act.put, List.setIfInBounds_toArray, List.set_cons_zero, List.set_cons_succ, List.getElem_toArray, List.getElem_cons_zero, List.getElem_cons_succ])
            refine' wpAnyH_take (i := 2) (v := _) rfl (by kernel_rfl) (by kernel_rfl) (by kernel_rfl) (fun _ _ _ h => h) (Or.inl ⟨by rfl, ?hy17⟩) hHeld ?hr17
            case hy17 => (intro w hSw; (try dsimp only at hSw); go_simp; (try with_reducible rfl))
            (try simp only [Act.put, List.setIfInBounds_toArray, List.set_cons_zero, List.set_cons_succ, List.getElem_toArray, List.getElem_cons_zero, List.getElem_cons_succ])
            refine' wpAnyH_take (i := 3) (v := _) rfl (by kernel_rfl) (by kernel_rfl) (by kernel_rfl) (fun _ _ _ h => h) (Or.inl ⟨by rfl, ?hy18⟩) hHeld ?hr18
            case hy18 => (intro w hSw; (try dsimp only at hSw); go_simp; (try with_reducible rfl))
            (try simp only [Act.put, List.setIfInBounds_toArray, List.set_cons_zero, List.set_cons_succ, List.getElem_toArray, List.getElem_cons_zero, List.getElem_cons_succ])
            refine' wpAnyH_take (i := 7) (v := _) rfl (by kernel_rfl) (by kernel_rfl) (by kernel_rfl) (fun _ _ _ h => h) (Or.inl ⟨by rfl, ?hy19⟩) hHeld ?hr19
            case hy19 => (intro w hSw; (try dsimp only at hSw); go_simp; (try with_reducible rfl))
            (try simp only [Act.put, List.setIfInBounds_toArray, List.set_cons_zero, List.set_cons_succ, List.getElem_toArray, List.getElem_cons_zero, List.getElem_cons_succ])
            refine' wpAnyH_take (i := 8) (v := _) rfl (by kernel_rfl) (by kernel_rfl) (by kernel_rfl) (fun _ _ _ h => h) (Or.inl ⟨by rfl, ?hy20⟩) hHeld ?hr20
            case hy20 => (intro w hSw; (try dsimp only at hSw); go_simp; (try with_reducible rfl))
            (try simp only [Act.put, List.setIfInBounds_toArray, List.set_cons_zero, List.set_cons_succ, List.getElem_toArray, List.getElem_cons_zero, List.getElem_cons_succ])
            refine' wpAnyH_take (i := 9) (v := _) rfl (by kernel_rfl) (by kernel_rfl) (by kernel_rfl) (fun _ _ _ h => h) (Or.inl ⟨by rfl, ?hy21⟩) hHeld ?hr21
            case hy21 => (intro w hSw; (try dsimp only at hSw); go_simp; (try with_reducible rfl))
            (try simp only [Act.put, List.setIfInBounds_toArray, List.set_cons_zero, List.set_cons_succ, List.getElem_toArray, List.getElem_cons_zero, List.getElem_cons_succ])
            refine wpAnyH_ready (rs := [4]) (by kernel_rfl) (by simp) (AllReadyH.cons rfl (fun K hK => ?_) AllReadyH.nil)
            go_simp
            refine (hi1 _).mono ?_
            rintro e w9 ⟨g1, rfl, hg1n, hb9⟩
            have hz1 : g1.size ≤ 2 := by rw [← nums_len, hg1n]; omega
            replace hg1n := (show Hid _ from hg1n)
            have hd9 := hd.trans (hb9.mono hd.size)
            have hy1 : ((⟨#[27, 91]⟩ : ByteArray) ++ g1).size ≤ 4 := by rw [ByteArray.size_append]; omega
            have hy2 : ((⟨#[27, 91]⟩ : ByteArray) ++ g1 ++ ⟨#[59]⟩).size ≤ 5 := by rw [ByteArray.size_append]; omega
            have hx1 : ¬ 9223372036854775807 < 2 + g1.size := by omega
            have hx2 : ¬ 9223372036854775807 < 2 + g1.size + 1 := by omega
            go_wp2_with fail
            refine hK.out _ _ (hci _ hd9) (fun hHeld => ?_)
            clear hK K
            (try simp only [Act.put, List.setIfInBounds_toArray, List.set_cons_zero, List.set_cons_succ, List.getElem_toArray, List.getElem_cons_zero, List.getElem_cons_succ])
            refine' wpAnyH_take (i := 5) (v := _) rfl (by kernel_rfl) (by kernel_rfl) (by kernel_rfl) (fun _ _ _ h => h) (Or.inl ⟨by rfl, ?hy22⟩) hHeld ?hr22
            case hy22 => (intro w hSw; (try dsimp only at hSw); go_simp; (try with_reducible rfl))
            (try simp only [Act.put, List.setIfInBounds_toArray, List.set_cons_zero, List.set_cons_succ, List.getElem_toArray, List.getElem_cons_zero, List.getElem_cons_succ])
            refine' wpAnyH_take (i := 6) (v := _) rfl (by kernel_rfl) (by kernel_rfl) (by kernel_rfl) (fun _ _ _ h => h) (Or.inl ⟨by rfl, ?hy23⟩) hHeld ?hr23
            case hy23 => (intro w hSw; (try dsimp only at hSw); go_simp; (try with_reducible rfl))
            (try simp only [Act.put, List.setIfInBounds_toArray, List.set_cons_zero, List.set_cons_succ, List.getElem_toArray, List.getElem_cons_zero, List.getElem_cons_succ])
            refine wpAnyH_ready (rs := [10]) (by kernel_rfl) (by simp) (AllReadyH.cons rfl (fun K hK => ?_) AllReadyH.nil)
            go_simp
            refine (hi2 _).mono ?_
            rintro e w10 ⟨g2, rfl, hg2n, hb10⟩
            have hz2 : g2.size ≤ 2 := by rw [← nums_len, hg2n]; omega
            replace hg2n := (show Hid _ from hg2n)
            have hd10 := hd9.trans (hb10.mono hd9.size)
            have hy3 : ((⟨#[27, 91]⟩ : ByteArray) ++ g1 ++ ⟨#[59]⟩ ++ g2).size ≤ 7 := by rw [ByteArray.size_append]; omega
            have hx3 : ¬ 9223372036854775807 < 2 + g1.size + 1 + g2.size := by omega
            have hx4 : ¬ 9223372036854775807 < 2 + g1.size + 1 + g2.size + 1 := by omega
            go_wp2_with fail
            refine hK.out _ _ (hci _ hd10) (fun hHeld => ?_)
            clear hK K
            (try simp only [Act.put, List.setIfInBounds_toArray, List.set_cons_zero, List.set_cons_succ, List.getElem_toArray, List.getElem_cons_zero, List.getElem_cons_succ])
            refine' wpAnyH_take (i := 11) (v := _) rfl (by kernel_rfl) (by kernel_rfl) (by kernel_rfl) (fun _ _ _ h => h) (Or.inl ⟨by rfl, ?hy24⟩) hHeld ?hr24
            case hy24 => (intro w hSw; (try dsimp only at hSw); go_simp; (try with_reducible rfl))
            (try simp only [Act.put, List.setIfInBounds_toArray, List.set_cons_zero, List.set_cons_succ, List.getElem_toArray, List.getElem_cons_zero, List.getElem_cons_succ])
            refine' wpAnyH_take (i := 12) (v := _) rfl (by kernel_rfl) (by kernel_rfl) (by kernel_rfl) (fun _ _ _ h => h) (Or.inl ⟨by rfl, ?hy25⟩) hHeld ?hr25
            case hy25 => (intro w hSw; (try dsimp only at hSw); go_simp; (try with_reducible rfl))
            (try simp only [Act.put, List.setIfInBounds_toArray, List.set_cons_zero, List.set_cons_succ, List.getElem_toArray, List.getElem_cons_zero, List.getElem_cons_succ])
            have k10 := k8.below hd10
            have hM : nums ((⟨#[27, 91]⟩ : ByteArray) ++ g1 ++ ⟨#[59]⟩ ++ g2 ++ ⟨#[114]⟩) = [27, 91] ++ digL (t.top + 1) ++ [59] ++ digL (t.bot + 1) ++ [114] := by rw [nums_app5, nums_app5, nums_app5, nums_app5, hg1n.out, hg2n.out, hn114.out, hn59.out, hn27.out]
            refine wpAnyH_ready (rs := [13]) (by kernel_rfl) (by simp) (AllReadyH.cons rfl (fun K hK => ?_) AllReadyH.nil)
            refine step_append_str (by rfl) _ _ (by rfl) w.heap.size _ _ (by rfl) k10.row _ (by rfl) _ hM (by (try simp only [List.length_append, List.length_cons, List.length_nil]); omega) k10.size ?_
            intro v11 w11 hr11 hg11
            have k11 := k10.app hr11 hg11
            have htc := k11.tc
            refine hK.out _ _ ⟨htc.2.2.2.2.2.2.2.2.1, htc.2.2.2.2.2.2.2.2.2.1⟩ (fun hHeld => ?_)
            clear hK K htc
            (try simp only [Act.put, List.setIfInBounds_toArray, List.set_cons_zero, List.set_cons_succ, List.getElem_toArray, List.getElem_cons_zero, List.getElem_cons_succ])
            refine' wpAnyH_take (i := 14) (v := _) rfl (by kernel_rfl) (by kernel_rfl) (by kernel_rfl) (fun _ _ _ h => h) (Or.inl ⟨by rfl, ?hy26⟩) hHeld ?hr26
            case hy26 => (intro w hSw; (try dsimp only at hSw); go_simp; (try with_reducible rfl))
            (try simp only [Act.put, List.setIfInBounds_toArray, List.set_cons_zero, List.set_cons_succ, List.getElem_toArray, List.getElem_cons_zero, List.getElem_cons_succ])
            refine wpAnyH_done (by kernel_rfl) ?_ _
            refine NoPanic.normal ?_
            clear hr11 hg11 k10 hd10 hb10 hd9 hb9 hM hg1n hg2n hz1 hz2 hy1 hy2 hy3 hx1 hx2 hx3 hx4 hci hd hHeld hi1 hi2 k8
            clear d1 d4 d5 d6 d7 d8 d9 d10 d11 d12 d14 d16
            obtain ⟨d1, d4, d5, d6, d7, d8, d9, d10, d11, d12, d14, d16⟩ := k11.tc
            simp only at d1
            rw [hwr.out] at d14
            rw [hhd.out] at d16
            go_wp2_with (first
              | (go_at_call 33; refine (hgo _).mono ?_; rintro e w12 ⟨g3, rfl, hg3, hb12⟩; have k12 := k11.below hb12; replace hg3 : Hid (nums g3 = goL t.row t.col) := hg3; go_simp)
              | (at_builtin; refine append_str (by rfl) _ _ (by rfl) w.heap.size _ _ (by rfl) k12.row g3 (by rfl) _ hg3.out (by (try simp only [List.length_append, List.length_cons, List.length_nil]); omega) k12.size ?_; intro v13 w13 hr13 hg13; have k13 := k12.app hr13 hg13; clear hr13 hg13 k12 hb12 hg3 hgo k11; clear d1 d4 d5 d6 d7 d8 d9 d10 d11 d12 d14 d16; obtain ⟨d1, d4, d5, d6, d7, d8, d9, d10, d11, d12, d14, d16⟩ := k13.tc; simp only at d1; rw [hwr.out] at d14; rw [hhd.out] at d16)
              | (at_builtin; refine append_str (by rfl) _ _ (by rfl) w.heap.size _ _ (by rfl) k13.row ⟨#[27, 91, 63, 50, 53, 108]⟩ (by rfl) _ (show nums _ = [27, 91, 63, 50, 53, 108] from rfl) (by (try simp only [List.length_append, List.length_cons, List.length_nil]); omega) k13.size ?_; intro v14 w14 hr14 hg14; have k14 := k13.app hr14 hg14; clear hr14 hg14; have hcv := conv_rowT k14.row))
            go_ret
            exact ⟨congrArg (fun l => Ending.returned (.string (strOfNums l))) (show _ = drawnL t from (by rw [hv.out, hE.out]; simp)), k14.bel⟩
          by_cases q2 : t.bot < (j : Int) - 1
          case pos =>
            have hE : Hid (endL t s = sgn s t.st ++ [27, 91, 63, 55, 104] ++ ([27, 91] ++ digL (t.top + 1) ++ [59] ++ digL (t.bot + 1) ++ [114]) ++ goL t.row t.col ++ [27, 91, 63, 50, 53, 108]) := by
              show _ = _
              unfold endL
              rw [hN.out, if_pos hwr, if_pos (by omega), if_pos hhd]
            rw [hwr] at d14
            rw [hhd] at d16
            obtain ⟨s0, s1, s2, s3, s4⟩ := k.sc
            replace hwr := (show Hid _ from hwr)
            replace hhd := (show Hid _ from hhd)
            go_wp2_with (first
              | (go_at_call 34; refine (hsg _).mono ?_; rintro e w6 ⟨g, rfl, hgn, hb6⟩; have k6 := k.below hb6; replace hgn : Hid (nums g = sgn s t.st) := hgn; go_simp)
              | (at_builtin; refine append_str (by rfl) _ _ (by rfl) w.heap.size _ _ (by rfl) k6.row g (by rfl) _ hgn.out (by (try simp only [List.length_append, List.length_cons, List.length_nil]); omega) k6.size ?_; intro v7 w7 hr7 hg7; have k7 := k6.app hr7 hg7; clear hr7 hg7 s0 s1 s2 s3 s4 k6 hb6 hgn hsg; clear d1 d4 d5 d6 d7 d8 d9 d10 d11 d12 d14 d16; obtain ⟨d1, d4, d5, d6, d7, d8, d9, d10, d11, d12, d14, d16⟩ := k7.tc; simp only at d1; rw [hwr.out] at d14; rw [hhd.out] at d16)
              | (at_builtin; refine append_str (by rfl) _ _ (by rfl) w.heap.size _ _ (by rfl) k7.row ⟨#[27, 91, 63, 55, 104]⟩ (by rfl) _ (show nums _ = [27, 91, 63, 55, 104] from rfl) (by (try simp only [List.length_append, List.length_cons, List.length_nil]); omega) k7.size ?_; intro v8 w8 hr8 hg8; have k8 := k7.app hr8 hg8; clear hr8 hg8 k7; clear d1 d4 d5 d6 d7 d8 d9 d10 d11 d12 d14 d16; obtain ⟨d1, d4, d5, d6, d7, d8, d9, d10, d11, d12, d14, d16⟩ := k8.tc; simp only at d1; rw [hwr.out] at d14; rw [hhd.out] at d16))
            have hd := bdr w8
            have hci : ∀ W, Below w8.heap.size w8 W → (W.cell? ⟨w.heap.size, 11, none⟩ = some (.int .i64 t.top) ∧ W.cell? ⟨w.heap.size, 12, none⟩ = some (.int .i64 t.bot)) := fun W hW => by have := (k8.below hW).tc; exact ⟨this.2.2.2.2.2.2.2.2.1, this.2.2.2.2.2.2.2.2.2.1⟩
            refine wp_region_noPanic ?_
            refine wp_region_held_drew (S := (fun W => W.cell? ⟨w.heap.size, 11, none⟩ = some (.int .i64 t.top) ∧ W.cell? ⟨w.heap.size, 12, none⟩ = some (.int .i64 t.bot))) (by kernel_rfl) (hci _ hd) (fun hHeld => ?_)
            refine' wpAnyH_take (i := 0) (v := _) rfl (by kernel_rfl) (by kernel_rfl) (by kernel_rfl) (fun _ _ _ h => h) (Or.inl ⟨by rfl, ?hy27⟩) hHeld ?hr27
            case hy27 => (intro w hSw; (try dsimp only at hSw); go_simp; (try with_reducible rfl))
            (try simp only [Act.put, List.setIfInBounds_toArray, List.set_cons_zero, List.set_cons_succ, List.getElem_toArray, List.getElem_cons_zero])
            refine' wpAnyH_take (i := 1) (v := _) rfl (by kernel_rfl) (by kernel_rfl) (by kernel_rfl) (fun _ _ _ h => h) (Or.inl ⟨by rfl, ?hy28⟩) hHeld ?hr28
            case hy28 => (intro w hSw; (try dsimp only at hSw); go_simp; (try with_reducible rfl))
            (try simp only [Act.put, List.setIfInBounds_toArray, List.set_cons_zero, List.set_cons_succ, List.getElem_toArray, List.getElem_cons_zero, List.getElem_cons_succ])
            refine' wpAnyH_take (i := 2) (v := _) rfl (by kernel_rfl) (by kernel_rfl) (by kernel_rfl) (fun _ _ _ h => h) (Or.inl ⟨by rfl, ?hy29⟩) hHeld ?hr29
            case hy29 => (intro w hSw; (try dsimp only at hSw); go_simp; (try with_reducible rfl))
            (try simp only [Act.put, List.setIfInBounds_toArray, List.set_cons_zero, List.set_cons_succ, List.getElem_toArray, List.getElem_cons_zero, List.getElem_cons_succ])
            refine' wpAnyH_take (i := 3) (v := _) rfl (by kernel_rfl) (by kernel_rfl) (by kernel_rfl) (fun _ _ _ h => h) (Or.inl ⟨by rfl, ?hy30⟩) hHeld ?hr30
            case hy30 => (intro w hSw; (try dsimp only at hSw); go_simp; (try with_reducible rfl))
            (try simp only [Act.put, List.setIfInBounds_toArray, List.set_cons_zero, List.set_cons_succ, List.getElem_toArray, List.getElem_cons_zero, List.getElem_cons_succ])
            refine' wpAnyH_take (i := 7) (v := _) rfl (by kernel_rfl) (by kernel_rfl) (by kernel_rfl) (fun _ _ _ h => h) (Or.inl ⟨by rfl, ?hy31⟩) hHeld ?hr31
            case hy31 => (intro w hSw; (try dsimp only at hSw); go_simp; (try with_reducible rfl))
            (try simp only [Act.put, List.setIfInBounds_toArray, List.set_cons_zero, List.set_cons_succ, List.getElem_toArray, List.getElem_cons_zero, List.getElem_cons_succ])
            refine' wpAnyH_take (i := 8) (v := _) rfl (by kernel_rfl) (by kernel_rfl) (by kernel_rfl) (fun _ _ _ h => h) (Or.inl ⟨by rfl, ?hy32⟩) hHeld ?hr32
            case hy32 => (intro w hSw; (try dsimp only at hSw); go_simp; (try with_reducible rfl))
            (try simp only [Act.put, List.setIfInBounds_toArray, List.set_cons_zero, List.set_cons_succ, List.getElem_toArray, List.getElem_cons_zero, List.getElem_cons_succ])
            refine' wpAnyH_take (i := 9) (v := _) rfl (by kernel_rfl) (by kernel_rfl) (by kernel_rfl) (fun _ _ _ h => h) (Or.inl ⟨by rfl, ?hy33⟩) hHeld ?hr33
            case hy33 => (intro w hSw; (try dsimp only at hSw); go_simp; (try with_reducible rfl))
            (try simp only [Act.put, List.setIfInBounds_toArray, List.set_cons_zero, List.set_cons_succ, List.getElem_toArray, List.getElem_cons_zero, List.getElem_cons_succ])
            refine wpAnyH_ready (rs := [4]) (by kernel_rfl) (by simp) (AllReadyH.cons rfl (fun K hK => ?_) AllReadyH.nil)
            go_simp
            refine (hi1 _).mono ?_
            rintro e w9 ⟨g1, rfl, hg1n, hb9⟩
            have hz1 : g1.size ≤ 2 := by rw [← nums_len, hg1n]; omega
            replace hg1n := (show Hid _ from hg1n)
            have hd9 := hd.trans (hb9.mono hd.size)
            have hy1 : ((⟨#[27, 91]⟩ : ByteArray) ++ g1).size ≤ 4 := by rw [ByteArray.size_append]; omega
            have hy2 : ((⟨#[27, 91]⟩ : ByteArray) ++ g1 ++ ⟨#[59]⟩).size ≤ 5 := by rw [ByteArray.size_append]; omega
            have hx1 : ¬ 9223372036854775807 < 2 + g1.size := by omega
            have hx2 : ¬ 9223372036854775807 < 2 + g1.size + 1 := by omega
            go_wp2_with fail
            refine hK.out _ _ (hci _ hd9) (fun hHeld => ?_)
            clear hK K
            (try simp only [Act.put, List.setIfInBounds_toArray, List.set_cons_zero, List.set_cons_succ, List.getElem_toArray, List.getElem_cons_zero, List.getElem_cons_succ])
            refine' wpAnyH_take (i := 5) (v := _) rfl (by kernel_rfl) (by kernel_rfl) (by kernel_rfl) (fun _ _ _ h => h) (Or.inl ⟨by rfl, ?hy34⟩) hHeld ?hr34
            case hy34 => (intro w hSw; (try dsimp only at hSw); go_simp; (try with_reducible rfl))
            (try simp only [Act.put, List.setIfInBounds_toArray, List.set_cons_zero, List.set_cons_succ, List.getElem_toArray, List.getElem_cons_zero, List.getElem_cons_succ])
            refine' wpAnyH_take (i := 6) (v := _) rfl (by kernel_rfl) (by kernel_rfl) (by kernel_rfl) (fun _ _ _ h => h) (Or.inl ⟨by rfl, ?hy35⟩) hHeld ?hr35
            case hy35 => (intro w hSw; (try dsimp only at hSw); go_simp; (try with_reducible rfl))
            (try simp only [Act.put, List.setIfInBounds_toArray, List.set_cons_zero, List.set_cons_succ, List.getElem_toArray, List.getElem_cons_zero, List.getElem_cons_succ])
            refine wpAnyH_ready (rs := [10]) (by kernel_rfl) (by simp) (AllReadyH.cons rfl (fun K hK => ?_) AllReadyH.nil)
            go_simp
            refine (hi2 _).mono ?_
            rintro e w10 ⟨g2, rfl, hg2n, hb10⟩
            have hz2 : g2.size ≤ 2 := by rw [← nums_len, hg2n]; omega
            replace hg2n := (show Hid _ from hg2n)
            have hd10 := hd9.trans (hb10.mono hd9.size)
            have hy3 : ((⟨#[27, 91]⟩ : ByteArray) ++ g1 ++ ⟨#[59]⟩ ++ g2).size ≤ 7 := by rw [ByteArray.size_append]; omega
            have hx3 : ¬ 9223372036854775807 < 2 + g1.size + 1 + g2.size := by omega
            have hx4 : ¬ 9223372036854775807 < 2 + g1.size + 1 + g2.size + 1 := by omega
            go_wp2_with fail
            refine hK.out _ _ (hci _ hd10) (fun hHeld => ?_)
            clear hK K
            (try simp only [Act.put, List.setIfInBounds_toArray, List.set_cons_zero, List.set_cons_succ, List.getElem_toArray, List.getElem_cons_zero, List.getElem_cons_succ])
            refine' wpAnyH_take (i := 11) (v := _) rfl (by kernel_rfl) (by kernel_rfl) (by kernel_rfl) (fun _ _ _ h => h) (Or.inl ⟨by rfl, ?hy36⟩) hHeld ?hr36
            case hy36 => (intro w hSw; (try dsimp only at hSw); go_simp; (try with_reducible rfl))
            (try simp only [Act.put, List.setIfInBounds_toArray, List.set_cons_zero, List.set_cons_succ, List.getElem_toArray, List.getElem_cons_zero, List.getElem_cons_succ])
            refine' wpAnyH_take (i := 12) (v := _) rfl (by kernel_rfl) (by kernel_rfl) (by kernel_rfl) (fun _ _ _ h => h) (Or.inl ⟨by rfl, ?hy37⟩) hHeld ?hr37
            case hy37 => (intro w hSw; (try dsimp only at hSw); go_simp; (try with_reducible rfl))
            (try simp only [Act.put, List.setIfInBounds_toArray, List.set_cons_zero, List.set_cons_succ, List.getElem_toArray, List.getElem_cons_zero, List.getElem_cons_succ])
            have k10 := k8.below hd10
            have hM : nums ((⟨#[27, 91]⟩ : ByteArray) ++ g1 ++ ⟨#[59]⟩ ++ g2 ++ ⟨#[114]⟩) = [27, 91] ++ digL (t.top + 1) ++ [59] ++ digL (t.bot + 1) ++ [114] := by rw [nums_app5, nums_app5, nums_app5, nums_app5, hg1n.out, hg2n.out, hn114.out, hn59.out, hn27.out]
            refine wpAnyH_ready (rs := [13]) (by kernel_rfl) (by simp) (AllReadyH.cons rfl (fun K hK => ?_) AllReadyH.nil)
            refine step_append_str (by rfl) _ _ (by rfl) w.heap.size _ _ (by rfl) k10.row _ (by rfl) _ hM (by (try simp only [List.length_append, List.length_cons, List.length_nil]); omega) k10.size ?_
            intro v11 w11 hr11 hg11
            have k11 := k10.app hr11 hg11
            have htc := k11.tc
            refine hK.out _ _ ⟨htc.2.2.2.2.2.2.2.2.1, htc.2.2.2.2.2.2.2.2.2.1⟩ (fun hHeld => ?_)
            clear hK K htc
            (try simp only [Act.put, List.setIfInBounds_toArray, List.set_cons_zero, List.set_cons_succ, List.getElem_toArray, List.getElem_cons_zero, List.getElem_cons_succ])
            refine' wpAnyH_take (i := 14) (v := _) rfl (by kernel_rfl) (by kernel_rfl) (by kernel_rfl) (fun _ _ _ h => h) (Or.inl ⟨by rfl, ?hy38⟩) hHeld ?hr38
            case hy38 => (intro w hSw; (try dsimp only at hSw); go_simp; (try with_reducible rfl))
            (try simp only [Act.put, List.setIfInBounds_toArray, List.set_cons_zero, List.set_cons_succ, List.getElem_toArray, List.getElem_cons_zero, List.getElem_cons_succ])
            refine wpAnyH_done (by kernel_rfl) ?_ _
            refine NoPanic.normal ?_
            clear hr11 hg11 k10 hd10 hb10 hd9 hb9 hM hg1n hg2n hz1 hz2 hy1 hy2 hy3 hx1 hx2 hx3 hx4 hci hd hHeld hi1 hi2 k8
            clear d1 d4 d5 d6 d7 d8 d9 d10 d11 d12 d14 d16
            obtain ⟨d1, d4, d5, d6, d7, d8, d9, d10, d11, d12, d14, d16⟩ := k11.tc
            simp only at d1
            rw [hwr.out] at d14
            rw [hhd.out] at d16
            go_wp2_with (first
              | (go_at_call 33; refine (hgo _).mono ?_; rintro e w12 ⟨g3, rfl, hg3, hb12⟩; have k12 := k11.below hb12; replace hg3 : Hid (nums g3 = goL t.row t.col) := hg3; go_simp)
              | (at_builtin; refine append_str (by rfl) _ _ (by rfl) w.heap.size _ _ (by rfl) k12.row g3 (by rfl) _ hg3.out (by (try simp only [List.length_append, List.length_cons, List.length_nil]); omega) k12.size ?_; intro v13 w13 hr13 hg13; have k13 := k12.app hr13 hg13; clear hr13 hg13 k12 hb12 hg3 hgo k11; clear d1 d4 d5 d6 d7 d8 d9 d10 d11 d12 d14 d16; obtain ⟨d1, d4, d5, d6, d7, d8, d9, d10, d11, d12, d14, d16⟩ := k13.tc; simp only at d1; rw [hwr.out] at d14; rw [hhd.out] at d16)
              | (at_builtin; refine append_str (by rfl) _ _ (by rfl) w.heap.size _ _ (by rfl) k13.row ⟨#[27, 91, 63, 50, 53, 108]⟩ (by rfl) _ (show nums _ = [27, 91, 63, 50, 53, 108] from rfl) (by (try simp only [List.length_append, List.length_cons, List.length_nil]); omega) k13.size ?_; intro v14 w14 hr14 hg14; have k14 := k13.app hr14 hg14; clear hr14 hg14; have hcv := conv_rowT k14.row))
            go_ret
            exact ⟨congrArg (fun l => Ending.returned (.string (strOfNums l))) (show _ = drawnL t from (by rw [hv.out, hE.out]; simp)), k14.bel⟩
          have hE : Hid (endL t s = sgn s t.st ++ [27, 91, 63, 55, 104] ++ [] ++ goL t.row t.col ++ [27, 91, 63, 50, 53, 108]) := by
            show _ = _
            unfold endL
            rw [hN.out, if_pos hwr, if_neg (by omega), if_pos hhd]
          rw [hwr] at d14
          rw [hhd] at d16
          obtain ⟨s0, s1, s2, s3, s4⟩ := k.sc
          replace hwr := (show Hid _ from hwr)
          replace hhd := (show Hid _ from hhd)
          go_wp2_with (first
            | (go_at_call 34; refine (hsg _).mono ?_; rintro e w6 ⟨g, rfl, hgn, hb6⟩; have k6 := k.below hb6; replace hgn : Hid (nums g = sgn s t.st) := hgn; go_simp)
            | (at_builtin; refine append_str (by rfl) _ _ (by rfl) w.heap.size _ _ (by rfl) k6.row g (by rfl) _ hgn.out (by (try simp only [List.length_append, List.length_cons, List.length_nil]); omega) k6.size ?_; intro v7 w7 hr7 hg7; have k7 := k6.app hr7 hg7; clear hr7 hg7 s0 s1 s2 s3 s4 k6 hb6 hgn hsg; clear d1 d4 d5 d6 d7 d8 d9 d10 d11 d12 d14 d16; obtain ⟨d1, d4, d5, d6, d7, d8, d9, d10, d11, d12, d14, d16⟩ := k7.tc; simp only at d1; rw [hwr.out] at d14; rw [hhd.out] at d16)
            | (at_builtin; refine append_str (by rfl) _ _ (by rfl) w.heap.size _ _ (by rfl) k7.row ⟨#[27, 91, 63, 55, 104]⟩ (by rfl) _ (show nums _ = [27, 91, 63, 55, 104] from rfl) (by (try simp only [List.length_append, List.length_cons, List.length_nil]); omega) k7.size ?_; intro v8 w8 hr8 hg8; have k8 := k7.app hr8 hg8; clear hr8 hg8 k7; clear d1 d4 d5 d6 d7 d8 d9 d10 d11 d12 d14 d16; obtain ⟨d1, d4, d5, d6, d7, d8, d9, d10, d11, d12, d14, d16⟩ := k8.tc; simp only at d1; rw [hwr.out] at d14; rw [hhd.out] at d16)
            | (go_at_call 33; refine (hgo _).mono ?_; rintro e w12 ⟨g3, rfl, hg3, hb12⟩; have k12 := k8.below hb12; replace hg3 : Hid (nums g3 = goL t.row t.col) := hg3; go_simp)
            | (at_builtin; refine append_str (by rfl) _ _ (by rfl) w.heap.size _ _ (by rfl) k12.row g3 (by rfl) _ hg3.out (by (try simp only [List.length_append, List.length_cons, List.length_nil]); omega) k12.size ?_; intro v13 w13 hr13 hg13; have k13 := k12.app hr13 hg13; clear hr13 hg13 k12 hb12 hg3 hgo k8; clear d1 d4 d5 d6 d7 d8 d9 d10 d11 d12 d14 d16; obtain ⟨d1, d4, d5, d6, d7, d8, d9, d10, d11, d12, d14, d16⟩ := k13.tc; simp only at d1; rw [hwr.out] at d14; rw [hhd.out] at d16)
            | (at_builtin; refine append_str (by rfl) _ _ (by rfl) w.heap.size _ _ (by rfl) k13.row ⟨#[27, 91, 63, 50, 53, 108]⟩ (by rfl) _ (show nums _ = [27, 91, 63, 50, 53, 108] from rfl) (by (try simp only [List.length_append, List.length_cons, List.length_nil]); omega) k13.size ?_; intro v14 w14 hr14 hg14; have k14 := k13.app hr14 hg14; clear hr14 hg14; have hcv := conv_rowT k14.row))
          go_ret
          exact ⟨congrArg (fun l => Ending.returned (.string (strOfNums l))) (show _ = drawnL t from (by rw [hv.out, hE.out]; simp)), k14.bel⟩
        case false =>
          by_cases q1 : 0 < t.top
          case pos =>
            have qb : (0 : Int) < t.top := q1
            have hE : Hid (endL t s = sgn s t.st ++ [27, 91, 63, 55, 104] ++ ([27, 91] ++ digL (t.top + 1) ++ [59] ++ digL (t.bot + 1) ++ [114]) ++ goL t.row t.col ++ []) := by
              show _ = _
              unfold endL
              rw [hN.out, if_pos hwr, if_pos (by omega), if_neg (by rw [hhd]; simp)]
            rw [hwr] at d14
            rw [hhd] at d16
            obtain ⟨s0, s1, s2, s3, s4⟩ := k.sc
            replace hwr := (show Hid _ from hwr)
            replace hhd := (show Hid _ from hhd)
            go_wp2_with (first
              | (go_at_call 34; refine (hsg _).mono ?_; rintro e w6 ⟨g, rfl, hgn, hb6⟩; have k6 := k.below hb6; replace hgn : Hid (nums g = sgn s t.st) := hgn; go_simp)
              | (at_builtin; refine append_str (by rfl) _ _ (by rfl) w.heap.size _ _ (by rfl) k6.row g (by rfl) _ hgn.out (by (try simp only [List.length_append, List.length_cons, List.length_nil]); omega) k6.size ?_; intro v7 w7 hr7 hg7; have k7 := k6.app hr7 hg7; clear hr7 hg7 s0 s1 s2 s3 s4 k6 hb6 hgn hsg; clear d1 d4 d5 d6 d7 d8 d9 d10 d11 d12 d14 d16; obtain ⟨d1, d4, d5, d6, d7, d8, d9, d10, d11, d12, d14, d16⟩ := k7.tc; simp only at d1; rw [hwr.out] at d14; rw [hhd.out] at d16)
              | (at_builtin; refine append_str (by rfl) _ _ (by rfl) w.heap.size _ _ (by rfl) k7.row ⟨#[27, 91, 63, 55, 104]⟩ (by rfl) _ (show nums _ = [27, 91, 63, 55, 104] from rfl) (by (try simp only [List.length_append, List.length_cons, List.length_nil]); omega) k7.size ?_; intro v8 w8 hr8 hg8; have k8 := k7.app hr8 hg8; clear hr8 hg8 k7; clear d1 d4 d5 d6 d7 d8 d9 d10 d11 d12 d14 d16; obtain ⟨d1, d4, d5, d6, d7, d8, d9, d10, d11, d12, d14, d16⟩ := k8.tc; simp only at d1; rw [hwr.out] at d14; rw [hhd.out] at d16))
            have hd := bdr w8
            have hci : ∀ W, Below w8.heap.size w8 W → (W.cell? ⟨w.heap.size, 11, none⟩ = some (.int .i64 t.top) ∧ W.cell? ⟨w.heap.size, 12, none⟩ = some (.int .i64 t.bot)) := fun W hW => by have := (k8.below hW).tc; exact ⟨this.2.2.2.2.2.2.2.2.1, this.2.2.2.2.2.2.2.2.2.1⟩
            refine wp_region_noPanic ?_
            refine wp_region_held_drew (S := (fun W => W.cell? ⟨w.heap.size, 11, none⟩ = some (.int .i64 t.top) ∧ W.cell? ⟨w.heap.size, 12, none⟩ = some (.int .i64 t.bot))) (by kernel_rfl) (hci _ hd) (fun hHeld => ?_)
            refine' wpAnyH_take (i := 0) (v := _) rfl (by kernel_rfl) (by kernel_rfl) (by kernel_rfl) (fun _ _ _ h => h) (Or.inl ⟨by rfl, ?hy39⟩) hHeld ?hr39
            case hy39 => (intro w hSw; (try dsimp only at hSw); go_simp; (try with_reducible rfl))
            (try simp only [Act.put, List.setIfInBounds_toArray, List.set_cons_zero, List.set_cons_succ, List.getElem_toArray, List.getElem_cons_zero])
            refine' wpAnyH_take (i := 1) (v := _) rfl (by kernel_rfl) (by kernel_rfl) (by kernel_rfl) (fun _ _ _ h => h) (Or.inl ⟨by rfl, ?hy40⟩) hHeld ?hr40
            case hy40 => (intro w hSw; (try dsimp only at hSw); go_simp; (try with_reducible rfl))
            (try simp only [Act.put, List.setIfInBounds_toArray, List.set_cons_zero, List.set_cons_succ, List.getElem_toArray, List.getElem_cons_zero, List.getElem_cons_succ])
            refine' wpAnyH_take (i := 2) (v := _) rfl (by kernel_rfl) (by kernel_rfl) (by kernel_rfl) (fun _ _ _ h => h) (Or.inl ⟨by rfl, ?hy41⟩) hHeld ?hr41
            case hy41 => (intro w hSw; (try dsimp only at hSw); go_simp; (try with_reducible rfl))
            (try simp only [Act.put, List.setIfInBounds_toArray, List.set_cons_zero, List.set_cons_succ, List.getElem_toArray, List.getElem_cons_zero, List.getElem_cons_succ])
            refine' wpAnyH_take (i := 3) (v := _) rfl (by kernel_rfl) (by kernel_rfl) (by kernel_rfl) (fun _ _ _ h => h) (Or.inl ⟨by rfl, ?hy42⟩) hHeld ?hr42
            case hy42 => (intro w hSw; (try dsimp only at hSw); go_simp; (try with_reducible rfl))
            (try simp only [Act.put, List.setIfInBounds_toArray, List.set_cons_zero, List.set_cons_succ, List.getElem_toArray, List.getElem_cons_zero, List.getElem_cons_succ])
            refine' wpAnyH_take (i := 7) (v := _) rfl (by kernel_rfl) (by kernel_rfl) (by kernel_rfl) (fun _ _ _ h => h) (Or.inl ⟨by rfl, ?hy43⟩) hHeld ?hr43
            case hy43 => (intro w hSw; (try dsimp only at hSw); go_simp; (try with_reducible rfl))
            (try simp only [Act.put, List.setIfInBounds_toArray, List.set_cons_zero, List.set_cons_succ, List.getElem_toArray, List.getElem_cons_zero, List.getElem_cons_succ])
            refine' wpAnyH_take (i := 8) (v := _) rfl (by kernel_rfl) (by kernel_rfl) (by kernel_rfl) (fun _ _ _ h => h) (Or.inl ⟨by rfl, ?hy44⟩) hHeld ?hr44
            case hy44 => (intro w hSw; (try dsimp only at hSw); go_simp; (try with_reducible rfl))
            (try simp only [Act.put, List.setIfInBounds_toArray, List.set_cons_zero, List.set_cons_succ, List.getElem_toArray, List.getElem_cons_zero, List.getElem_cons_succ])
            refine' wpAnyH_take (i := 9) (v := _) rfl (by kernel_rfl) (by kernel_rfl) (by kernel_rfl) (fun _ _ _ h => h) (Or.inl ⟨by rfl, ?hy45⟩) hHeld ?hr45
            case hy45 => (intro w hSw; (try dsimp only at hSw); go_simp; (try with_reducible rfl))
            (try simp only [Act.put, List.setIfInBounds_toArray, List.set_cons_zero, List.set_cons_succ, List.getElem_toArray, List.getElem_cons_zero, List.getElem_cons_succ])
            refine wpAnyH_ready (rs := [4]) (by kernel_rfl) (by simp) (AllReadyH.cons rfl (fun K hK => ?_) AllReadyH.nil)
            go_simp
            refine (hi1 _).mono ?_
            rintro e w9 ⟨g1, rfl, hg1n, hb9⟩
            have hz1 : g1.size ≤ 2 := by rw [← nums_len, hg1n]; omega
            replace hg1n := (show Hid _ from hg1n)
            have hd9 := hd.trans (hb9.mono hd.size)
            have hy1 : ((⟨#[27, 91]⟩ : ByteArray) ++ g1).size ≤ 4 := by rw [ByteArray.size_append]; omega
            have hy2 : ((⟨#[27, 91]⟩ : ByteArray) ++ g1 ++ ⟨#[59]⟩).size ≤ 5 := by rw [ByteArray.size_append]; omega
            have hx1 : ¬ 9223372036854775807 < 2 + g1.size := by omega
            have hx2 : ¬ 9223372036854775807 < 2 + g1.size + 1 := by omega
            go_wp2_with fail
            refine hK.out _ _ (hci _ hd9) (fun hHeld => ?_)
            clear hK K
            (try simp only [Act.put, List.setIfInBounds_toArray, List.set_cons_zero, List.set_cons_succ, List.getElem_toArray, List.getElem_cons_zero, List.getElem_cons_succ])
            refine' wpAnyH_take (i := 5) (v := _) rfl (by kernel_rfl) (by kernel_rfl) (by kernel_rfl) (fun _ _ _ h => h) (Or.inl ⟨by rfl, ?hy46⟩) hHeld ?hr46
            case hy46 => (intro w hSw; (try dsimp only at hSw); go_simp; (try with_reducible rfl))
            (try simp only [Act.put, List.setIfInBounds_toArray, List.set_cons_zero, List.set_cons_succ, List.getElem_toArray, List.getElem_cons_zero, List.getElem_cons_succ])
            refine' wpAnyH_take (i := 6) (v := _) rfl (by kernel_rfl) (by kernel_rfl) (by kernel_rfl) (fun _ _ _ h => h) (Or.inl ⟨by rfl, ?hy47⟩) hHeld ?hr47
            case hy47 => (intro w hSw; (try dsimp only at hSw); go_simp; (try with_reducible rfl))
            (try simp only [Act.put, List.setIfInBounds_toArray, List.set_cons_zero, List.set_cons_succ, List.getElem_toArray, List.getElem_cons_zero, List.getElem_cons_succ])
            refine wpAnyH_ready (rs := [10]) (by kernel_rfl) (by simp) (AllReadyH.cons rfl (fun K hK => ?_) AllReadyH.nil)
            go_simp
            refine (hi2 _).mono ?_
            rintro e w10 ⟨g2, rfl, hg2n, hb10⟩
            have hz2 : g2.size ≤ 2 := by rw [← nums_len, hg2n]; omega
            replace hg2n := (show Hid _ from hg2n)
            have hd10 := hd9.trans (hb10.mono hd9.size)
            have hy3 : ((⟨#[27, 91]⟩ : ByteArray) ++ g1 ++ ⟨#[59]⟩ ++ g2).size ≤ 7 := by rw [ByteArray.size_append]; omega
            have hx3 : ¬ 9223372036854775807 < 2 + g1.size + 1 + g2.size := by omega
            have hx4 : ¬ 9223372036854775807 < 2 + g1.size + 1 + g2.size + 1 := by omega
            go_wp2_with fail
            refine hK.out _ _ (hci _ hd10) (fun hHeld => ?_)
            clear hK K
            (try simp only [Act.put, List.setIfInBounds_toArray, List.set_cons_zero, List.set_cons_succ, List.getElem_toArray, List.getElem_cons_zero, List.getElem_cons_succ])
            refine' wpAnyH_take (i := 11) (v := _) rfl (by kernel_rfl) (by kernel_rfl) (by kernel_rfl) (fun _ _ _ h => h) (Or.inl ⟨by rfl, ?hy48⟩) hHeld ?hr48
            case hy48 => (intro w hSw; (try dsimp only at hSw); go_simp; (try with_reducible rfl))
            (try simp only [Act.put, List.setIfInBounds_toArray, List.set_cons_zero, List.set_cons_succ, List.getElem_toArray, List.getElem_cons_zero, List.getElem_cons_succ])
            refine' wpAnyH_take (i := 12) (v := _) rfl (by kernel_rfl) (by kernel_rfl) (by kernel_rfl) (fun _ _ _ h => h) (Or.inl ⟨by rfl, ?hy49⟩) hHeld ?hr49
            case hy49 => (intro w hSw; (try dsimp only at hSw); go_simp; (try with_reducible rfl))
            (try simp only [Act.put, List.setIfInBounds_toArray, List.set_cons_zero, List.set_cons_succ, List.getElem_toArray, List.getElem_cons_zero, List.getElem_cons_succ])
            have k10 := k8.below hd10
            have hM : nums ((⟨#[27, 91]⟩ : ByteArray) ++ g1 ++ ⟨#[59]⟩ ++ g2 ++ ⟨#[114]⟩) = [27, 91] ++ digL (t.top + 1) ++ [59] ++ digL (t.bot + 1) ++ [114] := by rw [nums_app5, nums_app5, nums_app5, nums_app5, hg1n.out, hg2n.out, hn114.out, hn59.out, hn27.out]
            refine wpAnyH_ready (rs := [13]) (by kernel_rfl) (by simp) (AllReadyH.cons rfl (fun K hK => ?_) AllReadyH.nil)
            refine step_append_str (by rfl) _ _ (by rfl) w.heap.size _ _ (by rfl) k10.row _ (by rfl) _ hM (by (try simp only [List.length_append, List.length_cons, List.length_nil]); omega) k10.size ?_
            intro v11 w11 hr11 hg11
            have k11 := k10.app hr11 hg11
            have htc := k11.tc
            refine hK.out _ _ ⟨htc.2.2.2.2.2.2.2.2.1, htc.2.2.2.2.2.2.2.2.2.1⟩ (fun hHeld => ?_)
            clear hK K htc
            (try simp only [Act.put, List.setIfInBounds_toArray, List.set_cons_zero, List.set_cons_succ, List.getElem_toArray, List.getElem_cons_zero, List.getElem_cons_succ])
            refine' wpAnyH_take (i := 14) (v := _) rfl (by kernel_rfl) (by kernel_rfl) (by kernel_rfl) (fun _ _ _ h => h) (Or.inl ⟨by rfl, ?hy50⟩) hHeld ?hr50
            case hy50 => (intro w hSw; (try dsimp only at hSw); go_simp; (try with_reducible rfl))
            (try simp only [Act.put, List.setIfInBounds_toArray, List.set_cons_zero, List.set_cons_succ, List.getElem_toArray, List.getElem_cons_zero, List.getElem_cons_succ])
            refine wpAnyH_done (by kernel_rfl) ?_ _
            refine NoPanic.normal ?_
            clear hr11 hg11 k10 hd10 hb10 hd9 hb9 hM hg1n hg2n hz1 hz2 hy1 hy2 hy3 hx1 hx2 hx3 hx4 hci hd hHeld hi1 hi2 k8
            clear d1 d4 d5 d6 d7 d8 d9 d10 d11 d12 d14 d16
            obtain ⟨d1, d4, d5, d6, d7, d8, d9, d10, d11, d12, d14, d16⟩ := k11.tc
            simp only at d1
            rw [hwr.out] at d14
            rw [hhd.out] at d16
            go_wp2_with (first
              | (go_at_call 33; refine (hgo _).mono ?_; rintro e w12 ⟨g3, rfl, hg3, hb12⟩; have k12 := k11.below hb12; replace hg3 : Hid (nums g3 = goL t.row t.col) := hg3; go_simp)
              | (at_builtin; refine append_str (by rfl) _ _ (by rfl) w.heap.size _ _ (by rfl) k12.row g3 (by rfl) _ hg3.out (by (try simp only [List.length_append, List.length_cons, List.length_nil]); omega) k12.size ?_; intro v13 w13 hr13 hg13; have k13 := k12.app hr13 hg13; clear hr13 hg13 k12 hb12 hg3 hgo k11; clear d1 d4 d5 d6 d7 d8 d9 d10 d11 d12 d14 d16; obtain ⟨d1, d4, d5, d6, d7, d8, d9, d10, d11, d12, d14, d16⟩ := k13.tc; simp only at d1; rw [hwr.out] at d14; rw [hhd.out] at d16; have hcv := conv_rowT k13.row))
            go_ret
            exact ⟨congrArg (fun l => Ending.returned (.string (strOfNums l))) (show _ = drawnL t from (by rw [hv.out, hE.out]; simp)), k13.bel⟩
          by_cases q2 : t.bot < (j : Int) - 1
          case pos =>
            have hE : Hid (endL t s = sgn s t.st ++ [27, 91, 63, 55, 104] ++ ([27, 91] ++ digL (t.top + 1) ++ [59] ++ digL (t.bot + 1) ++ [114]) ++ goL t.row t.col ++ []) := by
              show _ = _
              unfold endL
              rw [hN.out, if_pos hwr, if_pos (by omega), if_neg (by rw [hhd]; simp)]
            rw [hwr] at d14
            rw [hhd] at d16
            obtain ⟨s0, s1, s2, s3, s4⟩ := k.sc
            replace hwr := (show Hid _ from hwr)
            replace hhd := (show Hid _ from hhd)
            go_wp2_with (first
              | (go_at_call 34; refine (hsg _).mono ?_; rintro e w6 ⟨g, rfl, hgn, hb6⟩; have k6 := k.below hb6; replace hgn : Hid (nums g = sgn s t.st) := hgn; go_simp)
              | (at_builtin; refine append_str (by rfl) _ _ (by rfl) w.heap.size _ _ (by rfl) k6.row g (by rfl) _ hgn.out (by (try simp only [List.length_append, List.length_cons, List.length_nil]); omega) k6.size ?_; intro v7 w7 hr7 hg7; have k7 := k6.app hr7 hg7; clear hr7 hg7 s0 s1 s2 s3 s4 k6 hb6 hgn hsg; clear d1 d4 d5 d6 d7 d8 d9 d10 d11 d12 d14 d16; obtain ⟨d1, d4, d5, d6, d7, d8, d9, d10, d11, d12, d14, d16⟩ := k7.tc; simp only at d1; rw [hwr.out] at d14; rw [hhd.out] at d16)
              | (at_builtin; refine append_str (by rfl) _ _ (by rfl) w.heap.size _ _ (by rfl) k7.row ⟨#[27, 91, 63, 55, 104]⟩ (by rfl) _ (show nums _ = [27, 91, 63, 55, 104] from rfl) (by (try simp only [List.length_append, List.length_cons, List.length_nil]); omega) k7.size ?_; intro v8 w8 hr8 hg8; have k8 := k7.app hr8 hg8; clear hr8 hg8 k7; clear d1 d4 d5 d6 d7 d8 d9 d10 d11 d12 d14 d16; obtain ⟨d1, d4, d5, d6, d7, d8, d9, d10, d11, d12, d14, d16⟩ := k8.tc; simp only at d1; rw [hwr.out] at d14; rw [hhd.out] at d16))
            have hd := bdr w8
            have hci : ∀ W, Below w8.heap.size w8 W → (W.cell? ⟨w.heap.size, 11, none⟩ = some (.int .i64 t.top) ∧ W.cell? ⟨w.heap.size, 12, none⟩ = some (.int .i64 t.bot)) := fun W hW => by have := (k8.below hW).tc; exact ⟨this.2.2.2.2.2.2.2.2.1, this.2.2.2.2.2.2.2.2.2.1⟩
            refine wp_region_noPanic ?_
            refine wp_region_held_drew (S := (fun W => W.cell? ⟨w.heap.size, 11, none⟩ = some (.int .i64 t.top) ∧ W.cell? ⟨w.heap.size, 12, none⟩ = some (.int .i64 t.bot))) (by kernel_rfl) (hci _ hd) (fun hHeld => ?_)
            refine' wpAnyH_take (i := 0) (v := _) rfl (by kernel_rfl) (by kernel_rfl) (by kernel_rfl) (fun _ _ _ h => h) (Or.inl ⟨by rfl, ?hy51⟩) hHeld ?hr51
            case hy51 => (intro w hSw; (try dsimp only at hSw); go_simp; (try with_reducible rfl))
            (try simp only [Act.put, List.setIfInBounds_toArray, List.set_cons_zero, List.set_cons_succ, List.getElem_toArray, List.getElem_cons_zero])
            refine' wpAnyH_take (i := 1) (v := _) rfl (by kernel_rfl) (by kernel_rfl) (by kernel_rfl) (fun _ _ _ h => h) (Or.inl ⟨by rfl, ?hy52⟩) hHeld ?hr52
            case hy52 => (intro w hSw; (try dsimp only at hSw); go_simp; (try with_reducible rfl))
            (try simp only [Act.put, List.setIfInBounds_toArray, List.set_cons_zero, List.set_cons_succ, List.getElem_toArray, List.getElem_cons_zero, List.getElem_cons_succ])
            refine' wpAnyH_take (i := 2) (v := _) rfl (by kernel_rfl) (by kernel_rfl) (by kernel_rfl) (fun _ _ _ h => h) (Or.inl ⟨by rfl, ?hy53⟩) hHeld ?hr53
            case hy53 => (intro w hSw; (try dsimp only at hSw); go_simp; (try with_reducible rfl))
            (try simp only [Act.put, List.setIfInBounds_toArray, List.set_cons_zero, List.set_cons_succ, List.getElem_toArray, List.getElem_cons_zero, List.getElem_cons_succ])
            refine' wpAnyH_take (i := 3) (v := _) rfl (by kernel_rfl) (by kernel_rfl) (by kernel_rfl) (fun _ _ _ h => h) (Or.inl ⟨by rfl, ?hy54⟩) hHeld ?hr54
            case hy54 => (intro w hSw; (try dsimp only at hSw); go_simp; (try with_reducible rfl))
            (try simp only [Act.put, List.setIfInBounds_toArray, List.set_cons_zero, List.set_cons_succ, List.getElem_toArray, List.getElem_cons_zero, List.getElem_cons_succ])
            refine' wpAnyH_take (i := 7) (v := _) rfl (by kernel_rfl) (by kernel_rfl) (by kernel_rfl) (fun _ _ _ h => h) (Or.inl ⟨by rfl, ?hy55⟩) hHeld ?hr55
            case hy55 => (intro w hSw; (try dsimp only at hSw); go_simp; (try with_reducible rfl))
            (try simp only [Act.put, List.setIfInBounds_toArray, List.set_cons_zero, List.set_cons_succ, List.getElem_toArray, List.getElem_cons_zero, List.getElem_cons_succ])
            refine' wpAnyH_take (i := 8) (v := _) rfl (by kernel_rfl) (by kernel_rfl) (by kernel_rfl) (fun _ _ _ h => h) (Or.inl ⟨by rfl, ?hy56⟩) hHeld ?hr56
            case hy56 => (intro w hSw; (try dsimp only at hSw); go_simp; (try with_reducible rfl))
            (try simp only [Act.put, List.setIfInBounds_toArray, List.set_cons_zero, List.set_cons_succ, List.getElem_toArray, List.getElem_cons_zero, List.getElem_cons_succ])
            refine' wpAnyH_take (i := 9) (v := _) rfl (by kernel_rfl) (by kernel_rfl) (by kernel_rfl) (fun _ _ _ h => h) (Or.inl ⟨by rfl, ?hy57⟩) hHeld ?hr57
            case hy57 => (intro w hSw; (try dsimp only at hSw); go_simp; (try with_reducible rfl))
            (try simp only [Act.put, List.setIfInBounds_toArray, List.set_cons_zero, List.set_cons_succ, List.getElem_toArray, List.getElem_cons_zero, List.getElem_cons_succ])
            refine wpAnyH_ready (rs := [4]) (by kernel_rfl) (by simp) (AllReadyH.cons rfl (fun K hK => ?_) AllReadyH.nil)
            go_simp
            refine (hi1 _).mono ?_
            rintro e w9 ⟨g1, rfl, hg1n, hb9⟩
            have hz1 : g1.size ≤ 2 := by rw [← nums_len, hg1n]; omega
            replace hg1n := (show Hid _ from hg1n)
            have hd9 := hd.trans (hb9.mono hd.size)
            have hy1 : ((⟨#[27, 91]⟩ : ByteArray) ++ g1).size ≤ 4 := by rw [ByteArray.size_append]; omega
            have hy2 : ((⟨#[27, 91]⟩ : ByteArray) ++ g1 ++ ⟨#[59]⟩).size ≤ 5 := by rw [ByteArray.size_append]; omega
            have hx1 : ¬ 9223372036854775807 < 2 + g1.size := by omega
            have hx2 : ¬ 9223372036854775807 < 2 + g1.size + 1 := by omega
            go_wp2_with fail
            refine hK.out _ _ (hci _ hd9) (fun hHeld => ?_)
            clear hK K
            (try simp only [Act.put, List.setIfInBounds_toArray, List.set_cons_zero, List.set_cons_succ, List.getElem_toArray, List.getElem_cons_zero, List.getElem_cons_succ])
            refine' wpAnyH_take (i := 5) (v := _) rfl (by kernel_rfl) (by kernel_rfl) (by kernel_rfl) (fun _ _ _ h => h) (Or.inl ⟨by rfl, ?hy58⟩) hHeld ?hr58
            case hy58 => (intro w hSw; (try dsimp only at hSw); go_simp; (try with_reducible rfl))
            (try simp only [Act.put, List.setIfInBounds_toArray, List.set_cons_zero, List.set_cons_succ, List.getElem_toArray, List.getElem_cons_zero, List.getElem_cons_succ])
            refine' wpAnyH_take (i := 6) (v := _) rfl (by kernel_rfl) (by kernel_rfl) (by kernel_rfl) (fun _ _ _ h => h) (Or.inl ⟨by rfl, ?hy59⟩) hHeld ?hr59
            case hy59 => (intro w hSw; (try dsimp only at hSw); go_simp; (try with_reducible rfl))
            (try simp only [Act.put, List.setIfInBounds_toArray, List.set_cons_zero, List.set_cons_succ, List.getElem_toArray, List.getElem_cons_zero, List.getElem_cons_succ])
            refine wpAnyH_ready (rs := [10]) (by kernel_rfl) (by simp) (AllReadyH.cons rfl (fun K hK => ?_) AllReadyH.nil)
            go_simp
            refine (hi2 _).mono ?_
            rintro e w10 ⟨g2, rfl, hg2n, hb10⟩
            have hz2 : g2.size ≤ 2 := by rw [← nums_len, hg2n]; omega
            replace hg2n := (show Hid _ from hg2n)
            have hd10 := hd9.trans (hb10.mono hd9.size)
            have hy3 : ((⟨#[27, 91]⟩ : ByteArray) ++ g1 ++ ⟨#[59]⟩ ++ g2).size ≤ 7 := by rw [ByteArray.size_append]; omega
            have hx3 : ¬ 9223372036854775807 < 2 + g1.size + 1 + g2.size := by omega
            have hx4 : ¬ 9223372036854775807 < 2 + g1.size + 1 + g2.size + 1 := by omega
            go_wp2_with fail
            refine hK.out _ _ (hci _ hd10) (fun hHeld => ?_)
            clear hK K
            (try simp only [Act.put, List.setIfInBounds_toArray, List.set_cons_zero, List.set_cons_succ, List.getElem_toArray, List.getElem_cons_zero, List.getElem_cons_succ])
            refine' wpAnyH_take (i := 11) (v := _) rfl (by kernel_rfl) (by kernel_rfl) (by kernel_rfl) (fun _ _ _ h => h) (Or.inl ⟨by rfl, ?hy60⟩) hHeld ?hr60
            case hy60 => (intro w hSw; (try dsimp only at hSw); go_simp; (try with_reducible rfl))
            (try simp only [Act.put, List.setIfInBounds_toArray, List.set_cons_zero, List.set_cons_succ, List.getElem_toArray, List.getElem_cons_zero, List.getElem_cons_succ])
            refine' wpAnyH_take (i := 12) (v := _) rfl (by kernel_rfl) (by kernel_rfl) (by kernel_rfl) (fun _ _ _ h => h) (Or.inl ⟨by rfl, ?hy61⟩) hHeld ?hr61
            case hy61 => (intro w hSw; (try dsimp only at hSw); go_simp; (try with_reducible rfl))
            (try simp only [Act.put, List.setIfInBounds_toArray, List.set_cons_zero, List.set_cons_succ, List.getElem_toArray, List.getElem_cons_zero, List.getElem_cons_succ])
            have k10 := k8.below hd10
            have hM : nums ((⟨#[27, 91]⟩ : ByteArray) ++ g1 ++ ⟨#[59]⟩ ++ g2 ++ ⟨#[114]⟩) = [27, 91] ++ digL (t.top + 1) ++ [59] ++ digL (t.bot + 1) ++ [114] := by rw [nums_app5, nums_app5, nums_app5, nums_app5, hg1n.out, hg2n.out, hn114.out, hn59.out, hn27.out]
            refine wpAnyH_ready (rs := [13]) (by kernel_rfl) (by simp) (AllReadyH.cons rfl (fun K hK => ?_) AllReadyH.nil)
            refine step_append_str (by rfl) _ _ (by rfl) w.heap.size _ _ (by rfl) k10.row _ (by rfl) _ hM (by (try simp only [List.length_append, List.length_cons, List.length_nil]); omega) k10.size ?_
            intro v11 w11 hr11 hg11
            have k11 := k10.app hr11 hg11
            have htc := k11.tc
            refine hK.out _ _ ⟨htc.2.2.2.2.2.2.2.2.1, htc.2.2.2.2.2.2.2.2.2.1⟩ (fun hHeld => ?_)
            clear hK K htc
            (try simp only [Act.put, List.setIfInBounds_toArray, List.set_cons_zero, List.set_cons_succ, List.getElem_toArray, List.getElem_cons_zero, List.getElem_cons_succ])
            refine' wpAnyH_take (i := 14) (v := _) rfl (by kernel_rfl) (by kernel_rfl) (by kernel_rfl) (fun _ _ _ h => h) (Or.inl ⟨by rfl, ?hy62⟩) hHeld ?hr62
            case hy62 => (intro w hSw; (try dsimp only at hSw); go_simp; (try with_reducible rfl))
            (try simp only [Act.put, List.setIfInBounds_toArray, List.set_cons_zero, List.set_cons_succ, List.getElem_toArray, List.getElem_cons_zero, List.getElem_cons_succ])
            refine wpAnyH_done (by kernel_rfl) ?_ _
            refine NoPanic.normal ?_
            clear hr11 hg11 k10 hd10 hb10 hd9 hb9 hM hg1n hg2n hz1 hz2 hy1 hy2 hy3 hx1 hx2 hx3 hx4 hci hd hHeld hi1 hi2 k8
            clear d1 d4 d5 d6 d7 d8 d9 d10 d11 d12 d14 d16
            obtain ⟨d1, d4, d5, d6, d7, d8, d9, d10, d11, d12, d14, d16⟩ := k11.tc
            simp only at d1
            rw [hwr.out] at d14
            rw [hhd.out] at d16
            go_wp2_with (first
              | (go_at_call 33; refine (hgo _).mono ?_; rintro e w12 ⟨g3, rfl, hg3, hb12⟩; have k12 := k11.below hb12; replace hg3 : Hid (nums g3 = goL t.row t.col) := hg3; go_simp)
              | (at_builtin; refine append_str (by rfl) _ _ (by rfl) w.heap.size _ _ (by rfl) k12.row g3 (by rfl) _ hg3.out (by (try simp only [List.length_append, List.length_cons, List.length_nil]); omega) k12.size ?_; intro v13 w13 hr13 hg13; have k13 := k12.app hr13 hg13; clear hr13 hg13 k12 hb12 hg3 hgo k11; clear d1 d4 d5 d6 d7 d8 d9 d10 d11 d12 d14 d16; obtain ⟨d1, d4, d5, d6, d7, d8, d9, d10, d11, d12, d14, d16⟩ := k13.tc; simp only at d1; rw [hwr.out] at d14; rw [hhd.out] at d16; have hcv := conv_rowT k13.row))
            go_ret
            exact ⟨congrArg (fun l => Ending.returned (.string (strOfNums l))) (show _ = drawnL t from (by rw [hv.out, hE.out]; simp)), k13.bel⟩
          have hE : Hid (endL t s = sgn s t.st ++ [27, 91, 63, 55, 104] ++ [] ++ goL t.row t.col ++ []) := by
            show _ = _
            unfold endL
            rw [hN.out, if_pos hwr, if_neg (by omega), if_neg (by rw [hhd]; simp)]
          rw [hwr] at d14
          rw [hhd] at d16
          obtain ⟨s0, s1, s2, s3, s4⟩ := k.sc
          replace hwr := (show Hid _ from hwr)
          replace hhd := (show Hid _ from hhd)
          go_wp2_with (first
            | (go_at_call 34; refine (hsg _).mono ?_; rintro e w6 ⟨g, rfl, hgn, hb6⟩; have k6 := k.below hb6; replace hgn : Hid (nums g = sgn s t.st) := hgn; go_simp)
            | (at_builtin; refine append_str (by rfl) _ _ (by rfl) w.heap.size _ _ (by rfl) k6.row g (by rfl) _ hgn.out (by (try simp only [List.length_append, List.length_cons, List.length_nil]); omega) k6.size ?_; intro v7 w7 hr7 hg7; have k7 := k6.app hr7 hg7; clear hr7 hg7 s0 s1 s2 s3 s4 k6 hb6 hgn hsg; clear d1 d4 d5 d6 d7 d8 d9 d10 d11 d12 d14 d16; obtain ⟨d1, d4, d5, d6, d7, d8, d9, d10, d11, d12, d14, d16⟩ := k7.tc; simp only at d1; rw [hwr.out] at d14; rw [hhd.out] at d16)
            | (at_builtin; refine append_str (by rfl) _ _ (by rfl) w.heap.size _ _ (by rfl) k7.row ⟨#[27, 91, 63, 55, 104]⟩ (by rfl) _ (show nums _ = [27, 91, 63, 55, 104] from rfl) (by (try simp only [List.length_append, List.length_cons, List.length_nil]); omega) k7.size ?_; intro v8 w8 hr8 hg8; have k8 := k7.app hr8 hg8; clear hr8 hg8 k7; clear d1 d4 d5 d6 d7 d8 d9 d10 d11 d12 d14 d16; obtain ⟨d1, d4, d5, d6, d7, d8, d9, d10, d11, d12, d14, d16⟩ := k8.tc; simp only at d1; rw [hwr.out] at d14; rw [hhd.out] at d16)
            | (go_at_call 33; refine (hgo _).mono ?_; rintro e w12 ⟨g3, rfl, hg3, hb12⟩; have k12 := k8.below hb12; replace hg3 : Hid (nums g3 = goL t.row t.col) := hg3; go_simp)
            | (at_builtin; refine append_str (by rfl) _ _ (by rfl) w.heap.size _ _ (by rfl) k12.row g3 (by rfl) _ hg3.out (by (try simp only [List.length_append, List.length_cons, List.length_nil]); omega) k12.size ?_; intro v13 w13 hr13 hg13; have k13 := k12.app hr13 hg13; clear hr13 hg13 k12 hb12 hg3 hgo k8; clear d1 d4 d5 d6 d7 d8 d9 d10 d11 d12 d14 d16; obtain ⟨d1, d4, d5, d6, d7, d8, d9, d10, d11, d12, d14, d16⟩ := k13.tc; simp only at d1; rw [hwr.out] at d14; rw [hhd.out] at d16; have hcv := conv_rowT k13.row))
          go_ret
          exact ⟨congrArg (fun l => Ending.returned (.string (strOfNums l))) (show _ = drawnL t from (by rw [hv.out, hE.out]; simp)), k13.bel⟩
      case false =>
        cases hhd : t.hid
        case true =>
          by_cases q1 : 0 < t.top
          case pos =>
            have qb : (0 : Int) < t.top := q1
            have hE : Hid (endL t s = sgn s t.st ++ [] ++ ([27, 91] ++ digL (t.top + 1) ++ [59] ++ digL (t.bot + 1) ++ [114]) ++ goL t.row t.col ++ [27, 91, 63, 50, 53, 108]) := by
              show _ = _
              unfold endL
              rw [hN.out, if_neg (by rw [hwr]; simp), if_pos (by omega), if_pos hhd]
            rw [hwr] at d14
            rw [hhd] at d16
            obtain ⟨s0, s1, s2, s3, s4⟩ := k.sc
            replace hwr := (show Hid _ from hwr)
            replace hhd := (show Hid _ from hhd)
            go_wp2_with (first
              | (go_at_call 34; refine (hsg _).mono ?_; rintro e w6 ⟨g, rfl, hgn, hb6⟩; have k6 := k.below hb6; replace hgn : Hid (nums g = sgn s t.st) := hgn; go_simp)
              | (at_builtin; refine append_str (by rfl) _ _ (by rfl) w.heap.size _ _ (by rfl) k6.row g (by rfl) _ hgn.out (by (try simp only [List.length_append, List.length_cons, List.length_nil]); omega) k6.size ?_; intro v7 w7 hr7 hg7; have k7 := k6.app hr7 hg7; clear hr7 hg7 s0 s1 s2 s3 s4 k6 hb6 hgn hsg; clear d1 d4 d5 d6 d7 d8 d9 d10 d11 d12 d14 d16; obtain ⟨d1, d4, d5, d6, d7, d8, d9, d10, d11, d12, d14, d16⟩ := k7.tc; simp only at d1; rw [hwr.out] at d14; rw [hhd.out] at d16))
            have hd := bdr w7
            have hci : ∀ W, Below w7.heap.size w7 W → (W.cell? ⟨w.heap.size, 11, none⟩ = some (.int .i64 t.top) ∧ W.cell? ⟨w.heap.size, 12, none⟩ = some (.int .i64 t.bot)) := fun W hW => by have := (k7.below hW).tc; exact ⟨this.2.2.2.2.2.2.2.2.1, this.2.2.2.2.2.2.2.2.2.1⟩
            refine wp_region_noPanic ?_
            refine wp_region_held_drew (S := (fun W => W.cell? ⟨w.heap.size, 11, none⟩ = some (.int .i64 t.top) ∧ W.cell? ⟨w.heap.size, 12, none⟩ = some (.int .i64 t.bot))) (by kernel_rfl) (hci _ hd) (fun hHeld => ?_)
            refine' wpAnyH_take (i := 0) (v := _) rfl (by kernel_rfl) (by kernel_rfl) (by kernel_rfl) (fun _ _ _ h => h) (Or.inl ⟨by rfl, ?hy63⟩) hHeld ?hr63
            case hy63 => (intro w hSw; (try dsimp only at hSw); go_simp; (try with_reducible rfl))
            (try simp only [Act.put, List.setIfInBounds_toArray, List.set_cons_zero, List.set_cons_succ, List.getElem_toArray, List.getElem_cons_zero])
            refine' wpAnyH_take (i := 1) (v := _) rfl (by kernel_rfl) (by kernel_rfl) (by kernel_rfl) (fun _ _ _ h => h) (Or.inl ⟨by rfl, ?hy64⟩) hHeld ?hr64
            case hy64 => (intro w hSw; (try dsimp only at hSw); go_simp; (try with_reducible rfl))
            (try simp only [Act.put, List.setIfInBounds_toArray, List.set_cons_zero, List.set_cons_succ, List.getElem_toArray, List.getElem_cons_zero, List.getElem_cons_succ])
            refine' wpAnyH_take (i := 2) (v := _) rfl (by kernel_rfl) (by kernel_rfl) (by kernel_rfl) (fun _ _ _ h => h) (Or.inl ⟨by rfl, ?hy65⟩) hHeld ?hr65
            case hy65 => (intro w hSw; (try dsimp only at hSw); go_simp; (try with_reducible rfl))
            (try simp only [Act.put, List.setIfInBounds_toArray, List.set_cons_zero, List.set_cons_succ, List.getElem_toArray, List.getElem_cons_zero, List.getElem_cons_succ])
            refine' wpAnyH_take (i := 3) (v := _) rfl (by kernel_rfl) (by kernel_rfl) (by kernel_rfl) (fun _ _ _ h => h) (Or.inl ⟨by rfl, ?hy66⟩) hHeld ?hr66
            case hy66 => (intro w hSw; (try dsimp only at hSw); go_simp; (try with_reducible rfl))
            (try simp only [Act.put, List.setIfInBounds_toArray, List.set_cons_zero, List.set_cons_succ, List.getElem_toArray, List.getElem_cons_zero, List.getElem_cons_succ])
            refine' wpAnyH_take (i := 7) (v := _) rfl (by kernel_rfl) (by kernel_rfl) (by kernel_rfl) (fun _ _ _ h => h) (Or.inl ⟨by rfl, ?hy67⟩) hHeld ?hr67
            case hy67 => (intro w hSw; (try dsimp only at hSw); go_simp; (try with_reducible rfl))
            (try simp only [Act.put, List.setIfInBounds_toArray, List.set_cons_zero, List.set_cons_succ, List.getElem_toArray, List.getElem_cons_zero, List.getElem_cons_succ])
            refine' wpAnyH_take (i := 8) (v := _) rfl (by kernel_rfl) (by kernel_rfl) (by kernel_rfl) (fun _ _ _ h => h) (Or.inl ⟨by rfl, ?hy68⟩) hHeld ?hr68
            case hy68 => (intro w hSw; (try dsimp only at hSw); go_simp; (try with_reducible rfl))
            (try simp only [Act.put, List.setIfInBounds_toArray, List.set_cons_zero, List.set_cons_succ, List.getElem_toArray, List.getElem_cons_zero, List.getElem_cons_succ])
            refine' wpAnyH_take (i := 9) (v := _) rfl (by kernel_rfl) (by kernel_rfl) (by kernel_rfl) (fun _ _ _ h => h) (Or.inl ⟨by rfl, ?hy69⟩) hHeld ?hr69
            case hy69 => (intro w hSw; (try dsimp only at hSw); go_simp; (try with_reducible rfl))
            (try simp only [Act.put, List.setIfInBounds_toArray, List.set_cons_zero, List.set_cons_succ, List.getElem_toArray, List.getElem_cons_zero, List.getElem_cons_succ])
            refine wpAnyH_ready (rs := [4]) (by kernel_rfl) (by simp) (AllReadyH.cons rfl (fun K hK => ?_) AllReadyH.nil)
            go_simp
            refine (hi1 _).mono ?_
            rintro e w9 ⟨g1, rfl, hg1n, hb9⟩
            have hz1 : g1.size ≤ 2 := by rw [← nums_len, hg1n]; omega
            replace hg1n := (show Hid _ from hg1n)
            have hd9 := hd.trans (hb9.mono hd.size)
            have hy1 : ((⟨#[27, 91]⟩ : ByteArray) ++ g1).size ≤ 4 := by rw [ByteArray.size_append]; omega
            have hy2 : ((⟨#[27, 91]⟩ : ByteArray) ++ g1 ++ ⟨#[59]⟩).size ≤ 5 := by rw [ByteArray.size_append]; omega
            have hx1 : ¬ 9223372036854775807 < 2 + g1.size := by omega
            have hx2 : ¬ 9223372036854775807 < 2 + g1.size + 1 := by omega
            go_wp2_with fail
            refine hK.out _ _ (hci _ hd9) (fun hHeld => ?_)
            clear hK K
            (try simp only [Act.put, List.setIfInBounds_toArray, List.set_cons_zero, List.set_cons_succ, List.getElem_toArray, List.getElem_cons_zero, List.getElem_cons_succ])
            refine' wpAnyH_take (i := 5) (v := _) rfl (by kernel_rfl) (by kernel_rfl) (by kernel_rfl) (fun _ _ _ h => h) (Or.inl ⟨by rfl, ?hy70⟩) hHeld ?hr70
            case hy70 => (intro w hSw; (try dsimp only at hSw); go_simp; (try with_reducible rfl))
            (try simp only [Act.put, List.setIfInBounds_toArray, List.set_cons_zero, List.set_cons_succ, List.getElem_toArray, List.getElem_cons_zero, List.getElem_cons_succ])
            refine' wpAnyH_take (i := 6) (v := _) rfl (by kernel_rfl) (by kernel_rfl) (by kernel_rfl) (fun _ _ _ h => h) (Or.inl ⟨by rfl, ?hy71⟩) hHeld ?hr71
            case hy71 => (intro w hSw; (try dsimp only at hSw); go_simp; (try with_reducible rfl))
            (try simp only [Act.put, List.setIfInBounds_toArray, List.set_cons_zero, List.set_cons_succ, List.getElem_toArray, List.getElem_cons_zero, List.getElem_cons_succ])
            refine wpAnyH_ready (rs := [10]) (by kernel_rfl) (by simp) (AllReadyH.cons rfl (fun K hK => ?_) AllReadyH.nil)
            go_simp
            refine (hi2 _).mono ?_
            rintro e w10 ⟨g2, rfl, hg2n, hb10⟩
            have hz2 : g2.size ≤ 2 := by rw [← nums_len, hg2n]; omega
            replace hg2n := (show Hid _ from hg2n)
            have hd10 := hd9.trans (hb10.mono hd9.size)
            have hy3 : ((⟨#[27, 91]⟩ : ByteArray) ++ g1 ++ ⟨#[59]⟩ ++ g2).size ≤ 7 := by rw [ByteArray.size_append]; omega
            have hx3 : ¬ 9223372036854775807 < 2 + g1.size + 1 + g2.size := by omega
            have hx4 : ¬ 9223372036854775807 < 2 + g1.size + 1 + g2.size + 1 := by omega
            go_wp2_with fail
            refine hK.out _ _ (hci _ hd10) (fun hHeld => ?_)
            clear hK K
            (try simp only [Act.put, List.setIfInBounds_toArray, List.set_cons_zero, List.set_cons_succ, List.getElem_toArray, List.getElem_cons_zero, List.getElem_cons_succ])
            refine' wpAnyH_take (i := 11) (v := _) rfl (by kernel_rfl) (by kernel_rfl) (by kernel_rfl) (fun _ _ _ h => h) (Or.inl ⟨by rfl, ?hy72⟩) hHeld ?hr72
            case hy72 => (intro w hSw; (try dsimp only at hSw); go_simp; (try with_reducible rfl))
            (try simp only [Act.put, List.setIfInBounds_toArray, List.set_cons_zero, List.set_cons_succ, List.getElem_toArray, List.getElem_cons_zero, List.getElem_cons_succ])
            refine' wpAnyH_take (i := 12) (v := _) rfl (by kernel_rfl) (by kernel_rfl) (by kernel_rfl) (fun _ _ _ h => h) (Or.inl ⟨by rfl, ?hy73⟩) hHeld ?hr73
            case hy73 => (intro w hSw; (try dsimp only at hSw); go_simp; (try with_reducible rfl))
            (try simp only [Act.put, List.setIfInBounds_toArray, List.set_cons_zero, List.set_cons_succ, List.getElem_toArray, List.getElem_cons_zero, List.getElem_cons_succ])
            have k10 := k7.below hd10
            have hM : nums ((⟨#[27, 91]⟩ : ByteArray) ++ g1 ++ ⟨#[59]⟩ ++ g2 ++ ⟨#[114]⟩) = [27, 91] ++ digL (t.top + 1) ++ [59] ++ digL (t.bot + 1) ++ [114] := by rw [nums_app5, nums_app5, nums_app5, nums_app5, hg1n.out, hg2n.out, hn114.out, hn59.out, hn27.out]
            refine wpAnyH_ready (rs := [13]) (by kernel_rfl) (by simp) (AllReadyH.cons rfl (fun K hK => ?_) AllReadyH.nil)
            refine step_append_str (by rfl) _ _ (by rfl) w.heap.size _ _ (by rfl) k10.row _ (by rfl) _ hM (by (try simp only [List.length_append, List.length_cons, List.length_nil]); omega) k10.size ?_
            intro v11 w11 hr11 hg11
            have k11 := k10.app hr11 hg11
            have htc := k11.tc
            refine hK.out _ _ ⟨htc.2.2.2.2.2.2.2.2.1, htc.2.2.2.2.2.2.2.2.2.1⟩ (fun hHeld => ?_)
            clear hK K htc
            (try simp only [Act.put, List.setIfInBounds_toArray, List.set_cons_zero, List.set_cons_succ, List.getElem_toArray, List.getElem_cons_zero, List.getElem_cons_succ])
            refine' wpAnyH_take (i := 14) (v := _) rfl (by kernel_rfl) (by kernel_rfl) (by kernel_rfl) (fun _ _ _ h => h) (Or.inl ⟨by rfl, ?hy74⟩) hHeld ?hr74
            case hy74 => (intro w hSw; (try dsimp only at hSw); go_simp; (try with_reducible rfl))
            (try simp only [Act.put, List.setIfInBounds_toArray, List.set_cons_zero, List.set_cons_succ, List.getElem_toArray, List.getElem_cons_zero, List.getElem_cons_succ])
            refine wpAnyH_done (by kernel_rfl) ?_ _
            refine NoPanic.normal ?_
            clear hr11 hg11 k10 hd10 hb10 hd9 hb9 hM hg1n hg2n hz1 hz2 hy1 hy2 hy3 hx1 hx2 hx3 hx4 hci hd hHeld hi1 hi2 k7
            clear d1 d4 d5 d6 d7 d8 d9 d10 d11 d12 d14 d16
            obtain ⟨d1, d4, d5, d6, d7, d8, d9, d10, d11, d12, d14, d16⟩ := k11.tc
            simp only at d1
            rw [hwr.out] at d14
            rw [hhd.out] at d16
            go_wp2_with (first
              | (go_at_call 33; refine (hgo _).mono ?_; rintro e w12 ⟨g3, rfl, hg3, hb12⟩; have k12 := k11.below hb12; replace hg3 : Hid (nums g3 = goL t.row t.col) := hg3; go_simp)
              | (at_builtin; refine append_str (by rfl) _ _ (by rfl) w.heap.size _ _ (by rfl) k12.row g3 (by rfl) _ hg3.out (by (try simp only [List.length_append, List.length_cons, List.length_nil]); omega) k12.size ?_; intro v13 w13 hr13 hg13; have k13 := k12.app hr13 hg13; clear hr13 hg13 k12 hb12 hg3 hgo k11; clear d1 d4 d5 d6 d7 d8 d9 d10 d11 d12 d14 d16; obtain ⟨d1, d4, d5, d6, d7, d8, d9, d10, d11, d12, d14, d16⟩ := k13.tc; simp only at d1; rw [hwr.out] at d14; rw [hhd.out] at d16)
              | (at_builtin; refine append_str (by rfl) _ _ (by rfl) w.heap.size _ _ (by rfl) k13.row ⟨#[27, 91, 63, 50, 53, 108]⟩ (by rfl) _ (show nums _ = [27, 91, 63, 50, 53, 108] from rfl) (by (try simp only [List.length_append, List.length_cons, List.length_nil]); omega) k13.size ?_; intro v14 w14 hr14 hg14; have k14 := k13.app hr14 hg14; clear hr14 hg14; have hcv := conv_rowT k14.row))
            go_ret
            exact ⟨congrArg (fun l => Ending.returned (.string (strOfNums l))) (show _ = drawnL t from (by rw [hv.out, hE.out]; simp)), k14.bel⟩
          by_cases q2 : t.bot < (j : Int) - 1
          case pos =>
            have hE : Hid (endL t s = sgn s t.st ++ [] ++ ([27, 91] ++ digL (t.top + 1) ++ [59] ++ digL (t.bot + 1) ++ [114]) ++ goL t.row t.col ++ [27, 91, 63, 50, 53, 108]) := by
              show _ = _
              unfold endL
              rw [hN.out, if_neg (by rw [hwr]; simp), if_pos (by omega), if_pos hhd]
            rw [hwr] at d14
            rw [hhd] at d16
            obtain ⟨s0, s1, s2, s3, s4⟩ := k.sc
            replace hwr := (show Hid _ from hwr)
            replace hhd := (show Hid _ from hhd)
            go_wp2_with (first
              | (go_at_call 34; refine (hsg _).mono ?_; rintro e w6 ⟨g, rfl, hgn, hb6⟩; have k6 := k.below hb6; replace hgn : Hid (nums g = sgn s t.st) := hgn; go_simp)
              | (at_builtin; refine append_str (by rfl) _ _ (by rfl) w.heap.size _ _ (by rfl) k6.row g (by rfl) _ hgn.out (by (try simp only [List.length_append, List.length_cons, List.length_nil]); omega) k6.size ?_; intro v7 w7 hr7 hg7; have k7 := k6.app hr7 hg7; clear hr7 hg7 s0 s1 s2 s3 s4 k6 hb6 hgn hsg; clear d1 d4 d5 d6 d7 d8 d9 d10 d11 d12 d14 d16; obtain ⟨d1, d4, d5, d6, d7, d8, d9, d10, d11, d12, d14, d16⟩ := k7.tc; simp only at d1; rw [hwr.out] at d14; rw [hhd.out] at d16))
            have hd := bdr w7
            have hci : ∀ W, Below w7.heap.size w7 W → (W.cell? ⟨w.heap.size, 11, none⟩ = some (.int .i64 t.top) ∧ W.cell? ⟨w.heap.size, 12, none⟩ = some (.int .i64 t.bot)) := fun W hW => by have := (k7.below hW).tc; exact ⟨this.2.2.2.2.2.2.2.2.1, this.2.2.2.2.2.2.2.2.2.1⟩
            refine wp_region_noPanic ?_
            refine wp_region_held_drew (S := (fun W => W.cell? ⟨w.heap.size, 11, none⟩ = some (.int .i64 t.top) ∧ W.cell? ⟨w.heap.size, 12, none⟩ = some (.int .i64 t.bot))) (by kernel_rfl) (hci _ hd) (fun hHeld => ?_)
            refine' wpAnyH_take (i := 0) (v := _) rfl (by kernel_rfl) (by kernel_rfl) (by kernel_rfl) (fun _ _ _ h => h) (Or.inl ⟨by rfl, ?hy75⟩) hHeld ?hr75
            case hy75 => (intro w hSw; (try dsimp only at hSw); go_simp; (try with_reducible rfl))
            (try simp only [Act.put, List.setIfInBounds_toArray, List.set_cons_zero, List.set_cons_succ, List.getElem_toArray, List.getElem_cons_zero])
            refine' wpAnyH_take (i := 1) (v := _) rfl (by kernel_rfl) (by kernel_rfl) (by kernel_rfl) (fun _ _ _ h => h) (Or.inl ⟨by rfl, ?hy76⟩) hHeld ?hr76
            case hy76 => (intro w hSw; (try dsimp only at hSw); go_simp; (try with_reducible rfl))
            (try simp only [Act.put, List.setIfInBounds_toArray, List.set_cons_zero, List.set_cons_succ, List.getElem_toArray, List.getElem_cons_zero, List.getElem_cons_succ])
            refine' wpAnyH_take (i := 2) (v := _) rfl (by kernel_rfl) (by kernel_rfl) (by kernel_rfl) (fun _ _ _ h => h) (Or.inl ⟨by rfl, ?hy77⟩) hHeld ?hr77
            case hy77 => (intro w hSw; (try dsimp only at hSw); go_simp; (try with_reducible rfl))
            (try simp only [Act.put, List.setIfInBounds_toArray, List.set_cons_zero, List.set_cons_succ, List.getElem_toArray, List.getElem_cons_zero, List.getElem_cons_succ])
            refine' wpAnyH_take (i := 3) (v := _) rfl (by kernel_rfl) (by kernel_rfl) (by kernel_rfl) (fun _ _ _ h => h) (Or.inl ⟨by rfl, ?hy78⟩) hHeld ?hr78
            case hy78 => (intro w hSw; (try dsimp only at hSw); go_simp; (try with_reducible rfl))
            (try simp only [Act.put, List.setIfInBounds_toArray, List.set_cons_zero, List.set_cons_succ, List.getElem_toArray, List.getElem_cons_zero, List.getElem_cons_succ])
            refine' wpAnyH_take (i := 7) (v := _) rfl (by kernel_rfl) (by kernel_rfl) (by kernel_rfl) (fun _ _ _ h => h) (Or.inl ⟨by rfl, ?hy79⟩) hHeld ?hr79
            case hy79 => (intro w hSw; (try dsimp only at hSw); go_simp; (try with_reducible rfl))
            (try simp only [Act.put, List.setIfInBounds_toArray, List.set_cons_zero, List.set_cons_succ, List.getElem_toArray, List.getElem_cons_zero, List.getElem_cons_succ])
            refine' wpAnyH_take (i := 8) (v := _) rfl (by kernel_rfl) (by kernel_rfl) (by kernel_rfl) (fun _ _ _ h => h) (Or.inl ⟨by rfl, ?hy80⟩) hHeld ?hr80
            case hy80 => (intro w hSw; (try dsimp only at hSw); go_simp; (try with_reducible rfl))
            (try simp only [Act.put, List.setIfInBounds_toArray, List.set_cons_zero, List.set_cons_succ, List.getElem_toArray, List.getElem_cons_zero, List.getElem_cons_succ])
            refine' wpAnyH_take (i := 9) (v := _) rfl (by kernel_rfl) (by kernel_rfl) (by kernel_rfl) (fun _ _ _ h => h) (Or.inl ⟨by rfl, ?hy81⟩) hHeld ?hr81
            case hy81 => (intro w hSw; (try dsimp only at hSw); go_simp; (try with_reducible rfl))
            (try simp only [Act.put, List.setIfInBounds_toArray, List.set_cons_zero, List.set_cons_succ, List.getElem_toArray, List.getElem_cons_zero, List.getElem_cons_succ])
            refine wpAnyH_ready (rs := [4]) (by kernel_rfl) (by simp) (AllReadyH.cons rfl (fun K hK => ?_) AllReadyH.nil)
            go_simp
            refine (hi1 _).mono ?_
            rintro e w9 ⟨g1, rfl, hg1n, hb9⟩
            have hz1 : g1.size ≤ 2 := by rw [← nums_len, hg1n]; omega
            replace hg1n := (show Hid _ from hg1n)
            have hd9 := hd.trans (hb9.mono hd.size)
            have hy1 : ((⟨#[27, 91]⟩ : ByteArray) ++ g1).size ≤ 4 := by rw [ByteArray.size_append]; omega
            have hy2 : ((⟨#[27, 91]⟩ : ByteArray) ++ g1 ++ ⟨#[59]⟩).size ≤ 5 := by rw [ByteArray.size_append]; omega
            have hx1 : ¬ 9223372036854775807 < 2 + g1.size := by omega
            have hx2 : ¬ 9223372036854775807 < 2 + g1.size + 1 := by omega
            go_wp2_with fail
            refine hK.out _ _ (hci _ hd9) (fun hHeld => ?_)
            clear hK K
            (try simp only [Act.put, List.setIfInBounds_toArray, List.set_cons_zero, List.set_cons_succ, List.getElem_toArray, List.getElem_cons_zero, List.getElem_cons_succ])
            refine' wpAnyH_take (i := 5) (v := _) rfl (by kernel_rfl) (by kernel_rfl) (by kernel_rfl) (fun _ _ _ h => h) (Or.inl ⟨by rfl, ?hy82⟩) hHeld ?hr82
            case hy82 => (intro w hSw; (try dsimp only at hSw); go_simp; (try with_reducible rfl))
            (try simp only [Act.put, List.setIfInBounds_toArray, List.set_cons_zero, List.set_cons_succ, List.getElem_toArray, List.getElem_cons_zero, List.getElem_cons_succ])
            refine' wpAnyH_take (i := 6) (v := _) rfl (by kernel_rfl) (by kernel_rfl) (by kernel_rfl) (fun _ _ _ h => h) (Or.inl ⟨by rfl, ?hy83⟩) hHeld ?hr83
            case hy83 => (intro w hSw; (try dsimp only at hSw); go_simp; (try with_reducible rfl))
            (try simp only [Act.put, List.setIfInBounds_toArray, List.set_cons_zero, List.set_cons_succ, List.getElem_toArray, List.getElem_cons_zero, List.getElem_cons_succ])
            refine wpAnyH_ready (rs := [10]) (by kernel_rfl) (by simp) (AllReadyH.cons rfl (fun K hK => ?_) AllReadyH.nil)
            go_simp
            refine (hi2 _).mono ?_
            rintro e w10 ⟨g2, rfl, hg2n, hb10⟩
            have hz2 : g2.size ≤ 2 := by rw [← nums_len, hg2n]; omega
            replace hg2n := (show Hid _ from hg2n)
            have hd10 := hd9.trans (hb10.mono hd9.size)
            have hy3 : ((⟨#[27, 91]⟩ : ByteArray) ++ g1 ++ ⟨#[59]⟩ ++ g2).size ≤ 7 := by rw [ByteArray.size_append]; omega
            have hx3 : ¬ 9223372036854775807 < 2 + g1.size + 1 + g2.size := by omega
            have hx4 : ¬ 9223372036854775807 < 2 + g1.size + 1 + g2.size + 1 := by omega
            go_wp2_with fail
            refine hK.out _ _ (hci _ hd10) (fun hHeld => ?_)
            clear hK K
            (try simp only [Act.put, List.setIfInBounds_toArray, List.set_cons_zero, List.set_cons_succ, List.getElem_toArray, List.getElem_cons_zero, List.getElem_cons_succ])
            refine' wpAnyH_take (i := 11) (v := _) rfl (by kernel_rfl) (by kernel_rfl) (by kernel_rfl) (fun _ _ _ h => h) (Or.inl ⟨by rfl, ?hy84⟩) hHeld ?hr84
            case hy84 => (intro w hSw; (try dsimp only at hSw); go_simp; (try with_reducible rfl))
            (try simp only [Act.put, List.setIfInBounds_toArray, List.set_cons_zero, List.set_cons_succ, List.getElem_toArray, List.getElem_cons_zero, List.getElem_cons_succ])
            refine' wpAnyH_take (i := 12) (v := _) rfl (by kernel_rfl) (by kernel_rfl) (by kernel_rfl) (fun _ _ _ h => h) (Or.inl ⟨by rfl, ?hy85⟩) hHeld ?hr85
            case hy85 => (intro w hSw; (try dsimp only at hSw); go_simp; (try with_reducible rfl))
            (try simp only [Act.put, List.setIfInBounds_toArray, List.set_cons_zero, List.set_cons_succ, List.getElem_toArray, List.getElem_cons_zero, List.getElem_cons_succ])
            have k10 := k7.below hd10
            have hM : nums ((⟨#[27, 91]⟩ : ByteArray) ++ g1 ++ ⟨#[59]⟩ ++ g2 ++ ⟨#[114]⟩) = [27, 91] ++ digL (t.top + 1) ++ [59] ++ digL (t.bot + 1) ++ [114] := by rw [nums_app5, nums_app5, nums_app5, nums_app5, hg1n.out, hg2n.out, hn114.out, hn59.out, hn27.out]
            refine wpAnyH_ready (rs := [13]) (by kernel_rfl) (by simp) (AllReadyH.cons rfl (fun K hK => ?_) AllReadyH.nil)
            refine step_append_str (by rfl) _ _ (by rfl) w.heap.size _ _ (by rfl) k10.row _ (by rfl) _ hM (by (try simp only [List.length_append, List.length_cons, List.length_nil]); omega) k10.size ?_
            intro v11 w11 hr11 hg11
            have k11 := k10.app hr11 hg11
            have htc := k11.tc
            refine hK.out _ _ ⟨htc.2.2.2.2.2.2.2.2.1, htc.2.2.2.2.2.2.2.2.2.1⟩ (fun hHeld => ?_)
            clear hK K htc
            (try simp only [Act.put, List.setIfInBounds_toArray, List.set_cons_zero, List.set_cons_succ, List.getElem_toArray, List.getElem_cons_zero, List.getElem_cons_succ])
            refine' wpAnyH_take (i := 14) (v := _) rfl (by kernel_rfl) (by kernel_rfl) (by kernel_rfl) (fun _ _ _ h => h) (Or.inl ⟨by rfl, ?hy86⟩) hHeld ?hr86
            case hy86 => (intro w hSw; (try dsimp only at hSw); go_simp; (try with_reducible rfl))
            (try simp only [Act.put, List.setIfInBounds_toArray, List.set_cons_zero, List.set_cons_succ, List.getElem_toArray, List.getElem_cons_zero, List.getElem_cons_succ])
            refine wpAnyH_done (by kernel_rfl) ?_ _
            refine NoPanic.normal ?_
            clear hr11 hg11 k10 hd10 hb10 hd9 hb9 hM hg1n hg2n hz1 hz2 hy1 hy2 hy3 hx1 hx2 hx3 hx4 hci hd hHeld hi1 hi2 k7
            clear d1 d4 d5 d6 d7 d8 d9 d10 d11 d12 d14 d16
            obtain ⟨d1, d4, d5, d6, d7, d8, d9, d10, d11, d12, d14, d16⟩ := k11.tc
            simp only at d1
            rw [hwr.out] at d14
            rw [hhd.out] at d16
            go_wp2_with (first
              | (go_at_call 33; refine (hgo _).mono ?_; rintro e w12 ⟨g3, rfl, hg3, hb12⟩; have k12 := k11.below hb12; replace hg3 : Hid (nums g3 = goL t.row t.col) := hg3; go_simp)
              | (at_builtin; refine append_str (by rfl) _ _ (by rfl) w.heap.size _ _ (by rfl) k12.row g3 (by rfl) _ hg3.out (by (try simp only [List.length_append, List.length_cons, List.length_nil]); omega) k12.size ?_; intro v13 w13 hr13 hg13; have k13 := k12.app hr13 hg13; clear hr13 hg13 k12 hb12 hg3 hgo k11; clear d1 d4 d5 d6 d7 d8 d9 d10 d11 d12 d14 d16; obtain ⟨d1, d4, d5, d6, d7, d8, d9, d10, d11, d12, d14, d16⟩ := k13.tc; simp only at d1; rw [hwr.out] at d14; rw [hhd.out] at d16)
              | (at_builtin; refine append_str (by rfl) _ _ (by rfl) w.heap.size _ _ (by rfl) k13.row ⟨#[27, 91, 63, 50, 53, 108]⟩ (by rfl) _ (show nums _ = [27, 91, 63, 50, 53, 108] from rfl) (by (try simp only [List.length_append, List.length_cons, List.length_nil]); omega) k13.size ?_; intro v14 w14 hr14 hg14; have k14 := k13.app hr14 hg14; clear hr14 hg14; have hcv := conv_rowT k14.row))
            go_ret
            exact ⟨congrArg (fun l => Ending.returned (.string (strOfNums l))) (show _ = drawnL t from (by rw [hv.out, hE.out]; simp)), k14.bel⟩
          have hE : Hid (endL t s = sgn s t.st ++ [] ++ [] ++ goL t.row t.col ++ [27, 91, 63, 50, 53, 108]) := by
            show _ = _
            unfold endL
            rw [hN.out, if_neg (by rw [hwr]; simp), if_neg (by omega), if_pos hhd]
          rw [hwr] at d14
          rw [hhd] at d16
          obtain ⟨s0, s1, s2, s3, s4⟩ := k.sc
          replace hwr := (show Hid _ from hwr)
          replace hhd := (show Hid _ from hhd)
          go_wp2_with (first
            | (go_at_call 34; refine (hsg _).mono ?_; rintro e w6 ⟨g, rfl, hgn, hb6⟩; have k6 := k.below hb6; replace hgn : Hid (nums g = sgn s t.st) := hgn; go_simp)
            | (at_builtin; refine append_str (by rfl) _ _ (by rfl) w.heap.size _ _ (by rfl) k6.row g (by rfl) _ hgn.out (by (try simp only [List.length_append, List.length_cons, List.length_nil]); omega) k6.size ?_; intro v7 w7 hr7 hg7; have k7 := k6.app hr7 hg7; clear hr7 hg7 s0 s1 s2 s3 s4 k6 hb6 hgn hsg; clear d1 d4 d5 d6 d7 d8 d9 d10 d11 d12 d14 d16; obtain ⟨d1, d4, d5, d6, d7, d8, d9, d10, d11, d12, d14, d16⟩ := k7.tc; simp only at d1; rw [hwr.out] at d14; rw [hhd.out] at d16)
            | (go_at_call 33; refine (hgo _).mono ?_; rintro e w12 ⟨g3, rfl, hg3, hb12⟩; have k12 := k7.below hb12; replace hg3 : Hid (nums g3 = goL t.row t.col) := hg3; go_simp)
            | (at_builtin; refine append_str (by rfl) _ _ (by rfl) w.heap.size _ _ (by rfl) k12.row g3 (by rfl) _ hg3.out (by (try simp only [List.length_append]); omega) k12.size ?_; intro v13 w13 hr13 hg13; have k13 := k12.app hr13 hg13; clear hr13 hg13 k12 hb12 hg3 hgo k7; clear d1 d4 d5 d6 d7 d8 d9 d10 d11 d12 d14 d16; obtain ⟨d1, d4, d5, d6, d7, d8, d9, d10, d11, d12, d14, d16⟩ := k13.tc; simp only at d1; rw [hwr.out] at d14; rw [hhd.out] at d16)
            | (at_builtin; refine append_str (by rfl) _ _ (by rfl) w.heap.size _ _ (by rfl) k13.row ⟨#[27, 91, 63, 50, 53, 108]⟩ (by rfl) _ (show nums _ = [27, 91, 63, 50, 53, 108] from rfl) (by (try simp only [List.length_append, List.length_cons, List.length_nil]); omega) k13.size ?_; intro v14 w14 hr14 hg14; have k14 := k13.app hr14 hg14; clear hr14 hg14; have hcv := conv_rowT k14.row))
          go_ret
          exact ⟨congrArg (fun l => Ending.returned (.string (strOfNums l))) (show _ = drawnL t from (by rw [hv.out, hE.out]; simp)), k14.bel⟩
        case false =>
          by_cases q1 : 0 < t.top
          case pos =>
            have qb : (0 : Int) < t.top := q1
            have hE : Hid (endL t s = sgn s t.st ++ [] ++ ([27, 91] ++ digL (t.top + 1) ++ [59] ++ digL (t.bot + 1) ++ [114]) ++ goL t.row t.col ++ []) := by
              show _ = _
              unfold endL
              rw [hN.out, if_neg (by rw [hwr]; simp), if_pos (by omega), if_neg (by rw [hhd]; simp)]
            rw [hwr] at d14
            rw [hhd] at d16
            obtain ⟨s0, s1, s2, s3, s4⟩ := k.sc
            replace hwr := (show Hid _ from hwr)
            replace hhd := (show Hid _ from hhd)
            go_wp2_with (first
              | (go_at_call 34; refine (hsg _).mono ?_; rintro e w6 ⟨g, rfl, hgn, hb6⟩; have k6 := k.below hb6; replace hgn : Hid (nums g = sgn s t.st) := hgn; go_simp)
              | (at_builtin; refine append_str (by rfl) _ _ (by rfl) w.heap.size _ _ (by rfl) k6.row g (by rfl) _ hgn.out (by (try simp only [List.length_append, List.length_cons, List.length_nil]); omega) k6.size ?_; intro v7 w7 hr7 hg7; have k7 := k6.app hr7 hg7; clear hr7 hg7 s0 s1 s2 s3 s4 k6 hb6 hgn hsg; clear d1 d4 d5 d6 d7 d8 d9 d10 d11 d12 d14 d16; obtain ⟨d1, d4, d5, d6, d7, d8, d9, d10, d11, d12, d14, d16⟩ := k7.tc; simp only at d1; rw [hwr.out] at d14; rw [hhd.out] at d16))
            have hd := bdr w7
            have hci : ∀ W, Below w7.heap.size w7 W → (W.cell? ⟨w.heap.size, 11, none⟩ = some (.int .i64 t.top) ∧ W.cell? ⟨w.heap.size, 12, none⟩ = some (.int .i64 t.bot)) := fun W hW => by have := (k7.below hW).tc; exact ⟨this.2.2.2.2.2.2.2.2.1, this.2.2.2.2.2.2.2.2.2.1⟩
            refine wp_region_noPanic ?_
            refine wp_region_held_drew (S := (fun W => W.cell? ⟨w.heap.size, 11, none⟩ = some (.int .i64 t.top) ∧ W.cell? ⟨w.heap.size, 12, none⟩ = some (.int .i64 t.bot))) (by kernel_rfl) (hci _ hd) (fun hHeld => ?_)
            refine' wpAnyH_take (i := 0) (v := _) rfl (by kernel_rfl) (by kernel_rfl) (by kernel_rfl) (fun _ _ _ h => h) (Or.inl ⟨by rfl, ?hy87⟩) hHeld ?hr87
            case hy87 => (intro w hSw; (try dsimp only at hSw); go_simp; (try with_reducible rfl))
            (try simp only [Act.put, List.setIfInBounds_toArray, List.set_cons_zero, List.set_cons_succ, List.getElem_toArray, List.getElem_cons_zero])
            refine' wpAnyH_take (i := 1) (v := _) rfl (by kernel_rfl) (by kernel_rfl) (by kernel_rfl) (fun _ _ _ h => h) (Or.inl ⟨by rfl, ?hy88⟩) hHeld ?hr88
            case hy88 => (intro w hSw; (try dsimp only at hSw); go_simp; (try with_reducible rfl))
            (try simp only [Act.put, List.setIfInBounds_toArray, List.set_cons_zero, List.set_cons_succ, List.getElem_toArray, List.getElem_cons_zero, List.getElem_cons_succ])
            refine' wpAnyH_take (i := 2) (v := _) rfl (by kernel_rfl) (by kernel_rfl) (by kernel_rfl) (fun _ _ _ h => h) (Or.inl ⟨by rfl, ?hy89⟩) hHeld ?hr89
            case hy89 => (intro w hSw; (try dsimp only at hSw); go_simp; (try with_reducible rfl))
            (try simp only [Act.put, List.setIfInBounds_toArray, List.set_cons_zero, List.set_cons_succ, List.getElem_toArray, List.getElem_cons_zero, List.getElem_cons_succ])
            refine' wpAnyH_take (i := 3) (v := _) rfl (by kernel_rfl) (by kernel_rfl) (by kernel_rfl) (fun _ _ _ h => h) (Or.inl ⟨by rfl, ?hy90⟩) hHeld ?hr90
            case hy90 => (intro w hSw; (try dsimp only at hSw); go_simp; (try with_reducible rfl))
            (try simp only [Act.put, List.setIfInBounds_toArray, List.set_cons_zero, List.set_cons_succ, List.getElem_toArray, List.getElem_cons_zero, List.getElem_cons_succ])
            refine' wpAnyH_take (i := 7) (v := _) rfl (by kernel_rfl) (by kernel_rfl) (by kernel_rfl) (fun _ _ _ h => h) (Or.inl ⟨by rfl, ?hy91⟩) hHeld ?hr91
            case hy91 => (intro w hSw; (try dsimp only at hSw); go_simp; (try with_reducible rfl))
            (try simp only [Act.put, List.setIfInBounds_toArray, List.set_cons_zero, List.set_cons_succ, List.getElem_toArray, List.getElem_cons_zero, List.getElem_cons_succ])
            refine' wpAnyH_take (i := 8) (v := _) rfl (by kernel_rfl) (by kernel_rfl) (by kernel_rfl) (fun _ _ _ h => h) (Or.inl ⟨by rfl, ?hy92⟩) hHeld ?hr92
            case hy92 => (intro w hSw; (try dsimp only at hSw); go_simp; (try with_reducible rfl))
            (try simp only [Act.put, List.setIfInBounds_toArray, List.set_cons_zero, List.set_cons_succ, List.getElem_toArray, List.getElem_cons_zero, List.getElem_cons_succ])
            refine' wpAnyH_take (i := 9) (v := _) rfl (by kernel_rfl) (by kernel_rfl) (by kernel_rfl) (fun _ _ _ h => h) (Or.inl ⟨by rfl, ?hy93⟩) hHeld ?hr93
            case hy93 => (intro w hSw; (try dsimp only at hSw); go_simp; (try with_reducible rfl))
            (try simp only [Act.put, List.setIfInBounds_toArray, List.set_cons_zero, List.set_cons_succ, List.getElem_toArray, List.getElem_cons_zero, List.getElem_cons_succ])
            refine wpAnyH_ready (rs := [4]) (by kernel_rfl) (by simp) (AllReadyH.cons rfl (fun K hK => ?_) AllReadyH.nil)
            go_simp
            refine (hi1 _).mono ?_
            rintro e w9 ⟨g1, rfl, hg1n, hb9⟩
            have hz1 : g1.size ≤ 2 := by rw [← nums_len, hg1n]; omega
            replace hg1n := (show Hid _ from hg1n)
            have hd9 := hd.trans (hb9.mono hd.size)
            have hy1 : ((⟨#[27, 91]⟩ : ByteArray) ++ g1).size ≤ 4 := by rw [ByteArray.size_append]; omega
            have hy2 : ((⟨#[27, 91]⟩ : ByteArray) ++ g1 ++ ⟨#[59]⟩).size ≤ 5 := by rw [ByteArray.size_append]; omega
            have hx1 : ¬ 9223372036854775807 < 2 + g1.size := by omega
            have hx2 : ¬ 9223372036854775807 < 2 + g1.size + 1 := by omega
            go_wp2_with fail
            refine hK.out _ _ (hci _ hd9) (fun hHeld => ?_)
            clear hK K
            (try simp only [Act.put, List.setIfInBounds_toArray, List.set_cons_zero, List.set_cons_succ, List.getElem_toArray, List.getElem_cons_zero, List.getElem_cons_succ])
            refine' wpAnyH_take (i := 5) (v := _) rfl (by kernel_rfl) (by kernel_rfl) (by kernel_rfl) (fun _ _ _ h => h) (Or.inl ⟨by rfl, ?hy94⟩) hHeld ?hr94
            case hy94 => (intro w hSw; (try dsimp only at hSw); go_simp; (try with_reducible rfl))
            (try simp only [Act.put, List.setIfInBounds_toArray, List.set_cons_zero, List.set_cons_succ, List.getElem_toArray, List.getElem_cons_zero, List.getElem_cons_succ])
            refine' wpAnyH_take (i := 6) (v := _) rfl (by kernel_rfl) (by kernel_rfl) (by kernel_rfl) (fun _ _ _ h => h) (Or.inl ⟨by rfl, ?hy95⟩) hHeld ?hr95
            case hy95 => (intro w hSw; (try dsimp only at hSw); go_simp; (try with_reducible rfl))
            (try simp only [Act.put, List.setIfInBounds_toArray, List.set_cons_zero, List.set_cons_succ, List.getElem_toArray, List.getElem_cons_zero, List.getElem_cons_succ])
            refine wpAnyH_ready (rs := [10]) (by kernel_rfl) (by simp) (AllReadyH.cons rfl (fun K hK => ?_) AllReadyH.nil)
            go_simp
            refine (hi2 _).mono ?_
            rintro e w10 ⟨g2, rfl, hg2n, hb10⟩
            have hz2 : g2.size ≤ 2 := by rw [← nums_len, hg2n]; omega
            replace hg2n := (show Hid _ from hg2n)
            have hd10 := hd9.trans (hb10.mono hd9.size)
            have hy3 : ((⟨#[27, 91]⟩ : ByteArray) ++ g1 ++ ⟨#[59]⟩ ++ g2).size ≤ 7 := by rw [ByteArray.size_append]; omega
            have hx3 : ¬ 9223372036854775807 < 2 + g1.size + 1 + g2.size := by omega
            have hx4 : ¬ 9223372036854775807 < 2 + g1.size + 1 + g2.size + 1 := by omega
            go_wp2_with fail
            refine hK.out _ _ (hci _ hd10) (fun hHeld => ?_)
            clear hK K
            (try simp only [Act.put, List.setIfInBounds_toArray, List.set_cons_zero, List.set_cons_succ, List.getElem_toArray, List.getElem_cons_zero, List.getElem_cons_succ])
            refine' wpAnyH_take (i := 11) (v := _) rfl (by kernel_rfl) (by kernel_rfl) (by kernel_rfl) (fun _ _ _ h => h) (Or.inl ⟨by rfl, ?hy96⟩) hHeld ?hr96
            case hy96 => (intro w hSw; (try dsimp only at hSw); go_simp; (try with_reducible rfl))
            (try simp only [Act.put, List.setIfInBounds_toArray, List.set_cons_zero, List.set_cons_succ, List.getElem_toArray, List.getElem_cons_zero, List.getElem_cons_succ])
            refine' wpAnyH_take (i := 12) (v := _) rfl (by kernel_rfl) (by kernel_rfl) (by kernel_rfl) (fun _ _ _ h => h) (Or.inl ⟨by rfl, ?hy97⟩) hHeld ?hr97
            case hy97 => (intro w hSw; (try dsimp only at hSw); go_simp; (try with_reducible rfl))
            (try simp only [Act.put, List.setIfInBounds_toArray, List.set_cons_zero, List.set_cons_succ, List.getElem_toArray, List.getElem_cons_zero, List.getElem_cons_succ])
            have k10 := k7.below hd10
            have hM : nums ((⟨#[27, 91]⟩ : ByteArray) ++ g1 ++ ⟨#[59]⟩ ++ g2 ++ ⟨#[114]⟩) = [27, 91] ++ digL (t.top + 1) ++ [59] ++ digL (t.bot + 1) ++ [114] := by rw [nums_app5, nums_app5, nums_app5, nums_app5, hg1n.out, hg2n.out, hn114.out, hn59.out, hn27.out]
            refine wpAnyH_ready (rs := [13]) (by kernel_rfl) (by simp) (AllReadyH.cons rfl (fun K hK => ?_) AllReadyH.nil)
            refine step_append_str (by rfl) _ _ (by rfl) w.heap.size _ _ (by rfl) k10.row _ (by rfl) _ hM (by (try simp only [List.length_append, List.length_cons, List.length_nil]); omega) k10.size ?_
            intro v11 w11 hr11 hg11
            have k11 := k10.app hr11 hg11
            have htc := k11.tc
            refine hK.out _ _ ⟨htc.2.2.2.2.2.2.2.2.1, htc.2.2.2.2.2.2.2.2.2.1⟩ (fun hHeld => ?_)
            clear hK K htc
            (try simp only [Act.put, List.setIfInBounds_toArray, List.set_cons_zero, List.set_cons_succ, List.getElem_toArray, List.getElem_cons_zero, List.getElem_cons_succ])
            refine' wpAnyH_take (i := 14) (v := _) rfl (by kernel_rfl) (by kernel_rfl) (by kernel_rfl) (fun _ _ _ h => h) (Or.inl ⟨by rfl, ?hy98⟩) hHeld ?hr98
            case hy98 => (intro w hSw; (try dsimp only at hSw); go_simp; (try with_reducible rfl))
            (try simp only [Act.put, List.setIfInBounds_toArray, List.set_cons_zero, List.set_cons_succ, List.getElem_toArray, List.getElem_cons_zero, List.getElem_cons_succ])
            refine wpAnyH_done (by kernel_rfl) ?_ _
            refine NoPanic.normal ?_
            clear hr11 hg11 k10 hd10 hb10 hd9 hb9 hM hg1n hg2n hz1 hz2 hy1 hy2 hy3 hx1 hx2 hx3 hx4 hci hd hHeld hi1 hi2 k7
            clear d1 d4 d5 d6 d7 d8 d9 d10 d11 d12 d14 d16
            obtain ⟨d1, d4, d5, d6, d7, d8, d9, d10, d11, d12, d14, d16⟩ := k11.tc
            simp only at d1
            rw [hwr.out] at d14
            rw [hhd.out] at d16
            go_wp2_with (first
              | (go_at_call 33; refine (hgo _).mono ?_; rintro e w12 ⟨g3, rfl, hg3, hb12⟩; have k12 := k11.below hb12; replace hg3 : Hid (nums g3 = goL t.row t.col) := hg3; go_simp)
              | (at_builtin; refine append_str (by rfl) _ _ (by rfl) w.heap.size _ _ (by rfl) k12.row g3 (by rfl) _ hg3.out (by (try simp only [List.length_append, List.length_cons, List.length_nil]); omega) k12.size ?_; intro v13 w13 hr13 hg13; have k13 := k12.app hr13 hg13; clear hr13 hg13 k12 hb12 hg3 hgo k11; clear d1 d4 d5 d6 d7 d8 d9 d10 d11 d12 d14 d16; obtain ⟨d1, d4, d5, d6, d7, d8, d9, d10, d11, d12, d14, d16⟩ := k13.tc; simp only at d1; rw [hwr.out] at d14; rw [hhd.out] at d16; have hcv := conv_rowT k13.row))
            go_ret
            exact ⟨congrArg (fun l => Ending.returned (.string (strOfNums l))) (show _ = drawnL t from (by rw [hv.out, hE.out]; simp)), k13.bel⟩
          by_cases q2 : t.bot < (j : Int) - 1
          case pos =>
            have hE : Hid (endL t s = sgn s t.st ++ [] ++ ([27, 91] ++ digL (t.top + 1) ++ [59] ++ digL (t.bot + 1) ++ [114]) ++ goL t.row t.col ++ []) := by
              show _ = _
              unfold endL
              rw [hN.out, if_neg (by rw [hwr]; simp), if_pos (by omega), if_neg (by rw [hhd]; simp)]
            rw [hwr] at d14
            rw [hhd] at d16
            obtain ⟨s0, s1, s2, s3, s4⟩ := k.sc
            replace hwr := (show Hid _ from hwr)
            replace hhd := (show Hid _ from hhd)
            go_wp2_with (first
              | (go_at_call 34; refine (hsg _).mono ?_; rintro e w6 ⟨g, rfl, hgn, hb6⟩; have k6 := k.below hb6; replace hgn : Hid (nums g = sgn s t.st) := hgn; go_simp)
              | (at_builtin; refine append_str (by rfl) _ _ (by rfl) w.heap.size _ _ (by rfl) k6.row g (by rfl) _ hgn.out (by (try simp only [List.length_append, List.length_cons, List.length_nil]); omega) k6.size ?_; intro v7 w7 hr7 hg7; have k7 := k6.app hr7 hg7; clear hr7 hg7 s0 s1 s2 s3 s4 k6 hb6 hgn hsg; clear d1 d4 d5 d6 d7 d8 d9 d10 d11 d12 d14 d16; obtain ⟨d1, d4, d5, d6, d7, d8, d9, d10, d11, d12, d14, d16⟩ := k7.tc; simp only at d1; rw [hwr.out] at d14; rw [hhd.out] at d16))
            have hd := bdr w7
            have hci : ∀ W, Below w7.heap.size w7 W → (W.cell? ⟨w.heap.size, 11, none⟩ = some (.int .i64 t.top) ∧ W.cell? ⟨w.heap.size, 12, none⟩ = some (.int .i64 t.bot)) := fun W hW => by have := (k7.below hW).tc; exact ⟨this.2.2.2.2.2.2.2.2.1, this.2.2.2.2.2.2.2.2.2.1⟩
            refine wp_region_noPanic ?_
            refine wp_region_held_drew (S := (fun W => W.cell? ⟨w.heap.size, 11, none⟩ = some (.int .i64 t.top) ∧ W.cell? ⟨w.heap.size, 12, none⟩ = some (.int .i64 t.bot))) (by kernel_rfl) (hci _ hd) (fun hHeld => ?_)
            refine' wpAnyH_take (i := 0) (v := _) rfl (by kernel_rfl) (by kernel_rfl) (by kernel_rfl) (fun _ _ _ h => h) (Or.inl ⟨by rfl, ?hy99⟩) hHeld ?hr99
            case hy99 => (intro w hSw; (try dsimp only at hSw); go_simp; (try with_reducible rfl))
            (try simp only [Act.put, List.setIfInBounds_toArray, List.set_cons_zero, List.set_cons_succ, List.getElem_toArray, List.getElem_cons_zero])
            refine' wpAnyH_take (i := 1) (v := _) rfl (by kernel_rfl) (by kernel_rfl) (by kernel_rfl) (fun _ _ _ h => h) (Or.inl ⟨by rfl, ?hy100⟩) hHeld ?hr100
            case hy100 => (intro w hSw; (try dsimp only at hSw); go_simp; (try with_reducible rfl))
            (try simp only [Act.put, List.setIfInBounds_toArray, List.set_cons_zero, List.set_cons_succ, List.getElem_toArray, List.getElem_cons_zero, List.getElem_cons_succ])
            refine' wpAnyH_take (i := 2) (v := _) rfl (by kernel_rfl) (by kernel_rfl) (by kernel_rfl) (fun _ _ _ h => h) (Or.inl ⟨by rfl, ?hy101⟩) hHeld ?hr101
            case hy101 => (intro w hSw; (try dsimp only at hSw); go_simp; (try with_reducible rfl))
            (try simp only [Act.put, List.setIfInBounds_toArray, List.set_cons_zero, List.set_cons_succ, List.getElem_toArray, List.getElem_cons_zero, List.getElem_cons_succ])
            refine' wpAnyH_take (i := 3) (v := _) rfl (by kernel_rfl) (by kernel_rfl) (by kernel_rfl) (fun _ _ _ h => h) (Or.inl ⟨by rfl, ?hy102⟩) hHeld ?hr102
            case hy102 => (intro w hSw; (try dsimp only at hSw); go_simp; (try with_reducible rfl))
            (try simp only [Act.put, List.setIfInBounds_toArray, List.set_cons_zero, List.set_cons_succ, List.getElem_toArray, List.getElem_cons_zero, List.getElem_cons_succ])
            refine' wpAnyH_take (i := 7) (v := _) rfl (by kernel_rfl) (by kernel_rfl) (by kernel_rfl) (fun _ _ _ h => h) (Or.inl ⟨by rfl, ?hy103⟩) hHeld ?hr103
            case hy103 => (intro w hSw; (try dsimp only at hSw); go_simp; (try with_reducible rfl))
            (try simp only [Act.put, List.setIfInBounds_toArray, List.set_cons_zero, List.set_cons_succ, List.getElem_toArray, List.getElem_cons_zero, List.getElem_cons_succ])
            refine' wpAnyH_take (i := 8) (v := _) rfl (by kernel_rfl) (by kernel_rfl) (by kernel_rfl) (fun _ _ _ h => h) (Or.inl ⟨by rfl, ?hy104⟩) hHeld ?hr104
            case hy104 => (intro w hSw; (try dsimp only at hSw); go_simp; (try with_reducible rfl))
            (try simp only [Act.put, List.setIfInBounds_toArray, List.set_cons_zero, List.set_cons_succ, List.getElem_toArray, List.getElem_cons_zero, List.getElem_cons_succ])
            refine' wpAnyH_take (i := 9) (v := _) rfl (by kernel_rfl) (by kernel_rfl) (by kernel_rfl) (fun _ _ _ h => h) (Or.inl ⟨by rfl, ?hy105⟩) hHeld ?hr105
            case hy105 => (intro w hSw; (try dsimp only at hSw); go_simp; (try with_reducible rfl))
            (try simp only [Act.put, List.setIfInBounds_toArray, List.set_cons_zero, List.set_cons_succ, List.getElem_toArray, List.getElem_cons_zero, List.getElem_cons_succ])
            refine wpAnyH_ready (rs := [4]) (by kernel_rfl) (by simp) (AllReadyH.cons rfl (fun K hK => ?_) AllReadyH.nil)
            go_simp
            refine (hi1 _).mono ?_
            rintro e w9 ⟨g1, rfl, hg1n, hb9⟩
            have hz1 : g1.size ≤ 2 := by rw [← nums_len, hg1n]; omega
            replace hg1n := (show Hid _ from hg1n)
            have hd9 := hd.trans (hb9.mono hd.size)
            have hy1 : ((⟨#[27, 91]⟩ : ByteArray) ++ g1).size ≤ 4 := by rw [ByteArray.size_append]; omega
            have hy2 : ((⟨#[27, 91]⟩ : ByteArray) ++ g1 ++ ⟨#[59]⟩).size ≤ 5 := by rw [ByteArray.size_append]; omega
            have hx1 : ¬ 9223372036854775807 < 2 + g1.size := by omega
            have hx2 : ¬ 9223372036854775807 < 2 + g1.size + 1 := by omega
            go_wp2_with fail
            refine hK.out _ _ (hci _ hd9) (fun hHeld => ?_)
            clear hK K
            (try simp only [Act.put, List.setIfInBounds_toArray, List.set_cons_zero, List.set_cons_succ, List.getElem_toArray, List.getElem_cons_zero, List.getElem_cons_succ])
            refine' wpAnyH_take (i := 5) (v := _) rfl (by kernel_rfl) (by kernel_rfl) (by kernel_rfl) (fun _ _ _ h => h) (Or.inl ⟨by rfl, ?hy106⟩) hHeld ?hr106
            case hy106 => (intro w hSw; (try dsimp only at hSw); go_simp; (try with_reducible rfl))
            (try simp only [Act.put, List.setIfInBounds_toArray, List.set_cons_zero, List.set_cons_succ, List.getElem_toArray, List.getElem_cons_zero, List.getElem_cons_succ])
            refine' wpAnyH_take (i := 6) (v := _) rfl (by kernel_rfl) (by kernel_rfl) (by kernel_rfl) (fun _ _ _ h => h) (Or.inl ⟨by rfl, ?hy107⟩) hHeld ?hr107
            case hy107 => (intro w hSw; (try dsimp only at hSw); go_simp; (try with_reducible rfl))
            (try simp only [Act.put, List.setIfInBounds_toArray, List.set_cons_zero, List.set_cons_succ, List.getElem_toArray, List.getElem_cons_zero, List.getElem_cons_succ])
            refine wpAnyH_ready (rs := [10]) (by kernel_rfl) (by simp) (AllReadyH.cons rfl (fun K hK => ?_) AllReadyH.nil)
            go_simp
            refine (hi2 _).mono ?_
            rintro e w10 ⟨g2, rfl, hg2n, hb10⟩
            have hz2 : g2.size ≤ 2 := by rw [← nums_len, hg2n]; omega
            replace hg2n := (show Hid _ from hg2n)
            have hd10 := hd9.trans (hb10.mono hd9.size)
            have hy3 : ((⟨#[27, 91]⟩ : ByteArray) ++ g1 ++ ⟨#[59]⟩ ++ g2).size ≤ 7 := by rw [ByteArray.size_append]; omega
            have hx3 : ¬ 9223372036854775807 < 2 + g1.size + 1 + g2.size := by omega
            have hx4 : ¬ 9223372036854775807 < 2 + g1.size + 1 + g2.size + 1 := by omega
            go_wp2_with fail
            refine hK.out _ _ (hci _ hd10) (fun hHeld => ?_)
            clear hK K
            (try simp only [Act.put, List.setIfInBounds_toArray, List.set_cons_zero, List.set_cons_succ, List.getElem_toArray, List.getElem_cons_zero, List.getElem_cons_succ])
            refine' wpAnyH_take (i := 11) (v := _) rfl (by kernel_rfl) (by kernel_rfl) (by kernel_rfl) (fun _ _ _ h => h) (Or.inl ⟨by rfl, ?hy108⟩) hHeld ?hr108
            case hy108 => (intro w hSw; (try dsimp only at hSw); go_simp; (try with_reducible rfl))
            (try simp only [Act.put, List.setIfInBounds_toArray, List.set_cons_zero, List.set_cons_succ, List.getElem_toArray, List.getElem_cons_zero, List.getElem_cons_succ])
            refine' wpAnyH_take (i := 12) (v := _) rfl (by kernel_rfl) (by kernel_rfl) (by kernel_rfl) (fun _ _ _ h => h) (Or.inl ⟨by rfl, ?hy109⟩) hHeld ?hr109
            case hy109 => (intro w hSw; (try dsimp only at hSw); go_simp; (try with_reducible rfl))
            (try simp only [Act.put, List.setIfInBounds_toArray, List.set_cons_zero, List.set_cons_succ, List.getElem_toArray, List.getElem_cons_zero, List.getElem_cons_succ])
            have k10 := k7.below hd10
            have hM : nums ((⟨#[27, 91]⟩ : ByteArray) ++ g1 ++ ⟨#[59]⟩ ++ g2 ++ ⟨#[114]⟩) = [27, 91] ++ digL (t.top + 1) ++ [59] ++ digL (t.bot + 1) ++ [114] := by rw [nums_app5, nums_app5, nums_app5, nums_app5, hg1n.out, hg2n.out, hn114.out, hn59.out, hn27.out]
            refine wpAnyH_ready (rs := [13]) (by kernel_rfl) (by simp) (AllReadyH.cons rfl (fun K hK => ?_) AllReadyH.nil)
            refine step_append_str (by rfl) _ _ (by rfl) w.heap.size _ _ (by rfl) k10.row _ (by rfl) _ hM (by (try simp only [List.length_append, List.length_cons, List.length_nil]); omega) k10.size ?_
            intro v11 w11 hr11 hg11
            have k11 := k10.app hr11 hg11
            have htc := k11.tc
            refine hK.out _ _ ⟨htc.2.2.2.2.2.2.2.2.1, htc.2.2.2.2.2.2.2.2.2.1⟩ (fun hHeld => ?_)
            clear hK K htc
            (try simp only [Act.put, List.setIfInBounds_toArray, List.set_cons_zero, List.set_cons_succ, List.getElem_toArray, List.getElem_cons_zero, List.getElem_cons_succ])
            refine' wpAnyH_take (i := 14) (v := _) rfl (by kernel_rfl) (by kernel_rfl) (by kernel_rfl) (fun _ _ _ h => h) (Or.inl ⟨by rfl, ?hy110⟩) hHeld ?hr110
            case hy110 => (intro w hSw; (try dsimp only at hSw); go_simp; (try with_reducible rfl))
            (try simp only [Act.put, List.setIfInBounds_toArray, List.set_cons_zero, List.set_cons_succ, List.getElem_toArray, List.getElem_cons_zero, List.getElem_cons_succ])
            refine wpAnyH_done (by kernel_rfl) ?_ _
            refine NoPanic.normal ?_
            clear hr11 hg11 k10 hd10 hb10 hd9 hb9 hM hg1n hg2n hz1 hz2 hy1 hy2 hy3 hx1 hx2 hx3 hx4 hci hd hHeld hi1 hi2 k7
            clear d1 d4 d5 d6 d7 d8 d9 d10 d11 d12 d14 d16
            obtain ⟨d1, d4, d5, d6, d7, d8, d9, d10, d11, d12, d14, d16⟩ := k11.tc
            simp only at d1
            rw [hwr.out] at d14
            rw [hhd.out] at d16
            go_wp2_with (first
              | (go_at_call 33; refine (hgo _).mono ?_; rintro e w12 ⟨g3, rfl, hg3, hb12⟩; have k12 := k11.below hb12; replace hg3 : Hid (nums g3 = goL t.row t.col) := hg3; go_simp)
              | (at_builtin; refine append_str (by rfl) _ _ (by rfl) w.heap.size _ _ (by rfl) k12.row g3 (by rfl) _ hg3.out (by (try simp only [List.length_append, List.length_cons, List.length_nil]); omega) k12.size ?_; intro v13 w13 hr13 hg13; have k13 := k12.app hr13 hg13; clear hr13 hg13 k12 hb12 hg3 hgo k11; clear d1 d4 d5 d6 d7 d8 d9 d10 d11 d12 d14 d16; obtain ⟨d1, d4, d5, d6, d7, d8, d9, d10, d11, d12, d14, d16⟩ := k13.tc; simp only at d1; rw [hwr.out] at d14; rw [hhd.out] at d16; have hcv := conv_rowT k13.row))
            go_ret
            exact ⟨congrArg (fun l => Ending.returned (.string (strOfNums l))) (show _ = drawnL t from (by rw [hv.out, hE.out]; simp)), k13.bel⟩
          have hE : Hid (endL t s = sgn s t.st ++ [] ++ [] ++ goL t.row t.col ++ []) := by
            show _ = _
            unfold endL
            rw [hN.out, if_neg (by rw [hwr]; simp), if_neg (by omega), if_neg (by rw [hhd]; simp)]
          rw [hwr] at d14
          rw [hhd] at d16
          obtain ⟨s0, s1, s2, s3, s4⟩ := k.sc
          replace hwr := (show Hid _ from hwr)
          replace hhd := (show Hid _ from hhd)
          go_wp2_with (first
            | (go_at_call 34; refine (hsg _).mono ?_; rintro e w6 ⟨g, rfl, hgn, hb6⟩; have k6 := k.below hb6; replace hgn : Hid (nums g = sgn s t.st) := hgn; go_simp)
            | (at_builtin; refine append_str (by rfl) _ _ (by rfl) w.heap.size _ _ (by rfl) k6.row g (by rfl) _ hgn.out (by (try simp only [List.length_append, List.length_cons, List.length_nil]); omega) k6.size ?_; intro v7 w7 hr7 hg7; have k7 := k6.app hr7 hg7; clear hr7 hg7 s0 s1 s2 s3 s4 k6 hb6 hgn hsg; clear d1 d4 d5 d6 d7 d8 d9 d10 d11 d12 d14 d16; obtain ⟨d1, d4, d5, d6, d7, d8, d9, d10, d11, d12, d14, d16⟩ := k7.tc; simp only at d1; rw [hwr.out] at d14; rw [hhd.out] at d16)
            | (go_at_call 33; refine (hgo _).mono ?_; rintro e w12 ⟨g3, rfl, hg3, hb12⟩; have k12 := k7.below hb12; replace hg3 : Hid (nums g3 = goL t.row t.col) := hg3; go_simp)
            | (at_builtin; refine append_str (by rfl) _ _ (by rfl) w.heap.size _ _ (by rfl) k12.row g3 (by rfl) _ hg3.out (by (try simp only [List.length_append]); omega) k12.size ?_; intro v13 w13 hr13 hg13; have k13 := k12.app hr13 hg13; clear hr13 hg13 k12 hb12 hg3 hgo k7; clear d1 d4 d5 d6 d7 d8 d9 d10 d11 d12 d14 d16; obtain ⟨d1, d4, d5, d6, d7, d8, d9, d10, d11, d12, d14, d16⟩ := k13.tc; simp only at d1; rw [hwr.out] at d14; rw [hhd.out] at d16; have hcv := conv_rowT k13.row))
          go_ret
          exact ⟨congrArg (fun l => Ending.returned (.string (strOfNums l))) (show _ = drawnL t from (by rw [hv.out, hE.out]; simp)), k13.bel⟩

end Go.Proofs.YtlmnhlfklbgjdaaGreatDoor
namespace Go.Proofs.YtlmnhlfklbgjdaaGreatDoor
open Go.ChangeShapes Go.WideShapes Go.ChangeAt Go.RowKit
theorem RowT.isSl {base : Nat} {v : Value} {L : List Int} {w : World} (h : RowT base v L w) : ∃ a n c, v = Value.slice a n c := by
  rcases h with h | ⟨g, cs, fr, rfl, _⟩
  · rcases h.2 with ⟨rfl, _⟩ | ⟨g, cap, cur, rfl, _⟩
    · exact ⟨_, _, _, rfl⟩
    · exact ⟨_, _, _, rfl⟩
  · exact ⟨_, _, _, rfl⟩
/-- What changes while a drawing grows: rows of bytes and drawings, from a place on. -/
def GrT (base : Nat) (w w' : World) : Prop := w'.os = w.os ∧ w'.tape = w.tape ∧ w'.output = w.output ∧ w.heap.size ≤ w'.heap.size ∧ ∀ k, k < w.heap.size → (k < base ∨ ∀ cs T fr, w.heap[k]? = some (.cells cs T fr) → T ≠ 59 ∧ T ≠ 5) → w'.heap[k]? = w.heap[k]?
theorem GrT.refl (base : Nat) (w : World) : GrT base w w := ⟨rfl, rfl, rfl, Nat.le_refl _, fun _ _ _ => rfl⟩
theorem GrT.size {base : Nat} {w w' : World} (h : GrT base w w') : w.heap.size ≤ w'.heap.size := h.2.2.2.1
theorem GrT.trans {base : Nat} {a b c : World} (h : GrT base a b) (k : GrT base b c) : GrT base a c := by
  refine ⟨k.1.trans h.1, k.2.1.trans h.2.1, k.2.2.1.trans h.2.2.1, Nat.le_trans h.size k.size, fun n hn hc => ?_⟩
  have e := h.2.2.2.2 n hn hc
  rw [← e]
  refine k.2.2.2.2 n (Nat.lt_of_lt_of_le hn h.size) ?_
  rw [e]
  exact hc
theorem GrT.of_below {base : Nat} {w w' : World} (h : Below w.heap.size w w') : GrT base w w' := ⟨h.os, h.tape, h.output, h.size, fun k hk _ => h.block k hk⟩
theorem GrT.of_grown {base : Nat} {w w' : World} {row : Option Nat} (h : w.grownBy w' row) (hr : ∀ g, row = some g → base ≤ g ∧ ∃ cs T fr, w.heap[g]? = some (.cells cs T fr) ∧ (T = 59 ∨ T = 5)) : GrT base w w' := by
  refine ⟨h.os, h.tape, h.output, h.size, fun k hk hc => h.block k hk (fun e => ?_)⟩
  obtain ⟨hb, cs, T, fr, hg, hT⟩ := hr k e.symm
  rcases hc with hc | hc
  · omega
  · have := hc cs T fr hg
    rcases hT with hT | hT
    · exact this.1 hT
    · exact this.2 hT
theorem GrT.to_below {base : Nat} {w w' : World} (h : GrT base w w') (hs : base ≤ w.heap.size) : Below base w w' :=
  (GrP.to_below (S := fun k => base ≤ k) ⟨h.1, h.2.1, h.2.2.1, h.2.2.2.1, fun k hk hS => h.2.2.2.2 k hk (.inl (by omega))⟩ (fun k hk => hk) hs)
theorem GrT.blk {base : Nat} {w w' : World} (h : GrT base w w') {k : Nat} {cs : Array Value} {T : TypeId} {fr : Nat × Nat} (hk : w.heap[k]? = some (.cells cs T fr)) (h1 : T ≠ 59) (h2 : T ≠ 5) : w'.heap[k]? = some (.cells cs T fr) := by
  rw [h.2.2.2.2 k (Array.getElem?_eq_some_iff.1 hk).1 (.inr fun cs' T' fr' e => by rw [hk] at e; simp only [Option.some.injEq, Obj.cells.injEq] at e; obtain ⟨_, rfl, _⟩ := e; exact ⟨h1, h2⟩)]
  exact hk
/-- A drawing at work. -/
structure DI (W : World) (base B : Nat) (v : Value) (L : List Int) (s : St) : Prop where
  row : RowT base v L W
  blk : BlkC W B 59 [v, .int .i64 s.fore, .int .i64 s.back, .bool s.bold, .bool s.under, .bool s.turned]
  hb : base ≤ B
theorem DI.below {W W' : World} {base B : Nat} {v : Value} {L : List Int} {s : St} (h : DI W base B v L s) (hb : Below W.heap.size W W') : DI W' base B v L s := ⟨h.row.below hb, h.blk.below hb, h.hb⟩
theorem DI.cells {W : World} {base B : Nat} {v : Value} {L : List Int} {s : St} (h : DI W base B v L s) : W.cell? ⟨B, 0, none⟩ = some v ∧ W.cell? ⟨B, 1, none⟩ = some (.int .i64 s.fore) ∧ W.cell? ⟨B, 2, none⟩ = some (.int .i64 s.back) ∧ W.cell? ⟨B, 3, none⟩ = some (.bool s.bold) ∧ W.cell? ⟨B, 4, none⟩ = some (.bool s.under) ∧ W.cell? ⟨B, 5, none⟩ = some (.bool s.turned) :=
  ⟨cells_all h.blk 0, cells_all h.blk 1, cells_all h.blk 2, cells_all h.blk 3, cells_all h.blk 4, cells_all h.blk 5⟩
theorem DI.app {W W' : World} {base B : Nat} {v v' : Value} {L M : List Int} {s : St} (h : DI W base B v L s) (hr : RowT base v' (L ++ M) W') (hg : W.grownBy W' v.ownBlock) :
    DI (W'.setCell ⟨B, 0, none⟩ v') base B v' (L ++ M) s ∧ GrT base W (W'.setCell ⟨B, 0, none⟩ v') ∧ BlkC W' B 59 [v, .int .i64 s.fore, .int .i64 s.back, .bool s.bold, .bool s.under, .bool s.turned] := by
  have hk := h.blk.kept hg (h.row.not h.blk (by decide))
  have hs := setCell_gr W' B 0 v'
  refine ⟨⟨hr.kept hs (.inr (hr.not hk (by decide))), ?_, h.hb⟩, (GrT.of_grown hg (fun g e => ?_)).trans (GrT.of_grown hs (fun g e => ?_)), hk⟩
  · exact heap_setCell_same W' B 0 _ _ v' hk
  · obtain ⟨hb, cs, fr, hc⟩ := h.row.ty e
    exact ⟨hb, cs, _, fr, hc, .inr rfl⟩
  · cases e
    exact ⟨h.hb, _, _, _, hk, .inl rfl⟩
def partsL (P : List ByteArray) : List Int := P.flatMap nums
theorem partsL_snoc (P : List ByteArray) (j : Nat) (h : j < P.length) : partsL (P.take (j + 1)) = partsL (P.take j) ++ nums (P.getD j ⟨#[]⟩) := by
  unfold partsL
  rw [List.take_succ_eq_append_getElem h, List.flatMap_append]
  simp [List.getD, h]
theorem partsL_le (P : List ByteArray) : ∀ j, j ≤ P.length → (partsL (P.take j)).length ≤ (partsL P).length := fun j _ => by
  unfold partsL
  conv => rhs; rw [← List.take_append_drop j P, List.flatMap_append, List.length_append]
  omega
theorem parts_cell {w : World} {g : Nat} {P : List ByteArray} {T : TypeId} {fr : Nat × Nat} (h : w.heap[g]? = some (.cells (P.map Value.string).toArray T fr)) {j : Nat} (hj : j < P.length) : w.cell? ⟨g, j, none⟩ = some (.string (P.getD j ⟨#[]⟩)) := by
  rw [cell_of_row w g _ _ _ _ h]
  simp [hj, List.getD]
set_option maxHeartbeats 4000000 in
set_option maxRecDepth 20000 in
theorem dtell_any (base B : Nat) (v : Value) (L : List Int) (s : St) (P : List ByteArray) (g : Nat) (fr : Nat × Nat) (w : World) (h : DI w base B v L s) (hP : w.heap[g]? = some (.cells (P.map Value.string).toArray 9 fr)) (hPl : P.length ≤ 1000) (hl : L.length + (partsL P).length ≤ 1000000) (hbs : base ≤ w.heap.size) :
    Calls Tryz.prog 23 #[.pointer (some ⟨B, 0, none⟩), .slice (some ⟨g, 0, none⟩) P.length P.length] w fun e w' => e = .returned (.tuple #[]) ∧ GrT base w w' ∧ ∃ v', DI w' base B v' (L ++ partsL P) s := by
  go_enter Tryz.func23, Tryz.ntmps23
  go_wp2
  go_loopw [5, 8] (fun _ i wr => ∃ (j : Nat) (u : Value), i = .int .i64 j ∧ j ≤ P.length ∧ DI wr base B u (L ++ partsL (P.take j)) s ∧ GrT base w wr) (fun _ i _ => P.length - (intOf i).toNat)
  case atStart => exact ⟨0, v, rfl, Nat.zero_le _, by simpa [partsL] using h, GrT.refl _ _⟩
  case round =>
    obtain ⟨j, u, rfl, hj, k, hg⟩ := hrel
    by_cases hlt : j < P.length
    · have hji : (j : Int) < (P.length : Int) := by omega
      have hj0 : (0 : Int) ≤ (j : Int) := by omega
      have hcj := parts_cell (hg.blk hP (by decide) (by decide)) hlt
      have hle := partsL_le P (j + 1) (by omega)
      have hsn : Hid (partsL (P.take (j + 1)) = partsL (P.take j) ++ nums (P.getD j ⟨#[]⟩)) := partsL_snoc P j hlt
      have hlen : (L ++ partsL (P.take j)).length + (nums (P.getD j ⟨#[]⟩)).length ≤ 1000000 := by
        rw [hsn.out, List.length_append] at hle
        rw [List.length_append]; omega
      generalize P.getD j ⟨#[]⟩ = p at *
      have hc0 := k.cells.1
      have hbw : base ≤ wr.heap.size := Nat.le_trans hbs hg.size
      clear hP h hle
      go_wp2_with (at_builtin; refine append_str (by rfl) _ _ (by rfl) base _ _ (by rfl) k.row p (by rfl) _ rfl (by omega) hbw ?_; intro v7 w7 hr7 hg7; obtain ⟨a7, n7, c7, rfl⟩ := hr7.isSl; obtain ⟨k7, g7, b7⟩ := k.app hr7 hg7; have hc7 : w7.cell? ⟨B, 0, none⟩ = some u := cells_all b7 0; have hf7 := frozen_of_row w7 B 0 _ _ b7; clear hr7 hg7 b7 k)
      go_roundw
      case rel => exact ⟨j + 1, _, by go_num, by omega, by rw [hsn.out, ← List.append_assoc]; exact k7, hg.trans g7⟩
      case measure => simp [intOf]; omega
    · have hji : ¬ (j : Int) < (P.length : Int) := by omega
      have hjn : j = P.length := by omega
      subst hjn
      rw [List.take_length] at k
      go_wp2
      refine bodyPost_end (results_none rfl _ _ _) rfl ?_
      exact ⟨rfl, hg, _, k⟩
end Go.Proofs.YtlmnhlfklbgjdaaGreatDoor
namespace Go.Proofs.YtlmnhlfklbgjdaaGreatDoor
open Go.ChangeShapes Go.WideShapes Go.ChangeAt Go.RowKit
theorem flagParam_any (c : Bool) (x y : Int) (w : World) :
    Calls Tryz.prog 164 #[.bool c, .int .i64 x, .int .i64 y] w fun e w' => e = .returned (.int .i64 (flagV c x y)) ∧ w' = w := by
  cases c
  all_goals
    go_enter Tryz.func164, Tryz.ntmps164
    go_wp2
    go_ret
    exact ⟨rfl, rfl⟩
theorem colorParam_any (x k : Int) (w : World) (hx : 0 ≤ x ∧ x ≤ 8) (hk : k = 30 ∨ k = 40) :
    Calls Tryz.prog 165 #[.int .i64 x, .int .i64 k] w fun e w' => e = .returned (.int .i64 (flagV (decide (x = 0)) (k + 9) (k - 1 + x))) ∧ w' = w := by
  obtain ⟨h0, h8⟩ := hx
  have hk0 : 0 ≤ k := by omega
  have hk1 : k ≤ 40 := by omega
  by_cases h : x = 0
  · have hz : (x == 0) = true := by simp [h]
    go_enter Tryz.func165, Tryz.ntmps165
    go_wp2
    go_ret
    exact ⟨by simp [flagV, h], rfl⟩
  · have hz : (x == 0) = false := by simp [h]
    go_enter Tryz.func165, Tryz.ntmps165
    go_wp2
    go_ret
    refine ⟨?_, rfl⟩
    simp [flagV, h]
    try omega
end Go.Proofs.YtlmnhlfklbgjdaaGreatDoor
