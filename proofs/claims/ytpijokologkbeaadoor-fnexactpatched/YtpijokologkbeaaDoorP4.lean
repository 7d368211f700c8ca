/- Contracts of the specification's resized grids. Contract of the specification's Resized. Contract of the program's StyleOk. Contracts of the program's RowOk. Contract of the program's RowOk. Contract of the program's GridOk. Contracts of the program's blanked windows. A blank row's cells. Contract of the program's Blank. Contract of the program's NewGrid. Contracts of the program's scrollOk and of rows copied. The laws' own helper: two lists alike. Contract of the program's rows turned. Contract of the program's blanked rows. Contracts of the program's Up and Down. Contracts of the program's cut and copied rows, and of a wide rune parted. Contract of the program's parted wide rune. Contract of the program's Resized. -/
import Derived.Test.YtpijokologkbeaaDoorP3
import Derived.Laws.AppendOwnNone
import Derived.Laws.CopyOwn
import Derived.Deep.RegionHeld3
namespace Go.Proofs.YtpijokologkbeaaDoor
open Go.ChangeShapes Go.WideShapes Go.ChangeAt Go.RowKit
/-- Cells more (or none), as a step of a region. -/
theorem step_append_oc2 {w : World} {ops : Array Oper} {o : Oper} {ac : Act} {K : Act → World → Prop} {Q : Exit → Act → World → Prop} {E : Prop} (hgd : o.guard = none) (s x : Operand)
    (ho : o.op = .call { callee := .builtin .append, args := #[s, x], argTypes := #[66, 66] })
    (base : Nat) (v : Value) (L : List Ce) (hs : ac.eval s = v) (k : OwnC w base v L) (hb : base ≤ w.heap.size) (u : Value) (xs : List Ce) (hu : SlC w u xs) (hx : ac.eval x = u) (hl : L.length + xs.length < 2000000)
    (h : ∀ v' w', OwnC w' base v' (L ++ xs) → w.grownBy w' v.ownBlock → K (ac.put o.dst v') w') :
    if Region.wanted o (yielded ops ac.tmps) = true then Oper.wp Tryd.prog o ac w K Q else E := by
  have hw : Region.wanted o (yielded ops ac.tmps) = true := by simp [Region.wanted, hgd]
  rw [if_pos hw]
  obtain ⟨i0, hi, hz0, hz1, hz2⟩ := info_parts info_cell
  obtain ⟨a, c, rfl, hc, hn, hr⟩ := hu
  have hcells : ∀ ad, a = some ad → ∀ j u, (xs.flatMap ceL)[j]? = some u → w.cell? (ad.add j) = some u := fun ad e j u hj => by
    rcases hr with hr | ⟨b, off, hab, _, hi2⟩
    · subst hr; simp at hj
    · rw [e] at hab
      obtain rfl := Option.some.inj hab
      rw [Addr.add_mid]
      exact flat_cells hi2 j u hj
  cases a with
  | none =>
    obtain rfl := hn rfl
    have hx0 : xs = [] := by
      rcases hr with hr | ⟨b, off, hab, _⟩
      · exact hr
      · cases hab
    subst hx0
    have hrun := run_append_owned_none (P := Tryd.prog) (w := w) base 66 o.type 75 i0 7 Tryd.underlying66 hi v L.length _ k
    unfold Oper.wp
    simp only [List.length_nil] at hx
    simp [execOp, ho, resolve, invoke, builtin, hs, hx, hrun, Result.andThen]
    exact h v w (by simpa using k) (World.grownBy.refl _ _)
  | some ad =>
    refine wp_append_own _ s x _ ho base 75 i0 (ceV Ce.zero) 7 40 Tryd.underlying66 hi hz0 hz1 hz2 rfl (by decide) v L.length _ hs k ad xs.length c (xs.flatMap ceL) hx (flat_len xs) (hcells ad rfl) (flat_one xs) (by unfold maxLen; omega) (by omega) hb (fun v' w' ho' hg' _ => ?_)
    refine h v' w' ?_ hg'
    unfold OwnC
    rw [List.length_append, List.flatMap_append]
    exact ho'
theorem l1MaxG_any (a b : Int) (w : World) :
    Calls Tryd.prog 80 #[.int .i64 a, .int .i64 b] w fun e w' => e = .returned (.int .i64 (max a b)) ∧ w' = w := by
  by_cases h : b < a
  · have hm : Hid (max a b = a) := by show _ = _; omega
    go_enter Tryd.func80, Tryd.ntmps80
    go_wp2
    go_ret
    exact ⟨by rw [hm.out]; rfl, rfl⟩
  · have hm : Hid (max a b = b) := by show _ = _; omega
    go_enter Tryd.func80, Tryd.ntmps80
    go_wp2
    go_ret
    exact ⟨by rw [hm.out]; rfl, rfl⟩
def rowPart (rows : List (List Ce)) (q i : Nat) : List Ce := if i < rows.length then mendV ((rowX rows i).take q) else []
def resI (rows : List (List Ce)) (cols q i : Nat) : List Ce := rowPart rows q i ++ rowL (cols - (rowPart rows q i).length) St.zero
def resUp (rows : List (List Ce)) (cols q fr j : Nat) : List (List Ce) := genR j fun k => resI rows cols q (fr + k)
theorem resUp_snoc (rows : List (List Ce)) (cols q fr j : Nat) : resUp rows cols q fr (j + 1) = resUp rows cols q fr j ++ [resI rows cols q (fr + j)] := by
  unfold resUp genR
  rw [List.range_succ, List.map_append]; rfl
theorem resUp_len (rows : List (List Ce)) (cols q fr j : Nat) : (resUp rows cols q fr j).length = j := genR_len _ _
theorem rowPart_len (rows : List (List Ce)) (q i : Nat) : (rowPart rows q i).length ≤ q := by
  unfold rowPart
  split
  · rw [mendV_len, List.length_take]; omega
  · exact Nat.zero_le _
set_option maxHeartbeats 8000000 in
set_option maxRecDepth 20000 in
theorem l5Resized_any (gc cn n : Nat) (v : Value) (rows : List (List Ce)) (w : World) (hv : SlG w v rows) (hl : rows.length ≤ 1000) (h1 : 1 ≤ rows.length) (hx : ∀ i, i < rows.length → (rowX rows i).length = gc) (hg1 : 1 ≤ gc) (hg2 : gc ≤ 1000) (hc1 : 1 ≤ cn) (hc : cn ≤ 1000) (hn1 : 1 ≤ n) (hn : n ≤ 1000) :
    Calls Tryd.prog 40 #[gridV (gc : Int) v, .int .i64 (cn : Int), .int .i64 (n : Int)] w fun e w' => ∃ u, e = .returned (gridV (cn : Int) u) ∧ OwnG w' w.heap.size w'.heap.size u (resUp rows cn (min cn gc) (rows.length - n) n) ∧ Below w.heap.size w w' := by
  obtain ⟨a, c, vs, rfl, hcp, _, hr, hs⟩ := id hv
  rcases hr with h | ⟨b, off, rfl, hbb, hrc⟩
  · rw [h] at h1; simp at h1
  have hb0 := bal' w (Obj.cells #[.int .i64 (gc : Int), .slice (some ⟨b, off, none⟩) rows.length c] 26)
  have hG0 := GrN.new w (gc : Int) (.slice (some ⟨b, off, none⟩) rows.length c) 26
  have e0 : (w.alloc (Obj.cells #[.int .i64 (gc : Int), .slice (some ⟨b, off, none⟩) rows.length c] 26)).heap.size = w.heap.size + 1 := by simp
  have k0 : NG (w.heap.size + 1) (((w.alloc (Obj.cells #[.int .i64 (gc : Int), .slice (some ⟨b, off, none⟩) rows.length c] 26)).alloc (Obj.cells #[Value.int IntKind.i64 0, Value.slice none 0 0] 26)).alloc (Obj.cells #[Value.int IntKind.i64 (cn : Int), Value.slice none 0 0] 26)).heap.size (cn : Int) (.slice none 0 0) [] (w.alloc (Obj.cells #[.int .i64 (gc : Int), .slice (some ⟨b, off, none⟩) rows.length c] 26)) (((w.alloc (Obj.cells #[.int .i64 (gc : Int), .slice (some ⟨b, off, none⟩) rows.length c] 26)).alloc (Obj.cells #[Value.int IntKind.i64 0, Value.slice none 0 0] 26)).alloc (Obj.cells #[Value.int IntKind.i64 (cn : Int), Value.slice none 0 0] 26)) := by
    generalize w.alloc (Obj.cells #[.int .i64 (gc : Int), .slice (some ⟨b, off, none⟩) rows.length c] 26) = w1 at *
    have h1 := GrW.new w1 0 (.slice none 0 0) 26
    have h2 := GrW.new (w1.alloc (Obj.cells #[Value.int IntKind.i64 0, Value.slice none 0 0] 26)) (cn : Int) (.slice none 0 0) 26
    have hb1 := bal' w1 (Obj.cells #[Value.int IntKind.i64 0, Value.slice none 0 0] 26)
    have e : (w1.alloc (Obj.cells #[Value.int IntKind.i64 0, Value.slice none 0 0] 26)).heap.size = w1.heap.size + 1 := by simp
    rw [e] at h2
    rw [← e0]
    exact ⟨h1.below (bal' _ _), h2, ownG_none _ _ _, by simp, Nat.le_refl _, hb1.trans ((bal' _ _).mono (by simp))⟩
  have hmx := fun W => l1MaxG_any 0 ((rows.length : Int) - (n : Int)) W
  obtain ⟨fr, hfr⟩ : ∃ fr : Nat, fr = rows.length - n := ⟨_, rfl⟩
  obtain ⟨q0, hq0⟩ : ∃ q : Nat, q = min cn gc := ⟨_, rfl⟩
  rw [← hfr, ← hq0]
  have hmi := fun W => l1Min_any cn gc W
  have hrow := fun k (hk : k ≤ 1000) W => l4Row_any k St.zero W hk
  have hmend := fun v xs W h1 h2 => l4Mended_any v xs W h1 h2
  unfold gridV stV at *
  simp only [St.zero] at hrow
  have hsz0 : (w.alloc (Obj.cells #[.int .i64 (gc : Int), .slice (some ⟨b, off, none⟩) rows.length c] 26)).cell? ⟨w.heap.size, 1, none⟩ = some (.slice (some ⟨b, off, none⟩) rows.length c) := hG0.2.2
  go_enter Tryd.func40, Tryd.ntmps40
  have hfri : max 0 ((rows.length : Int) - (n : Int)) = (fr : Int) := by omega
  simp only [hfri] at hmx
  have HFR : Hid (fr = rows.length - n) := hfr
  have HQ0 : Hid (q0 = min cn gc) := hq0
  have hq1c : q0 ≤ cn := by omega
  have hq1g : q0 ≤ gc := by omega
  have hfrb : fr ≤ 1000 := by omega
  clear hfr hq0 hfri
  go_wp2_with fail
  refine (hmx _).mono ?_
  rintro e w1 ⟨rfl, hw⟩
  subst hw
  clear hmx
  go_wp2
  go_loopw [9, 10] (fun i _ wr => ∃ q : Nat, i = .int .i64 q ∧ fr ≤ q ∧ q ≤ fr + n ∧ ∃ u, NG (w.heap.size + 1) wr.heap.size (cn : Int) u (resUp rows cn q0 fr (q - fr)) (w.alloc (Obj.cells #[.int .i64 (gc : Int), .slice (some ⟨b, off, none⟩) rows.length c] 26)) wr) (fun i _ _ => fr + n - (intOf i).toNat)
  case atStart => exact ⟨fr, rfl, Nat.le_refl _, by omega, by rw [Nat.sub_self]; exact ⟨_, k0⟩⟩
  case round =>
    clear k0
    obtain ⟨q, rfl, hq1, hq2, u, k⟩ := hrel
    obtain ⟨ua, un, uc, rfl⟩ := slSh (SlG.of_own k.2.2.1)
    have hsb : wr.cell? ⟨w.heap.size, 1, none⟩ = some (.slice (some ⟨b, off, none⟩) rows.length c) := (k.2.2.2.2.2.cell (p := ⟨w.heap.size, 1, none⟩) (Nat.lt_succ_self _)).trans hG0.2.2
    have hsc : wr.cell? ⟨w.heap.size, 0, none⟩ = some (.int .i64 (gc : Int)) := (k.2.2.2.2.2.cell (p := ⟨w.heap.size, 0, none⟩) (Nat.lt_succ_self _)).trans hG0.2.1
    have hsb1 := (bal' wr (Obj.cells #[] 75)).cell (p := ⟨w.heap.size, 1, none⟩) (show w.heap.size < wr.heap.size by have := k.2.2.2.1; omega) |>.trans hsb
    have hsc1 := (bal' wr (Obj.cells #[] 75)).cell (p := ⟨w.heap.size, 0, none⟩) (show w.heap.size < wr.heap.size by have := k.2.2.2.1; omega) |>.trans hsc
    have hfni : (fr : Int) + (n : Int) = ((fr + n : Nat) : Int) := by omega
    by_cases hlt : q < fr + n
    · have hji : (q : Int) < (fr : Int) + (n : Int) := by omega
      have hsn : Hid (resUp rows cn q0 fr (q + 1 - fr) = resUp rows cn q0 fr (q - fr) ++ [resI rows cn q0 q]) := by
        show _ = _
        rw [show q + 1 - fr = (q - fr) + 1 by omega, resUp_snoc, show fr + (q - fr) = q by omega]
      have hlr : (resUp rows cn q0 fr (q - fr)).length < 2000000 := by rw [resUp_len]; omega
      have hu : ∀ g, (Value.slice ua un uc).ownBlock = some g → g < wr.heap.size := fun g e => (k.2.2.1.lt g e).2
      have hMB : w.heap.size + 1 + 2 ≤ wr.heap.size := k.2.2.2.1
      have hRI : Hid (resI rows cn q0 q = rowPart rows q0 q ++ rowL (cn - (rowPart rows q0 q).length) St.zero) := rfl
      have hPL := rowPart_len rows q0 q
      have hlrw := fun W => hrow (cn - (rowPart rows q0 q).length) (by omega) W
      have hLX0 : (rowPart rows q0 q).length + (rowL (cn - (rowPart rows q0 q).length) St.zero).length < 2000000 := by rw [bigRow]; omega
      have hsbi : (cn : Int) - ((rowPart rows q0 q).length : Int) = ((cn - (rowPart rows q0 q).length : Nat) : Int) := by omega
      clear hfni
      by_cases hin : q < rows.length
      · have hini : (q : Int) < (rows.length : Int) := by omega
        have hP : rowPart rows q0 q = mendV ((rowX rows q).take q0) := by unfold rowPart; rw [if_pos hin]
        have hL : (mendV ((rowX rows q).take q0)).length = q0 := by rw [mendV_len, List.length_take, hx q hin]; omega
        obtain ⟨aj, cj, ev, hjc, _⟩ := id (hs q hin)
        rw [hx q hin] at ev hjc
        have hq00 : 1 ≤ q0 := by have := HQ0.out; omega
        obtain ⟨kk, hkk⟩ : ∃ kk, kk = cn - q0 := ⟨_, rfl⟩
        rw [hP] at hRI hLX0
        simp only [hP] at hlrw
        rw [hL] at hRI hLX0
        simp only [hL] at hlrw
        simp only [← hkk] at hlrw hRI hLX0
        obtain ⟨XX, hXX⟩ : ∃ X, X = rowL kk St.zero := ⟨_, rfl⟩
        have hrw : ∀ W, Calls Tryd.prog 77 #[.int .i64 (kk : Int), .agg #[.int .i64 0, .int .i64 0, .bool false, .bool false, .bool false]] W fun e w' => ∃ v, e = .returned v ∧ OwnC w' W.heap.size v XX ∧ Below W.heap.size W w' := fun W => by rw [hXX]; exact hlrw W
        have hLX : (mendV ((rowX rows q).take q0)).length + XX.length < 2000000 := by rw [hL, hXX]; exact hLX0
        rw [← hXX] at hRI
        have hwk : IntKind.i64.wrap ((cn : Int) - (q0 : Int)) = (kk : Int) := by rw [show (cn : Int) - (q0 : Int) = (kk : Int) by omega]; simp [IntKind.wrap_i64]; omega
        have hmin : min (cn : Int) (gc : Int) = (q0 : Int) := by have := HQ0.out; omega
        have hmi1 := hmi
        simp only [hmin] at hmi1
        have hk0 : NG (w.heap.size + 1) wr.heap.size (cn : Int) (.slice ua un uc) (resUp rows cn q0 fr (q - fr)) (w.alloc (Obj.cells #[.int .i64 (gc : Int), .slice (some ⟨b, off, none⟩) rows.length c] 26)) (wr.alloc (Obj.cells #[] 75)) := k.below (bal' _ _)
        have hBw0 : wr.heap.size ≤ (wr.alloc (Obj.cells #[] 75)).heap.size := (bal' wr _).size
        have hall : ∀ W, Below (wr.alloc (Obj.cells #[] 75)).heap.size (wr.alloc (Obj.cells #[] 75)) W → (W.cell? ⟨w.heap.size, 1, none⟩ = some (.slice (some ⟨b, off, none⟩) rows.length c) ∧ W.cell? ⟨b, off + q, none⟩ = some (.slice aj gc cj) ∧ W.cell? ⟨w.heap.size, 0, none⟩ = some (.int .i64 (gc : Int))) := fun W h => by
          have h2 := (hk0.below h).2.2.2.2.2
          exact ⟨(h2.cell (p := ⟨w.heap.size, 1, none⟩) (Nat.lt_succ_self _)).trans hG0.2.2, ((h2.cell (p := ⟨b, off + q, none⟩) (show b < _ by omega)).trans (hb0.cell (p := ⟨b, off + q, none⟩) hbb)).trans (by rw [hrc q hin, ev]), (h2.cell (p := ⟨w.heap.size, 0, none⟩) (Nat.lt_succ_self _)).trans hG0.2.1⟩
        have hme : ∀ W, Below (wr.alloc (Obj.cells #[] 75)).heap.size (wr.alloc (Obj.cells #[] 75)) W → Calls Tryd.prog 81 #[.slice aj q0 cj] W fun e w' => ∃ u, e = .returned u ∧ OwnC w' W.heap.size u (mendV ((rowX rows q).take q0)) ∧ Below W.heap.size W w' := fun W h => by
          have h2 := (hk0.below h).2.2.2.2.2
          have h3 := ((hs q hin).below hb0).below (by rw [e0]; exact h2)
          rw [ev] at h3
          exact hmend _ _ W (h3.take q0 (by omega)) (by rw [List.length_take]; omega)
        have hbd1 := bdr (wr.alloc (Obj.cells #[] 75))
        have hkd := hall _ hbd1
        have hq0i : (0 : Int) ≤ (q0 : Int) := by omega
        have hq0c : (q0 : Int) ≤ (cj : Int) := by omega
        have hq0n : (0 : Int) ≤ (q : Int) := by omega
        clear hs hrc hv hG0 hb0 e0 hlrw hLX0 hPL hP k hsbi hXX hkk ev hmi hmin
        generalize mendV ((rowX rows q).take q0) = LL at *
        generalize hBB : wr.heap.size = B at hk0 hu hMB hBw0
        go_wp2
        go_region_held3 (fun W => W.cell? ⟨w.heap.size, 1, none⟩ = some (.slice (some ⟨b, off, none⟩) rows.length c) ∧ W.cell? ⟨b, off + q, none⟩ = some (.slice aj gc cj) ∧ W.cell? ⟨w.heap.size, 0, none⟩ = some (.int .i64 (gc : Int))) (with_reducible assumption)
          (first
            | (go_at_call 82; refine (hmi1 _).mono ?_; rintro e wm ⟨rfl, hw⟩; subst hw)
            | (go_at_call 81; refine (hme _ hbd1).mono ?_; rintro e wq ⟨u3, rfl, hor0, hb3⟩; have hbq := hbd1.trans hb3; have hkq := hall _ hbq))
        have k1 := hk0.below hbq
        have hBw : B ≤ wq.heap.size := Nat.le_trans hBw0 hbq.size
        have hor := hor0.low (base' := B) hBw0
        rcases hor.shape with ⟨_, h⟩ | ⟨gr, rc, rfl, _⟩
        · rw [h] at hL; simp at hL; omega
        rw [hL] at hor ⊢
        clear hk0 hall hme hkd hkq hbq hb3 hor0 hmi1 hBB hBw0
        obtain ⟨⟨_, ⟨d0, d1⟩, ⟨y0, y1⟩⟩, ⟨_, ⟨c0, c1⟩, ⟨z0, z1⟩⟩, _⟩ := id k1
        go_wp2
        refine wp_region_noPanic ?_
        refine wp_region_held_drew (S := fun _ => True) (by kernel_rfl) trivial (fun hHeld => ?_)
        refine' wpAnyH_take (i := 0) (v := _) rfl (by kernel_rfl) (by kernel_rfl) (by kernel_rfl) (fun _ _ _ h => h) (Or.inl ⟨by rfl, ?hy12⟩) hHeld ?hr12
        case hy12 => (intro w hSw; (try dsimp only at hSw); go_simp; (try with_reducible rfl))
        simp only [Act.put, List.setIfInBounds_toArray, List.set_cons_zero, List.set_cons_succ, List.getElem_toArray, List.getElem_cons_zero]
        refine' wpAnyH_take (i := 2) (v := _) rfl (by kernel_rfl) (by kernel_rfl) (by kernel_rfl) (fun _ _ _ h => h) (Or.inl ⟨by rfl, ?hy13⟩) hHeld ?hr13
        case hy13 => (intro w hSw; (try dsimp only at hSw); go_simp; (try with_reducible rfl))
        simp only [Act.put, List.setIfInBounds_toArray, List.set_cons_zero, List.set_cons_succ, List.getElem_toArray, List.getElem_cons_zero, List.getElem_cons_succ]
        refine' wpAnyH_take (i := 3) (v := _) rfl (by kernel_rfl) (by kernel_rfl) (by kernel_rfl) (fun _ _ _ h => h) (Or.inl ⟨by rfl, ?hy14⟩) hHeld ?hr14
        case hy14 => (intro w hSw; (try dsimp only at hSw); go_simp; (try with_reducible rfl))
        simp only [Act.put, List.setIfInBounds_toArray, List.set_cons_zero, List.set_cons_succ, List.getElem_toArray, List.getElem_cons_zero, List.getElem_cons_succ]
        refine' wpAnyH_take (i := 4) (v := _) rfl (by kernel_rfl) (by kernel_rfl) (by kernel_rfl) (fun _ _ _ h => h) (Or.inl ⟨by rfl, ?hy15⟩) hHeld ?hr15
        case hy15 => (intro w hSw; (try dsimp only at hSw); go_simp; (try with_reducible rfl))
        simp only [Act.put, List.setIfInBounds_toArray, List.set_cons_zero, List.set_cons_succ, List.getElem_toArray, List.getElem_cons_zero, List.getElem_cons_succ]
        refine' wpAnyH_take (i := 5) (v := _) rfl (by kernel_rfl) (by kernel_rfl) (by kernel_rfl) (fun _ _ _ h => h) (Or.inl ⟨by rfl, ?hy16⟩) hHeld ?hr16
        case hy16 => (intro w hSw; (try dsimp only at hSw); go_simp; (try with_reducible rfl))
        simp only [Act.put, List.setIfInBounds_toArray, List.set_cons_zero, List.set_cons_succ, List.getElem_toArray, List.getElem_cons_zero, List.getElem_cons_succ]
        refine' wpAnyH_take (i := 6) (v := _) rfl (by kernel_rfl) (by kernel_rfl) (by kernel_rfl) (fun _ _ _ h => h) (Or.inl ⟨by rfl, ?hy17⟩) hHeld ?hr17
        case hy17 => (intro w hSw; (try dsimp only at hSw); go_simp; (try with_reducible rfl))
        simp only [Act.put, List.setIfInBounds_toArray, List.set_cons_zero, List.set_cons_succ, List.getElem_toArray, List.getElem_cons_zero, List.getElem_cons_succ]
        refine' wpAnyH_take (i := 7) (v := _) rfl (by kernel_rfl) (by kernel_rfl) (by kernel_rfl) (fun _ _ _ h => h) (Or.inl ⟨by rfl, ?hy18⟩) hHeld ?hr18
        case hy18 => (intro w hSw; (try dsimp only at hSw); go_simp; (try with_reducible rfl))
        simp only [Act.put, List.setIfInBounds_toArray, List.set_cons_zero, List.set_cons_succ, List.getElem_toArray, List.getElem_cons_zero, List.getElem_cons_succ]
        refine wpAnyH_ready (rs := [1, 8]) (by kernel_rfl) (by simp) (AllReadyH.cons rfl (fun K hK => ?_) (AllReadyH.cons rfl (fun K hK => ?_) AllReadyH.nil))
        · go_simp
          refine hK.out _ _ trivial (fun hHeld => ?_)
          clear hK K
          (try simp only [Act.put, List.setIfInBounds_toArray, List.set_cons_zero, List.set_cons_succ, List.getElem_toArray, List.getElem_cons_zero, List.getElem_cons_succ])
          refine wpAnyH_ready (rs := [8]) (by kernel_rfl) (by simp) (AllReadyH.cons rfl (fun K hK => ?_) AllReadyH.nil)
          go_simp
          refine (hrw _).mono ?_
          rintro e w2 ⟨x, rfl, hox, hb2⟩
          have k2 := k1.drew.below hb2
          have ho2 := (hor.below (bdr wq)).below hb2
          clear hor k1 hrw
          clear d0 d1 y0 y1 c0 c1 z0 z1
          obtain ⟨⟨_, ⟨d0, d1⟩, ⟨y0, y1⟩⟩, ⟨_, ⟨c0, c1⟩, ⟨z0, z1⟩⟩, _⟩ := id k2
          obtain ⟨xa, xn, xc, rfl⟩ := hox.isSl
          go_wp2_with fail
          refine hK.out _ _ trivial (fun hHeld => ?_)
          clear hK K
          (try simp only [Act.put, List.setIfInBounds_toArray, List.set_cons_zero, List.set_cons_succ, List.getElem_toArray, List.getElem_cons_zero, List.getElem_cons_succ])
          refine wpAnyH_ready (rs := [9]) (by kernel_rfl) (by simp) (AllReadyH.cons rfl (fun K hK => ?_) AllReadyH.nil)
          refine step_append_oc2 (by rfl) _ _ (by rfl) B (.slice (some ⟨gr, 0, none⟩) q0 rc) LL (by rfl) ho2 (Nat.le_trans hBw hb2.size) _ XX (SlC.of_own hox) (by rfl) hLX ?_
          intro r3 w3 ho3 hg3
          have k3 := k2.kept2 hg3 (fun g e => by have := (ho2.lt g e).1; omega) hu
          have hB3 := Nat.le_trans (Nat.le_trans hBw hb2.size) hg3.size
          clear k2 ho2 hox hb2 hg3
          clear d0 d1 y0 y1 c0 c1 z0 z1
          obtain ⟨⟨_, ⟨d0, d1⟩, ⟨y0, y1⟩⟩, ⟨_, ⟨c0, c1⟩, ⟨z0, z1⟩⟩, _⟩ := id k3
          obtain ⟨sa, sn, sc, rfl⟩ := ho3.isSl
          refine hK.out _ _ trivial (fun hHeld => ?_)
          clear hK K
          (try simp only [Act.put, List.setIfInBounds_toArray, List.set_cons_zero, List.set_cons_succ, List.getElem_toArray, List.getElem_cons_zero, List.getElem_cons_succ])
          refine wpAnyH_ready (rs := [10]) (by kernel_rfl) (by simp) (AllReadyH.cons rfl (fun K hK => ?_) AllReadyH.nil)
          go_simp
          refine hK.out _ _ trivial (fun hHeld => ?_)
          clear hK K
          (try simp only [Act.put, List.setIfInBounds_toArray, List.set_cons_zero, List.set_cons_succ, List.getElem_toArray, List.getElem_cons_zero, List.getElem_cons_succ])
          refine wpAnyH_ready (rs := [11]) (by kernel_rfl) (by simp) (AllReadyH.cons rfl (fun K hK => ?_) AllReadyH.nil)
          refine step_append_og (by rfl) _ _ (by rfl) (w.heap.size + 1 + 2) B _ _ _ _ (by rfl) k3.2.2.1 (ho3.low hMB) (fun g e => (ho3.lt g e).1) k3.2.2.2.1 hlr _ rfl (by rfl) ?_
          intro v' w' ho' hg'
          have k4 := (k3.below (bal' _ _)).more ho' hg'
          clear k3 ho' hg' ho3 hB3
          clear d0 d1 y0 y1 c0 c1 z0 z1
          obtain ⟨⟨_, ⟨d0, d1⟩, ⟨y0, y1⟩⟩, ⟨_, ⟨c0, c1⟩, ⟨z0, z1⟩⟩, _⟩ := id k4
          obtain ⟨va, vn, vc, rfl⟩ := slSh (SlG.of_own k4.2.2.1)
          refine hK.out _ _ trivial (fun hHeld => ?_)
          clear hK K
          (try simp only [Act.put, List.setIfInBounds_toArray, List.set_cons_zero, List.set_cons_succ, List.getElem_toArray, List.getElem_cons_zero, List.getElem_cons_succ])
          refine' wpAnyH_take (i := 12) (v := _) rfl (by kernel_rfl) (by kernel_rfl) (by kernel_rfl) (fun _ _ _ h => h) (Or.inl ⟨by rfl, ?hy19⟩) hHeld ?hr19
          case hy19 => (intro w hSw; (try dsimp only at hSw); go_simp; (try with_reducible rfl))
          simp only [Act.put, List.setIfInBounds_toArray, List.set_cons_zero, List.set_cons_succ, List.getElem_toArray, List.getElem_cons_zero, List.getElem_cons_succ]
          refine wpAnyH_ready (rs := [13]) (by kernel_rfl) (by simp) (AllReadyH.cons rfl (fun K hK => ?_) AllReadyH.nil)
          go_simp
          refine hK.out _ _ trivial (fun hHeld => ?_)
          clear hK K
          (try simp only [Act.put, List.setIfInBounds_toArray, List.set_cons_zero, List.set_cons_succ, List.getElem_toArray, List.getElem_cons_zero, List.getElem_cons_succ])
          refine wpAnyH_done (by kernel_rfl) ?_ _
          refine NoPanic.normal ?_
          have k5 := ng_put k4
          simp only [putG] at k5
          clear k4 hHeld d0 d1 y0 y1 c0 c1 z0 z1
          go_wp2
          go_roundw
          case rel => exact ⟨q + 1, by go_num, by omega, by omega, _, by rw [hsn.out, hRI.out]; exact k5⟩
          case measure => simp [intOf]; omega
        · go_simp
          refine (hrw _).mono ?_
          rintro e w2 ⟨x, rfl, hox, hb2⟩
          have k2 := k1.drew.below hb2
          have ho2 := (hor.below (bdr wq)).below hb2
          clear hor k1 hrw
          clear d0 d1 y0 y1 c0 c1 z0 z1
          obtain ⟨⟨_, ⟨d0, d1⟩, ⟨y0, y1⟩⟩, ⟨_, ⟨c0, c1⟩, ⟨z0, z1⟩⟩, _⟩ := id k2
          obtain ⟨xa, xn, xc, rfl⟩ := hox.isSl
          go_wp2_with fail
          refine hK.out _ _ trivial (fun hHeld => ?_)
          clear hK K
          (try simp only [Act.put, List.setIfInBounds_toArray, List.set_cons_zero, List.set_cons_succ, List.getElem_toArray, List.getElem_cons_zero, List.getElem_cons_succ])
          refine wpAnyH_ready (rs := [1, 9]) (by kernel_rfl) (by simp) (AllReadyH.cons rfl (fun K hK => ?_) (AllReadyH.cons rfl (fun K hK => ?_) AllReadyH.nil))
          · go_simp
            refine hK.out _ _ trivial (fun hHeld => ?_)
            clear hK K
            (try simp only [Act.put, List.setIfInBounds_toArray, List.set_cons_zero, List.set_cons_succ, List.getElem_toArray, List.getElem_cons_zero, List.getElem_cons_succ])
            refine wpAnyH_ready (rs := [9]) (by kernel_rfl) (by simp) (AllReadyH.cons rfl (fun K hK => ?_) AllReadyH.nil)
            refine step_append_oc2 (by rfl) _ _ (by rfl) B (.slice (some ⟨gr, 0, none⟩) q0 rc) LL (by rfl) ho2 (Nat.le_trans hBw hb2.size) _ XX (SlC.of_own hox) (by rfl) hLX ?_
            intro r3 w3 ho3 hg3
            have k3 := k2.kept2 hg3 (fun g e => by have := (ho2.lt g e).1; omega) hu
            have hB3 := Nat.le_trans (Nat.le_trans hBw hb2.size) hg3.size
            clear k2 ho2 hox hb2 hg3
            clear d0 d1 y0 y1 c0 c1 z0 z1
            obtain ⟨⟨_, ⟨d0, d1⟩, ⟨y0, y1⟩⟩, ⟨_, ⟨c0, c1⟩, ⟨z0, z1⟩⟩, _⟩ := id k3
            obtain ⟨sa, sn, sc, rfl⟩ := ho3.isSl
            refine hK.out _ _ trivial (fun hHeld => ?_)
            clear hK K
            (try simp only [Act.put, List.setIfInBounds_toArray, List.set_cons_zero, List.set_cons_succ, List.getElem_toArray, List.getElem_cons_zero, List.getElem_cons_succ])
            refine wpAnyH_ready (rs := [10]) (by kernel_rfl) (by simp) (AllReadyH.cons rfl (fun K hK => ?_) AllReadyH.nil)
            go_simp
            refine hK.out _ _ trivial (fun hHeld => ?_)
            clear hK K
            (try simp only [Act.put, List.setIfInBounds_toArray, List.set_cons_zero, List.set_cons_succ, List.getElem_toArray, List.getElem_cons_zero, List.getElem_cons_succ])
            refine wpAnyH_ready (rs := [11]) (by kernel_rfl) (by simp) (AllReadyH.cons rfl (fun K hK => ?_) AllReadyH.nil)
            refine step_append_og (by rfl) _ _ (by rfl) (w.heap.size + 1 + 2) B _ _ _ _ (by rfl) k3.2.2.1 (ho3.low hMB) (fun g e => (ho3.lt g e).1) k3.2.2.2.1 hlr _ rfl (by rfl) ?_
            intro v' w' ho' hg'
            have k4 := (k3.below (bal' _ _)).more ho' hg'
            clear k3 ho' hg' ho3 hB3
            clear d0 d1 y0 y1 c0 c1 z0 z1
            obtain ⟨⟨_, ⟨d0, d1⟩, ⟨y0, y1⟩⟩, ⟨_, ⟨c0, c1⟩, ⟨z0, z1⟩⟩, _⟩ := id k4
            obtain ⟨va, vn, vc, rfl⟩ := slSh (SlG.of_own k4.2.2.1)
            refine hK.out _ _ trivial (fun hHeld => ?_)
            clear hK K
            (try simp only [Act.put, List.setIfInBounds_toArray, List.set_cons_zero, List.set_cons_succ, List.getElem_toArray, List.getElem_cons_zero, List.getElem_cons_succ])
            refine' wpAnyH_take (i := 12) (v := _) rfl (by kernel_rfl) (by kernel_rfl) (by kernel_rfl) (fun _ _ _ h => h) (Or.inl ⟨by rfl, ?hy20⟩) hHeld ?hr20
            case hy20 => (intro w hSw; (try dsimp only at hSw); go_simp; (try with_reducible rfl))
            simp only [Act.put, List.setIfInBounds_toArray, List.set_cons_zero, List.set_cons_succ, List.getElem_toArray, List.getElem_cons_zero, List.getElem_cons_succ]
            refine wpAnyH_ready (rs := [13]) (by kernel_rfl) (by simp) (AllReadyH.cons rfl (fun K hK => ?_) AllReadyH.nil)
            go_simp
            refine hK.out _ _ trivial (fun hHeld => ?_)
            clear hK K
            (try simp only [Act.put, List.setIfInBounds_toArray, List.set_cons_zero, List.set_cons_succ, List.getElem_toArray, List.getElem_cons_zero, List.getElem_cons_succ])
            refine wpAnyH_done (by kernel_rfl) ?_ _
            refine NoPanic.normal ?_
            have k5 := ng_put k4
            simp only [putG] at k5
            clear k4 hHeld d0 d1 y0 y1 c0 c1 z0 z1
            go_wp2
            go_roundw
            case rel => exact ⟨q + 1, by go_num, by omega, by omega, _, by rw [hsn.out, hRI.out]; exact k5⟩
            case measure => simp [intOf]; omega
          · refine step_append_oc2 (by rfl) _ _ (by rfl) B (.slice (some ⟨gr, 0, none⟩) q0 rc) LL (by rfl) ho2 (Nat.le_trans hBw hb2.size) _ XX (SlC.of_own hox) (by rfl) hLX ?_
            intro r3 w3 ho3 hg3
            have k3 := k2.kept2 hg3 (fun g e => by have := (ho2.lt g e).1; omega) hu
            have hB3 := Nat.le_trans (Nat.le_trans hBw hb2.size) hg3.size
            clear k2 ho2 hox hb2 hg3
            clear d0 d1 y0 y1 c0 c1 z0 z1
            obtain ⟨⟨_, ⟨d0, d1⟩, ⟨y0, y1⟩⟩, ⟨_, ⟨c0, c1⟩, ⟨z0, z1⟩⟩, _⟩ := id k3
            obtain ⟨sa, sn, sc, rfl⟩ := ho3.isSl
            refine hK.out _ _ trivial (fun hHeld => ?_)
            clear hK K
            (try simp only [Act.put, List.setIfInBounds_toArray, List.set_cons_zero, List.set_cons_succ, List.getElem_toArray, List.getElem_cons_zero, List.getElem_cons_succ])
            refine wpAnyH_ready (rs := [1, 10]) (by kernel_rfl) (by simp) (AllReadyH.cons rfl (fun K hK => ?_) (AllReadyH.cons rfl (fun K hK => ?_) AllReadyH.nil))
            · go_simp
              refine hK.out _ _ trivial (fun hHeld => ?_)
              clear hK K
              (try simp only [Act.put, List.setIfInBounds_toArray, List.set_cons_zero, List.set_cons_succ, List.getElem_toArray, List.getElem_cons_zero, List.getElem_cons_succ])
              refine wpAnyH_ready (rs := [10]) (by kernel_rfl) (by simp) (AllReadyH.cons rfl (fun K hK => ?_) AllReadyH.nil)
              go_simp
              refine hK.out _ _ trivial (fun hHeld => ?_)
              clear hK K
              (try simp only [Act.put, List.setIfInBounds_toArray, List.set_cons_zero, List.set_cons_succ, List.getElem_toArray, List.getElem_cons_zero, List.getElem_cons_succ])
              refine wpAnyH_ready (rs := [11]) (by kernel_rfl) (by simp) (AllReadyH.cons rfl (fun K hK => ?_) AllReadyH.nil)
              refine step_append_og (by rfl) _ _ (by rfl) (w.heap.size + 1 + 2) B _ _ _ _ (by rfl) k3.2.2.1 (ho3.low hMB) (fun g e => (ho3.lt g e).1) k3.2.2.2.1 hlr _ rfl (by rfl) ?_
              intro v' w' ho' hg'
              have k4 := (k3.below (bal' _ _)).more ho' hg'
              clear k3 ho' hg' ho3 hB3
              clear d0 d1 y0 y1 c0 c1 z0 z1
              obtain ⟨⟨_, ⟨d0, d1⟩, ⟨y0, y1⟩⟩, ⟨_, ⟨c0, c1⟩, ⟨z0, z1⟩⟩, _⟩ := id k4
              obtain ⟨va, vn, vc, rfl⟩ := slSh (SlG.of_own k4.2.2.1)
              refine hK.out _ _ trivial (fun hHeld => ?_)
              clear hK K
              (try simp only [Act.put, List.setIfInBounds_toArray, List.set_cons_zero, List.set_cons_succ, List.getElem_toArray, List.getElem_cons_zero, List.getElem_cons_succ])
              refine' wpAnyH_take (i := 12) (v := _) rfl (by kernel_rfl) (by kernel_rfl) (by kernel_rfl) (fun _ _ _ h => h) (Or.inl ⟨by rfl, ?hy21⟩) hHeld ?hr21
              case hy21 => (intro w hSw; (try dsimp only at hSw); go_simp; (try with_reducible rfl))
              simp only [Act.put, List.setIfInBounds_toArray, List.set_cons_zero, List.set_cons_succ, List.getElem_toArray, List.getElem_cons_zero, List.getElem_cons_succ]
              refine wpAnyH_ready (rs := [13]) (by kernel_rfl) (by simp) (AllReadyH.cons rfl (fun K hK => ?_) AllReadyH.nil)
              go_simp
              refine hK.out _ _ trivial (fun hHeld => ?_)
              clear hK K
              (try simp only [Act.put, List.setIfInBounds_toArray, List.set_cons_zero, List.set_cons_succ, List.getElem_toArray, List.getElem_cons_zero, List.getElem_cons_succ])
              refine wpAnyH_done (by kernel_rfl) ?_ _
              refine NoPanic.normal ?_
              have k5 := ng_put k4
              simp only [putG] at k5
              clear k4 hHeld d0 d1 y0 y1 c0 c1 z0 z1
              go_wp2
              go_roundw
              case rel => exact ⟨q + 1, by go_num, by omega, by omega, _, by rw [hsn.out, hRI.out]; exact k5⟩
              case measure => simp [intOf]; omega
            · go_simp
              refine hK.out _ _ trivial (fun hHeld => ?_)
              clear hK K
              (try simp only [Act.put, List.setIfInBounds_toArray, List.set_cons_zero, List.set_cons_succ, List.getElem_toArray, List.getElem_cons_zero, List.getElem_cons_succ])
              refine wpAnyH_ready (rs := [1]) (by kernel_rfl) (by simp) (AllReadyH.cons rfl (fun K hK => ?_) AllReadyH.nil)
              go_simp
              refine hK.out _ _ trivial (fun hHeld => ?_)
              clear hK K
              (try simp only [Act.put, List.setIfInBounds_toArray, List.set_cons_zero, List.set_cons_succ, List.getElem_toArray, List.getElem_cons_zero, List.getElem_cons_succ])
              refine wpAnyH_ready (rs := [11]) (by kernel_rfl) (by simp) (AllReadyH.cons rfl (fun K hK => ?_) AllReadyH.nil)
              refine step_append_og (by rfl) _ _ (by rfl) (w.heap.size + 1 + 2) B _ _ _ _ (by rfl) k3.2.2.1 (ho3.low hMB) (fun g e => (ho3.lt g e).1) k3.2.2.2.1 hlr _ rfl (by rfl) ?_
              intro v' w' ho' hg'
              have k4 := (k3.below (bal' _ _)).more ho' hg'
              clear k3 ho' hg' ho3 hB3
              clear d0 d1 y0 y1 c0 c1 z0 z1
              obtain ⟨⟨_, ⟨d0, d1⟩, ⟨y0, y1⟩⟩, ⟨_, ⟨c0, c1⟩, ⟨z0, z1⟩⟩, _⟩ := id k4
              obtain ⟨va, vn, vc, rfl⟩ := slSh (SlG.of_own k4.2.2.1)
              refine hK.out _ _ trivial (fun hHeld => ?_)
              clear hK K
              (try simp only [Act.put, List.setIfInBounds_toArray, List.set_cons_zero, List.set_cons_succ, List.getElem_toArray, List.getElem_cons_zero, List.getElem_cons_succ])
              refine' wpAnyH_take (i := 12) (v := _) rfl (by kernel_rfl) (by kernel_rfl) (by kernel_rfl) (fun _ _ _ h => h) (Or.inl ⟨by rfl, ?hy22⟩) hHeld ?hr22
              case hy22 => (intro w hSw; (try dsimp only at hSw); go_simp; (try with_reducible rfl))
              simp only [Act.put, List.setIfInBounds_toArray, List.set_cons_zero, List.set_cons_succ, List.getElem_toArray, List.getElem_cons_zero, List.getElem_cons_succ]
              refine wpAnyH_ready (rs := [13]) (by kernel_rfl) (by simp) (AllReadyH.cons rfl (fun K hK => ?_) AllReadyH.nil)
              go_simp
              refine hK.out _ _ trivial (fun hHeld => ?_)
              clear hK K
              (try simp only [Act.put, List.setIfInBounds_toArray, List.set_cons_zero, List.set_cons_succ, List.getElem_toArray, List.getElem_cons_zero, List.getElem_cons_succ])
              refine wpAnyH_done (by kernel_rfl) ?_ _
              refine NoPanic.normal ?_
              have k5 := ng_put k4
              simp only [putG] at k5
              clear k4 hHeld d0 d1 y0 y1 c0 c1 z0 z1
              go_wp2
              go_roundw
              case rel => exact ⟨q + 1, by go_num, by omega, by omega, _, by rw [hsn.out, hRI.out]; exact k5⟩
              case measure => simp [intOf]; omega
      · have hini : ¬ (q : Int) < (rows.length : Int) := by omega
        have hP : rowPart rows q0 q = [] := by unfold rowPart; rw [if_neg hin]
        have hor := ownC_nil wr wr.heap.size (Nat.le_refl _)
        have k1 := k.below (bal' wr (Obj.cells #[] 75))
        rw [hP] at hRI hlrw hLX0
        simp only [List.length_nil, Nat.sub_zero] at hRI hlrw hLX0
        obtain ⟨XX, hXX⟩ : ∃ X, X = rowL cn St.zero := ⟨_, rfl⟩
        have hrw : ∀ W, Calls Tryd.prog 77 #[.int .i64 (cn : Int), .agg #[.int .i64 0, .int .i64 0, .bool false, .bool false, .bool false]] W fun e w' => ∃ v, e = .returned v ∧ OwnC w' W.heap.size v XX ∧ Below W.heap.size W w' := fun W => by rw [hXX]; exact hlrw W
        have hLX := hLX0
        rw [← hXX] at hLX hRI
        have hwc : IntKind.i64.wrap (cn : Int) = (cn : Int) := by simp [IntKind.wrap_i64]; omega
        clear hs hrc hv hG0 hb0 e0 hlrw hLX0 hPL hP k hsbi
        clear hXX
        rw [← List.length_nil (α := Ce)] at hLX
        obtain ⟨LL, hLL⟩ : ∃ L : List Ce, L = [] := ⟨_, rfl⟩
        rw [← hLL] at hor hRI hLX
        clear hLL
        obtain ⟨⟨_, ⟨d0, d1⟩, ⟨y0, y1⟩⟩, ⟨_, ⟨c0, c1⟩, ⟨z0, z1⟩⟩, _⟩ := id k1
        go_wp2
        have hBw : wr.heap.size ≤ (wr.alloc (Obj.cells #[] 75)).heap.size := (bal' wr _).size
        generalize wr.alloc (Obj.cells #[] 75) = wq at *
        generalize wr.heap.size = B at *
        refine wp_region_noPanic ?_
        refine wp_region_held_drew (S := fun _ => True) (by kernel_rfl) trivial (fun hHeld => ?_)
        refine' wpAnyH_take (i := 0) (v := _) rfl (by kernel_rfl) (by kernel_rfl) (by kernel_rfl) (fun _ _ _ h => h) (Or.inl ⟨by rfl, ?hy1⟩) hHeld ?hr1
        case hy1 => (intro w hSw; (try dsimp only at hSw); go_simp; (try with_reducible rfl))
        simp only [Act.put, List.setIfInBounds_toArray, List.set_cons_zero, List.set_cons_succ, List.getElem_toArray, List.getElem_cons_zero]
        refine' wpAnyH_take (i := 2) (v := _) rfl (by kernel_rfl) (by kernel_rfl) (by kernel_rfl) (fun _ _ _ h => h) (Or.inl ⟨by rfl, ?hy2⟩) hHeld ?hr2
        case hy2 => (intro w hSw; (try dsimp only at hSw); go_simp; (try with_reducible rfl))
        simp only [Act.put, List.setIfInBounds_toArray, List.set_cons_zero, List.set_cons_succ, List.getElem_toArray, List.getElem_cons_zero, List.getElem_cons_succ]
        refine' wpAnyH_take (i := 3) (v := _) rfl (by kernel_rfl) (by kernel_rfl) (by kernel_rfl) (fun _ _ _ h => h) (Or.inl ⟨by rfl, ?hy3⟩) hHeld ?hr3
        case hy3 => (intro w hSw; (try dsimp only at hSw); go_simp; (try with_reducible rfl))
        simp only [Act.put, List.setIfInBounds_toArray, List.set_cons_zero, List.set_cons_succ, List.getElem_toArray, List.getElem_cons_zero, List.getElem_cons_succ]
        refine' wpAnyH_take (i := 4) (v := _) rfl (by kernel_rfl) (by kernel_rfl) (by kernel_rfl) (fun _ _ _ h => h) (Or.inl ⟨by rfl, ?hy4⟩) hHeld ?hr4
        case hy4 => (intro w hSw; (try dsimp only at hSw); go_simp; (try with_reducible rfl))
        simp only [Act.put, List.setIfInBounds_toArray, List.set_cons_zero, List.set_cons_succ, List.getElem_toArray, List.getElem_cons_zero, List.getElem_cons_succ]
        refine' wpAnyH_take (i := 5) (v := _) rfl (by kernel_rfl) (by kernel_rfl) (by kernel_rfl) (fun _ _ _ h => h) (Or.inl ⟨by rfl, ?hy5⟩) hHeld ?hr5
        case hy5 => (intro w hSw; (try dsimp only at hSw); go_simp; (try with_reducible rfl))
        simp only [Act.put, List.setIfInBounds_toArray, List.set_cons_zero, List.set_cons_succ, List.getElem_toArray, List.getElem_cons_zero, List.getElem_cons_succ]
        refine' wpAnyH_take (i := 6) (v := _) rfl (by kernel_rfl) (by kernel_rfl) (by kernel_rfl) (fun _ _ _ h => h) (Or.inl ⟨by rfl, ?hy6⟩) hHeld ?hr6
        case hy6 => (intro w hSw; (try dsimp only at hSw); go_simp; (try with_reducible rfl))
        simp only [Act.put, List.setIfInBounds_toArray, List.set_cons_zero, List.set_cons_succ, List.getElem_toArray, List.getElem_cons_zero, List.getElem_cons_succ]
        refine' wpAnyH_take (i := 7) (v := _) rfl (by kernel_rfl) (by kernel_rfl) (by kernel_rfl) (fun _ _ _ h => h) (Or.inl ⟨by rfl, ?hy7⟩) hHeld ?hr7
        case hy7 => (intro w hSw; (try dsimp only at hSw); go_simp; (try with_reducible rfl))
        simp only [Act.put, List.setIfInBounds_toArray, List.set_cons_zero, List.set_cons_succ, List.getElem_toArray, List.getElem_cons_zero, List.getElem_cons_succ]
        refine wpAnyH_ready (rs := [1, 8]) (by kernel_rfl) (by simp) (AllReadyH.cons rfl (fun K hK => ?_) (AllReadyH.cons rfl (fun K hK => ?_) AllReadyH.nil))
        · go_simp
          refine hK.out _ _ trivial (fun hHeld => ?_)
          clear hK K
          (try simp only [Act.put, List.setIfInBounds_toArray, List.set_cons_zero, List.set_cons_succ, List.getElem_toArray, List.getElem_cons_zero, List.getElem_cons_succ])
          refine wpAnyH_ready (rs := [8]) (by kernel_rfl) (by simp) (AllReadyH.cons rfl (fun K hK => ?_) AllReadyH.nil)
          go_simp
          refine (hrw _).mono ?_
          rintro e w2 ⟨x, rfl, hox, hb2⟩
          have k2 := k1.drew.below hb2
          have ho2 := (hor.below (bdr wq)).below hb2
          clear hor k1 hrw
          clear d0 d1 y0 y1 c0 c1 z0 z1
          obtain ⟨⟨_, ⟨d0, d1⟩, ⟨y0, y1⟩⟩, ⟨_, ⟨c0, c1⟩, ⟨z0, z1⟩⟩, _⟩ := id k2
          obtain ⟨xa, xn, xc, rfl⟩ := hox.isSl
          go_wp2_with fail
          refine hK.out _ _ trivial (fun hHeld => ?_)
          clear hK K
          (try simp only [Act.put, List.setIfInBounds_toArray, List.set_cons_zero, List.set_cons_succ, List.getElem_toArray, List.getElem_cons_zero, List.getElem_cons_succ])
          refine wpAnyH_ready (rs := [9]) (by kernel_rfl) (by simp) (AllReadyH.cons rfl (fun K hK => ?_) AllReadyH.nil)
          refine step_append_oc2 (by rfl) _ _ (by rfl) B (.slice (some ⟨B, 0, none⟩) 0 0) LL (by rfl) ho2 (Nat.le_trans hBw hb2.size) _ XX (SlC.of_own hox) (by rfl) hLX ?_
          intro r3 w3 ho3 hg3
          have k3 := k2.kept2 hg3 (fun g e => by have := (ho2.lt g e).1; omega) hu
          have hB3 := Nat.le_trans (Nat.le_trans hBw hb2.size) hg3.size
          clear k2 ho2 hox hb2 hg3
          clear d0 d1 y0 y1 c0 c1 z0 z1
          obtain ⟨⟨_, ⟨d0, d1⟩, ⟨y0, y1⟩⟩, ⟨_, ⟨c0, c1⟩, ⟨z0, z1⟩⟩, _⟩ := id k3
          obtain ⟨sa, sn, sc, rfl⟩ := ho3.isSl
          refine hK.out _ _ trivial (fun hHeld => ?_)
          clear hK K
          (try simp only [Act.put, List.setIfInBounds_toArray, List.set_cons_zero, List.set_cons_succ, List.getElem_toArray, List.getElem_cons_zero, List.getElem_cons_succ])
          refine wpAnyH_ready (rs := [10]) (by kernel_rfl) (by simp) (AllReadyH.cons rfl (fun K hK => ?_) AllReadyH.nil)
          go_simp
          refine hK.out _ _ trivial (fun hHeld => ?_)
          clear hK K
          (try simp only [Act.put, List.setIfInBounds_toArray, List.set_cons_zero, List.set_cons_succ, List.getElem_toArray, List.getElem_cons_zero, List.getElem_cons_succ])
          refine wpAnyH_ready (rs := [11]) (by kernel_rfl) (by simp) (AllReadyH.cons rfl (fun K hK => ?_) AllReadyH.nil)
          refine step_append_og (by rfl) _ _ (by rfl) (w.heap.size + 1 + 2) B _ _ _ _ (by rfl) k3.2.2.1 (ho3.low hMB) (fun g e => (ho3.lt g e).1) k3.2.2.2.1 hlr _ rfl (by rfl) ?_
          intro v' w' ho' hg'
          have k4 := (k3.below (bal' _ _)).more ho' hg'
          clear k3 ho' hg' ho3 hB3
          clear d0 d1 y0 y1 c0 c1 z0 z1
          obtain ⟨⟨_, ⟨d0, d1⟩, ⟨y0, y1⟩⟩, ⟨_, ⟨c0, c1⟩, ⟨z0, z1⟩⟩, _⟩ := id k4
          obtain ⟨va, vn, vc, rfl⟩ := slSh (SlG.of_own k4.2.2.1)
          refine hK.out _ _ trivial (fun hHeld => ?_)
          clear hK K
          (try simp only [Act.put, List.setIfInBounds_toArray, List.set_cons_zero, List.set_cons_succ, List.getElem_toArray, List.getElem_cons_zero, List.getElem_cons_succ])
          refine' wpAnyH_take (i := 12) (v := _) rfl (by kernel_rfl) (by kernel_rfl) (by kernel_rfl) (fun _ _ _ h => h) (Or.inl ⟨by rfl, ?hy8⟩) hHeld ?hr8
          case hy8 => (intro w hSw; (try dsimp only at hSw); go_simp; (try with_reducible rfl))
          simp only [Act.put, List.setIfInBounds_toArray, List.set_cons_zero, List.set_cons_succ, List.getElem_toArray, List.getElem_cons_zero, List.getElem_cons_succ]
          refine wpAnyH_ready (rs := [13]) (by kernel_rfl) (by simp) (AllReadyH.cons rfl (fun K hK => ?_) AllReadyH.nil)
          go_simp
          refine hK.out _ _ trivial (fun hHeld => ?_)
          clear hK K
          (try simp only [Act.put, List.setIfInBounds_toArray, List.set_cons_zero, List.set_cons_succ, List.getElem_toArray, List.getElem_cons_zero, List.getElem_cons_succ])
          refine wpAnyH_done (by kernel_rfl) ?_ _
          refine NoPanic.normal ?_
          have k5 := ng_put k4
          simp only [putG] at k5
          clear k4 hHeld d0 d1 y0 y1 c0 c1 z0 z1
          go_wp2
          go_roundw
          case rel => exact ⟨q + 1, by go_num, by omega, by omega, _, by rw [hsn.out, hRI.out]; exact k5⟩
          case measure => simp [intOf]; omega
        · go_simp
          refine (hrw _).mono ?_
          rintro e w2 ⟨x, rfl, hox, hb2⟩
          have k2 := k1.drew.below hb2
          have ho2 := (hor.below (bdr wq)).below hb2
          clear hor k1 hrw
          clear d0 d1 y0 y1 c0 c1 z0 z1
          obtain ⟨⟨_, ⟨d0, d1⟩, ⟨y0, y1⟩⟩, ⟨_, ⟨c0, c1⟩, ⟨z0, z1⟩⟩, _⟩ := id k2
          obtain ⟨xa, xn, xc, rfl⟩ := hox.isSl
          go_wp2_with fail
          refine hK.out _ _ trivial (fun hHeld => ?_)
          clear hK K
          (try simp only [Act.put, List.setIfInBounds_toArray, List.set_cons_zero, List.set_cons_succ, List.getElem_toArray, List.getElem_cons_zero, List.getElem_cons_succ])
          refine wpAnyH_ready (rs := [1, 9]) (by kernel_rfl) (by simp) (AllReadyH.cons rfl (fun K hK => ?_) (AllReadyH.cons rfl (fun K hK => ?_) AllReadyH.nil))
          · go_simp
            refine hK.out _ _ trivial (fun hHeld => ?_)
            clear hK K
            (try simp only [Act.put, List.setIfInBounds_toArray, List.set_cons_zero, List.set_cons_succ, List.getElem_toArray, List.getElem_cons_zero, List.getElem_cons_succ])
            refine wpAnyH_ready (rs := [9]) (by kernel_rfl) (by simp) (AllReadyH.cons rfl (fun K hK => ?_) AllReadyH.nil)
            refine step_append_oc2 (by rfl) _ _ (by rfl) B (.slice (some ⟨B, 0, none⟩) 0 0) LL (by rfl) ho2 (Nat.le_trans hBw hb2.size) _ XX (SlC.of_own hox) (by rfl) hLX ?_
            intro r3 w3 ho3 hg3
            have k3 := k2.kept2 hg3 (fun g e => by have := (ho2.lt g e).1; omega) hu
            have hB3 := Nat.le_trans (Nat.le_trans hBw hb2.size) hg3.size
            clear k2 ho2 hox hb2 hg3
            clear d0 d1 y0 y1 c0 c1 z0 z1
            obtain ⟨⟨_, ⟨d0, d1⟩, ⟨y0, y1⟩⟩, ⟨_, ⟨c0, c1⟩, ⟨z0, z1⟩⟩, _⟩ := id k3
            obtain ⟨sa, sn, sc, rfl⟩ := ho3.isSl
            refine hK.out _ _ trivial (fun hHeld => ?_)
            clear hK K
            (try simp only [Act.put, List.setIfInBounds_toArray, List.set_cons_zero, List.set_cons_succ, List.getElem_toArray, List.getElem_cons_zero, List.getElem_cons_succ])
            refine wpAnyH_ready (rs := [10]) (by kernel_rfl) (by simp) (AllReadyH.cons rfl (fun K hK => ?_) AllReadyH.nil)
            go_simp
            refine hK.out _ _ trivial (fun hHeld => ?_)
            clear hK K
            (try simp only [Act.put, List.setIfInBounds_toArray, List.set_cons_zero, List.set_cons_succ, List.getElem_toArray, List.getElem_cons_zero, List.getElem_cons_succ])
            refine wpAnyH_ready (rs := [11]) (by kernel_rfl) (by simp) (AllReadyH.cons rfl (fun K hK => ?_) AllReadyH.nil)
            refine step_append_og (by rfl) _ _ (by rfl) (w.heap.size + 1 + 2) B _ _ _ _ (by rfl) k3.2.2.1 (ho3.low hMB) (fun g e => (ho3.lt g e).1) k3.2.2.2.1 hlr _ rfl (by rfl) ?_
            intro v' w' ho' hg'
            have k4 := (k3.below (bal' _ _)).more ho' hg'
            clear k3 ho' hg' ho3 hB3
            clear d0 d1 y0 y1 c0 c1 z0 z1
            obtain ⟨⟨_, ⟨d0, d1⟩, ⟨y0, y1⟩⟩, ⟨_, ⟨c0, c1⟩, ⟨z0, z1⟩⟩, _⟩ := id k4
            obtain ⟨va, vn, vc, rfl⟩ := slSh (SlG.of_own k4.2.2.1)
            refine hK.out _ _ trivial (fun hHeld => ?_)
            clear hK K
            (try simp only [Act.put, List.setIfInBounds_toArray, List.set_cons_zero, List.set_cons_succ, List.getElem_toArray, List.getElem_cons_zero, List.getElem_cons_succ])
            refine' wpAnyH_take (i := 12) (v := _) rfl (by kernel_rfl) (by kernel_rfl) (by kernel_rfl) (fun _ _ _ h => h) (Or.inl ⟨by rfl, ?hy9⟩) hHeld ?hr9
            case hy9 => (intro w hSw; (try dsimp only at hSw); go_simp; (try with_reducible rfl))
            simp only [Act.put, List.setIfInBounds_toArray, List.set_cons_zero, List.set_cons_succ, List.getElem_toArray, List.getElem_cons_zero, List.getElem_cons_succ]
            refine wpAnyH_ready (rs := [13]) (by kernel_rfl) (by simp) (AllReadyH.cons rfl (fun K hK => ?_) AllReadyH.nil)
            go_simp
            refine hK.out _ _ trivial (fun hHeld => ?_)
            clear hK K
            (try simp only [Act.put, List.setIfInBounds_toArray, List.set_cons_zero, List.set_cons_succ, List.getElem_toArray, List.getElem_cons_zero, List.getElem_cons_succ])
            refine wpAnyH_done (by kernel_rfl) ?_ _
            refine NoPanic.normal ?_
            have k5 := ng_put k4
            simp only [putG] at k5
            clear k4 hHeld d0 d1 y0 y1 c0 c1 z0 z1
            go_wp2
            go_roundw
            case rel => exact ⟨q + 1, by go_num, by omega, by omega, _, by rw [hsn.out, hRI.out]; exact k5⟩
            case measure => simp [intOf]; omega
          · refine step_append_oc2 (by rfl) _ _ (by rfl) B (.slice (some ⟨B, 0, none⟩) 0 0) LL (by rfl) ho2 (Nat.le_trans hBw hb2.size) _ XX (SlC.of_own hox) (by rfl) hLX ?_
            intro r3 w3 ho3 hg3
            have k3 := k2.kept2 hg3 (fun g e => by have := (ho2.lt g e).1; omega) hu
            have hB3 := Nat.le_trans (Nat.le_trans hBw hb2.size) hg3.size
            clear k2 ho2 hox hb2 hg3
            clear d0 d1 y0 y1 c0 c1 z0 z1
            obtain ⟨⟨_, ⟨d0, d1⟩, ⟨y0, y1⟩⟩, ⟨_, ⟨c0, c1⟩, ⟨z0, z1⟩⟩, _⟩ := id k3
            obtain ⟨sa, sn, sc, rfl⟩ := ho3.isSl
            refine hK.out _ _ trivial (fun hHeld => ?_)
            clear hK K
            (try simp only [Act.put, List.setIfInBounds_toArray, List.set_cons_zero, List.set_cons_succ, List.getElem_toArray, List.getElem_cons_zero, List.getElem_cons_succ])
            refine wpAnyH_ready (rs := [1, 10]) (by kernel_rfl) (by simp) (AllReadyH.cons rfl (fun K hK => ?_) (AllReadyH.cons rfl (fun K hK => ?_) AllReadyH.nil))
            · go_simp
              refine hK.out _ _ trivial (fun hHeld => ?_)
              clear hK K
              (try simp only [Act.put, List.setIfInBounds_toArray, List.set_cons_zero, List.set_cons_succ, List.getElem_toArray, List.getElem_cons_zero, List.getElem_cons_succ])
              refine wpAnyH_ready (rs := [10]) (by kernel_rfl) (by simp) (AllReadyH.cons rfl (fun K hK => ?_) AllReadyH.nil)
              go_simp
              refine hK.out _ _ trivial (fun hHeld => ?_)
              clear hK K
              (try simp only [Act.put, List.setIfInBounds_toArray, List.set_cons_zero, List.set_cons_succ, List.getElem_toArray, List.getElem_cons_zero, List.getElem_cons_succ])
              refine wpAnyH_ready (rs := [11]) (by kernel_rfl) (by simp) (AllReadyH.cons rfl (fun K hK => ?_) AllReadyH.nil)
              refine step_append_og (by rfl) _ _ (by rfl) (w.heap.size + 1 + 2) B _ _ _ _ (by rfl) k3.2.2.1 (ho3.low hMB) (fun g e => (ho3.lt g e).1) k3.2.2.2.1 hlr _ rfl (by rfl) ?_
              intro v' w' ho' hg'
              have k4 := (k3.below (bal' _ _)).more ho' hg'
              clear k3 ho' hg' ho3 hB3
              clear d0 d1 y0 y1 c0 c1 z0 z1
              obtain ⟨⟨_, ⟨d0, d1⟩, ⟨y0, y1⟩⟩, ⟨_, ⟨c0, c1⟩, ⟨z0, z1⟩⟩, _⟩ := id k4
              obtain ⟨va, vn, vc, rfl⟩ := slSh (SlG.of_own k4.2.2.1)
              refine hK.out _ _ trivial (fun hHeld => ?_)
              clear hK K
              (try simp only [Act.put, List.setIfInBounds_toArray, List.set_cons_zero, List.set_cons_succ, List.getElem_toArray, List.getElem_cons_zero, List.getElem_cons_succ])
              refine' wpAnyH_take (i := 12) (v := _) rfl (by kernel_rfl) (by kernel_rfl) (by kernel_rfl) (fun _ _ _ h => h) (Or.inl ⟨by rfl, ?hy10⟩) hHeld ?hr10
              case hy10 => (intro w hSw; (try dsimp only at hSw); go_simp; (try with_reducible rfl))
              simp only [Act.put, List.setIfInBounds_toArray, List.set_cons_zero, List.set_cons_succ, List.getElem_toArray, List.getElem_cons_zero, List.getElem_cons_succ]
              refine wpAnyH_ready (rs := [13]) (by kernel_rfl) (by simp) (AllReadyH.cons rfl (fun K hK => ?_) AllReadyH.nil)
              go_simp
              refine hK.out _ _ trivial (fun hHeld => ?_)
              clear hK K
              (try simp only [Act.put, List.setIfInBounds_toArray, List.set_cons_zero, List.set_cons_succ, List.getElem_toArray, List.getElem_cons_zero, List.getElem_cons_succ])
              refine wpAnyH_done (by kernel_rfl) ?_ _
              refine NoPanic.normal ?_
              have k5 := ng_put k4
              simp only [putG] at k5
              clear k4 hHeld d0 d1 y0 y1 c0 c1 z0 z1
              go_wp2
              go_roundw
              case rel => exact ⟨q + 1, by go_num, by omega, by omega, _, by rw [hsn.out, hRI.out]; exact k5⟩
              case measure => simp [intOf]; omega
            · go_simp
              refine hK.out _ _ trivial (fun hHeld => ?_)
              clear hK K
              (try simp only [Act.put, List.setIfInBounds_toArray, List.set_cons_zero, List.set_cons_succ, List.getElem_toArray, List.getElem_cons_zero, List.getElem_cons_succ])
              refine wpAnyH_ready (rs := [1]) (by kernel_rfl) (by simp) (AllReadyH.cons rfl (fun K hK => ?_) AllReadyH.nil)
              go_simp
              refine hK.out _ _ trivial (fun hHeld => ?_)
              clear hK K
              (try simp only [Act.put, List.setIfInBounds_toArray, List.set_cons_zero, List.set_cons_succ, List.getElem_toArray, List.getElem_cons_zero, List.getElem_cons_succ])
              refine wpAnyH_ready (rs := [11]) (by kernel_rfl) (by simp) (AllReadyH.cons rfl (fun K hK => ?_) AllReadyH.nil)
              refine step_append_og (by rfl) _ _ (by rfl) (w.heap.size + 1 + 2) B _ _ _ _ (by rfl) k3.2.2.1 (ho3.low hMB) (fun g e => (ho3.lt g e).1) k3.2.2.2.1 hlr _ rfl (by rfl) ?_
              intro v' w' ho' hg'
              have k4 := (k3.below (bal' _ _)).more ho' hg'
              clear k3 ho' hg' ho3 hB3
              clear d0 d1 y0 y1 c0 c1 z0 z1
              obtain ⟨⟨_, ⟨d0, d1⟩, ⟨y0, y1⟩⟩, ⟨_, ⟨c0, c1⟩, ⟨z0, z1⟩⟩, _⟩ := id k4
              obtain ⟨va, vn, vc, rfl⟩ := slSh (SlG.of_own k4.2.2.1)
              refine hK.out _ _ trivial (fun hHeld => ?_)
              clear hK K
              (try simp only [Act.put, List.setIfInBounds_toArray, List.set_cons_zero, List.set_cons_succ, List.getElem_toArray, List.getElem_cons_zero, List.getElem_cons_succ])
              refine' wpAnyH_take (i := 12) (v := _) rfl (by kernel_rfl) (by kernel_rfl) (by kernel_rfl) (fun _ _ _ h => h) (Or.inl ⟨by rfl, ?hy11⟩) hHeld ?hr11
              case hy11 => (intro w hSw; (try dsimp only at hSw); go_simp; (try with_reducible rfl))
              simp only [Act.put, List.setIfInBounds_toArray, List.set_cons_zero, List.set_cons_succ, List.getElem_toArray, List.getElem_cons_zero, List.getElem_cons_succ]
              refine wpAnyH_ready (rs := [13]) (by kernel_rfl) (by simp) (AllReadyH.cons rfl (fun K hK => ?_) AllReadyH.nil)
              go_simp
              refine hK.out _ _ trivial (fun hHeld => ?_)
              clear hK K
              (try simp only [Act.put, List.setIfInBounds_toArray, List.set_cons_zero, List.set_cons_succ, List.getElem_toArray, List.getElem_cons_zero, List.getElem_cons_succ])
              refine wpAnyH_done (by kernel_rfl) ?_ _
              refine NoPanic.normal ?_
              have k5 := ng_put k4
              simp only [putG] at k5
              clear k4 hHeld d0 d1 y0 y1 c0 c1 z0 z1
              go_wp2
              go_roundw
              case rel => exact ⟨q + 1, by go_num, by omega, by omega, _, by rw [hsn.out, hRI.out]; exact k5⟩
              case measure => simp [intOf]; omega
    · have hjn : q = fr + n := by omega
      have hji : ¬ (q : Int) < (fr : Int) + (n : Int) := by omega
      have hqn : q - fr = n := by omega
      rw [hqn] at k
      obtain ⟨⟨_, ⟨d0, d1⟩, ⟨y0, y1⟩⟩, ⟨_, ⟨c0, c1⟩, ⟨z0, z1⟩⟩, _⟩ := id k
      have h3 := k.2.2.2.1
      have kF := (k.1.put2 (cn : Int) (.slice ua un uc)).2.1
      have hgF := putG2_grown wr (w.heap.size + 1) (cn : Int) (.slice ua un uc)
      have hoF := ((k.2.2.1).kept hgF (fun g e => by cases e; omega)).up hgF.size
      have hbF := (hb0.trans (k.2.2.2.2.2.mono (by omega))).grown hgF (by omega) (fun g e => by cases e; omega)
      obtain ⟨f0, f1⟩ := kF
      simp only [putG2] at f0 f1 hoF hbF
      clear hgF hs hrc hfni
      go_wp2
      exact bodyPost_ret (v := .agg #[.int .i64 (cn : Int), .slice ua un uc]) (by simp [results, Tryd.results40, go_sem, f0, f1]) rfl ⟨_, rfl, hoF.low (by omega), hbF⟩
end Go.Proofs.YtpijokologkbeaaDoor
namespace Go.Proofs.YtpijokologkbeaaDoor
open Go.ChangeShapes Go.WideShapes Go.ChangeAt Go.RowKit
def resOkB (cols : Int) (rows : List (List Ce)) (a n : Int) : Bool := gridOkB cols rows && (decide (1 ≤ a ∧ a ≤ 60) && decide (1 ≤ n ∧ n ≤ 30))
def resC (cols : Int) (rows : List (List Ce)) (a n : Int) : Int := if resOkB cols rows a n = true then a else 0
def resR (cols : Int) (rows : List (List Ce)) (a n : Int) : List (List Ce) := if resOkB cols rows a n = true then resUp rows a.toNat (min a.toNat cols.toNat) (rows.length - n.toNat) n.toNat else []
theorem resI_len (rows : List (List Ce)) (cn q i : Nat) (h : q ≤ cn) : (resI rows cn q i).length = cn := by
  have := rowPart_len rows q i
  unfold resI
  rw [List.length_append, bigRow]; omega
theorem resOk_iff {cols : Int} {rows : List (List Ce)} {a n : Int} (h : resOkB cols rows a n = true) : gridOkB cols rows = true ∧ (1 ≤ a ∧ a ≤ 60) ∧ 1 ≤ n ∧ n ≤ 30 := by
  unfold resOkB at h
  simp only [Bool.and_eq_true, decide_eq_true_eq] at h
  exact h
theorem resR_bd (cols : Int) (rows : List (List Ce)) (a n : Int) : (resR cols rows a n).length ≤ 60 ∧ ∀ i, i < (resR cols rows a n).length → (rowX (resR cols rows a n) i).length ≤ 60 := by
  unfold resR
  cases ht : resOkB cols rows a n
  · rw [if_neg (by decide)]; exact ⟨by simp, fun i hi => by simp at hi⟩
  · rw [if_pos rfl]
    obtain ⟨hg, ⟨h1, h2⟩, h3, h4⟩ := resOk_iff ht
    refine ⟨by rw [resUp_len]; omega, fun i hi => ?_⟩
    rw [resUp_len] at hi
    unfold resUp
    rw [genR_at _ _ _ hi, resI_len _ _ _ _ (Nat.min_le_left _ _)]
    omega
set_option maxHeartbeats 8000000 in
set_option maxRecDepth 20000 in
theorem specResized_any (cols : Int) (v : Value) (rows : List (List Ce)) (a0 a1 : Int) (w : World) (hv : SlG w v rows) (hl : rows.length ≤ 1048576) (hx : ∀ i, i < rows.length → (rowX rows i).length ≤ 1048576) :
    Calls Tryd.prog 42 #[gridV cols v, .int .i64 a0, .int .i64 a1] w fun e w' => ∃ u, e = .returned (gridV (resC cols rows a0 a1) u) ∧ OwnG w' w.heap.size w'.heap.size u (resR cols rows a0 a1) ∧ Below w.heap.size w w' := by
  have hG0 := GrN.new w cols v 26
  have hb1 := bal' w (Obj.cells #[.int .i64 cols, v] 26)
  have e1 : (w.alloc (Obj.cells #[.int .i64 cols, v] 26)).heap.size = w.heap.size + 1 := by simp
  have hok := fun W h => specGridOk_any cols v rows W h hl hx
  have hi0 := fun W => l1In_any a0 1 60 W
  have hi1 := fun W => l1In_any a1 1 30 W
  have hv1 := hv.below hb1
  obtain ⟨pa, pc, pvs, rfl, _⟩ := id hv
  unfold gridV at *
  generalize hw1 : w.alloc (Obj.cells #[.int .i64 cols, .slice pa rows.length pc] 26) = w1 at *
  have hR3 := GrW.new w1 0 (.slice none 0 0) 26
  have hb3 := bal' w1 (Obj.cells #[Value.int IntKind.i64 0, Value.slice none 0 0] 26)
  rw [e1] at hR3
  have hv3 := hv1.below hb3
  have hG3 := hG0.below hb3
  have kb3 := hb1.trans (hb3.mono hb1.size)
  clear hv hv1 hG0 hb1 hb3
  subst hw1
  clear e1
  obtain ⟨_, g0, g1⟩ := id hG3
  have hT : Hid (resOkB cols rows a0 a1 = (gridOkB cols rows && (decide (1 ≤ a0 ∧ a0 ≤ 60) && decide (1 ≤ a1 ∧ a1 ≤ 30)))) := rfl
  have hno : resOkB cols rows a0 a1 = false → Hid (resC cols rows a0 a1 = 0) ∧ Hid (resR cols rows a0 a1 = []) := fun h => ⟨by show _ = _; unfold resC; rw [h]; rfl, by show _ = _; unfold resR; rw [h]; rfl⟩
  have hFail : ∀ W : World, GrW W (w.heap.size + 1) 0 (.slice none 0 0) → Below w.heap.size w W → (((W.setCell ⟨w.heap.size + 1, 0, none⟩ (.int .i64 0)).setCell ⟨w.heap.size + 1, 1, none⟩ (.slice none 0 0)).cell? ⟨w.heap.size + 1, 0, none⟩ = some (.int .i64 0) ∧ ((W.setCell ⟨w.heap.size + 1, 0, none⟩ (.int .i64 0)).setCell ⟨w.heap.size + 1, 1, none⟩ (.slice none 0 0)).cell? ⟨w.heap.size + 1, 1, none⟩ = some (.slice none 0 0)) ∧ Below w.heap.size w ((W.setCell ⟨w.heap.size + 1, 0, none⟩ (.int .i64 0)).setCell ⟨w.heap.size + 1, 1, none⟩ (.slice none 0 0)) := fun W hR kb => by
    have kF := (hR.put2 0 (.slice none 0 0)).2.1
    have hbF := kb.grown (putG2_grown W (w.heap.size + 1) 0 (.slice none 0 0)) (by have := hR.1; omega) (fun g e => by cases e; omega)
    exact ⟨kF, hbF⟩
  go_enter Tryd.func42, Tryd.ntmps42
  go_wp2_with fail
  refine (hok _ hv3).mono ?_
  rintro e w4 ⟨rfl, hb⟩
  have hR4 := hR3.below hb
  have hv4 := hv3.below hb
  have hG4 := hG3.below hb
  have kb4 := kb3.trans (hb.mono kb3.size)
  clear hR3 hv3 hG3 kb3 hb hok g0 g1
  obtain ⟨_, ⟨d0, d1⟩, ⟨y0, y1⟩⟩ := id hR4
  obtain ⟨⟨f0, f1⟩, hbF⟩ := hFail w4 hR4 kb4
  cases hg : gridOkB cols rows
  · rw [hg, Bool.false_and] at hT
    obtain ⟨hC, hR⟩ := hno hT.out
    clear hv4 hG4 hR4 kb4 hFail hi0 hi1
    go_wp2
    exact bodyPost_ret (v := .agg #[.int .i64 0, .slice none 0 0]) (by simp [results, Tryd.results42, go_sem, f0, f1]) rfl ⟨_, by rw [hC.out], by rw [hR.out]; exact ownG_none _ _ _, hbF⟩
  · rw [hg, Bool.true_and] at hT
    go_wp2_with fail
    refine (hi0 _).mono ?_
    rintro e w5 ⟨rfl, hw⟩
    subst hw
    cases h1 : decide (1 ≤ a0 ∧ a0 ≤ 60)
    · rw [h1, Bool.false_and] at hT
      obtain ⟨hC, hR⟩ := hno hT.out
      clear hv4 hG4 hR4 kb4 hFail hi0 hi1
      go_wp2
      exact bodyPost_ret (v := .agg #[.int .i64 0, .slice none 0 0]) (by simp [results, Tryd.results42, go_sem, f0, f1]) rfl ⟨_, by rw [hC.out], by rw [hR.out]; exact ownG_none _ _ _, hbF⟩
    · rw [h1, Bool.true_and] at hT
      go_wp2_with fail
      refine (hi1 _).mono ?_
      rintro e w6 ⟨rfl, hw⟩
      subst hw
      cases h2 : decide (1 ≤ a1 ∧ a1 ≤ 30)
      · rw [h2] at hT
        obtain ⟨hC, hR⟩ := hno hT.out
        clear hv4 hG4 hR4 kb4 hFail hi0 hi1
        go_wp2
        exact bodyPost_ret (v := .agg #[.int .i64 0, .slice none 0 0]) (by simp [results, Tryd.results42, go_sem, f0, f1]) rfl ⟨_, by rw [hC.out], by rw [hR.out]; exact ownG_none _ _ _, hbF⟩
      · rw [h2] at hT
        obtain ⟨⟨hc1, hc2⟩, ⟨hr1, hr2⟩, hfit⟩ := (gridOk_iff cols rows).1 hg
        have q1 := of_decide_eq_true h1
        have q2 := of_decide_eq_true h2
        obtain ⟨gc, rfl⟩ : ∃ k : Nat, cols = k := ⟨cols.toNat, by omega⟩
        obtain ⟨cn, rfl⟩ : ∃ k : Nat, a0 = k := ⟨a0.toNat, by omega⟩
        obtain ⟨n, rfl⟩ : ∃ k : Nat, a1 = k := ⟨a1.toNat, by omega⟩
        have hfl : ∀ i, i < rows.length → (rowX rows i).length = gc := fun i hi => by have := fitB_len (hfit i hi); unfold rowX; omega
        have hC : Hid (resC gc rows cn n = (cn : Int)) := by show _ = _; unfold resC; rw [hT.out]; rfl
        have hR : Hid (resR gc rows cn n = resUp rows cn (min cn gc) (rows.length - n) n) := by show _ = _; unfold resR; rw [hT.out]; rfl
        have hre := l5Resized_any gc cn n _ rows _ hv4 (by omega) hr1 hfl (by omega) (by omega) (by omega) (by omega) (by omega) (by omega)
        unfold gridV at hre
        obtain ⟨_, g0, g1⟩ := id hG4
        clear hfit hfl hg h1 h2 hT hno hFail hi0 hi1 f0 f1 hbF
        go_wp2_with fail
        refine hre.mono ?_
        rintro e w7 ⟨u, rfl, hu, hb⟩
        obtain ⟨ua, un, uc, rfl⟩ := slSh (SlG.of_own hu)
        have hR7 := hR4.below hb
        have kb7 := kb4.trans (hb.mono kb4.size)
        have hs4 := hR4.1
        have kF := (hR7.put2 cn (.slice ua un uc)).2.1
        have hgF := putG2_grown w7 (w.heap.size + 1) cn (.slice ua un uc)
        have hoF := (hu.kept hgF (fun g e => by cases e; omega)).up hgF.size
        have hs7 := kb7.size
        have hbF := kb7.grown hgF (by omega) (fun g e => by cases e; omega)
        obtain ⟨f0, f1⟩ := kF
        clear d0 d1 y0 y1
        obtain ⟨_, ⟨d0, d1⟩, ⟨y0, y1⟩⟩ := hR7
        simp only [putG2] at f0 f1 hoF hbF
        clear hR4 hv4 hG4 kb4 hre hb hgF kb7 hu g0 g1
        go_wp2
        exact bodyPost_ret (v := .agg #[.int .i64 cn, .slice ua un uc]) (by simp [results, Tryd.results42, go_sem, f0, f1]) rfl ⟨_, by rw [hC.out], by rw [hR.out]; exact hoF.low (by omega), hbF⟩
end Go.Proofs.YtpijokologkbeaaDoor
namespace Go.Proofs.YtpijokologkbeaaDoor
open Go.ChangeShapes Go.WideShapes Go.ChangeAt Go.RowKit
theorem colorOk_any (x : Int) (w : World) :
    Calls Tryd.prog 119 #[.int .i64 x] w fun e w' => e = .returned (.bool (decide (0 ≤ x ∧ x ≤ 8))) ∧ w' = w := by
  by_cases h1 : 0 ≤ x
  · go_enter Tryd.func119, Tryd.ntmps119
    go_wp2
    go_ret
    exact ⟨ret_bool (by simp [h1]), rfl⟩
  · go_enter Tryd.func119, Tryd.ntmps119
    go_wp2
    go_ret
    exact ⟨ret_bool (by simp; omega), rfl⟩
set_option maxHeartbeats 400000 in
theorem implStyleOk_any (s : St) (w : World) :
    Calls Tryd.prog 95 #[stV s] w fun e w' => e = .returned (.bool s.ok) ∧ Below w.heap.size w w' := by
  obtain ⟨f, b, bo, un, tu⟩ := s
  have hok : Hid ((St.mk f b bo un tu).ok = decide (0 ≤ f ∧ f ≤ 8 ∧ 0 ≤ b ∧ b ≤ 8)) := rfl
  unfold stV
  simp only
  go_enter Tryd.func95, Tryd.ntmps95
  go_wp2_with (go_at_call 119; refine (colorOk_any _ _).mono ?_; rintro e w' ⟨rfl, hw⟩; subst hw)
  all_goals
    go_ret
    refine ⟨ret_bool ?_, (Below.refl _ _).alloc (Nat.le_refl _) _⟩
    rw [hok.out]
    clear hok
    by_cases h1 : 0 ≤ f ∧ f ≤ 8
    · by_cases h2 : 0 ≤ b ∧ b ≤ 8
      · have h3 : 0 ≤ f ∧ f ≤ 8 ∧ 0 ≤ b ∧ b ≤ 8 := ⟨h1.1, h1.2, h2⟩
        simp_all
      · have h3 : ¬ (0 ≤ f ∧ f ≤ 8 ∧ 0 ≤ b ∧ b ≤ 8) := fun h => h2 h.2.2
        simp_all
        try omega
    · have h3 : ¬ (0 ≤ f ∧ f ≤ 8 ∧ 0 ≤ b ∧ b ≤ 8) := fun h => h1 ⟨h.1, h.2.1⟩
      simp_all
end Go.Proofs.YtpijokologkbeaaDoor
namespace Go.Proofs.YtpijokologkbeaaDoor
open Go.ChangeShapes Go.WideShapes Go.ChangeAt Go.RowKit
attribute [local go_sem ↓] eq_st
def c1B (c : Ce) : Bool := c.st.ok && (if c.part = 0 then decide (widthV c.rune = 1) else if c.part = 1 then decide (widthV c.rune = 2) else if c.part = 2 then decide (c.rune = 0) else false)
theorem c1B_iff (c : Ce) : c1B c = true ↔ c1 c := by
  unfold c1B c1
  rw [Bool.and_eq_true]
  constructor
  · rintro ⟨h, h2⟩
    refine ⟨h, ?_⟩
    split at h2
    · rename_i e; exact .inl ⟨e, by simpa using h2⟩
    · split at h2
      · rename_i e; exact .inr (.inl ⟨e, by simpa using h2⟩)
      · split at h2
        · rename_i e; exact .inr (.inr ⟨e, by simpa using h2⟩)
        · cases h2
  · rintro ⟨h, ⟨e, h2⟩ | ⟨e, h2⟩ | ⟨e, h2⟩⟩
    · exact ⟨h, by rw [if_pos e]; simpa using h2⟩
    · exact ⟨h, by rw [if_neg (by rw [e]; decide), if_pos e]; simpa using h2⟩
    · exact ⟨h, by rw [if_neg (by rw [e]; decide), if_neg (by rw [e]; decide), if_pos e]; simpa using h2⟩
def joinB (a c : Ce) : Bool := if a.part = 1 then decide (c.part = 2) && decide (c.st = a.st) else !decide (c.part = 2)
set_option maxHeartbeats 1000000 in
theorem cellOk_any (c : Ce) (w : World) (hS : SpansAt w) :
    Calls Tryd.prog 83 #[ceV c] w fun e w' => e = .returned (.bool (c1B c)) ∧ Below w.heap.size w w' := by
  obtain ⟨r, ⟨f, b, bo, un, tu⟩, p⟩ := c
  have hok := fun W => implStyleOk_any ⟨f, b, bo, un, tu⟩ W
  have hwd := fun W h => implWidth_any r W h
  have hB : Hid (c1B ⟨r, ⟨f, b, bo, un, tu⟩, p⟩ = ((St.mk f b bo un tu).ok && (if p = 0 then decide (widthV r = 1) else if p = 1 then decide (widthV r = 2) else if p = 2 then decide (r = 0) else false))) := rfl
  have hbA := bal' w (Obj.cells #[.int .i64 r, .int .i64 f, .int .i64 b, .bool bo, .bool un, .bool tu, .int .i64 p] 75)
  have hlt := hS.lt
  unfold ceV stV at *
  generalize (St.mk f b bo un tu).ok = ok at *
  generalize widthV r = wd at *
  cases ok
  · go_enter Tryd.func83, Tryd.ntmps83
    go_wp2_with fail
    refine (hok _).mono ?_
    rintro e w1 ⟨rfl, hb1⟩
    go_wp2
    go_ret
    exact ⟨by rw [hB.out]; rfl, hbA.trans (hb1.mono hbA.size)⟩
  · have hsp := hS.below hbA hlt
    have hcp : (w.alloc (Obj.cells #[.int .i64 r, .int .i64 f, .int .i64 b, .bool bo, .bool un, .bool tu, .int .i64 p] 75)).cell? ⟨w.heap.size, 6, none⟩ = some (.int .i64 p) := by simp [go_sem]
    have hcr : (w.alloc (Obj.cells #[.int .i64 r, .int .i64 f, .int .i64 b, .bool bo, .bool un, .bool tu, .int .i64 p] 75)).cell? ⟨w.heap.size, 0, none⟩ = some (.int .i64 r) := by simp [go_sem]
    have hsz : w.heap.size < (w.alloc (Obj.cells #[.int .i64 r, .int .i64 f, .int .i64 b, .bool bo, .bool un, .bool tu, .int .i64 p] 75)).heap.size := by simp
    go_enter Tryd.func83, Tryd.ntmps83
    go_wp2_with fail
    generalize w.alloc (Obj.cells #[.int .i64 r, .int .i64 f, .int .i64 b, .bool bo, .bool un, .bool tu, .int .i64 p] 75) = W0 at *
    refine (hok _).mono ?_
    rintro e w1 ⟨rfl, hb1⟩
    have d6 : w1.cell? ⟨w.heap.size, 6, none⟩ = some (.int .i64 p) := (hb1.cell (p := ⟨w.heap.size, 6, none⟩) hsz).trans hcp
    have d0 : w1.cell? ⟨w.heap.size, 0, none⟩ = some (.int .i64 r) := (hb1.cell (p := ⟨w.heap.size, 0, none⟩) hsz).trans hcr
    have hs1 := hsp.below hb1 hsp.lt
    have kb := hbA.trans (hb1.mono hbA.size)
    clear hb1 hcp hcr hok hsp hbA hsz
    have hwd1 := hwd w1 hs1
    clear hwd hs1 hS
    by_cases p0 : p = 0
    · have e0 : (p == 0) = true := by simp [p0]
      have hB2 : Hid (c1B ⟨r, ⟨f, b, bo, un, tu⟩, p⟩ = decide (wd = 1)) := by show _ = _; rw [hB.out, if_pos p0]; rfl
      clear p0 hB
      go_wp2_with fail
      refine hwd1.mono ?_
      rintro e w2 ⟨rfl, hb2⟩
      go_wp2
      go_ret
      exact ⟨by rw [hB2.out]; first | rfl | (simp; done), kb.trans (hb2.mono kb.size)⟩
    · have e0 : (p == 0) = false := by simp [p0]
      by_cases p1 : p = 1
      · have e1 : (p == 1) = true := by simp [p1]
        have hB2 : Hid (c1B ⟨r, ⟨f, b, bo, un, tu⟩, p⟩ = decide (wd = 2)) := by show _ = _; rw [hB.out, if_neg p0, if_pos p1]; rfl
        clear p0 p1 hB
        go_wp2_with fail
        refine hwd1.mono ?_
        rintro e w2 ⟨rfl, hb2⟩
        go_wp2
        go_ret
        exact ⟨by rw [hB2.out]; first | rfl | (simp; done), kb.trans (hb2.mono kb.size)⟩
      · have e1 : (p == 1) = false := by simp [p1]
        clear hwd1
        by_cases p2 : p = 2
        · have e2 : (p == 2) = true := by simp [p2]
          have hB2 : Hid (c1B ⟨r, ⟨f, b, bo, un, tu⟩, p⟩ = decide (r = 0)) := by show _ = _; rw [hB.out, if_neg p0, if_neg p1, if_pos p2]; rfl
          clear p0 p1 p2 hB
          go_wp2
          go_ret
          exact ⟨by rw [hB2.out]; first | rfl | (simp; done), kb⟩
        · have e2 : (p == 2) = false := by simp [p2]
          have hB2 : Hid (c1B ⟨r, ⟨f, b, bo, un, tu⟩, p⟩ = false) := by show _ = _; rw [hB.out, if_neg p0, if_neg p1, if_neg p2]; rfl
          clear p0 p1 p2 hB
          go_wp2
          go_ret
          exact ⟨by rw [hB2.out]; rfl, kb⟩
set_option maxHeartbeats 1000000 in
theorem joins_any (a c : Ce) (w : World) :
    Calls Tryd.prog 84 #[ceV a, ceV c] w fun e w' => e = .returned (.bool (joinB a c)) ∧ Below w.heap.size w w' := by
  have hB : Hid (joinB a c = if a.part = 1 then decide (c.part = 2) && decide (c.st = a.st) else !decide (c.part = 2)) := rfl
  have kb : Below w.heap.size w ((w.alloc (Obj.cells #[.int .i64 a.rune, .int .i64 a.st.fore, .int .i64 a.st.back, .bool a.st.bold, .bool a.st.under, .bool a.st.turned, .int .i64 a.part] 75)).alloc (Obj.cells #[.int .i64 c.rune, .int .i64 c.st.fore, .int .i64 c.st.back, .bool c.st.bold, .bool c.st.under, .bool c.st.turned, .int .i64 c.part] 75)) := ((Below.refl _ _).alloc (Nat.le_refl _) _).alloc (by simp) _
  unfold ceV
  by_cases h1 : a.part = 1
  · have b1 : (a.part == 1) = true := by simp [h1]
    by_cases h2 : c.part = 2
    · have b2 : (c.part == 2) = true := by simp [h2]
      have hB2 : Hid (joinB a c = decide (c.st = a.st)) := by show _ = _; rw [hB.out, if_pos h1, decide_eq_true h2]; rfl
      clear h1 h2 hB
      go_enter Tryd.func84, Tryd.ntmps84
      go_wp2
      go_ret
      exact ⟨by rw [hB2.out]; first | rfl | (simp; done), kb⟩
    · have b2 : (c.part == 2) = false := by simp [h2]
      have hB2 : Hid (joinB a c = false) := by show _ = _; rw [hB.out, if_pos h1, decide_eq_false h2]; rfl
      clear h1 h2 hB
      go_enter Tryd.func84, Tryd.ntmps84
      go_wp2
      go_ret
      exact ⟨by rw [hB2.out]; first | rfl | (simp; done), kb⟩
  · have b1 : (a.part == 1) = false := by simp [h1]
    have hB2 : Hid (joinB a c = !decide (c.part = 2)) := by show _ = _; rw [hB.out, if_neg h1]
    clear h1 hB
    go_enter Tryd.func84, Tryd.ntmps84
    go_wp2
    go_ret
    exact ⟨by rw [hB2.out]; first | rfl | (simp; done), kb⟩
end Go.Proofs.YtpijokologkbeaaDoor
namespace Go.Proofs.YtpijokologkbeaaDoor
open Go.ChangeShapes Go.WideShapes Go.ChangeAt Go.RowKit
def aheadC (xs : List Ce) (j : Nat) : Ce := if j = 0 then Ce.zero else atC xs (j - 1)
theorem aheadC_zero (xs : List Ce) : aheadC xs 0 = Ce.zero := rfl
theorem aheadC_succ (xs : List Ce) (j : Nat) : aheadC xs (j + 1) = atC xs j := by simp [aheadC]
theorem row_joins {xs : List Ce} (h : Right xs) (i : Nat) : joinB (aheadC xs i) (atC xs i) = true := by
  unfold joinB
  cases i with
  | zero =>
    rw [aheadC_zero, if_neg (by decide)]
    have : ¬ (atC xs 0).part = 2 := fun e => absurd (h.2.2 0 e).1 (by decide)
    simp [this]
  | succ i =>
    rw [aheadC_succ]
    by_cases e : (atC xs i).part = 1
    · have := h.2.1 i e
      rw [if_pos e]; simp [this.1, this.2]
    · rw [if_neg e]
      have : ¬ (atC xs (i + 1)).part = 2 := fun e2 => by
        have := (h.2.2 _ e2).2
        rw [Nat.add_sub_cancel] at this; exact e this
      simp [this]
theorem row_no_cell {xs : List Ce} {i : Nat} (hi : i < xs.length) (h : c1B (atC xs i) = false) : rowOkB xs = false := by
  cases hr : rowOkB xs with
  | false => rfl
  | true =>
    have := (c1B_iff _).2 (((right_iff xs).1 hr).2.1 i hi)
    rw [h] at this; cases this
theorem row_no_join {xs : List Ce} {i : Nat} (h : joinB (aheadC xs i) (atC xs i) = false) : rowOkB xs = false := by
  cases hr : rowOkB xs with
  | false => rfl
  | true =>
    have := row_joins ((right_iff xs).1 hr).2 i
    rw [h] at this; cases this
theorem row_end {xs : List Ce} (hl : 1 ≤ xs.length ∧ xs.length ≤ 60) (h : ∀ i, i < xs.length → c1B (atC xs i) = true ∧ joinB (aheadC xs i) (atC xs i) = true) : rowOkB xs = !decide ((aheadC xs xs.length).part = 1) := by
  have hlast : aheadC xs xs.length = atC xs (xs.length - 1) := by unfold aheadC; rw [if_neg (by omega)]
  by_cases e : (aheadC xs xs.length).part = 1
  · rw [decide_eq_true e]
    cases hr : rowOkB xs with
    | false => rfl
    | true =>
      rw [hlast] at e
      have := (((right_iff xs).1 hr).2.2.1 _ e).1
      rw [atC_ge (by omega)] at this
      exact absurd this (by decide)
  · rw [decide_eq_false e]
    show rowOkB xs = true
    rw [right_iff]
    refine ⟨hl, fun i hi => (c1B_iff _).1 (h i hi).1, fun i h1 => ?_, fun i h2 => ?_⟩
    · have hi : i < xs.length := part_lt (by rw [h1]; decide)
      by_cases c : i + 1 < xs.length
      · have := (h (i + 1) c).2
        unfold joinB at this
        rw [aheadC_succ, if_pos h1] at this
        simpa using this
      · exfalso
        rw [hlast, show xs.length - 1 = i by omega] at e
        exact e h1
    · have hi : i < xs.length := part_lt (by rw [h2]; decide)
      have := (h i hi).2
      unfold joinB at this
      cases i with
      | zero => rw [aheadC_zero, if_neg (by decide), h2] at this; simp at this
      | succ i =>
        rw [aheadC_succ] at this
        by_cases c : (atC xs i).part = 1
        · exact ⟨by omega, by rw [Nat.add_sub_cancel]; exact c⟩
        · rw [if_neg c, h2] at this; simp at this
set_option maxHeartbeats 4000000 in
set_option maxRecDepth 20000 in
theorem implRowOk_any (v : Value) (xs : List Ce) (w : World) (hS : SpansAt w) (hv : SlC w v xs) (hl : xs.length ≤ 1048576) :
    Calls Tryd.prog 44 #[v] w fun e w' => e = .returned (.bool (rowOkB xs)) ∧ Below w.heap.size w w' := by
  obtain ⟨a, c, rfl, hcp, hnc, _⟩ := id hv
  have hlt := hS.lt
  by_cases h0 : xs.length < 1
  · have h0i : (xs.length : Int) < 1 := by omega
    have hV : Hid (rowOkB xs = false) := rowOkB_len xs (by omega)
    go_enter Tryd.func44, Tryd.ntmps44
    go_wp2
    go_ret
    exact ⟨by rw [hV.out]; rfl, Below.refl _ _⟩
  · have h0i : ¬ (xs.length : Int) < 1 := by omega
    by_cases h60 : 60 < xs.length
    · have h60i : (60 : Int) < (xs.length : Int) := by omega
      have hV : Hid (rowOkB xs = false) := rowOkB_len xs (by omega)
      go_enter Tryd.func44, Tryd.ntmps44
      go_wp2
      go_ret
      exact ⟨by rw [hV.out]; rfl, Below.refl _ _⟩
    · have h60i : ¬ (60 : Int) < (xs.length : Int) := by omega
      have hco := fun c W h => cellOk_any c W h
      have hjo := fun a c W => joins_any a c W
      have hbA := bal' w (Obj.cells #[.int .i64 0, .int .i64 0, .int .i64 0, .bool false, .bool false, .bool false, .int .i64 0] 75)
      have hz := CeF.new w Ce.zero 75
      simp only [Ce.zero, St.zero] at hz
      unfold ceV at *
      go_enter Tryd.func44, Tryd.ntmps44
      go_wp2
      go_loopw [17, 5] (fun i _ wr => ∃ j : Nat, i = .int .i64 j ∧ j ≤ xs.length ∧ CeF wr w.heap.size (aheadC xs j) ∧ Below w.heap.size w wr ∧ Hid (∀ i, i < j → c1B (atC xs i) = true ∧ joinB (aheadC xs i) (atC xs i) = true)) (fun i _ _ => xs.length - (intOf i).toNat)
      case atStart => exact ⟨0, rfl, Nat.zero_le _, hz, hbA, fun i h => absurd h (Nat.not_lt_zero i)⟩
      case round =>
        clear hz hbA
        obtain ⟨j, rfl, hj, hA, hb, hall⟩ := hrel
        by_cases hlj : j < xs.length
        · have hji : (j : Int) < (xs.length : Int) := by omega
          have hj0 : (0 : Int) ≤ (j : Int) := by omega
          obtain ⟨b, off, rfl, hsrc⟩ := (hv.below hb).src (by omega)
          have hat := hsrc j hlj
          have hno1 := fun h => row_no_cell (xs := xs) hlj h
          have hno2 := fun h => row_no_join (xs := xs) (i := j) h
          have hsu : Hid (aheadC xs (j + 1) = atC xs j) := aheadC_succ xs j
          have hX := CeF.new wr (atC xs j) 75
          have hbX := bal' wr (Obj.cells #[.int .i64 (atC xs j).rune, .int .i64 (atC xs j).st.fore, .int .i64 (atC xs j).st.back, .bool (atC xs j).st.bold, .bool (atC xs j).st.under, .bool (atC xs j).st.turned, .int .i64 (atC xs j).part] 75)
          have hA1 := hA.below hbX
          have hb1 := hb.trans (hbX.mono hb.size)
          have hstep : c1B (atC xs j) = true → joinB (aheadC xs j) (atC xs j) = true → Hid (∀ i, i < j + 1 → c1B (atC xs i) = true ∧ joinB (aheadC xs i) (atC xs i) = true) := fun h1 h2 => (show ∀ i, i < j + 1 → c1B (atC xs i) = true ∧ joinB (aheadC xs i) (atC xs i) = true from fun i hi => by
            by_cases e : i = j
            · rw [e]; exact ⟨h1, h2⟩
            · exact hall.out i (by omega))
          obtain ⟨c0, c1, c2, c3, c4, c5, c6⟩ := hat
          have hne : w.heap.size ≠ wr.heap.size := by have := hA.1; omega
          generalize atC xs j = x at *
          generalize aheadC xs j = ah at *
          clear hsrc hall hA hb hbX
          go_wp2_with fail
          generalize wr.alloc (Obj.cells #[.int .i64 x.rune, .int .i64 x.st.fore, .int .i64 x.st.back, .bool x.st.bold, .bool x.st.under, .bool x.st.turned, .int .i64 x.part] 75) = W1 at *
          refine (hco x _ (hS.below hb1 hlt)).mono ?_
          rintro e w2 ⟨rfl, hb2⟩
          have hX2 := hX.below hb2
          have hA2 := hA1.below hb2
          have hb2' := hb1.trans (hb2.mono hb1.size)
          clear hX hA1 hb2 c0 c1 c2 c3 c4 c5 c6 hb1 hco
          cases hc1 : c1B x
          · have hV : Hid (rowOkB xs = false) := hno1 hc1
            clear hno1 hno2 hstep hc1 hX2 hA2 hjo
            go_wp2
            go_ret
            exact ⟨by rw [hV.out]; rfl, hb2'⟩
          · obtain ⟨_, ⟨c0, c1, c2, c3, c4, c5, c6⟩, _⟩ := id hX2
            obtain ⟨_, ⟨d0, d1, d2, d3, d4, d5, d6⟩, _⟩ := id hA2
            go_wp2_with fail
            refine (hjo ah x _).mono ?_
            rintro e w3 ⟨rfl, hb3⟩
            have hX3 := hX2.below hb3
            have hA3 := hA2.below hb3
            have hb3' := hb2'.trans (hb3.mono hb2'.size)
            clear hX2 hA2 hb3 c0 c1 c2 c3 c4 c5 c6 d0 d1 d2 d3 d4 d5 d6 hb2' hjo
            cases hc2 : joinB ah x
            · have hV : Hid (rowOkB xs = false) := hno2 hc2
              clear hno1 hno2 hstep hc1 hc2 hX3 hA3
              go_wp2
              go_ret
              exact ⟨by rw [hV.out]; rfl, hb3'⟩
            · have hall := hstep hc1 hc2
              have hAp := hA3.put x
              have hbp := hb3'.grown (putF_grown w3 w.heap.size x) hb3'.size (fun k hk => by cases hk; exact Nat.le_refl _)
              obtain ⟨_, ⟨c0, c1, c2, c3, c4, c5, c6⟩, _⟩ := id hX3
              obtain ⟨_, ⟨d0, d1, d2, d3, d4, d5, d6⟩, ⟨f0, f1, f2, f3, f4, f5, f6⟩⟩ := id hA3
              clear hno1 hno2 hstep hc1 hc2 hX3 hA3
              simp only [putF] at hAp hbp
              go_wp2
              go_roundw
              case rel => exact ⟨j + 1, by go_num, by omega, by rw [hsu.out]; exact hAp, hbp, hall⟩
              case measure => simp [intOf]; omega
        · have hjn : j = xs.length := by omega
          have hji : ¬ (j : Int) < (xs.length : Int) := by omega
          have hV : Hid (rowOkB xs = !decide ((aheadC xs xs.length).part = 1)) := row_end ⟨by omega, by omega⟩ (by rw [← hjn]; exact hall.out)
          rw [← hjn] at hV
          obtain ⟨_, ⟨d0, d1, d2, d3, d4, d5, d6⟩, _⟩ := id hA
          clear hco hjo hall
          generalize aheadC xs j = ah at *
          go_wp2
          go_ret
          exact ⟨by rw [hV.out]; first | rfl | (simp; done), hb⟩
end Go.Proofs.YtpijokologkbeaaDoor
namespace Go.Proofs.YtpijokologkbeaaDoor
open Go.ChangeShapes Go.WideShapes Go.ChangeAt Go.RowKit
theorem gridOk_of {cols : Int} {rows : List (List Ce)} (hn : 1 ≤ rows.length ∧ rows.length ≤ 30) (h : ∀ i, i < rows.length → fitB cols (rowX rows i) = true) : gridOkB cols rows = true := by
  rw [gridOk_iff]
  refine ⟨?_, hn, h⟩
  have h0 := h 0 (by omega)
  unfold fitB at h0
  rw [Bool.and_eq_true, decide_eq_true_eq] at h0
  have := ((right_iff _).1 h0.2).1
  omega
set_option maxHeartbeats 4000000 in
set_option maxRecDepth 20000 in
theorem implGridOk_any (cols : Int) (v : Value) (rows : List (List Ce)) (w : World) (hS : SpansAt w) (hv : SlG w v rows) (hl : rows.length ≤ 1048576) (hx : ∀ i, i < rows.length → (rowX rows i).length ≤ 1048576) :
    Calls Tryd.prog 17 #[gridV cols v] w fun e w' => e = .returned (.bool (gridOkB cols rows)) ∧ Below w.heap.size w w' := by
  have hb0 := bal' w (Obj.cells #[.int .i64 cols, v] 26)
  have hG0 := GrN.new w cols v 26
  obtain ⟨a, c, vs, rfl, hcp, _, hr, hs⟩ := id hv
  unfold gridV
  obtain ⟨_, g0, g1⟩ := id hG0
  by_cases hn1 : rows.length < 1
  · have hn1i : (rows.length : Int) < 1 := by omega
    have hV : Hid (gridOkB cols rows = false) := gridOk_len (by omega)
    clear hs hr
    go_enter Tryd.func17, Tryd.ntmps17
    go_wp2
    go_ret
    exact ⟨by rw [hV.out]; rfl, hb0⟩
  · have hn1i : ¬ (rows.length : Int) < 1 := by omega
    by_cases hn2 : 30 < rows.length
    · have hn2i : 30 < (rows.length : Int) := by omega
      have hV : Hid (gridOkB cols rows = false) := gridOk_len (by omega)
      clear hs hr
      go_enter Tryd.func17, Tryd.ntmps17
      go_wp2
      go_ret
      exact ⟨by rw [hV.out]; rfl, hb0⟩
    · have hn2i : ¬ 30 < (rows.length : Int) := by omega
      rcases hr with h | ⟨b, off, rfl, hbb, hrc⟩
      · rw [h] at hn1; simp at hn1
      go_enter Tryd.func17, Tryd.ntmps17
      go_wp2
      go_loopw [4, 18] (fun _ i wr => ∃ j : Nat, i = .int .i64 j ∧ j ≤ rows.length ∧ Hid (∀ k, k < j → fitB cols (rowX rows k) = true) ∧ GrN wr w.heap.size cols (.slice (some ⟨b, off, none⟩) rows.length c) ∧ Below w.heap.size w wr) (fun _ i _ => rows.length - (intOf i).toNat)
      case atStart => exact ⟨0, rfl, Nat.zero_le _, (fun k hk => absurd hk (Nat.not_lt_zero k)), hG0, hb0⟩
      case round =>
        clear hG0 hb0
        obtain ⟨j, rfl, hj, hall, hG, kb⟩ := hrel
        obtain ⟨_, g0, g1⟩ := id hG
        by_cases hlt : j < rows.length
        · have hji : (j : Int) < (rows.length : Int) := by omega
          have hj0 : (0 : Int) ≤ (j : Int) := by omega
          have hcj := (kb.cell (p := ⟨b, off + j, none⟩) hbb).trans (hrc j hlt)
          have hsj := (hs j hlt).below kb
          obtain ⟨aj, cj, ev, _⟩ := id hsj
          rw [ev] at hcj hsj
          have hno : fitB cols (rowX rows j) = false → Hid (gridOkB cols rows = false) := fun h => gridOk_no hlt h
          have hstep : fitB cols (rowX rows j) = true → Hid (∀ k, k < j + 1 → fitB cols (rowX rows k) = true) := fun h => (show ∀ k, k < j + 1 → fitB cols (rowX rows k) = true from fun k hk => by
            by_cases e : k = j
            · rw [e]; exact h
            · exact hall.out k (by omega))
          have hok := implRowOk_any _ _ wr (hS.below kb hS.lt) hsj (hx j hlt)
          have hfit : fitB cols (rowX rows j) = (decide (((rowX rows j).length : Int) = cols) && rowOkB (rowX rows j)) := rfl
          clear hs hrc ev hsj hall
          by_cases hc : ((rowX rows j).length : Int) = cols
          · have hcb : (((rowX rows j).length : Int) != cols) = false := by simp [hc]
            rw [decide_eq_true hc, Bool.true_and] at hfit
            rw [hfit] at hno hstep
            clear hfit
            generalize rowOkB (rowX rows j) = ok at *
            clear hc
            go_wp2_with fail
            refine hok.mono ?_
            rintro e w2 ⟨rfl, hb2⟩
            have hG2 := hG.below hb2
            have kb2 := kb.trans (hb2.mono kb.size)
            clear hG kb hb2 hok g0 g1
            cases ok
            · have hV := hno rfl
              clear hno hstep
              go_wp2
              go_ret
              exact ⟨by rw [hV.out]; rfl, kb2⟩
            · have hall2 := hstep rfl
              clear hno hstep
              go_wp2
              go_roundw
              case rel => exact ⟨j + 1, by go_num, by omega, hall2, hG2, kb2⟩
              case measure => simp [intOf]; omega
          · have hcb : (((rowX rows j).length : Int) != cols) = true := by simp [hc]
            rw [decide_eq_false hc, Bool.false_and] at hfit
            have hV := hno hfit
            clear hok hno hstep hfit hc
            go_wp2
            go_ret
            exact ⟨by rw [hV.out]; rfl, kb⟩
        · have hjn : j = rows.length := by omega
          have hji : ¬ (j : Int) < (rows.length : Int) := by omega
          have hV : Hid (gridOkB cols rows = true) := gridOk_of ⟨by omega, by omega⟩ (by rw [← hjn]; exact hall.out)
          subst hjn
          clear hs hrc hall
          go_wp2
          go_ret
          exact ⟨by rw [hV.out]; rfl, kb⟩
end Go.Proofs.YtpijokologkbeaaDoor
namespace Go.Proofs.YtpijokologkbeaaDoor
open Go.ChangeShapes Go.WideShapes Go.ChangeAt Go.RowKit
/-- A window of k cells, the first j of them blank, the others zero. -/
def zeroUp (L : List Ce) (q k j : Nat) (s : St) : List Ce := genL L.length fun i => if q ≤ i ∧ i < q + j then blankC s else if q ≤ i ∧ i < q + k then Ce.zero else atC L i
theorem zeroUp_len (L : List Ce) (q k j : Nat) (s : St) : (zeroUp L q k j s).length = L.length := genL_len _ _
theorem zeroUp_at (L : List Ce) (q k j : Nat) (s : St) (i : Nat) (h : i < L.length) : atC (zeroUp L q k j s) i = if q ≤ i ∧ i < q + j then blankC s else if q ≤ i ∧ i < q + k then Ce.zero else atC L i := genL_at _ _ _ h
theorem zeroUp_start (L : List Ce) (q k : Nat) (s : St) (h : q + k ≤ L.length) : windL L q (List.replicate k Ce.zero) = zeroUp L q k 0 s := ext_atC _ _ (by rw [windL_len _ _ _ (by simpa using h), zeroUp_len]) fun i hi => by
  rw [windL_len _ _ _ (by simpa using h)] at hi
  rw [windL_at _ _ _ (by simpa using h), zeroUp_at _ _ _ _ _ _ hi, if_neg (show ¬ (q ≤ i ∧ i < q + 0) by omega), List.length_replicate]
  by_cases c : q ≤ i ∧ i < q + k
  · rw [if_pos c, if_pos c, atC_lt (by simp; omega)]; simp
  · rw [if_neg c, if_neg c]
theorem zeroUp_end (L : List Ce) (q k : Nat) (s : St) : zeroUp L q k k s = fillUp L q (q + k) s := ext_atC _ _ (by rw [zeroUp_len, fillUp_len]) fun i hi => by
  rw [zeroUp_len] at hi
  rw [zeroUp_at _ _ _ _ _ _ hi, fillUp_at _ _ _ _ _ hi]
  by_cases c : q ≤ i ∧ i < q + k
  · rw [if_pos c, if_pos c]
  · rw [if_neg c, if_neg c, if_neg c]
theorem zeroUp_step (L : List Ce) (q k j : Nat) (s : St) (hj : j < k) (h : q + k ≤ L.length) : zeroUp L q k (j + 1) s = (zeroUp L q k j s).set (q + j) ⟨32, s, (atC (zeroUp L q k j s) (q + j)).part⟩ := ext_atC _ _ (by simp [zeroUp_len]) fun i hi => by
  rw [zeroUp_len] at hi
  rw [zeroUp_at _ _ _ _ _ _ hi, atC_set, zeroUp_len, zeroUp_at _ _ _ _ _ _ hi, zeroUp_at _ _ _ _ _ (q + j) (by omega), if_neg (show ¬ (q ≤ q + j ∧ q + j < q + j) by omega), if_pos (show q ≤ q + j ∧ q + j < q + k by omega)]
  by_cases e : i = q + j
  · rw [if_pos (show q ≤ i ∧ i < q + (j + 1) by omega), if_pos (show i = q + j ∧ q + j < L.length from ⟨e, by omega⟩)]; rfl
  · rw [if_neg (show ¬ (i = q + j ∧ q + j < L.length) from fun x => e x.1)]
    by_cases c : q ≤ i ∧ i < q + j
    · rw [if_pos c, if_pos (show q ≤ i ∧ i < q + (j + 1) by omega)]
    · rw [if_neg c, if_neg (show ¬ (q ≤ i ∧ i < q + (j + 1)) by omega)]
set_option maxHeartbeats 4000000 in
set_option maxRecDepth 20000 in
theorem blankOut_any (base g n cap q k c off : Nat) (L : List Ce) (s : St) (w : World) (h : OwnC w base (.slice (some ⟨g, 0, none⟩) n cap) L) (hn : L.length = n) (hq : q + k ≤ n) (hk : 0 < k) (hl : n ≤ 1000) (hoff : off = q * 7) :
    Calls Tryd.prog 112 #[.slice (some ⟨g, off, none⟩) k c, stV s] w fun e w' => e = .returned (.tuple #[]) ∧ OwnC w' base (.slice (some ⟨g, 0, none⟩) n cap) (fillUp L q (q + k) s) ∧ w.grownBy w' (some g) := by
  have h2 := StAt.new w s 73
  have hbA := bal' w (Obj.cells #[.int .i64 s.fore, .int .i64 s.back, .bool s.bold, .bool s.under, .bool s.turned] 73)
  have hlt : g < w.heap.size := (h.lt g rfl).2
  have hA := h.below hbA
  have hgA : w.grownBy (w.alloc (Obj.cells #[.int .i64 s.fore, .int .i64 s.back, .bool s.bold, .bool s.under, .bool s.turned] 73)) (some g) := World.grownBy_alloc w _ _
  have hHo : Hid (off = q * 7) := hoff
  have hfin : Hid (zeroUp L q k k s = fillUp L q (q + k) s) := zeroUp_end L q k s
  have hsta : Hid (windL L q (List.replicate k Ce.zero) = zeroUp L q k 0 s) := zeroUp_start L q k s (by omega)
  have hnG : w.heap.size ≠ g := by omega
  clear hbA hoff h
  unfold stV
  go_enter Tryd.func112, Tryd.ntmps112
  go_wp2_with (refine clear_oc rfl _ rfl base g n cap q k c off L hA hn hq hHo.out rfl ?_; intro w1 ho1 hg1)
  have k1 : OwnC w1 base (.slice (some ⟨g, 0, none⟩) n cap) (zeroUp L q k 0 s) := by rw [← hsta.out]; exact ho1
  have hs1 := h2.grown hg1 (by simp; omega)
  have hw1 := grown_tr hgA hg1
  clear ho1 hg1 hA h2 hgA
  go_wp2
  go_loopw [8, 4] (fun i _ wr => ∃ j : Nat, i = .int .i64 j ∧ j ≤ k ∧ OwnC wr base (.slice (some ⟨g, 0, none⟩) n cap) (zeroUp L q k j s) ∧ StAt wr w.heap.size s ∧ w.grownBy wr (some g)) (fun i _ _ => k - (intOf i).toNat)
  case atStart => exact ⟨0, rfl, Nat.zero_le _, k1, hs1, hw1⟩
  case round =>
    clear k1 hs1 hw1
    obtain ⟨j, rfl, hj, ko, hs, hw⟩ := hrel
    by_cases hlt : j < k
    · have hji : (j : Int) < (k : Int) := by omega
      have hj0 : (0 : Int) ≤ (j : Int) := by omega
      have hst : Hid (zeroUp L q k (j + 1) s = (zeroUp L q k j s).set (q + j) ⟨32, s, (atC (zeroUp L q k j s) (q + j)).part⟩) := zeroUp_step L q k j s hlt (by omega)
      have hsz : (zeroUp L q k j s).length = n := by rw [zeroUp_len]; exact hn
      have hp := ko.putRS hsz (q + j) (by omega) 32 s
      have kk : OwnC (putRS wr g ((q + j) * 7) 32 s) base (.slice (some ⟨g, 0, none⟩) n cap) (zeroUp L q k (j + 1) s) := by rw [hst.out]; exact hp.1
      have hsk := hs.grown hp.2 (by simp; omega)
      have hwk := grown_tr hw hp.2
      have hat := ko.at hsz (q + j) (by omega)
      have f0 := ko.frozen hsz ((q + j) * 7)
      have f1 := ko.frozen hsz ((q + j) * 7 + 1)
      have f2 := ko.frozen hsz ((q + j) * 7 + 2)
      have f3 := ko.frozen hsz ((q + j) * 7 + 3)
      have f4 := ko.frozen hsz ((q + j) * 7 + 4)
      have f5 := ko.frozen hsz ((q + j) * 7 + 5)
      have eo : (q + j) * 7 = off + j * 7 := by have := hHo.out; omega
      rw [eo] at f0 f1 f2 f3 f4 f5 kk hsk hwk hat
      obtain ⟨c0, c1, c2, c3, c4, c5, c6⟩ := hat
      obtain ⟨_, ⟨d0, d1, d2, d3, d4⟩, _⟩ := id hs
      clear hp hst ko hs hw eo
      simp only [putRS] at kk hsk hwk
      go_wp2
      go_roundw
      case rel => exact ⟨j + 1, by go_num, by omega, kk, hsk, hwk⟩
      case measure => simp [intOf]; omega
    · have hjn : j = k := by omega
      have hji : ¬ (j : Int) < (k : Int) := by omega
      subst hjn
      go_wp2
      refine bodyPost_end (results_none rfl _ _ _) rfl ?_
      exact ⟨rfl, by rw [← hfin.out]; exact ko, hw⟩
end Go.Proofs.YtpijokologkbeaaDoor
namespace Go.Proofs.YtpijokologkbeaaDoor
open Go.ChangeShapes Go.WideShapes Go.ChangeAt Go.RowKit
def blankV (n : Int) (s : St) : List Ce := if 1 ≤ n ∧ n ≤ 60 ∧ s.ok = true then rowL n.toNat s else []
end Go.Proofs.YtpijokologkbeaaDoor
namespace Go.Proofs.YtpijokologkbeaaDoor
open Go.ChangeShapes Go.WideShapes Go.ChangeAt Go.RowKit
theorem fill_row (n : Nat) (s : St) : fillUp (List.replicate n Ce.zero) 0 (0 + n) s = rowL n s := ext_atC _ _ (by rw [fillUp_len]; simp [rowL]) fun i hi => by
  rw [fillUp_len, List.length_replicate] at hi
  rw [fillUp_at _ _ _ _ _ (by simpa using hi), if_pos (by omega), rowL_at _ _ _ hi]
set_option maxHeartbeats 4000000 in
set_option maxRecDepth 20000 in
theorem implBlank_any (n : Int) (s : St) (w : World) :
    Calls Tryd.prog 111 #[.int .i64 n, stV s] w fun e w' => ∃ v, e = .returned v ∧ OwnC w' w.heap.size v (blankV n s) ∧ Below w.heap.size w w' := by
  have h2 := StAt.new w s 73
  have hbA := bal' w (Obj.cells #[.int .i64 s.fore, .int .i64 s.back, .bool s.bold, .bool s.under, .bool s.turned] 73)
  have hOK := implStyleOk_any s
  have hno : ∀ W : World, OwnC W w.heap.size (.slice none 0 0) [] := fun W => ownC_none W _
  by_cases h1 : 1 ≤ n
  · by_cases h60 : n ≤ 60
    · have h1i : ¬ n < 1 := by omega
      have h60i : ¬ 60 < n := by omega
      obtain ⟨_, ⟨c0, c1, c2, c3, c4⟩, _⟩ := id h2
      have hV : Hid (blankV n s = if s.ok = true then rowL n.toNat s else []) := by
        show _ = _; unfold blankV
        by_cases h : s.ok = true
        · rw [if_pos ⟨h1, h60, h⟩, if_pos h]
        · rw [if_neg (fun x => h x.2.2), if_neg h]
      unfold stV at *
      go_enter Tryd.func111, Tryd.ntmps111
      go_wp2_with fail
      generalize w.alloc (Obj.cells #[.int .i64 s.fore, .int .i64 s.back, .bool s.bold, .bool s.under, .bool s.turned] 73) = W0 at *
      refine (hOK _).mono ?_
      rintro e w1 ⟨rfl, hb1⟩
      have kb := hbA.trans (hb1.mono hbA.size)
      have hs1 := h2.below hb1
      clear hbA h2 hb1 c0 c1 c2 c3 c4 hOK
      cases ho : s.ok
      · have hV2 : Hid (blankV n s = []) := by show _ = _; rw [hV.out, if_neg (by rw [ho]; decide)]
        clear ho hs1
        go_wp2
        go_ret
        exact ⟨_, rfl, by rw [hV2.out]; exact hno _, kb⟩
      · obtain ⟨m, rfl⟩ : ∃ m : Nat, n = m := ⟨n.toNat, by omega⟩
        have hV2 : Hid (blankV m s = rowL m s) := by show _ = _; rw [hV.out, if_pos ho]; simp
        have hm2 : m ≤ 1073741824 := by omega
        have hbo := fun W h => blankOut_any w1.heap.size w1.heap.size m m 0 m m 0 (List.replicate m Ce.zero) s W h (by simp) (by omega) (by omega) (by omega) rfl
        have hs0 := hs1.1
        unfold stV at hbo
        clear ho h1 h60 hV
        go_wp2_with (refine make_oc rfl _ _ rfl m rfl rfl hm2 ?_; intro w2 ho2 hb2; have hs2 := hs1.below hb2; have hss := hs2; obtain ⟨_, ⟨c0, c1, c2, c3, c4⟩, _⟩ := hss)
        refine (hbo _ ho2).mono ?_
        rintro e w3 ⟨rfl, ho3, hg3⟩
        rw [fill_row] at ho3
        have kb2 := kb.trans (hb2.mono kb.size)
        go_wp2
        go_ret
        exact ⟨_, rfl, by rw [hV2.out]; exact ho3.low kb.size, kb2.grown hg3 kb2.size (fun k hk => by cases hk; exact kb.size)⟩
    · have h60i : 60 < n := by omega
      have h1i : ¬ n < 1 := by omega
      have hV : Hid (blankV n s = []) := by show _ = _; unfold blankV; rw [if_neg (by omega)]
      clear hOK
      unfold stV
      go_enter Tryd.func111, Tryd.ntmps111
      go_wp2
      go_ret
      exact ⟨_, rfl, by rw [hV.out]; exact hno _, hbA⟩
  · have h1i : n < 1 := by omega
    have hV : Hid (blankV n s = []) := by show _ = _; unfold blankV; rw [if_neg (by omega)]
    clear hOK
    unfold stV
    go_enter Tryd.func111, Tryd.ntmps111
    go_wp2
    go_ret
    exact ⟨_, rfl, by rw [hV.out]; exact hno _, hbA⟩
end Go.Proofs.YtpijokologkbeaaDoor
namespace Go.Proofs.YtpijokologkbeaaDoor
open Go.ChangeShapes Go.WideShapes Go.ChangeAt Go.RowKit
theorem under_stack : Tryd.prog.underlying 109 = some (.slice 66) := by kernel_rfl
/-- 'make' of rows under another name. -/
theorem make_ogs {w : World} {ops : Array Oper} {rest : List Oper} {o : Oper} {ac : Act} {Q : Exit → Act → World → Prop} (hgd : o.guard = none) (x y : Operand)
    (ho : o.op = Op.makeSlice 109 x y) (n : Nat) (hx : ac.eval x = .int .i64 (n : Int)) (hy : ac.eval y = .int .i64 (n : Int)) (hn : n ≤ 1073741824)
    (h : ∀ w', OwnG w' w.heap.size w'.heap.size (.slice (some ⟨w.heap.size, 0, none⟩) n n) (List.replicate n []) → Below w.heap.size w w' → wpList Tryd.prog ops Q rest (ac.put o.dst (.slice (some ⟨w.heap.size, 0, none⟩) n n)) w') :
    wpList Tryd.prog ops Q (o :: rest) ac w := by
  obtain ⟨i0, hi, hz0, hz1, hz2⟩ := info_parts info_row
  refine wpList_make_full _ hgd x y 109 ho w.heap.size 66 i0 (.slice none 0 0) 1 under_stack hi hz0 hz1 .i64 .i64 (n : Int) (n : Int) n hx hy rfl rfl (by rw [hz2]; omega) (by unfold maxLen; omega) (Nat.le_refl _) (fun w' ho' hg => ?_)
  rw [made_none] at ho'
  have hv : ∀ i, rowV (List.replicate n (Value.slice none 0 0)) i = .slice none 0 0 := fun i => by
    unfold rowV; by_cases hi : i < n <;> simp [List.getD, hi]
  have hr : ∀ i, rowX (List.replicate n ([] : List Ce)) i = [] := fun i => by
    unfold rowX; by_cases hi : i < n <;> simp [List.getD, hi]
  have hG : OwnG w' w.heap.size w'.heap.size (.slice (some ⟨w.heap.size, 0, none⟩) n n) (List.replicate n []) :=
    ⟨List.replicate n (.slice none 0 0), by simp, by rw [List.length_replicate]; exact ho', fun i _ => by rw [hv, hr]; exact ownC_none _ _, (fun i _ g e => by rw [hv] at e; cases e), (fun i j _ _ g e => by rw [hv] at e; cases e)⟩
  exact h w' hG ((Below.refl _ _).grown hg (Nat.le_refl _) (fun k hk => by cases hk))
theorem newR_len (cols n : Nat) : (newR cols n).length = n := by simp [newR]
theorem newR_at (cols n i : Nat) (h : i < n) : rowX (newR cols n) i = rowL cols St.zero := by rw [rowX_lt (by rw [newR_len]; exact h)]; simp [newR]
set_option maxHeartbeats 4000000 in
theorem implNewGrid_any (cols n : Int) (w : World) :
    Calls Tryd.prog 71 #[.int .i64 cols, .int .i64 n] w fun e w' => ∃ u, e = .returned (.tuple #[gridV (if newOk cols n then cols else 0) u, .bool (decide (newOk cols n))]) ∧ OwnG w' w.heap.size w'.heap.size u (if newOk cols n then newR cols.toNat n.toNat else []) ∧ Below w.heap.size w w' := by
  have hG := GrW.new w 0 (.slice none 0 0) 26
  have hb1 := bal' w (Obj.cells #[Value.int IntKind.i64 0, Value.slice none 0 0] 26)
  have e1 : (w.alloc (Obj.cells #[Value.int IntKind.i64 0, Value.slice none 0 0] 26)).heap.size = w.heap.size + 1 := by simp
  by_cases hok : newOk cols n
  · have hd : decide (newOk cols n) = true := decide_eq_true hok
    rw [if_pos hok, if_pos hok, hd]
    obtain ⟨⟨h1, h2⟩, h3, h4⟩ := hok
    obtain ⟨cn, rfl⟩ : ∃ k : Nat, cols = k := ⟨cols.toNat, by omega⟩
    obtain ⟨nn, rfl⟩ : ∃ k : Nat, n = k := ⟨n.toNat, by omega⟩
    rw [Int.toNat_natCast, Int.toNat_natCast]
    have n1 : ¬ (cn : Int) < 1 := by omega
    have n2 : ¬ (60 : Int) < (cn : Int) := by omega
    have n3 : ¬ (nn : Int) < 1 := by omega
    have n4 : ¬ (30 : Int) < (nn : Int) := by omega
    have hnn : nn ≤ 1073741824 := by omega
    have hbl := fun W => implBlank_any (cn : Int) St.zero W
    have hbv : blankV (cn : Int) St.zero = rowL cn St.zero := by
      unfold blankV
      rw [if_pos ⟨by omega, by omega, rfl⟩]
      simp
    rw [hbv] at hbl
    obtain ⟨X, hX⟩ : ∃ X, X = rowL cn St.zero := ⟨_, rfl⟩
    rw [← hX] at hbl
    have HX : Hid (X = rowL cn St.zero) := hX
    unfold stV at hbl
    simp only [St.zero] at hbl
    clear hbv hd hX
    go_enter Tryd.func71, Tryd.ntmps71
    go_wp2_with (refine make_ogs rfl _ _ rfl nn rfl rfl hnn ?_; intro w1 ho1 hb2)
    have kG1 := hG.below hb2
    have kb1 := hb1.trans (hb2.mono hb1.size)
    rw [e1] at ho1
    have hR0 : Hid (List.replicate nn ([] : List Ce) = genR nn fun i => if i < 0 then X else []) := by
      show _ = _
      refine ext_rowX _ _ (by simp [genR_len]) fun i hi => ?_
      have hi' : i < nn := by simpa using hi
      rw [genR_at _ _ _ hi', if_neg (Nat.not_lt_zero i), rowX_lt hi]; simp
    rw [hR0.out] at ho1
    clear hG hb1 hb2 hR0 e1
    go_wp2
    go_loopw [7, 27] (fun _ i wr => ∃ j : Nat, i = .int .i64 j ∧ j ≤ nn ∧ OwnG wr (w.heap.size + 1) wr.heap.size (.slice (some ⟨w.heap.size + 1, 0, none⟩) nn nn) (genR nn fun i => if i < j then X else []) ∧ GrW wr w.heap.size 0 (.slice none 0 0) ∧ Below w.heap.size w wr) (fun _ i _ => nn - (intOf i).toNat)
    case atStart => exact ⟨0, rfl, Nat.zero_le _, ho1, kG1, kb1⟩
    case round =>
      clear ho1 kG1 kb1
      obtain ⟨j, rfl, hj, k, kG, kb⟩ := hrel
      have hRl : (genR nn fun i => if i < j then X else []).length = nn := genR_len _ _
      by_cases hlt : j < nn
      · have hji : (j : Int) < (nn : Int) := by omega
        have hj0 : (0 : Int) ≤ (j : Int) := by omega
        have hst : Hid ((genR nn fun i => if i < j + 1 then X else []) = (genR nn fun i => if i < j then X else []).set j (X)) := by
          show _ = _
          refine ext_rowX _ _ (by rw [List.length_set, genR_len, genR_len]) fun i hi => ?_
          rw [genR_len] at hi
          rw [genR_at _ _ _ hi, rowX_set (by rw [genR_len]; exact hlt), genR_at _ _ _ hi]
          by_cases e : i = j
          · rw [if_pos (by omega), if_pos e]
          · rw [if_neg e]
            by_cases c : i < j
            · rw [if_pos c, if_pos (by omega)]
            · rw [if_neg c, if_neg (by omega)]
        generalize (genR nn fun i => if i < j then X else []) = R at *
        go_wp2_with fail
        refine (hbl _).mono ?_
        rintro e w2 ⟨r, rfl, hor, hb2⟩
        have hs2 := hb2.size
        have kG2 := kG.below hb2
        have kb2 := kb.trans (hb2.mono kb.size)
        have k2 := k.below hb2
        have hsz := kG.1
        have hk2 := k2.set hRl j hlt r _ (hor.low (by omega)) (fun q e => (hor.lt q e).1)
        obtain ⟨vs2, hv2⟩ := k2.v
        have hcur := hv2.cell hRl j hlt
        have hfz := hv2.frozen hRl j
        have kb3 := kb2.grown hk2.2 (by omega) (fun g e => by cases e; omega)
        have kG3 := kG2.grown hk2.2 (by simp)
        have kk := hk2.1
        rw [← hst.out] at kk
        obtain ⟨ra, rn, rc, rfl⟩ : ∃ a n c, r = Value.slice a n c := by rcases hor.shape with ⟨h, _⟩ | ⟨_, _, h, _⟩ <;> exact ⟨_, _, _, h⟩
        clear k kG kb hor hb2 hs2 kG2 kb2 k2 hk2 hv2 hst hRl hsz
        go_wp2
        go_roundw
        case rel => exact ⟨j + 1, by go_num, by omega, kk, kG3, kb3⟩
        case measure => simp [intOf]; omega
      · have hjn : j = nn := by omega
        have hji : ¬ (j : Int) < (nn : Int) := by omega
        subst hjn
        have hye : (genR j fun i => if i < j then X else []) = newR cn j := ext_rowX _ _ (by rw [genR_len, newR_len]) fun i hi => by
          rw [genR_len] at hi
          rw [genR_at _ _ _ hi, if_pos hi, newR_at _ _ _ hi, HX.out]
        rw [hye] at k
        clear hRl hye hbl
        have kF := (kG.put2 cn (.slice (some ⟨w.heap.size + 1, 0, none⟩) j j)).2.1
        have hgF := putG2_grown wr w.heap.size cn (.slice (some ⟨w.heap.size + 1, 0, none⟩) j j)
        have hoF := (k.kept hgF (fun g e => by cases e; omega)).up hgF.size
        have hsz := kG.1
        have hbF := kb.grown hgF (by omega) (fun g e => by cases e; omega)
        obtain ⟨_, ⟨d0, d1⟩, ⟨y0, y1⟩⟩ := kG
        obtain ⟨f0, f1⟩ := kF
        simp only [putG2] at f0 f1 hoF hbF
        clear hgF k kb
        go_wp2
        exact bodyPost_ret (v := .tuple #[.agg #[.int .i64 cn, .slice (some ⟨w.heap.size + 1, 0, none⟩) j j], .bool true]) (by simp [results, Tryd.results71, go_sem, f0, f1]) rfl ⟨_, rfl, hoF.low (by omega), hbF⟩
  · rw [if_neg hok, if_neg hok, decide_eq_false hok]
    by_cases c1 : cols < 1
    · clear hok
      go_enter Tryd.func71, Tryd.ntmps71
      go_wp2
      exact bodyPost_ret (v := .tuple #[.agg #[.int .i64 0, .slice none 0 0], .bool false]) (by simp [results, Tryd.results71, go_sem]) rfl ⟨_, rfl, ownG_none _ _ _, hb1⟩
    · by_cases c2 : 60 < cols
      · clear hok
        go_enter Tryd.func71, Tryd.ntmps71
        go_wp2
        exact bodyPost_ret (v := .tuple #[.agg #[.int .i64 0, .slice none 0 0], .bool false]) (by simp [results, Tryd.results71, go_sem]) rfl ⟨_, rfl, ownG_none _ _ _, hb1⟩
      · by_cases c3 : n < 1
        · clear hok
          go_enter Tryd.func71, Tryd.ntmps71
          go_wp2
          exact bodyPost_ret (v := .tuple #[.agg #[.int .i64 0, .slice none 0 0], .bool false]) (by simp [results, Tryd.results71, go_sem]) rfl ⟨_, rfl, ownG_none _ _ _, hb1⟩
        · have c4 : 30 < n := by
            apply Int.not_le.1; intro h; exact hok ⟨⟨by omega, by omega⟩, by omega, h⟩
          clear hok
          go_enter Tryd.func71, Tryd.ntmps71
          go_wp2
          exact bodyPost_ret (v := .tuple #[.agg #[.int .i64 0, .slice none 0 0], .bool false]) (by simp [results, Tryd.results71, go_sem]) rfl ⟨_, rfl, ownG_none _ _ _, hb1⟩
end Go.Proofs.YtpijokologkbeaaDoor
namespace Go.Proofs.YtpijokologkbeaaDoor
open Go.ChangeShapes Go.WideShapes Go.ChangeAt Go.RowKit
/-- One row is written anew, its value named. -/
theorem OwnV.setV {w : World} {base B g n cap : Nat} {vs : List Value} {rows : List (List Ce)} (h : OwnV w base B (.slice (some ⟨g, 0, none⟩) n cap) vs rows) (hn : rows.length = n) (i : Nat) (hi : i < n) (r : Value) (xs : List Ce) (hr : OwnC w base r xs) (hB : ∀ q, r.ownBlock = some q → B ≤ q) :
    OwnV (w.setCell ⟨g, i, none⟩ r) base (w.setCell ⟨g, i, none⟩ r).heap.size (.slice (some ⟨g, 0, none⟩) n cap) (vs.set i r) (rows.set i xs) ∧ w.grownBy (w.setCell ⟨g, i, none⟩ r) (some g) := by
  have h' := h
  subst hn
  obtain ⟨hvl, hown, hrs, hlt, hd⟩ := h
  have h0 := World.ownsRow.stored hown i r
  have hap : ∀ {u : Value} {ys : List Ce}, OwnC w base u ys → OwnC (w.setCell ⟨g, i, none⟩ r) base u ys := fun hu => hu.kept h0.2 (outer_apart hown hu)
  refine ⟨h'.mixed (fun k => if k = i then none else some k) _ _ (by simp [hvl]) (by simp) h0.1 (fun p hp => hap (hrs p hp)) (fun k p hk e => ?_) (fun a b p hab hb e1 e2 => ?_) (fun k hk e => ?_) (fun a b hab hb e1 e2 => ?_), h0.2⟩
  · by_cases c : k = i
    · rw [if_pos c] at e; cases e
    · rw [if_neg c] at e; cases e
      exact ⟨hk, by rw [rowV_setV (by omega), if_neg c], by rw [rowX_set hi, if_neg c]⟩
  · by_cases c : a = i
    · rw [if_pos c] at e1; cases e1
    · by_cases d : b = i
      · rw [if_pos d] at e2; cases e2
      · rw [if_neg c] at e1; rw [if_neg d] at e2; cases e1; cases e2; omega
  · by_cases c : k = i
    · rw [rowV_setV (by omega), if_pos c, rowX_set hi, if_pos c]; exact ⟨hap hr, hB⟩
    · rw [if_neg c] at e; cases e
  · by_cases c : a = i
    · by_cases d : b = i
      · omega
      · rw [if_neg d] at e2; cases e2
    · rw [if_neg c] at e1; cases e1
set_option maxHeartbeats 4000000 in
set_option maxRecDepth 20000 in
theorem copiedG_any (v : Value) (rows : List (List Ce)) (w : World) (hv : SlG w v rows) (hl : rows.length ≤ 1000) (hx : ∀ i, i < rows.length → (rowX rows i).length ≤ 1000) :
    Calls Tryd.prog 73 #[v] w fun e w' => ∃ vs, e = .returned (.slice (some ⟨w.heap.size, 0, none⟩) rows.length rows.length) ∧ OwnV w' w.heap.size w'.heap.size (.slice (some ⟨w.heap.size, 0, none⟩) rows.length rows.length) vs rows ∧ Below w.heap.size w w' := by
  obtain ⟨a, c, vs0, rfl, hcp, _, hr, hs⟩ := id hv
  generalize hN : rows.length = n at *
  go_enter Tryd.func73, Tryd.ntmps73
  go_wp2_with (refine make_ogs rfl _ _ rfl n rfl rfl (by omega) ?_; intro w1 ho1 hb1)
  obtain ⟨vs1, hv1⟩ := ho1.v
  have hst0 : OwnV w1 w.heap.size w1.heap.size (.slice (some ⟨w.heap.size, 0, none⟩) n n) vs1 (genR n fun i => if i < 0 then rowX rows i else []) := by
    have e : (genR n fun i => if i < 0 then rowX rows i else []) = List.replicate n [] := ext_rowX _ _ (by rw [genR_len, List.length_replicate]) fun i hi => by
      rw [genR_len] at hi
      rw [genR_at _ _ _ hi, if_neg (Nat.not_lt_zero i), rowX_lt (by simpa using hi)]; simp
    rw [e]; exact hv1
  clear ho1 hv1
  go_wp2
  go_loopw [4, 5, 11] (fun _ _ i wr => ∃ (j : Nat) (vs : List Value), i = .int .i64 j ∧ j ≤ n ∧ OwnV wr w.heap.size wr.heap.size (.slice (some ⟨w.heap.size, 0, none⟩) n n) vs (genR n fun i => if i < j then rowX rows i else []) ∧ Below w.heap.size w wr) (fun _ _ i _ => n - (intOf i).toNat)
  case atStart => exact ⟨0, vs1, rfl, Nat.zero_le _, hst0, hb1⟩
  case round =>
    clear hst0 hb1
    obtain ⟨j, vs, rfl, hj, k, kb⟩ := hrel
    have hRl : (genR n fun i => if i < j then rowX rows i else []).length = n := genR_len _ _
    by_cases hlt : j < n
    · have hji : (j : Int) < (n : Int) := by omega
      have hj0 : (0 : Int) ≤ (j : Int) := by omega
      rcases hr with h | ⟨b, off, rfl, hbb, hrc⟩
      · rw [h] at hN; simp at hN; omega
      have hst : Hid (((genR n fun i => if i < j then rowX rows i else []).set j (List.replicate (rowX rows j).length Ce.zero)).set j (rowX rows j) = genR n fun i => if i < j + 1 then rowX rows i else []) := by
        show _ = _
        rw [List.set_set]
        refine ext_rowX _ _ (by rw [List.length_set, genR_len, genR_len]) fun i hi => ?_
        rw [List.length_set, genR_len] at hi
        rw [rowX_set (by rw [genR_len]; exact hlt), genR_at _ _ _ hi, genR_at _ _ _ hi]
        by_cases e : i = j
        · rw [if_pos e, if_pos (by omega), e]
        · rw [if_neg e]
          by_cases c : i < j
          · rw [if_pos c, if_pos (by omega)]
          · rw [if_neg c, if_neg (by omega)]
      generalize (genR n fun i => if i < j then rowX rows i else []) = R at *
      have hcj := (kb.cell (p := ⟨b, off + j, none⟩) hbb).trans (hrc j hlt)
      have hsj := hs j hlt
      have hxj := hx j (by omega)
      obtain ⟨aj, cj, ev, _⟩ := id hsj
      rw [ev] at hcj hsj
      generalize rowX rows j = X at *
      have hm : X.length ≤ 1073741824 := by omega
      have hwin : Hid (windL (List.replicate X.length Ce.zero) 0 X = X) := by show _ = _; simp [windL]
      have hmin : Hid (X.length = Nat.min X.length X.length) := (Nat.min_self _).symm
      have hre : Hid ((List.replicate X.length Ce.zero).length = X.length) := by show _ = _; simp
      clear hs hrc ev hx
      go_wp2_with (first
        | (refine make_oc (by rfl) _ _ (by rfl) X.length (by rfl) (by rfl) hm ?_; intro w1 ho1 hb1
           have kv1 := k.below hb1
           have hcur := kv1.cell hRl j hlt
           have hfz := kv1.frozen hRl j
           have hsz := kb.size
           have hlt0 := (World.ownsRow.lt k.2.1 w.heap.size rfl).2
           obtain ⟨hkv, hkg⟩ := kv1.setV hRl j hlt (.slice (some ⟨wr.heap.size, 0, none⟩) X.length X.length) _ (ho1.low hsz) (fun q e => by cases e; exact Nat.le_refl _)
           have hoz := ho1.kept hkg (Or.inr (fun e => Nat.ne_of_gt hlt0 (Option.some.inj e)))
           have hbj := (kb.trans (hb1.mono hsz)).grown hkg (by have := hb1.size; omega) (fun g e => by cases e; exact Nat.le_refl _)
           have hsrc := (hsj.below hbj).src)
        | (refine copy_oc (by rfl) _ _ (by rfl) wr.heap.size wr.heap.size X.length X.length 0 (List.replicate X.length Ce.zero) X hoz hre.out (some ⟨wr.heap.size, 0, none⟩) aj X.length X.length X.length cj (by rfl) (by rfl) hmin.out (Nat.le_of_eq (Nat.zero_add _)) (fun h0 => ⟨rfl, hsrc h0⟩) ?_; intro w2 ho2 hg2; rw [hwin.out] at ho2))
      have hvl : vs.length = n := by rw [k.1]; exact hRl
      have hrv : rowV (vs.set j (.slice (some ⟨wr.heap.size, 0, none⟩) X.length X.length)) j = .slice (some ⟨wr.heap.size, 0, none⟩) X.length X.length := by rw [rowV_setV (by omega), if_pos rfl]
      have hkk := (hkv.rowset (j := j) (by simp; omega) X (by rw [hrv]; exact ho2.low hsz) (by rw [hrv]; exact hg2)).up (B' := w2.heap.size) hg2.size
      rw [hst.out] at hkk
      have hb2 := hbj.grown hg2 (by have := hbj.size; omega) (fun g e => by cases e; exact hsz)
      clear hst hrv hvl ho2 hg2 hsrc hbj hoz hkv hkg hlt0 hcur hfz kv1 ho1 hb1 k kb hRl
      go_wp2
      go_roundw
      case rel => exact ⟨j + 1, _, by go_num, by omega, hkk, hb2⟩
      case measure => simp [intOf]; omega
    · have hjn : j = n := by omega
      have hji : ¬ (j : Int) < (n : Int) := by omega
      have hye : (genR n fun i => if i < j then rowX rows i else []) = rows := ext_rowX _ _ (by rw [genR_len]; exact hN.symm) fun i hi => by
        rw [genR_len] at hi
        rw [genR_at _ _ _ hi, if_pos (by omega)]
      rw [hye] at k
      subst hjn
      clear hs hr hye hRl
      go_wp2
      go_ret
      exact ⟨rfl, ⟨_, k⟩, kb⟩
end Go.Proofs.YtpijokologkbeaaDoor
namespace Go.Proofs.YtpijokologkbeaaDoor
open Go.ChangeShapes Go.WideShapes Go.ChangeAt Go.RowKit
/-- A slice whose cells hold these values, one a place: what append takes its news from. -/
def ReadsRow (w : World) (u : Value) (news : List Value) : Prop :=
  (u = .slice none 0 0 ∧ news = []) ∨ ∃ ad c, u = .slice (some ad) news.length c ∧ ∀ j x, news[j]? = some x → w.cell? (ad.add j) = some x
theorem ReadsRow.of_own {w : World} {base : Nat} {e : TypeId} {v : Value} {n : Nat} {xs : List Value} (h : w.ownsRow base e 1 v n xs) : ReadsRow w v xs := by
  have hl : xs.length = n := by simpa using h.1
  rcases h.2 with ⟨rfl, rfl⟩ | ⟨g, cap, cur, hv, _⟩
  · exact .inl ⟨rfl, List.eq_nil_of_length_eq_zero hl⟩
  · exact .inr ⟨⟨g, 0, none⟩, cap, by rw [hv, hl], h.cells (by rw [hv]; rfl)⟩
theorem ReadsRow.below {w w' : World} {u : Value} {news : List Value} (h : ReadsRow w u news) (hb : Below w.heap.size w w') : ReadsRow w' u news := by
  rcases h with h | ⟨ad, c, hu, hc⟩
  · exact .inl h
  · refine .inr ⟨ad, c, hu, fun j x hx => ?_⟩
    have h1 := hc j x hx
    exact (hb.cell (World.block_lt_of_cell? w _ h1)).trans h1
end Go.Proofs.YtpijokologkbeaaDoor
namespace Go.Proofs.YtpijokologkbeaaDoor
open Go.ChangeShapes Go.WideShapes Go.ChangeAt Go.RowKit
/-- Values laid over a window. -/
def windV (L : List Value) (q : Nat) (M : List Value) : List Value := L.take q ++ M ++ L.drop (q + M.length)
theorem windV_len (L : List Value) (q : Nat) (M : List Value) (h : q + M.length ≤ L.length) : (windV L q M).length = L.length := by unfold windV; simp; omega
theorem windV_at (L : List Value) (q : Nat) (M : List Value) (h : q + M.length ≤ L.length) (i : Nat) (_ : i < L.length) : rowV (windV L q M) i = if q ≤ i ∧ i < q + M.length then rowV M (i - q) else rowV L i := by
  have h1 : (L.take q).length = q := by rw [List.length_take]; omega
  unfold rowV windV
  simp only [List.getD]
  by_cases c1 : i < q
  · rw [if_neg (by omega), List.append_assoc, List.getElem?_append_left (by omega), List.getElem?_take_of_lt c1]
  · by_cases c2 : i < q + M.length
    · rw [if_pos (by omega), List.append_assoc, List.getElem?_append_right (by omega), h1, List.getElem?_append_left (by omega)]
    · rw [if_neg (by omega), List.getElem?_append_right (by rw [List.length_append, h1]; omega), List.length_append, h1, List.getElem?_drop, show q + M.length + (i - (q + M.length)) = i by omega]
/-- The rows of a window, turned. -/
def turnI (a m k i : Nat) : Nat := if a ≤ i ∧ i < a + m then (if i + k < a + m then i + k else i + k - m) else i
def turnR (rows : List (List Ce)) (a m k : Nat) : List (List Ce) := genR rows.length fun i => rowX rows (turnI a m k i)
theorem turnR_len (rows : List (List Ce)) (a m k : Nat) : (turnR rows a m k).length = rows.length := genR_len _ _
theorem turnR_at (rows : List (List Ce)) (a m k i : Nat) (h : i < rows.length) : rowX (turnR rows a m k) i = rowX rows (turnI a m k i) := genR_at _ _ _ h
theorem turnI_lt {a m k i n : Nat} (hk : k ≤ m) (ham : a + m ≤ n) (hi : i < n) : turnI a m k i < n := by unfold turnI; split <;> (try split) <;> omega
theorem turnI_inj {a m k i j : Nat} (hk : k ≤ m) (h : turnI a m k i = turnI a m k j) : i = j := by
  unfold turnI at h
  split at h <;> split at h <;> (try split at h) <;> (try split at h) <;> omega
def turnV (vs : List Value) (a m k : Nat) : List Value := genV (m - k) (fun i => rowV vs (a + k + i)) ++ genV k (fun i => rowV vs (a + i))
theorem turnV_len (vs : List Value) (a m k : Nat) (hk : k ≤ m) : (turnV vs a m k).length = m := by unfold turnV; rw [List.length_append, genV_len, genV_len]; omega
theorem rowV_app (a b : List Value) (i : Nat) : rowV (a ++ b) i = if i < a.length then rowV a i else rowV b (i - a.length) := by
  unfold rowV
  simp only [List.getD]
  by_cases c : i < a.length
  · rw [if_pos c, List.getElem?_append_left c]
  · rw [if_neg c, List.getElem?_append_right (by omega)]
theorem turnV_at (vs : List Value) (a m k i : Nat) (hk : k ≤ m) (hi : i < m) : rowV (turnV vs a m k) i = rowV vs (turnI a m k (a + i)) := by
  unfold turnV turnI
  rw [rowV_app, genV_len, if_pos (show a ≤ a + i ∧ a + i < a + m by omega)]
  by_cases c : i < m - k
  · rw [if_pos c, genV_at _ _ _ c, if_pos (by omega)]
    congr 1; omega
  · rw [if_neg c, genV_at _ _ _ (by omega), if_neg (by omega)]
    congr 1; omega
theorem OwnV.turned {w w' : World} {base B g n cap a m k : Nat} {vs : List Value} {rows : List (List Ce)} (h : OwnV w base B (.slice (some ⟨g, 0, none⟩) n cap) vs rows) (hn : rows.length = n) (ham : a + m ≤ n) (hk : k ≤ m)
    (ho : w'.ownsRow base 66 1 (.slice (some ⟨g, 0, none⟩) n cap) n (windV vs a (turnV vs a m k))) (hg : w.grownBy w' (some g)) : OwnV w' base B (.slice (some ⟨g, 0, none⟩) n cap) (windV vs a (turnV vs a m k)) (turnR rows a m k) := by
  have hvl := h.1
  have hown := h.2.1
  have hl := turnV_len vs a m k hk
  have hat : ∀ i, i < rows.length → rowV (windV vs a (turnV vs a m k)) i = rowV vs (turnI a m k i) := fun i hi => by
    rw [windV_at _ _ _ (by omega) _ (by omega), hl]
    by_cases c : a ≤ i ∧ i < a + m
    · rw [if_pos c, turnV_at _ _ _ _ _ hk (by omega), show a + (i - a) = i by omega]
    · rw [if_neg c]
      unfold turnI
      rw [if_neg c]
  have key : OwnV w' base w'.heap.size (.slice (some ⟨g, 0, none⟩) n cap) (windV vs a (turnV vs a m k)) (turnR rows a m k) := by
    refine h.mixed (fun i => some (turnI a m k i)) _ _ (by rw [windV_len _ _ _ (by omega), turnR_len, hvl]) (turnR_len _ _ _ _) (by rw [hn]; exact ho) (fun p hp => (h.2.2.1 p hp).kept hg (outer_apart hown (h.2.2.1 p hp))) (fun i p hi e => ?_) (fun i j p hij _ e1 e2 => ?_) (fun i _ e => by cases e) (fun i j _ _ e _ => by cases e)
    · cases e
      exact ⟨turnI_lt hk (by omega) hi, hat i hi, turnR_at _ _ _ _ _ hi⟩
    · cases e1
      have := turnI_inj hk (Option.some.inj e2)
      omega
  refine ⟨key.1, key.2.1, key.2.2.1, fun i hi g' e => ?_, key.2.2.2.2⟩
  rw [turnR_len] at hi
  rw [hat i hi] at e
  exact h.2.2.2.1 _ (by rw [hn]; exact turnI_lt hk (by omega) (by omega)) g' e
end Go.Proofs.YtpijokologkbeaaDoor
namespace Go.Proofs.YtpijokologkbeaaDoor
open Go.ChangeShapes Go.WideShapes Go.ChangeAt Go.RowKit
theorem StAt.gr {lo hi B : Nat} {w w' : World} {s : St} (h : StAt w B s) (hg : GrB lo hi w w') (hne : B < lo ∨ hi ≤ B) : StAt w' B s := by
  obtain ⟨h0, ⟨c0, c1, c2, c3, c4⟩, z0, z1, z2, z3, z4⟩ := h
  refine ⟨Nat.lt_of_lt_of_le h0 hg.size, ⟨?_, ?_, ?_, ?_, ?_⟩, ?_, ?_, ?_, ?_, ?_⟩
  all_goals first | rw [hg.cell h0 hne] | rw [hg.frozen h0 hne]
  all_goals assumption
end Go.Proofs.YtpijokologkbeaaDoor
namespace Go.Proofs.YtpijokologkbeaaDoor
open Go.ChangeShapes Go.WideShapes Go.ChangeAt Go.RowKit
theorem GrW.gr {lo hi B : Nat} {w w' : World} {cols : Int} {v : Value} (h : GrW w B cols v) (hg : GrB lo hi w w') (hne : B < lo ∨ hi ≤ B) : GrW w' B cols v := by
  obtain ⟨h0, ⟨c0, c1⟩, z0, z1⟩ := h
  refine ⟨Nat.lt_of_lt_of_le h0 hg.size, ⟨?_, ?_⟩, ?_, ?_⟩
  all_goals first | rw [hg.cell h0 hne] | rw [hg.frozen h0 hne]
  all_goals assumption
end Go.Proofs.YtpijokologkbeaaDoor
namespace Go.Proofs.YtpijokologkbeaaDoor
open Go.ChangeShapes Go.WideShapes Go.ChangeAt Go.RowKit
theorem cut_any (g n cap f t : Nat) (w : World) (hft : f < t) (ht : t ≤ n) (hc : n ≤ cap) :
    Calls Tryd.prog 110 #[.slice (some ⟨g, 0, none⟩) n cap, .int .i64 f, .int .i64 t] w fun e w' => e = .returned (.slice (some ⟨g, f * 7, none⟩) (t - f) (t - f)) ∧ w' = w := by
  have h1 : (f : Int) ≤ (t : Int) := by omega
  have h0 : (0 : Int) ≤ (f : Int) := by omega
  have h2 : (t : Int) ≤ (cap : Int) := by omega
  have h3 : ¬ (t - f = 0) := by omega
  go_enter Tryd.func110, Tryd.ntmps110
  go_wp2
  go_ret
  exact ⟨rfl, rfl⟩
end Go.Proofs.YtpijokologkbeaaDoor
namespace Go.Proofs.YtpijokologkbeaaDoor
open Go.ChangeShapes Go.WideShapes Go.ChangeAt Go.RowKit
/-- A row of this call's own, and nothing else has changed. -/
def PW (base g n cap : Nat) (L : List Ce) (w0 W : World) : Prop := OwnC W base (.slice (some ⟨g, 0, none⟩) n cap) L ∧ w0.grownBy W (some g)
theorem PW.below {base g n cap : Nat} {L : List Ce} {w0 W W' : World} (k : PW base g n cap L w0 W) (hb : Below W.heap.size W W') : PW base g n cap L w0 W' :=
  ⟨k.1.below hb, grown_tr k.2 (gbl hb _)⟩
theorem PW.own {base g n cap : Nat} {L L' : List Ce} {w0 W W' : World} (k : PW base g n cap L w0 W) (h : OwnC W' base (.slice (some ⟨g, 0, none⟩) n cap) L') (hg : W.grownBy W' (some g)) : PW base g n cap L' w0 W' :=
  ⟨h, grown_tr k.2 hg⟩
set_option maxHeartbeats 4000000 in
set_option maxRecDepth 20000 in
theorem part_any (base g n cap p : Nat) (L : List Ce) (w : World) (h : OwnC w base (.slice (some ⟨g, 0, none⟩) n cap) L) (hn : L.length = n) (hR : Right L) (hp : p ≤ n) (hl : n ≤ 1000) :
    Calls Tryd.prog 74 #[.slice (some ⟨g, 0, none⟩) n cap, .int .i64 p] w fun e w' => e = .returned (.tuple #[]) ∧ OwnC w' base (.slice (some ⟨g, 0, none⟩) n cap) (partW L p) ∧ w.grownBy w' (some g) := by
  have hp0 : (0 : Int) ≤ (p : Int) := by omega
  obtain ⟨_, _, _, hnc, _⟩ := h.cur hn
  have hG : ∀ W, w.grownBy W (some g) → w.heap.size ≤ W.heap.size := fun W h => h.size
  by_cases hpn : p < n
  · have hpi : (p : Int) < (n : Int) := by omega
    have hat := h.at hn p hpn
    obtain ⟨c0, c1, c2, c3, c4, c5, c6⟩ := hat
    by_cases h2 : (atC L p).part = 2
    · have b2 : ((atC L p).part == 2) = true := by simp [h2]
      obtain ⟨q0, q1, q2, q3⟩ := hR.two h2
      have hV : Hid (partW L p = fillUp L (p - 1) (p - 1 + 2) (atC L p).st) := by show _ = _; unfold partW; rw [if_pos h2, show p - 1 + 2 = p + 1 by omega]
      have hcut := fun W => cut_any g n cap (p - 1) (p + 1) W (by omega) (by omega) hnc
      have e1 : ((p - 1 : Nat) : Int) = (p : Int) - 1 := by omega
      have e2 : ((p + 1 : Nat) : Int) = (p : Int) + 1 := by omega
      have e3 : p + 1 - (p - 1) = 2 := by omega
      rw [e1, e2, e3] at hcut
      have hbo : ∀ W, OwnC W base (.slice (some ⟨g, 0, none⟩) n cap) L → Calls Tryd.prog 112 #[.slice (some ⟨g, (p - 1) * 7, none⟩) 2 2, stV (atC L p).st] W fun e w' => e = .returned (.tuple #[]) ∧ (w'.cell? ⟨g, p * 7 + 1, none⟩ = some (.int .i64 (atC L p).st.fore) ∧ w'.cell? ⟨g, p * 7 + 2, none⟩ = some (.int .i64 (atC L p).st.back) ∧ w'.cell? ⟨g, p * 7 + 3, none⟩ = some (.bool (atC L p).st.bold) ∧ w'.cell? ⟨g, p * 7 + 4, none⟩ = some (.bool (atC L p).st.under) ∧ w'.cell? ⟨g, p * 7 + 5, none⟩ = some (.bool (atC L p).st.turned)) ∧ OwnC w' base (.slice (some ⟨g, 0, none⟩) n cap) (fillUp L (p - 1) (p - 1 + 2) (atC L p).st) ∧ W.grownBy w' (some g) := fun W hW =>
        (blankOut_any base g n cap (p - 1) 2 2 ((p - 1) * 7) L (atC L p).st W hW hn (by omega) (by omega) hl rfl).mono fun e w' ⟨he, ho, hg⟩ => by
          have hz := ho.at (by rw [fillUp_len]; exact hn) p hpn
          rw [fill_at _ _ _ _ _ (by omega), if_pos (by omega)] at hz
          exact ⟨he, ⟨hz.2.1, hz.2.2.1, hz.2.2.2.1, hz.2.2.2.2.1, hz.2.2.2.2.2.1⟩, ho, hg⟩
      have hd := h.below (bdr w)
      have hgd : w.grownBy w.drew (some g) := gbl (bdr w) _
      have hcd : w.drew.cell? ⟨g, p * 7 + 1, none⟩ = some (.int .i64 (atC L p).st.fore) ∧ w.drew.cell? ⟨g, p * 7 + 2, none⟩ = some (.int .i64 (atC L p).st.back) ∧ w.drew.cell? ⟨g, p * 7 + 3, none⟩ = some (.bool (atC L p).st.bold) ∧ w.drew.cell? ⟨g, p * 7 + 4, none⟩ = some (.bool (atC L p).st.under) ∧ w.drew.cell? ⟨g, p * 7 + 5, none⟩ = some (.bool (atC L p).st.turned) := ⟨c1, c2, c3, c4, c5⟩
      have hw1 : IntKind.i64.wrap ((p : Int) - 1) = (p : Int) - 1 := by simp [IntKind.wrap_i64]; omega
      have hw2 : IntKind.i64.wrap ((p : Int) + 1) = (p : Int) + 1 := by simp [IntKind.wrap_i64]; omega
      unfold stV at hbo
      clear e1 e2 e3 h2 q3 q2 hR
      go_enter Tryd.func74, Tryd.ntmps74
      go_wp2
      clear h c0 c1 c2 c3 c4 c5 c6
      go_region_held3 (fun W => W.cell? ⟨g, p * 7 + 1, none⟩ = some (.int .i64 (atC L p).st.fore) ∧ W.cell? ⟨g, p * 7 + 2, none⟩ = some (.int .i64 (atC L p).st.back) ∧ W.cell? ⟨g, p * 7 + 3, none⟩ = some (.bool (atC L p).st.bold) ∧ W.cell? ⟨g, p * 7 + 4, none⟩ = some (.bool (atC L p).st.under) ∧ W.cell? ⟨g, p * 7 + 5, none⟩ = some (.bool (atC L p).st.turned)) (first | with_reducible assumption)
        (first
          | (go_at_call 110; refine (hcut _).mono ?_; rintro e wk ⟨rfl, hwk⟩; subst hwk)
          | (go_at_call 112; refine (hbo _ hd).mono ?_; rintro e wz ⟨rfl, hcz, ho, hg⟩))
      refine bodyPost_end (results_none rfl _ _ _) rfl ?_
      exact ⟨rfl, by rw [hV.out]; exact ho, grown_tr hgd hg⟩
    · have b2 : ((atC L p).part == 2) = false := by simp [h2]
      have hV : Hid (partW L p = L) := by show _ = _; unfold partW; rw [if_neg h2]
      clear h2 hR
      go_enter Tryd.func74, Tryd.ntmps74
      go_wp2
      refine bodyPost_end (results_none rfl _ _ _) rfl ?_
      exact ⟨rfl, by rw [hV.out]; exact h, World.grownBy.refl _ _⟩
  · have hpi : ¬ (p : Int) < (n : Int) := by omega
    have hV : Hid (partW L p = L) := by show _ = _; unfold partW; rw [atC_ge (by omega), if_neg (by decide)]
    clear hR
    go_enter Tryd.func74, Tryd.ntmps74
    go_wp2
    refine bodyPost_end (results_none rfl _ _ _) rfl ?_
    exact ⟨rfl, by rw [hV.out]; exact h, World.grownBy.refl _ _⟩
end Go.Proofs.YtpijokologkbeaaDoor
namespace Go.Proofs.YtpijokologkbeaaDoor
open Go.ChangeShapes Go.WideShapes Go.ChangeAt Go.RowKit
theorem res_way {X : List Ce} (h : Right X) (cn : Nat) : windL (rowL cn St.zero) 0 ((partW X cn).take (min cn X.length)) = mendV (X.take (min cn X.length)) ++ rowL (cn - (mendV (X.take (min cn X.length))).length) St.zero := by
  have hl1 : ((partW X cn).take (min cn X.length)).length = min cn X.length := by rw [List.length_take, partW_len]; omega
  have hl2 : (mendV (X.take (min cn X.length))).length = min cn X.length := by rw [mendV_len, List.length_take]; omega
  refine ext_atC _ _ ?_ fun i hi => ?_
  · rw [windL_len _ _ _ (by rw [hl1, rowL_len]; omega), rowL_len, List.length_append, hl2, rowL_len]; omega
  · rw [windL_len _ _ _ (by rw [hl1, rowL_len]; omega), rowL_len] at hi
    rw [windL_at _ _ _ (by rw [hl1, rowL_len]; omega), hl1, app_at, hl2]
    by_cases c : i < min cn X.length
    · rw [if_pos (by omega), if_pos c, atC_take _ _ _ (by omega), Nat.sub_zero, partW_at h, mendT h _ _ c]
      by_cases d : cn ≤ X.length
      · rw [Nat.min_eq_left d]
        by_cases e : (atC X cn).part = 2 ∧ i + 1 = cn
        · rw [if_pos ⟨e.1, .inl e.2⟩, if_pos e]
        · rw [if_neg (by intro x; exact e ⟨x.1, by omega⟩), if_neg e]
      · rw [Nat.min_eq_right (by omega), atC_ge (show X.length ≤ cn by omega), atC_ge (Nat.le_refl X.length)]
        simp [Ce.zero]
    · rw [if_neg (by omega), if_neg c, rowL_at _ _ _ hi, rowL_at _ _ _ (by omega)]
set_option maxRecDepth 20000 in
theorem part_out (base g n cap p : Nat) (L : List Ce) (w : World) (h : OwnC w base (.slice (some ⟨g, 0, none⟩) n cap) L) (hn : L.length = n) (hp : n ≤ p) :
    Calls Tryd.prog 74 #[.slice (some ⟨g, 0, none⟩) n cap, .int .i64 (p : Int)] w fun e w' => e = .returned (.tuple #[]) ∧ OwnC w' base (.slice (some ⟨g, 0, none⟩) n cap) (partW L p) ∧ w.grownBy w' (some g) := by
  have hlt : ¬ (p : Int) < (n : Int) := by omega
  have hW : Hid (partW L p = L) := by
    show _ = _
    unfold partW
    rw [atC_ge (by omega), if_neg (by decide)]
  go_enter Tryd.func74, Tryd.ntmps74
  go_wp2
  refine bodyPost_end (results_none rfl _ _ _) rfl ?_
  exact ⟨rfl, by rw [hW.out]; exact h, World.grownBy.refl _ _⟩
theorem part_all (base g n cap p : Nat) (L : List Ce) (w : World) (h : OwnC w base (.slice (some ⟨g, 0, none⟩) n cap) L) (hn : L.length = n) (hR : Right L) (hl : n ≤ 1000) :
    Calls Tryd.prog 74 #[.slice (some ⟨g, 0, none⟩) n cap, .int .i64 (p : Int)] w fun e w' => e = .returned (.tuple #[]) ∧ OwnC w' base (.slice (some ⟨g, 0, none⟩) n cap) (partW L p) ∧ w.grownBy w' (some g) := by
  by_cases c : n ≤ p
  · exact part_out base g n cap p L w h hn c
  · exact part_any base g n cap p L w h hn hR (by omega) hl
theorem OwnV.gr {lo hi base B : Nat} {w w' : World} {v : Value} {vs : List Value} {rows : List (List Ce)} (h : OwnV w base B v vs rows) (hv : ∀ g, v.ownBlock = some g → g < B) (hg : GrB lo hi w w') (hne : B ≤ lo ∨ hi ≤ base) : OwnV w' base B v vs rows := by
  obtain ⟨hl, ho, hr, hB, hd⟩ := h
  refine ⟨hl, World.ownsRow.gr ho hg (fun g e => ?_), fun i hi => (hr i hi).gr hg (fun g e => ?_), hB, hd⟩
  · have := hv g e; have := (ho.lt g e).1; omega
  · have := hB i hi g e; have := ((hr i hi).lt g e).1; omega
/-- A slice of rows cut at its head. -/
theorem SlG.drop {w : World} {b off n c : Nat} {rows : List (List Ce)} (h : SlG w (.slice (some ⟨b, off, none⟩) n c) rows) (k : Nat) (hk : k < n) : SlG w (.slice (some ⟨b, off + k, none⟩) (n - k) (c - k)) (rows.drop k) := by
  obtain ⟨a, c', vs, hv, hc, hn, hr, hs⟩ := h
  simp only [Value.slice.injEq] at hv
  obtain ⟨rfl, hnl, rfl⟩ := hv
  subst hnl
  have hx : ∀ i, i < rows.length - k → rowX (rows.drop k) i = rowX rows (k + i) := fun i hi => by simp [rowX, List.getD]
  have hvv : ∀ i, rowV (vs.drop k) i = rowV vs (k + i) := fun i => by simp [rowV, List.getD]
  rcases hr with hr | ⟨b', off', hab, hlt, hi⟩
  · rw [hr] at hk; simp at hk
  · simp only [Option.some.injEq, Addr.mk.injEq, and_true] at hab
    obtain ⟨rfl, rfl⟩ := hab
    refine ⟨_, c - k, vs.drop k, by rw [List.length_drop], by rw [List.length_drop]; omega, (fun e => by cases e), .inr ⟨b, off + k, rfl, hlt, fun i h2 => ?_⟩, fun i h2 => ?_⟩
    · rw [List.length_drop] at h2
      rw [hvv, Nat.add_assoc]; exact hi (k + i) (by omega)
    · rw [List.length_drop] at h2
      rw [hvv, hx i h2]; exact hs (k + i) (by omega)
theorem lowest_any (b off m c n : Nat) (w : World) (hm : 1 ≤ m) (hm2 : m ≤ 1000) (hc : m ≤ c) (hn : 1 ≤ n) (hn2 : n ≤ 1000) :
    Calls Tryd.prog 72 #[.slice (some ⟨b, off, none⟩) m c, .int .i64 (n : Int)] w fun e w' => e = .returned (.slice (some ⟨b, off + (m - n), none⟩) (m - (m - n)) (c - (m - n))) ∧ w' = w := by
  obtain ⟨f, hf⟩ : ∃ f, f = m - n := ⟨_, rfl⟩
  rw [← hf]
  have hfm : f < m := by omega
  have h0 : (0 : Int) ≤ (f : Int) := by omega
  have h1 : (f : Int) ≤ (m : Int) := by omega
  have hfc : ¬ c = f := by omega
  have hfc2 : ¬ (c - f = 0) := by omega
  by_cases hnm : 0 < f
  · have e1 : (m : Int) - (n : Int) = (f : Int) := by omega
    have e2 : (0 : Int) < (f : Int) := by omega
    clear hf
    go_enter Tryd.func72, Tryd.ntmps72
    go_wp2
    go_ret
    exact ⟨rfl, rfl⟩
  · have hf0 : f = 0 := by omega
    subst hf0
    have e1 : (m : Int) - (n : Int) ≤ 0 := by omega
    have e2 : ¬ 0 < (m : Int) - (n : Int) := by omega
    have e3 : ¬ (n : Int) < (m : Int) := by omega
    have e4 : max 0 ((m : Int) - (n : Int)) = 0 := by omega
    have e5 : max ((m : Int) - (n : Int)) 0 = 0 := by omega
    clear hf
    go_enter Tryd.func72, Tryd.ntmps72
    go_wp2
    go_ret
    exact ⟨by first | rfl | simp | simp [e4, e5], rfl⟩
end Go.Proofs.YtpijokologkbeaaDoor
