/- Contracts of the specification's resized grids. Contract of the specification's Resized. Contract of the program's rows turned. Contract of the program's blanked rows. Contracts of the program's Up and Down. Grids that are moved and resized stay right. Contract of the specification's refitted screen. Contract of the specification's TermOk. Contract of the specification's Refit. Contracts of the program's cut and copied rows, and of a wide rune parted. Contract of the program's parted wide rune. Contract of the program's Resized. -/
import Derived.Test.YtdbpjfdlibodcaaGreatDoorP6
import Derived.Laws.AppendOwnNone
import Derived.Laws.CopyOwn
import Derived.Deep.RegionHeld3
namespace Go.Proofs.YtdbpjfdlibodcaaGreatDoor
open Go.ChangeShapes Go.WideShapes Go.ChangeAt Go.RowKit
/-- Cells more (or none), as a step of a region. -/
theorem step_append_oc2 {w : World} {ops : Array Oper} {o : Oper} {ac : Act} {K : Act → World → Prop} {Q : Exit → Act → World → Prop} {E : Prop} (hgd : o.guard = none) (s x : Operand)
    (ho : o.op = .call { callee := .builtin .append, args := #[s, x], argTypes := #[129, 129] })
    (base : Nat) (v : Value) (L : List Ce) (hs : ac.eval s = v) (k : OwnC w base v L) (hb : base ≤ w.heap.size) (u : Value) (xs : List Ce) (hu : SlC w u xs) (hx : ac.eval x = u) (hl : L.length + xs.length < 2000000)
    (h : ∀ v' w', OwnC w' base v' (L ++ xs) → w.grownBy w' v.ownBlock → K (ac.put o.dst v') w') :
    if Region.wanted o (yielded ops ac.tmps) = true then Oper.wp Tryz.prog o ac w K Q else E := by
  have hw : Region.wanted o (yielded ops ac.tmps) = true := by simp [Region.wanted, hgd]
  rw [if_pos hw]
  obtain ⟨i0, hi, hz0, hz1, hz2⟩ := info_parts info_cell
  obtain ⟨a, c, rfl, hc, hn, hr⟩ := hu
  have hcells : ∀ ad, a = some ad → ∀ j u, (xs.flatMap ceL)[j]? = some u → w.cell? (ad.add j) = some u := fun ad e j u hj => by
    rcases hr with hr | ⟨b, off, hab, _, hi2⟩
    · subst hr; simp at hj
    · rw [e] at hab
      obtain rfl := Option.some.inj hab
      rw [Addr.add_mid]
      exact flat_cells hi2 j u hj
  cases a with
  | none =>
    obtain rfl := hn rfl
    have hx0 : xs = [] := by
      rcases hr with hr | ⟨b, off, hab, _⟩
      · exact hr
      · cases hab
    subst hx0
    have hrun := run_append_owned_none (P := Tryz.prog) (w := w) base 129 o.type 114 i0 7 Tryz.underlying129 hi v L.length _ k
    unfold Oper.wp
    simp only [List.length_nil] at hx
    simp [execOp, ho, resolve, invoke, builtin, hs, hx, hrun, Result.andThen]
    exact h v w (by simpa using k) (World.grownBy.refl _ _)
  | some ad =>
    refine wp_append_own _ s x _ ho base 114 i0 (ceV Ce.zero) 7 40 Tryz.underlying129 hi hz0 hz1 hz2 rfl (by decide) v L.length _ hs k ad xs.length c (xs.flatMap ceL) hx (flat_len xs) (hcells ad rfl) (flat_one xs) (by unfold maxLen; omega) (by omega) hb (fun v' w' ho' hg' _ => ?_)
    refine h v' w' ?_ hg'
    unfold OwnC
    rw [List.length_append, List.flatMap_append]
    exact ho'
theorem l1MaxG_any (a b : Int) (w : World) :
    Calls Tryz.prog 108 #[.int .i64 a, .int .i64 b] w fun e w' => e = .returned (.int .i64 (max a b)) ∧ w' = w := by
  by_cases h : b < a
  · have hm : Hid (max a b = a) := by show _ = _; omega
    go_enter Tryz.func108, Tryz.ntmps108
    go_wp2
    go_ret
    exact ⟨by rw [hm.out]; rfl, rfl⟩
  · have hm : Hid (max a b = b) := by show _ = _; omega
    go_enter Tryz.func108, Tryz.ntmps108
    go_wp2
    go_ret
    exact ⟨by rw [hm.out]; rfl, rfl⟩
def rowPart (rows : List (List Ce)) (q i : Nat) : List Ce := if i < rows.length then mendV ((rowX rows i).take q) else []
def resI (rows : List (List Ce)) (cols q i : Nat) : List Ce := rowPart rows q i ++ rowL (cols - (rowPart rows q i).length) St.zero
def resUp (rows : List (List Ce)) (cols q fr j : Nat) : List (List Ce) := genR j fun k => resI rows cols q (fr + k)
theorem resUp_snoc (rows : List (List Ce)) (cols q fr j : Nat) : resUp rows cols q fr (j + 1) = resUp rows cols q fr j ++ [resI rows cols q (fr + j)] := by
  unfold resUp genR
  rw [List.range_succ, List.map_append]; rfl
theorem resUp_len (rows : List (List Ce)) (cols q fr j : Nat) : (resUp rows cols q fr j).length = j := genR_len _ _
theorem rowPart_len (rows : List (List Ce)) (q i : Nat) : (rowPart rows q i).length ≤ q := by
  unfold rowPart
  split
  · rw [mendV_len, List.length_take]; omega
  · exact Nat.zero_le _
set_option maxHeartbeats 8000000 in
set_option maxRecDepth 20000 in
theorem l5Resized_any (gc cn n : Nat) (v : Value) (rows : List (List Ce)) (w : World) (hv : SlG w v rows) (hl : rows.length ≤ 1000) (h1 : 1 ≤ rows.length) (hx : ∀ i, i < rows.length → (rowX rows i).length = gc) (hg1 : 1 ≤ gc) (hg2 : gc ≤ 1000) (hc1 : 1 ≤ cn) (hc : cn ≤ 1000) (hn1 : 1 ≤ n) (hn : n ≤ 1000) :
    Calls Tryz.prog 109 #[gridV (gc : Int) v, .int .i64 (cn : Int), .int .i64 (n : Int)] w fun e w' => ∃ u, e = .returned (gridV (cn : Int) u) ∧ OwnG w' w.heap.size w'.heap.size u (resUp rows cn (min cn gc) (rows.length - n) n) ∧ Below w.heap.size w w' := by
  obtain ⟨a, c, vs, rfl, hcp, _, hr, hs⟩ := id hv
  rcases hr with h | ⟨b, off, rfl, hbb, hrc⟩
  · rw [h] at h1; simp at h1
  have hb0 := bal' w (Obj.cells #[.int .i64 (gc : Int), .slice (some ⟨b, off, none⟩) rows.length c] 40)
  have hG0 := GrN.new w (gc : Int) (.slice (some ⟨b, off, none⟩) rows.length c) 40
  have e0 : (w.alloc (Obj.cells #[.int .i64 (gc : Int), .slice (some ⟨b, off, none⟩) rows.length c] 40)).heap.size = w.heap.size + 1 := by simp
  have k0 : NG (w.heap.size + 1) (((w.alloc (Obj.cells #[.int .i64 (gc : Int), .slice (some ⟨b, off, none⟩) rows.length c] 40)).alloc (Obj.cells #[Value.int IntKind.i64 0, Value.slice none 0 0] 40)).alloc (Obj.cells #[Value.int IntKind.i64 (cn : Int), Value.slice none 0 0] 40)).heap.size (cn : Int) (.slice none 0 0) [] (w.alloc (Obj.cells #[.int .i64 (gc : Int), .slice (some ⟨b, off, none⟩) rows.length c] 40)) (((w.alloc (Obj.cells #[.int .i64 (gc : Int), .slice (some ⟨b, off, none⟩) rows.length c] 40)).alloc (Obj.cells #[Value.int IntKind.i64 0, Value.slice none 0 0] 40)).alloc (Obj.cells #[Value.int IntKind.i64 (cn : Int), Value.slice none 0 0] 40)) := by
    generalize w.alloc (Obj.cells #[.int .i64 (gc : Int), .slice (some ⟨b, off, none⟩) rows.length c] 40) = w1 at *
    have h1 := GrW.new w1 0 (.slice none 0 0) 40
    have h2 := GrW.new (w1.alloc (Obj.cells #[Value.int IntKind.i64 0, Value.slice none 0 0] 40)) (cn : Int) (.slice none 0 0) 40
    have hb1 := bal' w1 (Obj.cells #[Value.int IntKind.i64 0, Value.slice none 0 0] 40)
    have e : (w1.alloc (Obj.cells #[Value.int IntKind.i64 0, Value.slice none 0 0] 40)).heap.size = w1.heap.size + 1 := by simp
    rw [e] at h2
    rw [← e0]
    exact ⟨h1.below (bal' _ _), h2, ownG_none _ _ _, by simp, Nat.le_refl _, hb1.trans ((bal' _ _).mono (by simp))⟩
  have hmx := fun W => l1MaxG_any 0 ((rows.length : Int) - (n : Int)) W
  obtain ⟨fr, hfr⟩ : ∃ fr : Nat, fr = rows.length - n := ⟨_, rfl⟩
  obtain ⟨q0, hq0⟩ : ∃ q : Nat, q = min cn gc := ⟨_, rfl⟩
  rw [← hfr, ← hq0]
  have hmi := fun W => l1Min_any cn gc W
  have hrow := fun k (hk : k ≤ 1000) W => l4Row_any k St.zero W hk
  have hmend := fun v xs W h1 h2 => l4Mended_any v xs W h1 h2
  unfold gridV stV at *
  simp only [St.zero] at hrow
  have hsz0 : (w.alloc (Obj.cells #[.int .i64 (gc : Int), .slice (some ⟨b, off, none⟩) rows.length c] 40)).cell? ⟨w.heap.size, 1, none⟩ = some (.slice (some ⟨b, off, none⟩) rows.length c) := hG0.2.2
  go_enter Tryz.func109, Tryz.ntmps109
  have hfri : max 0 ((rows.length : Int) - (n : Int)) = (fr : Int) := by omega
  simp only [hfri] at hmx
  have HFR : Hid (fr = rows.length - n) := hfr
  have HQ0 : Hid (q0 = min cn gc) := hq0
  have hq1c : q0 ≤ cn := by omega
  have hq1g : q0 ≤ gc := by omega
  have hfrb : fr ≤ 1000 := by omega
  clear hfr hq0 hfri
  go_wp2_with fail
  refine (hmx _).mono ?_
  rintro e w1 ⟨rfl, hw⟩
  subst hw
  clear hmx
  go_wp2
  go_loopw [9, 10] (fun i _ wr => ∃ q : Nat, i = .int .i64 q ∧ fr ≤ q ∧ q ≤ fr + n ∧ ∃ u, NG (w.heap.size + 1) wr.heap.size (cn : Int) u (resUp rows cn q0 fr (q - fr)) (w.alloc (Obj.cells #[.int .i64 (gc : Int), .slice (some ⟨b, off, none⟩) rows.length c] 40)) wr) (fun i _ _ => fr + n - (intOf i).toNat)
  case atStart => exact ⟨fr, rfl, Nat.le_refl _, by omega, by rw [Nat.sub_self]; exact ⟨_, k0⟩⟩
  case round =>
    clear k0
    obtain ⟨q, rfl, hq1, hq2, u, k⟩ := hrel
    obtain ⟨ua, un, uc, rfl⟩ := slSh (SlG.of_own k.2.2.1)
    have hsb : wr.cell? ⟨w.heap.size, 1, none⟩ = some (.slice (some ⟨b, off, none⟩) rows.length c) := (k.2.2.2.2.2.cell (p := ⟨w.heap.size, 1, none⟩) (Nat.lt_succ_self _)).trans hG0.2.2
    have hsc : wr.cell? ⟨w.heap.size, 0, none⟩ = some (.int .i64 (gc : Int)) := (k.2.2.2.2.2.cell (p := ⟨w.heap.size, 0, none⟩) (Nat.lt_succ_self _)).trans hG0.2.1
    have hsb1 := (bal' wr (Obj.cells #[] 114)).cell (p := ⟨w.heap.size, 1, none⟩) (show w.heap.size < wr.heap.size by have := k.2.2.2.1; omega) |>.trans hsb
    have hsc1 := (bal' wr (Obj.cells #[] 114)).cell (p := ⟨w.heap.size, 0, none⟩) (show w.heap.size < wr.heap.size by have := k.2.2.2.1; omega) |>.trans hsc
    have hfni : (fr : Int) + (n : Int) = ((fr + n : Nat) : Int) := by omega
    by_cases hlt : q < fr + n
    · have hji : (q : Int) < (fr : Int) + (n : Int) := by omega
      have hsn : Hid (resUp rows cn q0 fr (q + 1 - fr) = resUp rows cn q0 fr (q - fr) ++ [resI rows cn q0 q]) := by
        show _ = _
        rw [show q + 1 - fr = (q - fr) + 1 by omega, resUp_snoc, show fr + (q - fr) = q by omega]
      have hlr : (resUp rows cn q0 fr (q - fr)).length < 2000000 := by rw [resUp_len]; omega
      have hu : ∀ g, (Value.slice ua un uc).ownBlock = some g → g < wr.heap.size := fun g e => (k.2.2.1.lt g e).2
      have hMB : w.heap.size + 1 + 2 ≤ wr.heap.size := k.2.2.2.1
      have hRI : Hid (resI rows cn q0 q = rowPart rows q0 q ++ rowL (cn - (rowPart rows q0 q).length) St.zero) := rfl
      have hPL := rowPart_len rows q0 q
      have hlrw := fun W => hrow (cn - (rowPart rows q0 q).length) (by omega) W
      have hLX0 : (rowPart rows q0 q).length + (rowL (cn - (rowPart rows q0 q).length) St.zero).length < 2000000 := by rw [bigRow]; omega
      have hsbi : (cn : Int) - ((rowPart rows q0 q).length : Int) = ((cn - (rowPart rows q0 q).length : Nat) : Int) := by omega
      clear hfni
      by_cases hin : q < rows.length
      · have hini : (q : Int) < (rows.length : Int) := by omega
        have hP : rowPart rows q0 q = mendV ((rowX rows q).take q0) := by unfold rowPart; rw [if_pos hin]
        have hL : (mendV ((rowX rows q).take q0)).length = q0 := by rw [mendV_len, List.length_take, hx q hin]; omega
        obtain ⟨aj, cj, ev, hjc, _⟩ := id (hs q hin)
        rw [hx q hin] at ev hjc
        have hq00 : 1 ≤ q0 := by have := HQ0.out; omega
        obtain ⟨kk, hkk⟩ : ∃ kk, kk = cn - q0 := ⟨_, rfl⟩
        rw [hP] at hRI hLX0
        simp only [hP] at hlrw
        rw [hL] at hRI hLX0
        simp only [hL] at hlrw
        simp only [← hkk] at hlrw hRI hLX0
        obtain ⟨XX, hXX⟩ : ∃ X, X = rowL kk St.zero := ⟨_, rfl⟩
        have hrw : ∀ W, Calls Tryz.prog 173 #[.int .i64 (kk : Int), .agg #[.int .i64 0, .int .i64 0, .bool false, .bool false, .bool false]] W fun e w' => ∃ v, e = .returned v ∧ OwnC w' W.heap.size v XX ∧ Below W.heap.size W w' := fun W => by rw [hXX]; exact hlrw W
        have hLX : (mendV ((rowX rows q).take q0)).length + XX.length < 2000000 := by rw [hL, hXX]; exact hLX0
        rw [← hXX] at hRI
        have hwk : IntKind.i64.wrap ((cn : Int) - (q0 : Int)) = (kk : Int) := by rw [show (cn : Int) - (q0 : Int) = (kk : Int) by omega]; simp [IntKind.wrap_i64]; omega
        have hmin : min (cn : Int) (gc : Int) = (q0 : Int) := by have := HQ0.out; omega
        have hmi1 := hmi
        simp only [hmin] at hmi1
        have hk0 : NG (w.heap.size + 1) wr.heap.size (cn : Int) (.slice ua un uc) (resUp rows cn q0 fr (q - fr)) (w.alloc (Obj.cells #[.int .i64 (gc : Int), .slice (some ⟨b, off, none⟩) rows.length c] 40)) (wr.alloc (Obj.cells #[] 114)) := k.below (bal' _ _)
        have hBw0 : wr.heap.size ≤ (wr.alloc (Obj.cells #[] 114)).heap.size := (bal' wr _).size
        have hall : ∀ W, Below (wr.alloc (Obj.cells #[] 114)).heap.size (wr.alloc (Obj.cells #[] 114)) W → (W.cell? ⟨w.heap.size, 1, none⟩ = some (.slice (some ⟨b, off, none⟩) rows.length c) ∧ W.cell? ⟨b, off + q, none⟩ = some (.slice aj gc cj) ∧ W.cell? ⟨w.heap.size, 0, none⟩ = some (.int .i64 (gc : Int))) := fun W h => by
          have h2 := (hk0.below h).2.2.2.2.2
          exact ⟨(h2.cell (p := ⟨w.heap.size, 1, none⟩) (Nat.lt_succ_self _)).trans hG0.2.2, ((h2.cell (p := ⟨b, off + q, none⟩) (show b < _ by omega)).trans (hb0.cell (p := ⟨b, off + q, none⟩) hbb)).trans (by rw [hrc q hin, ev]), (h2.cell (p := ⟨w.heap.size, 0, none⟩) (Nat.lt_succ_self _)).trans hG0.2.1⟩
        have hme : ∀ W, Below (wr.alloc (Obj.cells #[] 114)).heap.size (wr.alloc (Obj.cells #[] 114)) W → Calls Tryz.prog 174 #[.slice aj q0 cj] W fun e w' => ∃ u, e = .returned u ∧ OwnC w' W.heap.size u (mendV ((rowX rows q).take q0)) ∧ Below W.heap.size W w' := fun W h => by
          have h2 := (hk0.below h).2.2.2.2.2
          have h3 := ((hs q hin).below hb0).below (by rw [e0]; exact h2)
          rw [ev] at h3
          exact hmend _ _ W (h3.take q0 (by omega)) (by rw [List.length_take]; omega)
        have hbd1 := bdr (wr.alloc (Obj.cells #[] 114))
        have hkd := hall _ hbd1
        have hq0i : (0 : Int) ≤ (q0 : Int) := by omega
        have hq0c : (q0 : Int) ≤ (cj : Int) := by omega
        have hq0n : (0 : Int) ≤ (q : Int) := by omega
        clear hs hrc hv hG0 hb0 e0 hlrw hLX0 hPL hP k hsbi hXX hkk ev hmi hmin
        generalize mendV ((rowX rows q).take q0) = LL at *
        generalize hBB : wr.heap.size = B at hk0 hu hMB hBw0
        go_wp2
        go_region_held3 (fun W => W.cell? ⟨w.heap.size, 1, none⟩ = some (.slice (some ⟨b, off, none⟩) rows.length c) ∧ W.cell? ⟨b, off + q, none⟩ = some (.slice aj gc cj) ∧ W.cell? ⟨w.heap.size, 0, none⟩ = some (.int .i64 (gc : Int))) (with_reducible assumption)
          (first
            | (go_at_call 110; refine (hmi1 _).mono ?_; rintro e wm ⟨rfl, hw⟩; subst hw)
            | (go_at_call 174; refine (hme _ hbd1).mono ?_; rintro e wq ⟨u3, rfl, hor0, hb3⟩; have hbq := hbd1.trans hb3; have hkq := hall _ hbq))
        have k1 := hk0.below hbq
        have hBw : B ≤ wq.heap.size := Nat.le_trans hBw0 hbq.size
        have hor := hor0.low (base' := B) hBw0
        rcases hor.shape with ⟨_, h⟩ | ⟨gr, rc, rfl, _⟩
        · rw [h] at hL; simp at hL; omega
        rw [hL] at hor ⊢
        clear hk0 hall hme hkd hkq hbq hb3 hor0 hmi1 hBB hBw0
        obtain ⟨⟨_, ⟨d0, d1⟩, ⟨y0, y1⟩⟩, ⟨_, ⟨c0, c1⟩, ⟨z0, z1⟩⟩, _⟩ := id k1
        go_wp2
        refine wp_region_noPanic ?_
        refine wp_region_held_drew (S := fun _ => True) (by kernel_rfl) trivial (fun hHeld => ?_)
        refine' wpAnyH_take (i := 0) (v := _) rfl (by kernel_rfl) (by kernel_rfl) (by kernel_rfl) (fun _ _ _ h => h) (Or.inl ⟨by rfl, ?hy12⟩) hHeld ?hr12
        case hy12 => (intro w hSw; (try dsimp only at hSw); go_simp; (try with_reducible rfl))
        simp only [Act.put, List.setIfInBounds_toArray, List.set_cons_zero, List.set_cons_succ, List.getElem_toArray, List.getElem_cons_zero]
        refine' wpAnyH_take (i := 2) (v := _) rfl (by kernel_rfl) (by kernel_rfl) (by kernel_rfl) (fun _ _ _ h => h) (Or.inl ⟨by rfl, ?hy13⟩) hHeld ?hr13
        case hy13 => (intro w hSw; (try dsimp only at hSw); go_simp; (try with_reducible rfl))
        simp only [Act.put, List.setIfInBounds_toArray, List.set_cons_zero, List.set_cons_succ, List.getElem_toArray, List.getElem_cons_zero, List.getElem_cons_succ]
        refine' wpAnyH_take (i := 3) (v := _) rfl (by kernel_rfl) (by kernel_rfl) (by kernel_rfl) (fun _ _ _ h => h) (Or.inl ⟨by rfl, ?hy14⟩) hHeld ?hr14
        case hy14 => (intro w hSw; (try dsimp only at hSw); go_simp; (try with_reducible rfl))
        simp only [Act.put, List.setIfInBounds_toArray, List.set_cons_zero, List.set_cons_succ, List.getElem_toArray, List.getElem_cons_zero, List.getElem_cons_succ]
        refine' wpAnyH_take (i := 4) (v := _) rfl (by kernel_rfl) (by kernel_rfl) (by kernel_rfl) (fun _ _ _ h => h) (Or.inl ⟨by rfl, ?hy15⟩) hHeld ?hr15
        case hy15 => (intro w hSw; (try dsimp only at hSw); go_simp; (try with_reducible rfl))
        simp only [Act.put, List.setIfInBounds_toArray, List.set_cons_zero, List.set_cons_succ, List.getElem_toArray, List.getElem_cons_zero, List.getElem_cons_succ]
        refine' wpAnyH_take (i := 5) (v := _) rfl (by kernel_rfl) (by kernel_rfl) (by kernel_rfl) (fun _ _ _ h => h) (Or.inl ⟨by rfl, ?hy16⟩) hHeld ?hr16
        case hy16 => (intro w hSw; (try dsimp only at hSw); go_simp; (try with_reducible rfl))
        simp only [Act.put, List.setIfInBounds_toArray, List.set_cons_zero, List.set_cons_succ, List.getElem_toArray, List.getElem_cons_zero, List.getElem_cons_succ]
        refine' wpAnyH_take (i := 6) (v := _) rfl (by kernel_rfl) (by kernel_rfl) (by kernel_rfl) (fun _ _ _ h => h) (Or.inl ⟨by rfl, ?hy17⟩) hHeld ?hr17
        case hy17 => (intro w hSw; (try dsimp only at hSw); go_simp; (try with_reducible rfl))
        simp only [Act.put, List.setIfInBounds_toArray, List.set_cons_zero, List.set_cons_succ, List.getElem_toArray, List.getElem_cons_zero, List.getElem_cons_succ]
        refine' wpAnyH_take (i := 7) (v := _) rfl (by kernel_rfl) (by kernel_rfl) (by kernel_rfl) (fun _ _ _ h => h) (Or.inl ⟨by rfl, ?hy18⟩) hHeld ?hr18
        case hy18 => (intro w hSw; (try dsimp only at hSw); go_simp; (try with_reducible rfl))
        simp only [Act.put, List.setIfInBounds_toArray, List.set_cons_zero, List.set_cons_succ, List.getElem_toArray, List.getElem_cons_zero, List.getElem_cons_succ]
        refine wpAnyH_ready (rs := [1, 8]) (by kernel_rfl) (by simp) (AllReadyH.cons rfl (fun K hK => ?_) (AllReadyH.cons rfl (fun K hK => ?_) AllReadyH.nil))
        · go_simp
          refine hK.out _ _ trivial (fun hHeld => ?_)
          clear hK K
          (try simp only [Act.put, List.setIfInBounds_toArray, List.set_cons_zero, List.set_cons_succ, List.getElem_toArray, List.getElem_cons_zero, List.getElem_cons_succ])
          refine wpAnyH_ready (rs := [8]) (by kernel_rfl) (by simp) (AllReadyH.cons rfl (fun K hK => ?_) AllReadyH.nil)
          go_simp
          refine (hrw _).mono ?_
          rintro e w2 ⟨x, rfl, hox, hb2⟩
          have k2 := k1.drew.below hb2
          have ho2 := (hor.below (bdr wq)).below hb2
          clear hor k1 hrw
          clear d0 d1 y0 y1 c0 c1 z0 z1
          obtain ⟨⟨_, ⟨d0, d1⟩, ⟨y0, y1⟩⟩, ⟨_, ⟨c0, c1⟩, ⟨z0, z1⟩⟩, _⟩ := id k2
          obtain ⟨xa, xn, xc, rfl⟩ := hox.isSl
          go_wp2_with fail
          refine hK.out _ _ trivial (fun hHeld => ?_)
          clear hK K
          (try simp only [Act.put, List.setIfInBounds_toArray, List.set_cons_zero, List.set_cons_succ, List.getElem_toArray, List.getElem_cons_zero, List.getElem_cons_succ])
          refine wpAnyH_ready (rs := [9]) (by kernel_rfl) (by simp) (AllReadyH.cons rfl (fun K hK => ?_) AllReadyH.nil)
          refine step_append_oc2 (by rfl) _ _ (by rfl) B (.slice (some ⟨gr, 0, none⟩) q0 rc) LL (by rfl) ho2 (Nat.le_trans hBw hb2.size) _ XX (SlC.of_own hox) (by rfl) hLX ?_
          intro r3 w3 ho3 hg3
          have k3 := k2.kept2 hg3 (fun g e => by have := (ho2.lt g e).1; omega) hu
          have hB3 := Nat.le_trans (Nat.le_trans hBw hb2.size) hg3.size
          clear k2 ho2 hox hb2 hg3
          clear d0 d1 y0 y1 c0 c1 z0 z1
          obtain ⟨⟨_, ⟨d0, d1⟩, ⟨y0, y1⟩⟩, ⟨_, ⟨c0, c1⟩, ⟨z0, z1⟩⟩, _⟩ := id k3
          obtain ⟨sa, sn, sc, rfl⟩ := ho3.isSl
          refine hK.out _ _ trivial (fun hHeld => ?_)
          clear hK K
          (try simp only [Act.put, List.setIfInBounds_toArray, List.set_cons_zero, List.set_cons_succ, List.getElem_toArray, List.getElem_cons_zero, List.getElem_cons_succ])
          refine wpAnyH_ready (rs := [10]) (by kernel_rfl) (by simp) (AllReadyH.cons rfl (fun K hK => ?_) AllReadyH.nil)
          go_simp
          refine hK.out _ _ trivial (fun hHeld => ?_)
          clear hK K
          (try simp only [Act.put, List.setIfInBounds_toArray, List.set_cons_zero, List.set_cons_succ, List.getElem_toArray, List.getElem_cons_zero, List.getElem_cons_succ])
          refine wpAnyH_ready (rs := [11]) (by kernel_rfl) (by simp) (AllReadyH.cons rfl (fun K hK => ?_) AllReadyH.nil)
          refine step_append_og (by rfl) _ _ (by rfl) (w.heap.size + 1 + 2) B _ _ _ _ (by rfl) k3.2.2.1 (ho3.low hMB) (fun g e => (ho3.lt g e).1) k3.2.2.2.1 hlr _ rfl (by rfl) ?_
          intro v' w' ho' hg'
          have k4 := (k3.below (bal' _ _)).more ho' hg'
          clear k3 ho' hg' ho3 hB3
          clear d0 d1 y0 y1 c0 c1 z0 z1
          obtain ⟨⟨_, ⟨d0, d1⟩, ⟨y0, y1⟩⟩, ⟨_, ⟨c0, c1⟩, ⟨z0, z1⟩⟩, _⟩ := id k4
          obtain ⟨va, vn, vc, rfl⟩ := slSh (SlG.of_own k4.2.2.1)
          refine hK.out _ _ trivial (fun hHeld => ?_)
          clear hK K
          (try simp only [Act.put, List.setIfInBounds_toArray, List.set_cons_zero, List.set_cons_succ, List.getElem_toArray, List.getElem_cons_zero, List.getElem_cons_succ])
          refine' wpAnyH_take (i := 12) (v := _) rfl (by kernel_rfl) (by kernel_rfl) (by kernel_rfl) (fun _ _ _ h => h) (Or.inl ⟨by rfl, ?hy19⟩) hHeld ?hr19
          case hy19 => (intro w hSw; (try dsimp only at hSw); go_simp; (try with_reducible rfl))
          simp only [Act.put, List.setIfInBounds_toArray, List.set_cons_zero, List.set_cons_succ, List.getElem_toArray, List.getElem_cons_zero, List.getElem_cons_succ]
          refine wpAnyH_ready (rs := [13]) (by kernel_rfl) (by simp) (AllReadyH.cons rfl (fun K hK => ?_) AllReadyH.nil)
          go_simp
          refine hK.out _ _ trivial (fun hHeld => ?_)
          clear hK K
          (try simp only [Act.put, List.setIfInBounds_toArray, List.set_cons_zero, List.set_cons_succ, List.getElem_toArray, List.getElem_cons_zero, List.getElem_cons_succ])
          refine wpAnyH_done (by kernel_rfl) ?_ _
          refine NoPanic.normal ?_
          have k5 := ng_put k4
          simp only [putG] at k5
          clear k4 hHeld d0 d1 y0 y1 c0 c1 z0 z1
          go_wp2
          go_roundw
          case rel => exact ⟨q + 1, by go_num, by omega, by omega, _, by rw [hsn.out, hRI.out]; exact k5⟩
          case measure => simp [intOf]; omega
        · go_simp
          refine (hrw _).mono ?_
          rintro e w2 ⟨x, rfl, hox, hb2⟩
          have k2 := k1.drew.below hb2
          have ho2 := (hor.below (bdr wq)).below hb2
          clear hor k1 hrw
          clear d0 d1 y0 y1 c0 c1 z0 z1
          obtain ⟨⟨_, ⟨d0, d1⟩, ⟨y0, y1⟩⟩, ⟨_, ⟨c0, c1⟩, ⟨z0, z1⟩⟩, _⟩ := id k2
          obtain ⟨xa, xn, xc, rfl⟩ := hox.isSl
          go_wp2_with fail
          refine hK.out _ _ trivial (fun hHeld => ?_)
          clear hK K
          (try simp only [Act.put, List.setIfInBounds_toArray, List.set_cons_zero, List.set_cons_succ, List.getElem_toArray, List.getElem_cons_zero, List.getElem_cons_succ])
          refine wpAnyH_ready (rs := [1, 9]) (by kernel_rfl) (by simp) (AllReadyH.cons rfl (fun K hK => ?_) (AllReadyH.cons rfl (fun K hK => ?_) AllReadyH.nil))
          · go_simp
            refine hK.out _ _ trivial (fun hHeld => ?_)
            clear hK K
            (try simp only [Act.put, List.setIfInBounds_toArray, List.set_cons_zero, List.set_cons_succ, List.getElem_toArray, List.getElem_cons_zero, List.getElem_cons_succ])
            refine wpAnyH_ready (rs := [9]) (by kernel_rfl) (by simp) (AllReadyH.cons rfl (fun K hK => ?_) AllReadyH.nil)
            refine step_append_oc2 (by rfl) _ _ (by rfl) B (.slice (some ⟨gr, 0, none⟩) q0 rc) LL (by rfl) ho2 (Nat.le_trans hBw hb2.size) _ XX (SlC.of_own hox) (by rfl) hLX ?_
            intro r3 w3 ho3 hg3
            have k3 := k2.kept2 hg3 (fun g e => by have := (ho2.lt g e).1; omega) hu
            have hB3 := Nat.le_trans (Nat.le_trans hBw hb2.size) hg3.size
            clear k2 ho2 hox hb2 hg3
            clear d0 d1 y0 y1 c0 c1 z0 z1
            obtain ⟨⟨_, ⟨d0, d1⟩, ⟨y0, y1⟩⟩, ⟨_, ⟨c0, c1⟩, ⟨z0, z1⟩⟩, _⟩ := id k3
            obtain ⟨sa, sn, sc, rfl⟩ := ho3.isSl
            refine hK.out _ _ trivial (fun hHeld => ?_)
            clear hK K
            (try simp only [Act.put, List.setIfInBounds_toArray, List.set_cons_zero, List.set_cons_succ, List.getElem_toArray, List.getElem_cons_zero, List.getElem_cons_succ])
            refine wpAnyH_ready (rs := [10]) (by kernel_rfl) (by simp) (AllReadyH.cons rfl (fun K hK => ?_) AllReadyH.nil)
            go_simp
            refine hK.out _ _ trivial (fun hHeld => ?_)
            clear hK K
            (try simp only [Act.put, List.setIfInBounds_toArray, List.set_cons_zero, List.set_cons_succ, List.getElem_toArray, List.getElem_cons_zero, List.getElem_cons_succ])
            refine wpAnyH_ready (rs := [11]) (by kernel_rfl) (by simp) (AllReadyH.cons rfl (fun K hK => ?_) AllReadyH.nil)
            refine step_append_og (by rfl) _ _ (by rfl) (w.heap.size + 1 + 2) B _ _ _ _ (by rfl) k3.2.2.1 (ho3.low hMB) (fun g e => (ho3.lt g e).1) k3.2.2.2.1 hlr _ rfl (by rfl) ?_
            intro v' w' ho' hg'
            have k4 := (k3.below (bal' _ _)).more ho' hg'
            clear k3 ho' hg' ho3 hB3
            clear d0 d1 y0 y1 c0 c1 z0 z1
            obtain ⟨⟨_, ⟨d0, d1⟩, ⟨y0, y1⟩⟩, ⟨_, ⟨c0, c1⟩, ⟨z0, z1⟩⟩, _⟩ := id k4
            obtain ⟨va, vn, vc, rfl⟩ := slSh (SlG.of_own k4.2.2.1)
            refine hK.out _ _ trivial (fun hHeld => ?_)
            clear hK K
            (try simp only [Act.put, List.setIfInBounds_toArray, List.set_cons_zero, List.set_cons_succ, List.getElem_toArray, List.getElem_cons_zero, List.getElem_cons_succ])
            refine' wpAnyH_take (i := 12) (v := _) rfl (by kernel_rfl) (by kernel_rfl) (by kernel_rfl) (fun _ _ _ h => h) (Or.inl ⟨by rfl, ?hy20⟩) hHeld ?hr20
            case hy20 => (intro w hSw; (try dsimp only at hSw); go_simp; (try with_reducible rfl))
            simp only [Act.put, List.setIfInBounds_toArray, List.set_cons_zero, List.set_cons_succ, List.getElem_toArray, List.getElem_cons_zero, List.getElem_cons_succ]
            refine wpAnyH_ready (rs := [13]) (by kernel_rfl) (by simp) (AllReadyH.cons rfl (fun K hK => ?_) AllReadyH.nil)
            go_simp
            refine hK.out _ _ trivial (fun hHeld => ?_)
            clear hK K
            (try simp only [Act.put, List.setIfInBounds_toArray, List.set_cons_zero, List.set_cons_succ, List.getElem_toArray, List.getElem_cons_zero, List.getElem_cons_succ])
            refine wpAnyH_done (by kernel_rfl) ?_ _
            refine NoPanic.normal ?_
            have k5 := ng_put k4
            simp only [putG] at k5
            clear k4 hHeld d0 d1 y0 y1 c0 c1 z0 z1
            go_wp2
            go_roundw
            case rel => exact ⟨q + 1, by go_num, by omega, by omega, _, by rw [hsn.out, hRI.out]; exact k5⟩
            case measure => simp [intOf]; omega
          · refine step_append_oc2 (by rfl) _ _ (by rfl) B (.slice (some ⟨gr, 0, none⟩) q0 rc) LL (by rfl) ho2 (Nat.le_trans hBw hb2.size) _ XX (SlC.of_own hox) (by rfl) hLX ?_
            intro r3 w3 ho3 hg3
            have k3 := k2.kept2 hg3 (fun g e => by have := (ho2.lt g e).1; omega) hu
            have hB3 := Nat.le_trans (Nat.le_trans hBw hb2.size) hg3.size
            clear k2 ho2 hox hb2 hg3
            clear d0 d1 y0 y1 c0 c1 z0 z1
            obtain ⟨⟨_, ⟨d0, d1⟩, ⟨y0, y1⟩⟩, ⟨_, ⟨c0, c1⟩, ⟨z0, z1⟩⟩, _⟩ := id k3
            obtain ⟨sa, sn, sc, rfl⟩ := ho3.isSl
            refine hK.out _ _ trivial (fun hHeld => ?_)
            clear hK K
            (try simp only [Act.put, List.setIfInBounds_toArray, List.set_cons_zero, List.set_cons_succ, List.getElem_toArray, List.getElem_cons_zero, List.getElem_cons_succ])
            refine wpAnyH_ready (rs := [1, 10]) (by kernel_rfl) (by simp) (AllReadyH.cons rfl (fun K hK => ?_) (AllReadyH.cons rfl (fun K hK => ?_) AllReadyH.nil))
            · go_simp
              refine hK.out _ _ trivial (fun hHeld => ?_)
              clear hK K
              (try simp only [Act.put, List.setIfInBounds_toArray, List.set_cons_zero, List.set_cons_succ, List.getElem_toArray, List.getElem_cons_zero, List.getElem_cons_succ])
              refine wpAnyH_ready (rs := [10]) (by kernel_rfl) (by simp) (AllReadyH.cons rfl (fun K hK => ?_) AllReadyH.nil)
              go_simp
              refine hK.out _ _ trivial (fun hHeld => ?_)
              clear hK K
              (try simp only [Act.put, List.setIfInBounds_toArray, List.set_cons_zero, List.set_cons_succ, List.getElem_toArray, List.getElem_cons_zero, List.getElem_cons_succ])
              refine wpAnyH_ready (rs := [11]) (by kernel_rfl) (by simp) (AllReadyH.cons rfl (fun K hK => ?_) AllReadyH.nil)
              refine step_append_og (by rfl) _ _ (by rfl) (w.heap.size + 1 + 2) B _ _ _ _ (by rfl) k3.2.2.1 (ho3.low hMB) (fun g e => (ho3.lt g e).1) k3.2.2.2.1 hlr _ rfl (by rfl) ?_
              intro v' w' ho' hg'
              have k4 := (k3.below (bal' _ _)).more ho' hg'
              clear k3 ho' hg' ho3 hB3
              clear d0 d1 y0 y1 c0 c1 z0 z1
              obtain ⟨⟨_, ⟨d0, d1⟩, ⟨y0, y1⟩⟩, ⟨_, ⟨c0, c1⟩, ⟨z0, z1⟩⟩, _⟩ := id k4
              obtain ⟨va, vn, vc, rfl⟩ := slSh (SlG.of_own k4.2.2.1)
              refine hK.out _ _ trivial (fun hHeld => ?_)
              clear hK K
              (try simp only [Act.put, List.setIfInBounds_toArray, List.set_cons_zero, List.set_cons_succ, List.getElem_toArray, List.getElem_cons_zero, List.getElem_cons_succ])
              refine' wpAnyH_take (i := 12) (v := _) rfl (by kernel_rfl) (by kernel_rfl) (by kernel_rfl) (fun _ _ _ h => h) (Or.inl ⟨by rfl, ?hy21⟩) hHeld ?hr21
              case hy21 => (intro w hSw; (try dsimp only at hSw); go_simp; (try with_reducible rfl))
              simp only [Act.put, List.setIfInBounds_toArray, List.set_cons_zero, List.set_cons_succ, List.getElem_toArray, List.getElem_cons_zero, List.getElem_cons_succ]
              refine wpAnyH_ready (rs := [13]) (by kernel_rfl) (by simp) (AllReadyH.cons rfl (fun K hK => ?_) AllReadyH.nil)
              go_simp
              refine hK.out _ _ trivial (fun hHeld => ?_)
              clear hK K
              (try simp only [Act.put, List.setIfInBounds_toArray, List.set_cons_zero, List.set_cons_succ, List.getElem_toArray, List.getElem_cons_zero, List.getElem_cons_succ])
              refine wpAnyH_done (by kernel_rfl) ?_ _
              refine NoPanic.normal ?_
              have k5 := ng_put k4
              simp only [putG] at k5
              clear k4 hHeld d0 d1 y0 y1 c0 c1 z0 z1
              go_wp2
              go_roundw
              case rel => exact ⟨q + 1, by go_num, by omega, by omega, _, by rw [hsn.out, hRI.out]; exact k5⟩
              case measure => simp [intOf]; omega
            · go_simp
              refine hK.out _ _ trivial (fun hHeld => ?_)
              clear hK K
              (try simp only [Act.put, List.setIfInBounds_toArray, List.set_cons_zero, List.set_cons_succ, List.getElem_toArray, List.getElem_cons_zero, List.getElem_cons_succ])
              refine wpAnyH_ready (rs := [1]) (by kernel_rfl) (by simp) (AllReadyH.cons rfl (fun K hK => ?_) AllReadyH.nil)
              go_simp
              refine hK.out _ _ trivial (fun hHeld => ?_)
              clear hK K
              (try simp only [Act.put, List.setIfInBounds_toArray, List.set_cons_zero, List.set_cons_succ, List.getElem_toArray, List.getElem_cons_zero, List.getElem_cons_succ])
              refine wpAnyH_ready (rs := [11]) (by kernel_rfl) (by simp) (AllReadyH.cons rfl (fun K hK => ?_) AllReadyH.nil)
              refine step_append_og (by rfl) _ _ (by rfl) (w.heap.size + 1 + 2) B _ _ _ _ (by rfl) k3.2.2.1 (ho3.low hMB) (fun g e => (ho3.lt g e).1) k3.2.2.2.1 hlr _ rfl (by rfl) ?_
              intro v' w' ho' hg'
              have k4 := (k3.below (bal' _ _)).more ho' hg'
              clear k3 ho' hg' ho3 hB3
              clear d0 d1 y0 y1 c0 c1 z0 z1
              obtain ⟨⟨_, ⟨d0, d1⟩, ⟨y0, y1⟩⟩, ⟨_, ⟨c0, c1⟩, ⟨z0, z1⟩⟩, _⟩ := id k4
              obtain ⟨va, vn, vc, rfl⟩ := slSh (SlG.of_own k4.2.2.1)
              refine hK.out _ _ trivial (fun hHeld => ?_)
              clear hK K
              (try simp only [Act.put, List.setIfInBounds_toArray, List.set_cons_zero, List.set_cons_succ, List.getElem_toArray, List.getElem_cons_zero, List.getElem_cons_succ])
              refine' wpAnyH_take (i := 12) (v := _) rfl (by kernel_rfl) (by kernel_rfl) (by kernel_rfl) (fun _ _ _ h => h) (Or.inl ⟨by rfl, ?hy22⟩) hHeld ?hr22
              case hy22 => (intro w hSw; (try dsimp only at hSw); go_simp; (try with_reducible rfl))
              simp only [Act.put, List.setIfInBounds_toArray, List.set_cons_zero, List.set_cons_succ, List.getElem_toArray, List.getElem_cons_zero, List.getElem_cons_succ]
              refine wpAnyH_ready (rs := [13]) (by kernel_rfl) (by simp) (AllReadyH.cons rfl (fun K hK => ?_) AllReadyH.nil)
              go_simp
              refine hK.out _ _ trivial (fun hHeld => ?_)
              clear hK K
              (try simp only [Act.put, List.setIfInBounds_toArray, List.set_cons_zero, List.set_cons_succ, List.getElem_toArray, List.getElem_cons_zero, List.getElem_cons_succ])
              refine wpAnyH_done (by kernel_rfl) ?_ _
              refine NoPanic.normal ?_
              have k5 := ng_put k4
              simp only [putG] at k5
              clear k4 hHeld d0 d1 y0 y1 c0 c1 z0 z1
              go_wp2
              go_roundw
              case rel => exact ⟨q + 1, by go_num, by omega, by omega, _, by rw [hsn.out, hRI.out]; exact k5⟩
              case measure => simp [intOf]; omega
      · have hini : ¬ (q : Int) < (rows.length : Int) := by omega
        have hP : rowPart rows q0 q = [] := by unfold rowPart; rw [if_neg hin]
        have hor := ownC_nil wr wr.heap.size (Nat.le_refl _)
        have k1 := k.below (bal' wr (Obj.cells #[] 114))
        rw [hP] at hRI hlrw hLX0
        simp only [List.length_nil, Nat.sub_zero] at hRI hlrw hLX0
        obtain ⟨XX, hXX⟩ : ∃ X, X = rowL cn St.zero := ⟨_, rfl⟩
        have hrw : ∀ W, Calls Tryz.prog 173 #[.int .i64 (cn : Int), .agg #[.int .i64 0, .int .i64 0, .bool false, .bool false, .bool false]] W fun e w' => ∃ v, e = .returned v ∧ OwnC w' W.heap.size v XX ∧ Below W.heap.size W w' := fun W => by rw [hXX]; exact hlrw W
        have hLX := hLX0
        rw [← hXX] at hLX hRI
        have hwc : IntKind.i64.wrap (cn : Int) = (cn : Int) := by simp [IntKind.wrap_i64]; omega
        clear hs hrc hv hG0 hb0 e0 hlrw hLX0 hPL hP k hsbi
        clear hXX
        rw [← List.length_nil (α := Ce)] at hLX
        obtain ⟨LL, hLL⟩ : ∃ L : List Ce, L = [] := ⟨_, rfl⟩
        rw [← hLL] at hor hRI hLX
        clear hLL
        obtain ⟨⟨_, ⟨d0, d1⟩, ⟨y0, y1⟩⟩, ⟨_, ⟨c0, c1⟩, ⟨z0, z1⟩⟩, _⟩ := id k1
        go_wp2
        have hBw : wr.heap.size ≤ (wr.alloc (Obj.cells #[] 114)).heap.size := (bal' wr _).size
        generalize wr.alloc (Obj.cells #[] 114) = wq at *
        generalize wr.heap.size = B at *
        refine wp_region_noPanic ?_
        refine wp_region_held_drew (S := fun _ => True) (by kernel_rfl) trivial (fun hHeld => ?_)
        refine' wpAnyH_take (i := 0) (v := _) rfl (by kernel_rfl) (by kernel_rfl) (by kernel_rfl) (fun _ _ _ h => h) (Or.inl ⟨by rfl, ?hy1⟩) hHeld ?hr1
        case hy1 => (intro w hSw; (try dsimp only at hSw); go_simp; (try with_reducible rfl))
        simp only [Act.put, List.setIfInBounds_toArray, List.set_cons_zero, List.set_cons_succ, List.getElem_toArray, List.getElem_cons_zero]
        refine' wpAnyH_take (i := 2) (v := _) rfl (by kernel_rfl) (by kernel_rfl) (by kernel_rfl) (fun _ _ _ h => h) (Or.inl ⟨by rfl, ?hy2⟩) hHeld ?hr2
        case hy2 => (intro w hSw; (try dsimp only at hSw); go_simp; (try with_reducible rfl))
        simp only [Act.put, List.setIfInBounds_toArray, List.set_cons_zero, List.set_cons_succ, List.getElem_toArray, List.getElem_cons_zero, List.getElem_cons_succ]
        refine' wpAnyH_take (i := 3) (v := _) rfl (by kernel_rfl) (by kernel_rfl) (by kernel_rfl) (fun _ _ _ h => h) (Or.inl ⟨by rfl, ?hy3⟩) hHeld ?hr3
        case hy3 => (intro w hSw; (try dsimp only at hSw); go_simp; (try with_reducible rfl))
        simp only [Act.put, List.setIfInBounds_toArray, List.set_cons_zero, List.set_cons_succ, List.getElem_toArray, List.getElem_cons_zero, List.getElem_cons_succ]
        refine' wpAnyH_take (i := 4) (v := _) rfl (by kernel_rfl) (by kernel_rfl) (by kernel_rfl) (fun _ _ _ h => h) (Or.inl ⟨by rfl, ?hy4⟩) hHeld ?hr4
        case hy4 => (intro w hSw; (try dsimp only at hSw); go_simp; (try with_reducible rfl))
        simp only [Act.put, List.setIfInBounds_toArray, List.set_cons_zero, List.set_cons_succ, List.getElem_toArray, List.getElem_cons_zero, List.getElem_cons_succ]
        refine' wpAnyH_take (i := 5) (v := _) rfl (by kernel_rfl) (by kernel_rfl) (by kernel_rfl) (fun _ _ _ h => h) (Or.inl ⟨by rfl, ?hy5⟩) hHeld ?hr5
        case hy5 => (intro w hSw; (try dsimp only at hSw); go_simp; (try with_reducible rfl))
        simp only [Act.put, List.setIfInBounds_toArray, List.set_cons_zero, List.set_cons_succ, List.getElem_toArray, List.getElem_cons_zero, List.getElem_cons_succ]
        refine' wpAnyH_take (i := 6) (v := _) rfl (by kernel_rfl) (by kernel_rfl) (by kernel_rfl) (fun _ _ _ h => h) (Or.inl ⟨by rfl, ?hy6⟩) hHeld ?hr6
        case hy6 => (intro w hSw; (try dsimp only at hSw); go_simp; (try with_reducible rfl))
        simp only [Act.put, List.setIfInBounds_toArray, List.set_cons_zero, List.set_cons_succ, List.getElem_toArray, List.getElem_cons_zero, List.getElem_cons_succ]
        refine' wpAnyH_take (i := 7) (v := _) rfl (by kernel_rfl) (by kernel_rfl) (by kernel_rfl) (fun _ _ _ h => h) (Or.inl ⟨by rfl, ?hy7⟩) hHeld ?hr7
        case hy7 => (intro w hSw; (try dsimp only at hSw); go_simp; (try with_reducible rfl))
        simp only [Act.put, List.setIfInBounds_toArray, List.set_cons_zero, List.set_cons_succ, List.getElem_toArray, List.getElem_cons_zero, List.getElem_cons_succ]
        refine wpAnyH_ready (rs := [1, 8]) (by kernel_rfl) (by simp) (AllReadyH.cons rfl (fun K hK => ?_) (AllReadyH.cons rfl (fun K hK => ?_) AllReadyH.nil))
        · go_simp
          refine hK.out _ _ trivial (fun hHeld => ?_)
          clear hK K
          (try simp only [Act.put, List.setIfInBounds_toArray, List.set_cons_zero, List.set_cons_succ, List.getElem_toArray, List.getElem_cons_zero, List.getElem_cons_succ])
          refine wpAnyH_ready (rs := [8]) (by kernel_rfl) (by simp) (AllReadyH.cons rfl (fun K hK => ?_) AllReadyH.nil)
          go_simp
          refine (hrw _).mono ?_
          rintro e w2 ⟨x, rfl, hox, hb2⟩
          have k2 := k1.drew.below hb2
          have ho2 := (hor.below (bdr wq)).below hb2
          clear hor k1 hrw
          clear d0 d1 y0 y1 c0 c1 z0 z1
          obtain ⟨⟨_, ⟨d0, d1⟩, ⟨y0, y1⟩⟩, ⟨_, ⟨c0, c1⟩, ⟨z0, z1⟩⟩, _⟩ := id k2
          obtain ⟨xa, xn, xc, rfl⟩ := hox.isSl
          go_wp2_with fail
          refine hK.out _ _ trivial (fun hHeld => ?_)
          clear hK K
          (try simp only [Act.put, List.setIfInBounds_toArray, List.set_cons_zero, List.set_cons_succ, List.getElem_toArray, List.getElem_cons_zero, List.getElem_cons_succ])
          refine wpAnyH_ready (rs := [9]) (by kernel_rfl) (by simp) (AllReadyH.cons rfl (fun K hK => ?_) AllReadyH.nil)
          refine step_append_oc2 (by rfl) _ _ (by rfl) B (.slice (some ⟨B, 0, none⟩) 0 0) LL (by rfl) ho2 (Nat.le_trans hBw hb2.size) _ XX (SlC.of_own hox) (by rfl) hLX ?_
          intro r3 w3 ho3 hg3
          have k3 := k2.kept2 hg3 (fun g e => by have := (ho2.lt g e).1; omega) hu
          have hB3 := Nat.le_trans (Nat.le_trans hBw hb2.size) hg3.size
          clear k2 ho2 hox hb2 hg3
          clear d0 d1 y0 y1 c0 c1 z0 z1
          obtain ⟨⟨_, ⟨d0, d1⟩, ⟨y0, y1⟩⟩, ⟨_, ⟨c0, c1⟩, ⟨z0, z1⟩⟩, _⟩ := id k3
          obtain ⟨sa, sn, sc, rfl⟩ := ho3.isSl
          refine hK.out _ _ trivial (fun hHeld => ?_)
          clear hK K
          (try simp only [Act.put, List.setIfInBounds_toArray, List.set_cons_zero, List.set_cons_succ, List.getElem_toArray, List.getElem_cons_zero, List.getElem_cons_succ])
          refine wpAnyH_ready (rs := [10]) (by kernel_rfl) (by simp) (AllReadyH.cons rfl (fun K hK => ?_) AllReadyH.nil)
          go_simp
          refine hK.out _ _ trivial (fun hHeld => ?_)
          clear hK K
          (try simp only [Act.put, List.setIfInBounds_toArray, List.set_cons_zero, List.set_cons_succ, List.getElem_toArray, List.getElem_cons_zero, List.getElem_cons_succ])
          refine wpAnyH_ready (rs := [11]) (by kernel_rfl) (by simp) (AllReadyH.cons rfl (fun K hK => ?_) AllReadyH.nil)
          refine step_append_og (by rfl) _ _ (by rfl) (w.heap.size + 1 + 2) B _ _ _ _ (by rfl) k3.2.2.1 (ho3.low hMB) (fun g e => (ho3.lt g e).1) k3.2.2.2.1 hlr _ rfl (by rfl) ?_
          intro v' w' ho' hg'
          have k4 := (k3.below (bal' _ _)).more ho' hg'
          clear k3 ho' hg' ho3 hB3
          clear d0 d1 y0 y1 c0 c1 z0 z1
          obtain ⟨⟨_, ⟨d0, d1⟩, ⟨y0, y1⟩⟩, ⟨_, ⟨c0, c1⟩, ⟨z0, z1⟩⟩, _⟩ := id k4
          obtain ⟨va, vn, vc, rfl⟩ := slSh (SlG.of_own k4.2.2.1)
          refine hK.out _ _ trivial (fun hHeld => ?_)
          clear hK K
          (try simp only [Act.put, List.setIfInBounds_toArray, List.set_cons_zero, List.set_cons_succ, List.getElem_toArray, List.getElem_cons_zero, List.getElem_cons_succ])
          refine' wpAnyH_take (i := 12) (v := _) rfl (by kernel_rfl) (by kernel_rfl) (by kernel_rfl) (fun _ _ _ h => h) (Or.inl ⟨by rfl, ?hy8⟩) hHeld ?hr8
          case hy8 => (intro w hSw; (try dsimp only at hSw); go_simp; (try with_reducible rfl))
          simp only [Act.put, List.setIfInBounds_toArray, List.set_cons_zero, List.set_cons_succ, List.getElem_toArray, List.getElem_cons_zero, List.getElem_cons_succ]
          refine wpAnyH_ready (rs := [13]) (by kernel_rfl) (by simp) (AllReadyH.cons rfl (fun K hK => ?_) AllReadyH.nil)
          go_simp
          refine hK.out _ _ trivial (fun hHeld => ?_)
          clear hK K
          (try simp only [Act.put, List.setIfInBounds_toArray, List.set_cons_zero, List.set_cons_succ, List.getElem_toArray, List.getElem_cons_zero, List.getElem_cons_succ])
          refine wpAnyH_done (by kernel_rfl) ?_ _
          refine NoPanic.normal ?_
          have k5 := ng_put k4
          simp only [putG] at k5
          clear k4 hHeld d0 d1 y0 y1 c0 c1 z0 z1
          go_wp2
          go_roundw
          case rel => exact ⟨q + 1, by go_num, by omega, by omega, _, by rw [hsn.out, hRI.out]; exact k5⟩
          case measure => simp [intOf]; omega
        · go_simp
          refine (hrw _).mono ?_
          rintro e w2 ⟨x, rfl, hox, hb2⟩
          have k2 := k1.drew.below hb2
          have ho2 := (hor.below (bdr wq)).below hb2
          clear hor k1 hrw
          clear d0 d1 y0 y1 c0 c1 z0 z1
          obtain ⟨⟨_, ⟨d0, d1⟩, ⟨y0, y1⟩⟩, ⟨_, ⟨c0, c1⟩, ⟨z0, z1⟩⟩, _⟩ := id k2
          obtain ⟨xa, xn, xc, rfl⟩ := hox.isSl
          go_wp2_with fail
          refine hK.out _ _ trivial (fun hHeld => ?_)
          clear hK K
          (try simp only [Act.put, List.setIfInBounds_toArray, List.set_cons_zero, List.set_cons_succ, List.getElem_toArray, List.getElem_cons_zero, List.getElem_cons_succ])
          refine wpAnyH_ready (rs := [1, 9]) (by kernel_rfl) (by simp) (AllReadyH.cons rfl (fun K hK => ?_) (AllReadyH.cons rfl (fun K hK => ?_) AllReadyH.nil))
          · go_simp
            refine hK.out _ _ trivial (fun hHeld => ?_)
            clear hK K
            (try simp only [Act.put, List.setIfInBounds_toArray, List.set_cons_zero, List.set_cons_succ, List.getElem_toArray, List.getElem_cons_zero, List.getElem_cons_succ])
            refine wpAnyH_ready (rs := [9]) (by kernel_rfl) (by simp) (AllReadyH.cons rfl (fun K hK => ?_) AllReadyH.nil)
            refine step_append_oc2 (by rfl) _ _ (by rfl) B (.slice (some ⟨B, 0, none⟩) 0 0) LL (by rfl) ho2 (Nat.le_trans hBw hb2.size) _ XX (SlC.of_own hox) (by rfl) hLX ?_
            intro r3 w3 ho3 hg3
            have k3 := k2.kept2 hg3 (fun g e => by have := (ho2.lt g e).1; omega) hu
            have hB3 := Nat.le_trans (Nat.le_trans hBw hb2.size) hg3.size
            clear k2 ho2 hox hb2 hg3
            clear d0 d1 y0 y1 c0 c1 z0 z1
            obtain ⟨⟨_, ⟨d0, d1⟩, ⟨y0, y1⟩⟩, ⟨_, ⟨c0, c1⟩, ⟨z0, z1⟩⟩, _⟩ := id k3
            obtain ⟨sa, sn, sc, rfl⟩ := ho3.isSl
            refine hK.out _ _ trivial (fun hHeld => ?_)
            clear hK K
            (try simp only [Act.put, List.setIfInBounds_toArray, List.set_cons_zero, List.set_cons_succ, List.getElem_toArray, List.getElem_cons_zero, List.getElem_cons_succ])
            refine wpAnyH_ready (rs := [10]) (by kernel_rfl) (by simp) (AllReadyH.cons rfl (fun K hK => ?_) AllReadyH.nil)
            go_simp
            refine hK.out _ _ trivial (fun hHeld => ?_)
            clear hK K
            (try simp only [Act.put, List.setIfInBounds_toArray, List.set_cons_zero, List.set_cons_succ, List.getElem_toArray, List.getElem_cons_zero, List.getElem_cons_succ])
            refine wpAnyH_ready (rs := [11]) (by kernel_rfl) (by simp) (AllReadyH.cons rfl (fun K hK => ?_) AllReadyH.nil)
            refine step_append_og (by rfl) _ _ (by rfl) (w.heap.size + 1 + 2) B _ _ _ _ (by rfl) k3.2.2.1 (ho3.low hMB) (fun g e => (ho3.lt g e).1) k3.2.2.2.1 hlr _ rfl (by rfl) ?_
            intro v' w' ho' hg'
            have k4 := (k3.below (bal' _ _)).more ho' hg'
            clear k3 ho' hg' ho3 hB3
            clear d0 d1 y0 y1 c0 c1 z0 z1
            obtain ⟨⟨_, ⟨d0, d1⟩, ⟨y0, y1⟩⟩, ⟨_, ⟨c0, c1⟩, ⟨z0, z1⟩⟩, _⟩ := id k4
            obtain ⟨va, vn, vc, rfl⟩ := slSh (SlG.of_own k4.2.2.1)
            refine hK.out _ _ trivial (fun hHeld => ?_)
            clear hK K
            (try simp only [Act.put, List.setIfInBounds_toArray, List.set_cons_zero, List.set_cons_succ, List.getElem_toArray, List.getElem_cons_zero, List.getElem_cons_succ])
            refine' wpAnyH_take (i := 12) (v := _) rfl (by kernel_rfl) (by kernel_rfl) (by kernel_rfl) (fun _ _ _ h => h) (Or.inl ⟨by rfl, ?hy9⟩) hHeld ?hr9
            case hy9 => (intro w hSw; (try dsimp only at hSw); go_simp; (try with_reducible rfl))
            simp only [Act.put, List.setIfInBounds_toArray, List.set_cons_zero, List.set_cons_succ, List.getElem_toArray, List.getElem_cons_zero, List.getElem_cons_succ]
            refine wpAnyH_ready (rs := [13]) (by kernel_rfl) (by simp) (AllReadyH.cons rfl (fun K hK => ?_) AllReadyH.nil)
            go_simp
            refine hK.out _ _ trivial (fun hHeld => ?_)
            clear hK K
            (try simp only [Act.put, List.setIfInBounds_toArray, List.set_cons_zero, List.set_cons_succ, List.getElem_toArray, List.getElem_cons_zero, List.getElem_cons_succ])
            refine wpAnyH_done (by kernel_rfl) ?_ _
            refine NoPanic.normal ?_
            have k5 := ng_put k4
            simp only [putG] at k5
            clear k4 hHeld d0 d1 y0 y1 c0 c1 z0 z1
            go_wp2
            go_roundw
            case rel => exact ⟨q + 1, by go_num, by omega, by omega, _, by rw [hsn.out, hRI.out]; exact k5⟩
            case measure => simp [intOf]; omega
          · refine step_append_oc2 (by rfl) _ _ (by rfl) B (.slice (some ⟨B, 0, none⟩) 0 0) LL (by rfl) ho2 (Nat.le_trans hBw hb2.size) _ XX (SlC.of_own hox) (by rfl) hLX ?_
            intro r3 w3 ho3 hg3
            have k3 := k2.kept2 hg3 (fun g e => by have := (ho2.lt g e).1; omega) hu
            have hB3 := Nat.le_trans (Nat.le_trans hBw hb2.size) hg3.size
            clear k2 ho2 hox hb2 hg3
            clear d0 d1 y0 y1 c0 c1 z0 z1
            obtain ⟨⟨_, ⟨d0, d1⟩, ⟨y0, y1⟩⟩, ⟨_, ⟨c0, c1⟩, ⟨z0, z1⟩⟩, _⟩ := id k3
            obtain ⟨sa, sn, sc, rfl⟩ := ho3.isSl
            refine hK.out _ _ trivial (fun hHeld => ?_)
            clear hK K
            (try simp only [Act.put, List.setIfInBounds_toArray, List.set_cons_zero, List.set_cons_succ, List.getElem_toArray, List.getElem_cons_zero, List.getElem_cons_succ])
            refine wpAnyH_ready (rs := [1, 10]) (by kernel_rfl) (by simp) (AllReadyH.cons rfl (fun K hK => ?_) (AllReadyH.cons rfl (fun K hK => ?_) AllReadyH.nil))
            · go_simp
              refine hK.out _ _ trivial (fun hHeld => ?_)
              clear hK K
              (try simp only [Act.put, List.setIfInBounds_toArray, List.set_cons_zero, List.set_cons_succ, List.getElem_toArray, List.getElem_cons_zero, List.getElem_cons_succ])
              refine wpAnyH_ready (rs := [10]) (by kernel_rfl) (by simp) (AllReadyH.cons rfl (fun K hK => ?_) AllReadyH.nil)
              go_simp
              refine hK.out _ _ trivial (fun hHeld => ?_)
              clear hK K
              (try simp only [Act.put, List.setIfInBounds_toArray, List.set_cons_zero, List.set_cons_succ, List.getElem_toArray, List.getElem_cons_zero, List.getElem_cons_succ])
              refine wpAnyH_ready (rs := [11]) (by kernel_rfl) (by simp) (AllReadyH.cons rfl (fun K hK => ?_) AllReadyH.nil)
              refine step_append_og (by rfl) _ _ (by rfl) (w.heap.size + 1 + 2) B _ _ _ _ (by rfl) k3.2.2.1 (ho3.low hMB) (fun g e => (ho3.lt g e).1) k3.2.2.2.1 hlr _ rfl (by rfl) ?_
              intro v' w' ho' hg'
              have k4 := (k3.below (bal' _ _)).more ho' hg'
              clear k3 ho' hg' ho3 hB3
              clear d0 d1 y0 y1 c0 c1 z0 z1
              obtain ⟨⟨_, ⟨d0, d1⟩, ⟨y0, y1⟩⟩, ⟨_, ⟨c0, c1⟩, ⟨z0, z1⟩⟩, _⟩ := id k4
              obtain ⟨va, vn, vc, rfl⟩ := slSh (SlG.of_own k4.2.2.1)
              refine hK.out _ _ trivial (fun hHeld => ?_)
              clear hK K
              (try simp only [Act.put, List.setIfInBounds_toArray, List.set_cons_zero, List.set_cons_succ, List.getElem_toArray, List.getElem_cons_zero, List.getElem_cons_succ])
              refine' wpAnyH_take (i := 12) (v := _) rfl (by kernel_rfl) (by kernel_rfl) (by kernel_rfl) (fun _ _ _ h => h) (Or.inl ⟨by rfl, ?hy10⟩) hHeld ?hr10
              case hy10 => (intro w hSw; (try dsimp only at hSw); go_simp; (try with_reducible rfl))
              simp only [Act.put, List.setIfInBounds_toArray, List.set_cons_zero, List.set_cons_succ, List.getElem_toArray, List.getElem_cons_zero, List.getElem_cons_succ]
              refine wpAnyH_ready (rs := [13]) (by kernel_rfl) (by simp) (AllReadyH.cons rfl (fun K hK => ?_) AllReadyH.nil)
              go_simp
              refine hK.out _ _ trivial (fun hHeld => ?_)
              clear hK K
              (try simp only [Act.put, List.setIfInBounds_toArray, List.set_cons_zero, List.set_cons_succ, List.getElem_toArray, List.getElem_cons_zero, List.getElem_cons_succ])
              refine wpAnyH_done (by kernel_rfl) ?_ _
              refine NoPanic.normal ?_
              have k5 := ng_put k4
              simp only [putG] at k5
              clear k4 hHeld d0 d1 y0 y1 c0 c1 z0 z1
              go_wp2
              go_roundw
              case rel => exact ⟨q + 1, by go_num, by omega, by omega, _, by rw [hsn.out, hRI.out]; exact k5⟩
              case measure => simp [intOf]; omega
            · go_simp
              refine hK.out _ _ trivial (fun hHeld => ?_)
              clear hK K
              (try simp only [Act.put, List.setIfInBounds_toArray, List.set_cons_zero, List.set_cons_succ, List.getElem_toArray, List.getElem_cons_zero, List.getElem_cons_succ])
              refine wpAnyH_ready (rs := [1]) (by kernel_rfl) (by simp) (AllReadyH.cons rfl (fun K hK => ?_) AllReadyH.nil)
              go_simp
              refine hK.out _ _ trivial (fun hHeld => ?_)
              clear hK K
              (try simp only [Act.put, List.setIfInBounds_toArray, List.set_cons_zero, List.set_cons_succ, List.getElem_toArray, List.getElem_cons_zero, List.getElem_cons_succ])
              refine wpAnyH_ready (rs := [11]) (by kernel_rfl) (by simp) (AllReadyH.cons rfl (fun K hK => ?_) AllReadyH.nil)
              refine step_append_og (by rfl) _ _ (by rfl) (w.heap.size + 1 + 2) B _ _ _ _ (by rfl) k3.2.2.1 (ho3.low hMB) (fun g e => (ho3.lt g e).1) k3.2.2.2.1 hlr _ rfl (by rfl) ?_
              intro v' w' ho' hg'
              have k4 := (k3.below (bal' _ _)).more ho' hg'
              clear k3 ho' hg' ho3 hB3
              clear d0 d1 y0 y1 c0 c1 z0 z1
              obtain ⟨⟨_, ⟨d0, d1⟩, ⟨y0, y1⟩⟩, ⟨_, ⟨c0, c1⟩, ⟨z0, z1⟩⟩, _⟩ := id k4
              obtain ⟨va, vn, vc, rfl⟩ := slSh (SlG.of_own k4.2.2.1)
              refine hK.out _ _ trivial (fun hHeld => ?_)
              clear hK K
              (try simp only [Act.put, List.setIfInBounds_toArray, List.set_cons_zero, List.set_cons_succ, List.getElem_toArray, List.getElem_cons_zero, List.getElem_cons_succ])
              refine' wpAnyH_take (i := 12) (v := _) rfl (by kernel_rfl) (by kernel_rfl) (by kernel_rfl) (fun _ _ _ h => h) (Or.inl ⟨by rfl, ?hy11⟩) hHeld ?hr11
              case hy11 => (intro w hSw; (try dsimp only at hSw); go_simp; (try with_reducible rfl))
              simp only [Act.put, List.setIfInBounds_toArray, List.set_cons_zero, List.set_cons_succ, List.getElem_toArray, List.getElem_cons_zero, List.getElem_cons_succ]
              refine wpAnyH_ready (rs := [13]) (by kernel_rfl) (by simp) (AllReadyH.cons rfl (fun K hK => ?_) AllReadyH.nil)
              go_simp
              refine hK.out _ _ trivial (fun hHeld => ?_)
              clear hK K
              (try simp only [Act.put, List.setIfInBounds_toArray, List.set_cons_zero, List.set_cons_succ, List.getElem_toArray, List.getElem_cons_zero, List.getElem_cons_succ])
              refine wpAnyH_done (by kernel_rfl) ?_ _
              refine NoPanic.normal ?_
              have k5 := ng_put k4
              simp only [putG] at k5
              clear k4 hHeld d0 d1 y0 y1 c0 c1 z0 z1
              go_wp2
              go_roundw
              case rel => exact ⟨q + 1, by go_num, by omega, by omega, _, by rw [hsn.out, hRI.out]; exact k5⟩
              case measure => simp [intOf]; omega
    · have hjn : q = fr + n := by omega
      have hji : ¬ (q : Int) < (fr : Int) + (n : Int) := by omega
      have hqn : q - fr = n := by omega
      rw [hqn] at k
      obtain ⟨⟨_, ⟨d0, d1⟩, ⟨y0, y1⟩⟩, ⟨_, ⟨c0, c1⟩, ⟨z0, z1⟩⟩, _⟩ := id k
      have h3 := k.2.2.2.1
      have kF := (k.1.put2 (cn : Int) (.slice ua un uc)).2.1
      have hgF := putG2_grown wr (w.heap.size + 1) (cn : Int) (.slice ua un uc)
      have hoF := ((k.2.2.1).kept hgF (fun g e => by cases e; omega)).up hgF.size
      have hbF := (hb0.trans (k.2.2.2.2.2.mono (by omega))).grown hgF (by omega) (fun g e => by cases e; omega)
      obtain ⟨f0, f1⟩ := kF
      simp only [putG2] at f0 f1 hoF hbF
      clear hgF hs hrc hfni
      go_wp2
      exact bodyPost_ret (v := .agg #[.int .i64 (cn : Int), .slice ua un uc]) (by simp [results, Tryz.results109, go_sem, f0, f1]) rfl ⟨_, rfl, hoF.low (by omega), hbF⟩
end Go.Proofs.YtdbpjfdlibodcaaGreatDoor
namespace Go.Proofs.YtdbpjfdlibodcaaGreatDoor
open Go.ChangeShapes Go.WideShapes Go.ChangeAt Go.RowKit
def resOkB (cols : Int) (rows : List (List Ce)) (a n : Int) : Bool := gridOkB cols rows && (decide (1 ≤ a ∧ a ≤ 60) && decide (1 ≤ n ∧ n ≤ 30))
def resC (cols : Int) (rows : List (List Ce)) (a n : Int) : Int := if resOkB cols rows a n = true then a else 0
def resR (cols : Int) (rows : List (List Ce)) (a n : Int) : List (List Ce) := if resOkB cols rows a n = true then resUp rows a.toNat (min a.toNat cols.toNat) (rows.length - n.toNat) n.toNat else []
theorem resI_len (rows : List (List Ce)) (cn q i : Nat) (h : q ≤ cn) : (resI rows cn q i).length = cn := by
  have := rowPart_len rows q i
  unfold resI
  rw [List.length_append, bigRow]; omega
end Go.Proofs.YtdbpjfdlibodcaaGreatDoor
namespace Go.Proofs.YtdbpjfdlibodcaaGreatDoor
open Go.ChangeShapes Go.WideShapes Go.ChangeAt Go.RowKit
/-- Values laid over a window. -/
def windV (L : List Value) (q : Nat) (M : List Value) : List Value := L.take q ++ M ++ L.drop (q + M.length)
theorem windV_len (L : List Value) (q : Nat) (M : List Value) (h : q + M.length ≤ L.length) : (windV L q M).length = L.length := by unfold windV; simp; omega
theorem windV_at (L : List Value) (q : Nat) (M : List Value) (h : q + M.length ≤ L.length) (i : Nat) (_ : i < L.length) : rowV (windV L q M) i = if q ≤ i ∧ i < q + M.length then rowV M (i - q) else rowV L i := by
  have h1 : (L.take q).length = q := by rw [List.length_take]; omega
  unfold rowV windV
  simp only [List.getD]
  by_cases c1 : i < q
  · rw [if_neg (by omega), List.append_assoc, List.getElem?_append_left (by omega), List.getElem?_take_of_lt c1]
  · by_cases c2 : i < q + M.length
    · rw [if_pos (by omega), List.append_assoc, List.getElem?_append_right (by omega), h1, List.getElem?_append_left (by omega)]
    · rw [if_neg (by omega), List.getElem?_append_right (by rw [List.length_append, h1]; omega), List.length_append, h1, List.getElem?_drop, show q + M.length + (i - (q + M.length)) = i by omega]
/-- The rows of a window, turned. -/
def turnI (a m k i : Nat) : Nat := if a ≤ i ∧ i < a + m then (if i + k < a + m then i + k else i + k - m) else i
def turnR (rows : List (List Ce)) (a m k : Nat) : List (List Ce) := genR rows.length fun i => rowX rows (turnI a m k i)
theorem turnR_len (rows : List (List Ce)) (a m k : Nat) : (turnR rows a m k).length = rows.length := genR_len _ _
theorem turnR_at (rows : List (List Ce)) (a m k i : Nat) (h : i < rows.length) : rowX (turnR rows a m k) i = rowX rows (turnI a m k i) := genR_at _ _ _ h
theorem turnI_lt {a m k i n : Nat} (hk : k ≤ m) (ham : a + m ≤ n) (hi : i < n) : turnI a m k i < n := by unfold turnI; split <;> (try split) <;> omega
theorem turnI_inj {a m k i j : Nat} (hk : k ≤ m) (h : turnI a m k i = turnI a m k j) : i = j := by
  unfold turnI at h
  split at h <;> split at h <;> (try split at h) <;> (try split at h) <;> omega
def turnV (vs : List Value) (a m k : Nat) : List Value := genV (m - k) (fun i => rowV vs (a + k + i)) ++ genV k (fun i => rowV vs (a + i))
theorem turnV_len (vs : List Value) (a m k : Nat) (hk : k ≤ m) : (turnV vs a m k).length = m := by unfold turnV; rw [List.length_append, genV_len, genV_len]; omega
theorem rowV_app (a b : List Value) (i : Nat) : rowV (a ++ b) i = if i < a.length then rowV a i else rowV b (i - a.length) := by
  unfold rowV
  simp only [List.getD]
  by_cases c : i < a.length
  · rw [if_pos c, List.getElem?_append_left c]
  · rw [if_neg c, List.getElem?_append_right (by omega)]
theorem turnV_at (vs : List Value) (a m k i : Nat) (hk : k ≤ m) (hi : i < m) : rowV (turnV vs a m k) i = rowV vs (turnI a m k (a + i)) := by
  unfold turnV turnI
  rw [rowV_app, genV_len, if_pos (show a ≤ a + i ∧ a + i < a + m by omega)]
  by_cases c : i < m - k
  · rw [if_pos c, genV_at _ _ _ c, if_pos (by omega)]
    congr 1; omega
  · rw [if_neg c, genV_at _ _ _ (by omega), if_neg (by omega)]
    congr 1; omega
theorem OwnV.turned {w w' : World} {base B g n cap a m k : Nat} {vs : List Value} {rows : List (List Ce)} (h : OwnV w base B (.slice (some ⟨g, 0, none⟩) n cap) vs rows) (hn : rows.length = n) (ham : a + m ≤ n) (hk : k ≤ m)
    (ho : w'.ownsRow base 129 1 (.slice (some ⟨g, 0, none⟩) n cap) n (windV vs a (turnV vs a m k))) (hg : w.grownBy w' (some g)) : OwnV w' base B (.slice (some ⟨g, 0, none⟩) n cap) (windV vs a (turnV vs a m k)) (turnR rows a m k) := by
  have hvl := h.1
  have hown := h.2.1
  have hl := turnV_len vs a m k hk
  have hat : ∀ i, i < rows.length → rowV (windV vs a (turnV vs a m k)) i = rowV vs (turnI a m k i) := fun i hi => by
    rw [windV_at _ _ _ (by omega) _ (by omega), hl]
    by_cases c : a ≤ i ∧ i < a + m
    · rw [if_pos c, turnV_at _ _ _ _ _ hk (by omega), show a + (i - a) = i by omega]
    · rw [if_neg c]
      unfold turnI
      rw [if_neg c]
  have key : OwnV w' base w'.heap.size (.slice (some ⟨g, 0, none⟩) n cap) (windV vs a (turnV vs a m k)) (turnR rows a m k) := by
    refine h.mixed (fun i => some (turnI a m k i)) _ _ (by rw [windV_len _ _ _ (by omega), turnR_len, hvl]) (turnR_len _ _ _ _) (by rw [hn]; exact ho) (fun p hp => (h.2.2.1 p hp).kept hg (outer_apart hown (h.2.2.1 p hp))) (fun i p hi e => ?_) (fun i j p hij _ e1 e2 => ?_) (fun i _ e => by cases e) (fun i j _ _ e _ => by cases e)
    · cases e
      exact ⟨turnI_lt hk (by omega) hi, hat i hi, turnR_at _ _ _ _ _ hi⟩
    · cases e1
      have := turnI_inj hk (Option.some.inj e2)
      omega
  refine ⟨key.1, key.2.1, key.2.2.1, fun i hi g' e => ?_, key.2.2.2.2⟩
  rw [turnR_len] at hi
  rw [hat i hi] at e
  exact h.2.2.2.1 _ (by rw [hn]; exact turnI_lt hk (by omega) (by omega)) g' e
end Go.Proofs.YtdbpjfdlibodcaaGreatDoor
namespace Go.Proofs.YtdbpjfdlibodcaaGreatDoor
open Go.ChangeShapes Go.WideShapes Go.ChangeAt Go.RowKit
theorem StAt.gr {lo hi B : Nat} {w w' : World} {s : St} (h : StAt w B s) (hg : GrB lo hi w w') (hne : B < lo ∨ hi ≤ B) : StAt w' B s := by
  obtain ⟨h0, ⟨c0, c1, c2, c3, c4⟩, z0, z1, z2, z3, z4⟩ := h
  refine ⟨Nat.lt_of_lt_of_le h0 hg.size, ⟨?_, ?_, ?_, ?_, ?_⟩, ?_, ?_, ?_, ?_, ?_⟩
  all_goals first | rw [hg.cell h0 hne] | rw [hg.frozen h0 hne]
  all_goals assumption
end Go.Proofs.YtdbpjfdlibodcaaGreatDoor
namespace Go.Proofs.YtdbpjfdlibodcaaGreatDoor
open Go.ChangeShapes Go.WideShapes Go.ChangeAt Go.RowKit
theorem GrW.gr {lo hi B : Nat} {w w' : World} {cols : Int} {v : Value} (h : GrW w B cols v) (hg : GrB lo hi w w') (hne : B < lo ∨ hi ≤ B) : GrW w' B cols v := by
  obtain ⟨h0, ⟨c0, c1⟩, z0, z1⟩ := h
  refine ⟨Nat.lt_of_lt_of_le h0 hg.size, ⟨?_, ?_⟩, ?_, ?_⟩
  all_goals first | rw [hg.cell h0 hne] | rw [hg.frozen h0 hne]
  all_goals assumption
end Go.Proofs.YtdbpjfdlibodcaaGreatDoor
namespace Go.Proofs.YtdbpjfdlibodcaaGreatDoor
open Go.ChangeShapes Go.WideShapes Go.ChangeAt Go.RowKit
theorem rowOk_of {l : List Ce} (h : Right l) (h1 : 1 ≤ l.length) (h2 : l.length ≤ 60) : rowOkB l = true := (right_iff l).2 ⟨⟨h1, h2⟩, h⟩
theorem gridOk_of2 {cols : Nat} {rows : List (List Ce)} (hc : 1 ≤ cols ∧ cols ≤ 60) (hn : 1 ≤ rows.length ∧ rows.length ≤ 30) (h : ∀ i, i < rows.length → (rowX rows i).length = cols ∧ Right (rowX rows i)) : gridOkB (cols : Int) rows = true := by
  rw [gridOk_iff]
  refine ⟨by omega, hn, fun i hi => ?_⟩
  obtain ⟨h1, h2⟩ := h i hi
  have h1' : (rows.getD i []).length = cols := h1
  unfold fitB
  rw [Bool.and_eq_true, decide_eq_true_eq]
  exact ⟨by omega, rowOk_of h2 (by omega) (by omega)⟩
theorem gridOk_rows {cols : Nat} {rows : List (List Ce)} (h : gridOkB (cols : Int) rows = true) : (1 ≤ cols ∧ cols ≤ 60) ∧ (1 ≤ rows.length ∧ rows.length ≤ 30) ∧ ∀ i, i < rows.length → (rowX rows i).length = cols ∧ Right (rowX rows i) := by
  obtain ⟨h1, h2, h3⟩ := (gridOk_iff _ _).1 h
  refine ⟨by omega, h2, fun i hi => ?_⟩
  have h4 := h3 i hi
  unfold fitB at h4
  rw [Bool.and_eq_true, decide_eq_true_eq] at h4
  have h5 : ((rowX rows i).length : Int) = cols := h4.1
  exact ⟨by omega, ((right_iff _).1 h4.2).2⟩
theorem resI_right {rows : List (List Ce)} (h : ∀ i, i < rows.length → Right (rowX rows i)) (cn q i : Nat) : Right (resI rows cn q i) := by
  unfold resI
  refine Right.append ?_ (rowL_right _ _ rfl)
  unfold rowPart
  split
  · rename_i hi
    exact ((h i hi).semi.take q).mend
  · exact rowL_right 0 St.zero rfl
theorem resUp_ok {gc : Nat} {rows : List (List Ce)} (h : gridOkB (gc : Int) rows = true) (cn n q fr : Nat) (hc : 1 ≤ cn ∧ cn ≤ 60) (hn : 1 ≤ n ∧ n ≤ 30) (hq : q ≤ cn) : gridOkB (cn : Int) (resUp rows cn q fr n) = true := by
  obtain ⟨h1, h2, h3⟩ := gridOk_rows h
  refine gridOk_of2 hc (by rw [resUp_len]; exact hn) fun i hi => ?_
  rw [resUp_len] at hi
  unfold resUp
  rw [genR_at _ _ _ hi]
  exact ⟨resI_len _ _ _ _ hq, resI_right (fun i hi => (h3 i hi).2) _ _ _⟩
end Go.Proofs.YtdbpjfdlibodcaaGreatDoor
namespace Go.Proofs.YtdbpjfdlibodcaaGreatDoor
open Go.ChangeShapes Go.WideShapes Go.ChangeAt Go.RowKit
def refitM (t : Te) (cn n : Nat) : Te := ⟨cn, resUp t.g cn (min cn t.gc.toNat) (t.g.length - n) n, cn, resUp t.o cn (min cn t.oc.toNat) (t.o.length - n) n, min ((n : Int) - 1) (max 0 (t.row - max 0 ((t.g.length : Int) - n))), min ((cn : Int) - 1) t.col, t.st, 0, (n : Int) - 1, false, t.wrap, t.away, t.hid, min ((n : Int) - 1) t.sr, min ((cn : Int) - 1) t.sc, t.ss, t.ti, t.pa, t.fe⟩
/-- A screen of one call's own whose lists lie below its grids. -/
def OwnU (w : World) (base : Nat) (t : Te) (v : Tv) : Prop := ∃ b1 b2 b3, LiOk w base [(v.ti, t.ti), (v.pp, t.pa.params), (v.pt, t.pa.text)] ∧ (∀ p ∈ [(v.ti, t.ti), (v.pp, t.pa.params), (v.pt, t.pa.text)], ∀ g, p.1.ownBlock = some g → g < b1) ∧ OwnR w b1 b2 v.g t.g ∧ OwnR w b2 b3 v.o t.o ∧ base ≤ b1 ∧ b1 ≤ b2 ∧ b2 ≤ b3 ∧ b3 ≤ w.heap.size
/-- What stands while a copy is refitted. -/
structure RfI (w0 W : World) (B s1 s2 s3 : Nat) (tc cs : List Value) (xg xo : Value) (G O : List (List Ce)) (L : List (Value × List Int)) : Prop where
  b : TB W w0.heap.size tc
  r : TB W (w0.heap.size + 1) [.int .i64 0, .slice none 0 0, .int .i64 0, .slice none 0 0, .int .i64 0, .int .i64 0, .int .i64 0, .int .i64 0, .bool false, .bool false, .bool false, .int .i64 0, .int .i64 0, .bool false, .bool false, .bool false, .bool false, .int .i64 0, .int .i64 0, .int .i64 0, .int .i64 0, .bool false, .bool false, .bool false, .slice none 0 0, .int .i64 0, .slice none 0 0, .int .i64 0, .slice none 0 0, .string ⟨#[]⟩]
  p : TB W B cs
  g : OwnR W s1 s2 xg G
  o : OwnR W s2 s3 xo O
  l : LiOk W w0.heap.size L
  k : Below w0.heap.size w0 W
  z : w0.heap.size + 2 ≤ B ∧ B < s1 ∧ s1 ≤ s2
theorem RfI.stored {w0 W W' : World} {B s1 s2 s3 : Nat} {tc cs cs' : List Value} {xg xo : Value} {G O : List (List Ce)} {L : List (Value × List Int)} (h : RfI w0 W B s1 s2 s3 tc cs xg xo G O L) (hg : W.grownBy W' (some B)) (hp : BlkC W' B 45 cs') : RfI w0 W' B s1 s2 s3 tc cs' xg xo G O L := by
  obtain ⟨h1, h2, h3, h4, h5, h6, h7, z1, z2, z3⟩ := h
  exact ⟨h1.kept hg (fun e => by injection e with e; omega), h2.kept hg (fun e => by injection e with e; omega), hp, h4.grown hg z2, h5.grown hg (by omega), h6.kept hg (fun p hp => .inr ((h6.1 p hp).not_block h3 (by decide))), h7.grown hg h7.size (fun g e => by cases e; omega), z1, z2, z3⟩
set_option maxHeartbeats 16000000 in
set_option maxRecDepth 20000 in
theorem l7Refit_any (gc cn n : Nat) (t : Te) (v : Tv) (w : World) (h : SlT w t v) (hz : RtT t) (hgc : t.gc = gc) (hoc : t.oc = gc) (hg : gridOkB (gc : Int) t.g = true) (ho : gridOkB (gc : Int) t.o = true) (hc : 1 ≤ cn ∧ cn ≤ 60) (hn : 1 ≤ n ∧ n ≤ 30) (hrow : 0 ≤ t.row ∧ t.row ≤ 30) :
    Calls Tryz.prog 54 #[.agg (teCs t v), .int .i64 (cn : Int), .int .i64 (n : Int)] w fun e w' => ∃ v', e = .returned (.agg (teCs (refitM t cn n) v')) ∧ OwnU w' w.heap.size (refitM t cn n) v' ∧ Below w.heap.size w w' := by
  obtain ⟨⟨gc1, gc2⟩, ⟨gl1, gl2⟩, gx⟩ := gridOk_rows hg
  obtain ⟨_, ⟨ol1, ol2⟩, ox⟩ := gridOk_rows ho
  have cG := fun xv W hW => l5Resized_any gc cn n xv t.g W hW (by omega) gl1 (fun i hi => (gx i hi).1) gc1 (by omega) hc.1 (by omega) hn.1 (by omega)
  have cO := fun xv W hW => l5Resized_any gc cn n xv t.o W hW (by omega) ol1 (fun i hi => (ox i hi).1) gc1 (by omega) hc.1 (by omega) hn.1 (by omega)
  rw [← hgc] at cG
  rw [← hoc] at cO
  unfold gridV at cG cO
  have hgn : Hid (t.gc.toNat = gc) := by show _ = _; omega
  have hon : Hid (t.oc.toNat = gc) := by show _ = _; omega
  have cC := fun W hW => l7Copy_any t v W hW hz
  have hn1 : (1 : Int) ≤ (n : Int) := by omega
  have hn2 : (n : Int) ≤ 30 := by omega
  have hc1 : (1 : Int) ≤ (cn : Int) := by omega
  have hc2 : (cn : Int) ≤ 60 := by omega
  have hl1 : (1 : Int) ≤ (t.g.length : Int) := by omega
  have hl2 : (t.g.length : Int) ≤ 30 := by omega
  obtain ⟨gone, e1⟩ : ∃ x, Hid (max 0 ((t.g.length : Int) - n) = x) := ⟨_, rfl⟩
  have cM1 := fun W => l1MaxG_any 0 ((t.g.length : Int) - n) W
  rw [e1.out] at cM1
  have hg1 : 0 ≤ gone := by have := e1.out; omega
  have hg2 : gone ≤ 30 := by have := e1.out; omega
  obtain ⟨r1, e2⟩ : ∃ x, Hid (max 0 (t.row - gone) = x) := ⟨_, rfl⟩
  have cM2 := fun W => l1MaxG_any 0 (t.row - gone) W
  rw [e2.out] at cM2
  obtain ⟨r2, e3⟩ : ∃ x, Hid (min ((n : Int) - 1) r1 = x) := ⟨_, rfl⟩
  have cN1 := fun W => l1Min_any ((n : Int) - 1) r1 W
  rw [e3.out] at cN1
  obtain ⟨r3, e4⟩ : ∃ x, Hid (min ((cn : Int) - 1) t.col = x) := ⟨_, rfl⟩
  have cN2 := fun W => l1Min_any ((cn : Int) - 1) t.col W
  rw [e4.out] at cN2
  obtain ⟨r4, e5⟩ : ∃ x, Hid (min ((n : Int) - 1) t.sr = x) := ⟨_, rfl⟩
  have cN3 := fun W => l1Min_any ((n : Int) - 1) t.sr W
  rw [e5.out] at cN3
  obtain ⟨r5, e6⟩ : ∃ x, Hid (min ((cn : Int) - 1) t.sc = x) := ⟨_, rfl⟩
  have cN4 := fun W => l1Min_any ((cn : Int) - 1) t.sc W
  rw [e6.out] at cN4
  obtain ⟨hr1, hr2⟩ := hrow
  obtain ⟨vg, vo, vti, vpp, vpt⟩ := v
  have hS : Hid (SlT w t ⟨vg, vo, vti, vpp, vpt⟩) := h
  obtain ⟨sg, so, sti, spp, spt⟩ := h
  simp only at sg so sti spp spt
  obtain ⟨ga, gp, hq1⟩ := slG_shp sg
  obtain ⟨oa, op, hq2⟩ := slG_shp so
  obtain ⟨tia, tip, hq3⟩ := sti.shp
  obtain ⟨ppa, ppp, hq4⟩ := spp.shp
  obtain ⟨pta, ptp, hq5⟩ := spt.shp
  subst hq1; subst hq2; subst hq3; subst hq4; subst hq5
  have hb1 := bal' w (Obj.cells (teCs t ⟨.slice ga t.g.length gp, .slice oa t.o.length op, .slice tia t.ti.length tip, .slice ppa t.pa.params.length ppp, .slice pta t.pa.text.length ptp⟩) 45)
  have hb2 := bal' (w.alloc (Obj.cells (teCs t ⟨.slice ga t.g.length gp, .slice oa t.o.length op, .slice tia t.ti.length tip, .slice ppa t.pa.params.length ppp, .slice pta t.pa.text.length ptp⟩) 45)) (Obj.cells #[.int .i64 0, .slice none 0 0, .int .i64 0, .slice none 0 0, .int .i64 0, .int .i64 0, .int .i64 0, .int .i64 0, .bool false, .bool false, .bool false, .int .i64 0, .int .i64 0, .bool false, .bool false, .bool false, .bool false, .int .i64 0, .int .i64 0, .int .i64 0, .int .i64 0, .bool false, .bool false, .bool false, .slice none 0 0, .int .i64 0, .slice none 0 0, .int .i64 0, .slice none 0 0, .string ⟨#[]⟩] 45)
  have hB := (TB.new w (teCs t ⟨.slice ga t.g.length gp, .slice oa t.o.length op, .slice tia t.ti.length tip, .slice ppa t.pa.params.length ppp, .slice pta t.pa.text.length ptp⟩).toList).below hb2
  have hR := TB.new (w.alloc (Obj.cells (teCs t ⟨.slice ga t.g.length gp, .slice oa t.o.length op, .slice tia t.ti.length tip, .slice ppa t.pa.params.length ppp, .slice pta t.pa.text.length ptp⟩) 45)) [.int .i64 0, .slice none 0 0, .int .i64 0, .slice none 0 0, .int .i64 0, .int .i64 0, .int .i64 0, .int .i64 0, .bool false, .bool false, .bool false, .int .i64 0, .int .i64 0, .bool false, .bool false, .bool false, .bool false, .int .i64 0, .int .i64 0, .int .i64 0, .int .i64 0, .bool false, .bool false, .bool false, .slice none 0 0, .int .i64 0, .slice none 0 0, .int .i64 0, .slice none 0 0, .string ⟨#[]⟩]
  have kb := hb1.trans (hb2.mono hb1.size)
  rw [show (w.alloc (Obj.cells (teCs t ⟨.slice ga t.g.length gp, .slice oa t.o.length op, .slice tia t.ti.length tip, .slice ppa t.pa.params.length ppp, .slice pta t.pa.text.length ptp⟩) 45)).heap.size = w.heap.size + 1 by simp] at hR
  obtain ⟨w2, hw2⟩ : ∃ w2, w2 = (w.alloc (Obj.cells (teCs t ⟨.slice ga t.g.length gp, .slice oa t.o.length op, .slice tia t.ti.length tip, .slice ppa t.pa.params.length ppp, .slice pta t.pa.text.length ptp⟩) 45)).alloc (Obj.cells #[.int .i64 0, .slice none 0 0, .int .i64 0, .slice none 0 0, .int .i64 0, .int .i64 0, .int .i64 0, .int .i64 0, .bool false, .bool false, .bool false, .int .i64 0, .int .i64 0, .bool false, .bool false, .bool false, .bool false, .int .i64 0, .int .i64 0, .int .i64 0, .int .i64 0, .bool false, .bool false, .bool false, .slice none 0 0, .int .i64 0, .slice none 0 0, .int .i64 0, .slice none 0 0, .string ⟨#[]⟩] 45) := ⟨_, rfl⟩
  have hB : TB w2 w.heap.size [.int .i64 t.gc, .slice ga t.g.length gp, .int .i64 t.oc, .slice oa t.o.length op, .int .i64 t.row, .int .i64 t.col, .int .i64 t.st.fore, .int .i64 t.st.back, .bool t.st.bold, .bool t.st.under, .bool t.st.turned, .int .i64 t.top, .int .i64 t.bot, .bool t.full, .bool t.wrap, .bool t.away, .bool t.hid, .int .i64 t.sr, .int .i64 t.sc, .int .i64 t.ss.fore, .int .i64 t.ss.back, .bool t.ss.bold, .bool t.ss.under, .bool t.ss.turned, .slice tia t.ti.length tip, .int .i64 t.pa.state, .slice ppa t.pa.params.length ppp, .int .i64 t.pa.mark, .slice pta t.pa.text.length ptp, .string t.fe] := by rw [hw2]; exact hB
  rw [← hw2] at hR kb
  have zs2 : w2.heap.size = w.heap.size + 2 := by rw [hw2]; simp
  replace hw2 := (show Hid _ from hw2)
  replace hgc := (show Hid _ from hgc)
  replace hoc := (show Hid _ from hoc)
  clear hb1 hb2 gx ox hg ho sti spp spt gl1 gl2 ol1 ol2 hz hc hn
  go_enter Tryz.func54, Tryz.ntmps54
  refine wp_seq_k (fun K hK => ?_)
  have hH := (show Hid _ from hK)
  clear hK
  go_wp2
  refine hH.out _ _ ?_
  rw [← hw2.out]
  clear hH hw2
  go_wp2_with (refine load_T (cs := teCs t ⟨.slice ga t.g.length gp, .slice oa t.o.length op, .slice tia t.ti.length tip, .slice ppa t.pa.params.length ppp, .slice pta t.pa.text.length ptp⟩) (by rfl) 45 _ (by rfl) Tryz.underlying45 rfl info_te hB (by rfl) ?_)
  refine (cC _ (SlT.below hS.out kb)).mono ?_
  rintro e w3 ⟨⟨xg, xo, xt, xp, xq⟩, rfl, hO, hb⟩
  have s23 := hb.size
  have hone3 := hO.sl.one
  obtain ⟨xga, xgn, xgp, hx1⟩ := slShp hO.sl.1
  obtain ⟨xoa, xon, xop, hx2⟩ := slShp hO.sl.2.1
  obtain ⟨b1, b2, b3, _, _, hli, z1, z2, z3, z4⟩ := hO
  obtain ⟨xta, xtn, xtp, hx3⟩ := hli.head.shape
  obtain ⟨xpa, xpn, xpp, hx4⟩ := hli.tail.head.shape
  obtain ⟨xqa, xqn, xqp, hx5⟩ := hli.tail.tail.head.shape
  simp only at hx1 hx2 hx3 hx4 hx5
  subst hx1; subst hx2; subst hx3; subst hx4; subst hx5
  have hll : Hid (∀ p ∈ [((.slice xta xtn xtp : Value), t.ti), (.slice xpa xpn xpp, t.pa.params), (.slice xqa xqn xqp, t.pa.text)], ∀ g, p.1.ownBlock = some g → g < w3.heap.size) := fun p hp g e => ((hli.1 p hp).lt g e).2
  have hli : LiOk w3 w.heap.size [((.slice xta xtn xtp : Value), t.ti), (.slice xpa xpn xpp, t.pa.params), (.slice xqa xqn xqp, t.pa.text)] := hli.low (by omega)
  replace hB := hB.below hb
  replace hR := hR.below hb
  replace kb := kb.trans (hb.mono kb.size)
  replace sg := hS.out.1
  clear hb cC z1 z2 z3 z4
  have hal := bal' w3 (Obj.cells #[.int .i64 0, .slice none 0 0, .int .i64 0, .slice none 0 0, .int .i64 0, .int .i64 0, .int .i64 0, .int .i64 0, .bool false, .bool false, .bool false, .int .i64 0, .int .i64 0, .bool false, .bool false, .bool false, .bool false, .int .i64 0, .int .i64 0, .int .i64 0, .int .i64 0, .bool false, .bool false, .bool false, .slice none 0 0, .int .i64 0, .slice none 0 0, .int .i64 0, .slice none 0 0, .string ⟨#[]⟩] 45)
  have hZ := TB.new w3 [.int .i64 0, .slice none 0 0, .int .i64 0, .slice none 0 0, .int .i64 0, .int .i64 0, .int .i64 0, .int .i64 0, .bool false, .bool false, .bool false, .int .i64 0, .int .i64 0, .bool false, .bool false, .bool false, .bool false, .int .i64 0, .int .i64 0, .int .i64 0, .int .i64 0, .bool false, .bool false, .bool false, .slice none 0 0, .int .i64 0, .slice none 0 0, .int .i64 0, .slice none 0 0, .string ⟨#[]⟩]
  go_wp2_with (refine store_T (cs := teCs t ⟨.slice xga xgn xgp, .slice xoa xon xop, .slice xta xtn xtp, .slice xpa xpn xpp, .slice xqa xqn xqp⟩) (by rfl) 45 _ _ (by rfl) info_te (by rfl) hone3 hZ (by rfl) (by rfl) ?_; intro W3 hgr hA hzs; have hbW : Below w3.heap.size w3 W3 := hal.grown hgr hal.size (fun k e => by cases e; exact Nat.le_refl _); have hB3 := hB.below hbW; have hR3 := hR.below hbW; have hl3 := hli.below hbW; have kb3 := kb.trans (hbW.mono kb.size); have hP : TB W3 w3.heap.size [.int .i64 t.gc, .slice xga xgn xgp, .int .i64 t.oc, .slice xoa xon xop, .int .i64 t.row, .int .i64 t.col, .int .i64 t.st.fore, .int .i64 t.st.back, .bool t.st.bold, .bool t.st.under, .bool t.st.turned, .int .i64 t.top, .int .i64 t.bot, .bool t.full, .bool t.wrap, .bool t.away, .bool t.hid, .int .i64 t.sr, .int .i64 t.sc, .int .i64 t.ss.fore, .int .i64 t.ss.back, .bool t.ss.bold, .bool t.ss.under, .bool t.ss.turned, .slice xta xtn xtp, .int .i64 t.pa.state, .slice xpa xpn xpp, .int .i64 t.pa.mark, .slice xqa xqn xqp, .string t.fe] := hA; have zz : w3.heap.size + 1 = W3.heap.size := (by rw [hzs]; simp); have c0 : W3.cell? ⟨w.heap.size, 0, none⟩ = some (.int .i64 t.gc) := cells_all hB3 0; have c1 : W3.cell? ⟨w.heap.size, 1, none⟩ = some (.slice ga t.g.length gp) := cells_all hB3 1; clear hgr hA hzs hbW hB hR hli kb hal hZ)
  refine (cM1 _).mono ?_
  rintro e w4 ⟨rfl, hw⟩
  subst hw
  go_wp2_with fail
  refine (cG _ _ (hS.out.1.below kb3)).mono ?_
  rintro e w5 ⟨u1, rfl, ho1, hb5⟩
  obtain ⟨yga, ygn, ygp, hy⟩ := slShp (SlG.of_own ho1)
  subst hy
  have og := OwnR.of ho1
  have hB5 := hB3.below hb5
  have hR5 := hR3.below hb5
  have hP5 := hP.below hb5
  have hl5 := hl3.below hb5
  have kb5 := kb3.trans (hb5.mono kb3.size)
  have s45 := hb5.size
  clear hb5 ho1 hB3 hR3 hP hl3 kb3 c0 c1 cG
  go_wp2_with (refine store_at (by rfl) 40 _ _ (by rfl) inf_g hP5 (by rfl) (by rfl) (by rfl) (by rfl) (by rfl) ?_; intro W5 hgr hP6 hz6; have hB6 := TB.kept (show TB w5 w.heap.size [.int .i64 t.gc, .slice ga t.g.length gp, .int .i64 t.oc, .slice oa t.o.length op, .int .i64 t.row, .int .i64 t.col, .int .i64 t.st.fore, .int .i64 t.st.back, .bool t.st.bold, .bool t.st.under, .bool t.st.turned, .int .i64 t.top, .int .i64 t.bot, .bool t.full, .bool t.wrap, .bool t.away, .bool t.hid, .int .i64 t.sr, .int .i64 t.sc, .int .i64 t.ss.fore, .int .i64 t.ss.back, .bool t.ss.bold, .bool t.ss.under, .bool t.ss.turned, .slice tia t.ti.length tip, .int .i64 t.pa.state, .slice ppa t.pa.params.length ppp, .int .i64 t.pa.mark, .slice pta t.pa.text.length ptp, .string t.fe] from hB5) hgr (fun e => by injection e with e; omega); have c2 : W5.cell? ⟨w.heap.size, 2, none⟩ = some (.int .i64 t.oc) := cells_all hB6 2; have c3 : W5.cell? ⟨w.heap.size, 3, none⟩ = some (.slice oa t.o.length op) := cells_all hB6 3)
  have hR6 := hR5.kept hgr (fun e => by injection e with e; omega)
  have hl6 := hl5.kept hgr (fun p hp => .inr ((hl5.1 p hp).not_block hP5 (by decide)))
  have og6 := og.grown hgr (by omega)
  have kb6 := kb5.grown hgr kb5.size (fun g e => by cases e; omega)
  clear hgr hB5 hR5 hP5 hl5 og kb5
  refine (cO _ _ (hS.out.2.1.below kb6)).mono ?_
  rintro e w7 ⟨u2, rfl, ho2, hb7⟩
  obtain ⟨yoa, yon, yop, hy⟩ := slShp (SlG.of_own ho2)
  subst hy
  have I : RfI w w7 w3.heap.size w4.heap.size w5.heap.size w7.heap.size [.int .i64 t.gc, .slice ga t.g.length gp, .int .i64 t.oc, .slice oa t.o.length op, .int .i64 t.row, .int .i64 t.col, .int .i64 t.st.fore, .int .i64 t.st.back, .bool t.st.bold, .bool t.st.under, .bool t.st.turned, .int .i64 t.top, .int .i64 t.bot, .bool t.full, .bool t.wrap, .bool t.away, .bool t.hid, .int .i64 t.sr, .int .i64 t.sc, .int .i64 t.ss.fore, .int .i64 t.ss.back, .bool t.ss.bold, .bool t.ss.under, .bool t.ss.turned, .slice tia t.ti.length tip, .int .i64 t.pa.state, .slice ppa t.pa.params.length ppp, .int .i64 t.pa.mark, .slice pta t.pa.text.length ptp, .string t.fe] _ _ _ _ _ _ := ⟨hB6.below hb7, hR6.below hb7, TB.below hP6 hb7, og6.below hb7, (by rw [← hz6]; exact OwnR.of ho2), hl6.below hb7, kb6.trans (hb7.mono kb6.size), by omega, by omega, by omega⟩
  have s67 : w5.heap.size ≤ w7.heap.size := by rw [← hz6]; exact hb7.size
  clear hb7 ho2 hB6 hR6 hP6 hl6 og6 kb6 c2 c3 cO sg so hS
  go_wp2_with ((refine store_at (by rfl) 40 _ _ (by rfl) inf_g I.p (by rfl) (by rfl) (by rfl) (by rfl) (by rfl) ?_; intro W7 hgr hp hzz; have IW7 := I.stored hgr hp; clear hgr hp hzz; have c4 : W7.cell? ⟨w.heap.size, 4, none⟩ = some (.int .i64 t.row) := cells_all IW7.b 4))
  refine (cM2 _).mono ?_
  rintro e w8 ⟨rfl, hw⟩
  subst hw
  go_wp2_with fail
  refine (cN1 _).mono ?_
  rintro e w9 ⟨rfl, hw⟩
  subst hw
  clear c4 I
  go_wp2_with ((refine store_at (by rfl) 2 _ _ (by rfl) inf_i IW7.p (by rfl) (by rfl) (by rfl) (by rfl) (by rfl) ?_; intro W9 hgr hp hzz; have IW9 := IW7.stored hgr hp; clear hgr hp hzz; have c5 : W9.cell? ⟨w.heap.size, 5, none⟩ = some (.int .i64 t.col) := cells_all IW9.b 5))
  refine (cN2 _).mono ?_
  rintro e w10 ⟨rfl, hw⟩
  subst hw
  clear c5 IW7
  go_wp2_with ((refine store_at (by rfl) 2 _ _ (by rfl) inf_i IW9.p (by rfl) (by rfl) (by rfl) (by rfl) (by rfl) ?_; intro W10 hgr hp hzz; have IW10 := IW9.stored hgr hp; clear hgr hp hzz; have c17 : W10.cell? ⟨w.heap.size, 17, none⟩ = some (.int .i64 t.sr) := cells_all IW10.b 17))
  refine (cN3 _).mono ?_
  rintro e w11 ⟨rfl, hw⟩
  subst hw
  clear c17 IW9
  go_wp2_with ((refine store_at (by rfl) 2 _ _ (by rfl) inf_i IW10.p (by rfl) (by rfl) (by rfl) (by rfl) (by rfl) ?_; intro W11 hgr hp hzz; have IW11 := IW10.stored hgr hp; clear hgr hp hzz; have c18 : W11.cell? ⟨w.heap.size, 18, none⟩ = some (.int .i64 t.sc) := cells_all IW11.b 18))
  refine (cN4 _).mono ?_
  rintro e w12 ⟨rfl, hw⟩
  subst hw
  clear c18 IW10
  go_wp2_with (first
    | (refine store_at (by rfl) 2 _ _ (by rfl) inf_i IW11.p (by rfl) (by rfl) (by rfl) (by rfl) (by rfl) ?_; intro W12 hgr hp hzz; have IW12 := IW11.stored hgr hp; clear hgr hp hzz)
    | (refine store_at (by rfl) 2 _ _ (by rfl) inf_i IW12.p (by rfl) (by rfl) (by rfl) (by rfl) (by rfl) ?_; intro W13 hgr hp hzz; have IW13 := IW12.stored hgr hp; clear hgr hp hzz)
    | (refine store_at (by rfl) 2 _ _ (by rfl) inf_i IW13.p (by rfl) (by rfl) (by rfl) (by rfl) (by rfl) ?_; intro W14 hgr hp hzz; have IW14 := IW13.stored hgr hp; clear hgr hp hzz)
    | (refine store_at (by rfl) 4 _ _ (by rfl) inf_b IW14.p (by rfl) (by rfl) (by rfl) (by rfl) (by rfl) ?_; intro W15 hgr hp hzz; have IW15 := IW14.stored hgr hp; clear hgr hp hzz)
    | (refine load_T (cs := #[.int .i64 (cn : Int), .slice yga ygn ygp, .int .i64 (cn : Int), .slice yoa yon yop, .int .i64 r2, .int .i64 r3, .int .i64 t.st.fore, .int .i64 t.st.back, .bool t.st.bold, .bool t.st.under, .bool t.st.turned, .int .i64 0, .int .i64 ((n : Int) - 1), .bool false, .bool t.wrap, .bool t.away, .bool t.hid, .int .i64 r4, .int .i64 r5, .int .i64 t.ss.fore, .int .i64 t.ss.back, .bool t.ss.bold, .bool t.ss.under, .bool t.ss.turned, .slice xta xtn xtp, .int .i64 t.pa.state, .slice xpa xpn xpp, .int .i64 t.pa.mark, .slice xqa xqn xqp, .string t.fe]) (by rfl) 45 _ (by rfl) Tryz.underlying45 rfl info_te IW15.p (by rfl) ?_)
    | (refine store_T (cs := #[.int .i64 (cn : Int), .slice yga ygn ygp, .int .i64 (cn : Int), .slice yoa yon yop, .int .i64 r2, .int .i64 r3, .int .i64 t.st.fore, .int .i64 t.st.back, .bool t.st.bold, .bool t.st.under, .bool t.st.turned, .int .i64 0, .int .i64 ((n : Int) - 1), .bool false, .bool t.wrap, .bool t.away, .bool t.hid, .int .i64 r4, .int .i64 r5, .int .i64 t.ss.fore, .int .i64 t.ss.back, .bool t.ss.bold, .bool t.ss.under, .bool t.ss.turned, .slice xta xtn xtp, .int .i64 t.pa.state, .slice xpa xpn xpp, .int .i64 t.pa.mark, .slice xqa xqn xqp, .string t.fe]) (by rfl) 45 _ _ (by rfl) info_te (by rfl) (by rfl) IW15.r (by rfl) (by rfl) ?_; intro w16 hg16 hR16 hz16))
  have q1 := e1.out; subst q1
  have q2 := e2.out; subst q2
  have q3 := e3.out; subst q3
  have q4 := e4.out; subst q4
  have q5 := e5.out; subst q5
  have q6 := e6.out; subst q6
  obtain ⟨i1, i2, i3, i4, i5, i6, i7, z1, z2, z3⟩ := IW15
  have hf : OwnU w16 w.heap.size (refitM t cn n) ⟨.slice yga ygn ygp, .slice yoa yon yop, .slice xta xtn xtp, .slice xpa xpn xpp, .slice xqa xqn xqp⟩ := by
    refine ⟨w4.heap.size, w5.heap.size, w7.heap.size, i6.kept hg16 (fun p hp => .inr ((i6.1 p hp).not_block i2 (by decide))), fun p hp g e => by have := hll.out p hp g e; omega, ?_, ?_, by omega, z3, s67, ?_⟩
    · show OwnR _ _ _ _ (resUp t.g cn (min cn t.gc.toNat) _ _)
      rw [hgn.out]; exact i4.grown hg16 (by omega)
    · show OwnR _ _ _ _ (resUp t.o cn (min cn t.oc.toNat) _ _)
      rw [hon.out]; exact i5.grown hg16 (by omega)
    · rw [hz16]; exact i5.2.2
  exact bodyPost_ret (v := .agg (teCs (refitM t cn n) ⟨.slice yga ygn ygp, .slice yoa yon yop, .slice xta xtn xtp, .slice xpa xpn xpp, .slice xqa xqn xqp⟩)) (results_cell_row Tryz.results54 _ _ _ _ _ _ _ rfl hR16 Tryz.underlying45 rfl info_te) rfl ⟨_, rfl, hf, i7.grown hg16 i7.size (fun g e => by cases e; omega)⟩
end Go.Proofs.YtdbpjfdlibodcaaGreatDoor
namespace Go.Proofs.YtdbpjfdlibodcaaGreatDoor
open Go.ChangeShapes Go.WideShapes Go.ChangeAt Go.RowKit
theorem l7Cell_any (gc r c : Int) (a : Option Addr) (n cp : Nat) (w : World) (h1 : 1 ≤ gc) (h2 : gc ≤ 60) (hn1 : 1 ≤ n) (hn : n ≤ 30) :
    Calls Tryz.prog 61 #[.agg #[.int .i64 gc, .slice a n cp], .int .i64 r, .int .i64 c] w fun e w' => e = .returned (.bool (cellB gc n r c)) ∧ Below w.heap.size w w' := by
  have hb0 := bal' w (Obj.cells #[.int .i64 gc, .slice a n cp] 40)
  have hi := fun x lo hi W => l1In_any x lo hi W
  obtain ⟨b1, e1⟩ : ∃ b, Hid (decide (0 ≤ r ∧ r ≤ (n : Int) - 1) = b) := ⟨_, rfl⟩
  obtain ⟨b2, e2⟩ : ∃ b, Hid (decide (0 ≤ c ∧ c ≤ gc - 1) = b) := ⟨_, rfl⟩
  have i1 := fun W => hi r 0 ((n : Int) - 1) W
  have i2 := fun W => hi c 0 (gc - 1) W
  rw [e1.out] at i1
  rw [e2.out] at i2
  have hv : Hid (cellB gc n r c = (b1 && b2)) := by show _ = _; unfold cellB; rw [e1.out, e2.out]
  rw [hv.out]
  have hn1i : (1 : Int) ≤ (n : Int) := by omega
  have hni : (n : Int) ≤ 30 := by omega
  clear hi e1 e2 hv hn1 hn
  cases b1
  · go_enter Tryz.func61, Tryz.ntmps61
    go_wp2_with fail
    refine (i1 _).mono ?_
    rintro e w1 ⟨rfl, hw⟩
    subst hw
    go_wp2
    go_ret
    exact ⟨rfl, hb0⟩
  · go_enter Tryz.func61, Tryz.ntmps61
    go_wp2_with fail
    refine (i1 _).mono ?_
    rintro e w1 ⟨rfl, hw⟩
    subst hw
    go_wp2_with fail
    refine (i2 _).mono ?_
    rintro e w2 ⟨rfl, hw⟩
    subst hw
    go_wp2
    go_ret
    exact ⟨rfl, hb0⟩
set_option maxHeartbeats 8000000 in
set_option maxRecDepth 20000 in
theorem specTermOk_any (t : Te) (v : Tv) (w : World) (h : SlT w t v) (hz : SzT 1048576 t) :
    Calls Tryz.prog 25 #[teV t v] w fun e w' => e = .returned (.bool (termOkB t)) ∧ Below w.heap.size w w' := by
  obtain ⟨vg, vo, vti, vpp, vpt⟩ := v
  obtain ⟨hg, ho, hti, hpp, hpt⟩ := h
  simp only at hg ho hti hpp hpt
  obtain ⟨z1, z2, z3, z4, z5, z6, z7⟩ := hz
  obtain ⟨rv, hrv⟩ : ∃ rv, Hid (rv = termOkB t) := ⟨_, rfl⟩
  rw [← hrv.out]
  have hb0 := bal' w (Obj.cells (teCs t ⟨vg, vo, vti, vpp, vpt⟩) 45)
  have hB := TeB.new w 45 t ⟨vg, vo, vti, vpp, vpt⟩
  have cG := fun W hW => specGridOk_any t.gc vg t.g W hW z1 z2
  have cO := fun W hW => specGridOk_any t.oc vo t.o W hW z3 z4
  have cS := fun W => specStyleOk_any t.st W
  have cSs := fun W => specStyleOk_any t.ss W
  have cT := fun W hW => specRunes6_any vti t.ti 40 W hW (by omega) (by decide)
  have cP := fun W h1 h2 => specParserOk_any t.pa vpp vpt W h1 h2 (by omega) (by omega)
  have cF := fun W => specFeederOk_any t.fe W
  obtain ⟨bG, eG⟩ : ∃ b, Hid (gridOkB t.gc t.g = b) := ⟨_, rfl⟩
  obtain ⟨bO, eO⟩ : ∃ b, Hid (gridOkB t.oc t.o = b) := ⟨_, rfl⟩
  obtain ⟨bS, eS⟩ : ∃ b, Hid (t.st.ok = b) := ⟨_, rfl⟩
  obtain ⟨bSs, eSs⟩ : ∃ b, Hid (t.ss.ok = b) := ⟨_, rfl⟩
  obtain ⟨bT, eT⟩ : ∃ b, Hid ((decide (t.ti.length ≤ 40) && runesB t.ti) = b) := ⟨_, rfl⟩
  obtain ⟨bP, eP⟩ : ∃ b, Hid (okV t.pa = b) := ⟨_, rfl⟩
  obtain ⟨bF, eF⟩ : ∃ b, Hid (feedOk t.fe = b) := ⟨_, rfl⟩
  rw [eG.out] at cG
  rw [eO.out] at cO
  rw [eS.out] at cS
  rw [eSs.out] at cSs
  rw [eT.out] at cT
  rw [eP.out] at cP
  rw [eF.out] at cF
  obtain ⟨ga, gp, hq1⟩ := slG_shp hg
  obtain ⟨oa, op, hq2⟩ := slG_shp ho
  obtain ⟨tia, tip, hq3⟩ := hti.shp
  obtain ⟨ppa, ppp, hq4⟩ := hpp.shp
  obtain ⟨pta, ptp, hq5⟩ := hpt.shp
  subst hq1; subst hq2; subst hq3; subst hq4; subst hq5
  unfold teV gridV stV paV at *
  obtain ⟨w1, hw1⟩ : ∃ w1, w1 = w.alloc (Obj.cells (teCs t ⟨.slice ga t.g.length gp, .slice oa t.o.length op, .slice tia t.ti.length tip, .slice ppa t.pa.params.length ppp, .slice pta t.pa.text.length ptp⟩) 45) := ⟨_, rfl⟩
  rw [← hw1] at hB hb0
  replace hw1 := (show Hid _ from hw1)
  clear z1 z2 z3 z4 z5 z6 z7
  go_enter Tryz.func25, Tryz.ntmps25
  refine wp_seq_k (fun K hK => ?_)
  have hH := (show Hid _ from hK)
  clear hK
  go_wp2
  refine hH.out _ _ ?_
  rw [← hw1.out]
  clear hH hw1
  obtain ⟨c0, c1, c2, c3, c4, c5, c6, c7, c8, c9, c10, c11, c12, c13, c14, c15, c16, c17, c18, c19, c20, c21, c22, c23, c24, c25, c26, c27, c28, c29⟩ := hB.cells
  go_wp2_with fail
  refine (cG _ (hg.below hb0)).mono ?_
  rintro e w1 ⟨rfl, hb⟩
  have hb1 := hb0.trans (hb.mono hb0.size)
  replace hB := hB.below hb
  clear c0 c1 c2 c3 c4 c5 c6 c7 c8 c9 c10 c11 c12 c13 c14 c15 c16 c17 c18 c19 c20 c21 c22 c23 c24 c25 c26 c27 c28 c29
  clear hb hb0
  obtain ⟨c0, c1, c2, c3, c4, c5, c6, c7, c8, c9, c10, c11, c12, c13, c14, c15, c16, c17, c18, c19, c20, c21, c22, c23, c24, c25, c26, c27, c28, c29⟩ := hB.cells
  cases bG
  case false =>
    have hv : Hid (rv = false) := by show _ = _; rw [hrv.out]; unfold termOkB; simp [eG.out]
    go_wp2
    go_ret
    exact ⟨by rw [hv.out]; rfl, hb1⟩
  go_wp2_with fail
  refine (cO _ (ho.below hb1)).mono ?_
  rintro e w2 ⟨rfl, hb⟩
  have hb2 := hb1.trans (hb.mono hb1.size)
  replace hB := hB.below hb
  clear c0 c1 c2 c3 c4 c5 c6 c7 c8 c9 c10 c11 c12 c13 c14 c15 c16 c17 c18 c19 c20 c21 c22 c23 c24 c25 c26 c27 c28 c29
  clear hb hb1
  obtain ⟨c0, c1, c2, c3, c4, c5, c6, c7, c8, c9, c10, c11, c12, c13, c14, c15, c16, c17, c18, c19, c20, c21, c22, c23, c24, c25, c26, c27, c28, c29⟩ := hB.cells
  cases bO
  case false =>
    have hv : Hid (rv = false) := by show _ = _; rw [hrv.out]; unfold termOkB; simp [eG.out, eO.out]
    go_wp2
    go_ret
    exact ⟨by rw [hv.out]; rfl, hb2⟩
  obtain ⟨⟨hc1, hc2⟩, ⟨hn1, hn2⟩, _⟩ := (gridOk_iff t.gc t.g).1 eG.out
  have hn1i : (1 : Int) ≤ (t.g.length : Int) := by omega
  have hn2i : (t.g.length : Int) ≤ 30 := by omega
  by_cases q3 : t.gc = t.oc
  case neg =>
    have hv : Hid (rv = false) := by show _ = _; rw [hrv.out]; unfold termOkB; simp [q3]
    have q3b : (t.gc != t.oc) = true := by simp [q3]
    go_wp2
    go_ret
    exact ⟨by rw [hv.out]; rfl, hb2⟩
  have q3b : (t.gc != t.oc) = false := by simp [q3]
  have q3h := (show Hid _ from q3)
  clear q3
  by_cases q4 : t.g.length = t.o.length
  case neg =>
    have hv : Hid (rv = false) := by show _ = _; rw [hrv.out]; unfold termOkB; simp [q4]
    have q4b : ((t.g.length : Int) != (t.o.length : Int)) = true := by simp; omega
    clear q4
    go_wp2
    go_ret
    exact ⟨by rw [hv.out]; rfl, hb2⟩
  have q4b : ((t.g.length : Int) != (t.o.length : Int)) = false := by simp; omega
  have q4h := (show Hid _ from q4)
  clear q4
  have cC := fun W => l7Cell_any t.gc t.row t.col ga t.g.length gp W hc1 hc2 hn1 hn2
  have cD := fun W => l7Cell_any t.gc t.sr t.sc ga t.g.length gp W hc1 hc2 hn1 hn2
  have cI := fun W => l1In_any t.top 0 t.bot W
  obtain ⟨bC, eC⟩ : ∃ b, Hid (cellB t.gc t.g.length t.row t.col = b) := ⟨_, rfl⟩
  obtain ⟨bD, eD⟩ : ∃ b, Hid (cellB t.gc t.g.length t.sr t.sc = b) := ⟨_, rfl⟩
  obtain ⟨bI, eI⟩ : ∃ b, Hid (decide (0 ≤ t.top ∧ t.top ≤ t.bot) = b) := ⟨_, rfl⟩
  rw [eC.out] at cC
  rw [eD.out] at cD
  rw [eI.out] at cI
  go_wp2_with fail
  refine (cC _).mono ?_
  rintro e w3 ⟨rfl, hb⟩
  have hb3 := hb2.trans (hb.mono hb2.size)
  replace hB := hB.below hb
  clear c0 c1 c2 c3 c4 c5 c6 c7 c8 c9 c10 c11 c12 c13 c14 c15 c16 c17 c18 c19 c20 c21 c22 c23 c24 c25 c26 c27 c28 c29
  clear hb hb2
  obtain ⟨c0, c1, c2, c3, c4, c5, c6, c7, c8, c9, c10, c11, c12, c13, c14, c15, c16, c17, c18, c19, c20, c21, c22, c23, c24, c25, c26, c27, c28, c29⟩ := hB.cells
  cases bC
  case false =>
    have hv : Hid (rv = false) := by show _ = _; rw [hrv.out]; unfold termOkB; simp [eC.out]
    go_wp2
    go_ret
    exact ⟨by rw [hv.out]; rfl, hb3⟩
  go_wp2_with fail
  refine (cD _).mono ?_
  rintro e w4 ⟨rfl, hb⟩
  have hb4 := hb3.trans (hb.mono hb3.size)
  replace hB := hB.below hb
  clear c0 c1 c2 c3 c4 c5 c6 c7 c8 c9 c10 c11 c12 c13 c14 c15 c16 c17 c18 c19 c20 c21 c22 c23 c24 c25 c26 c27 c28 c29
  clear hb hb3
  obtain ⟨c0, c1, c2, c3, c4, c5, c6, c7, c8, c9, c10, c11, c12, c13, c14, c15, c16, c17, c18, c19, c20, c21, c22, c23, c24, c25, c26, c27, c28, c29⟩ := hB.cells
  cases bD
  case false =>
    have hv : Hid (rv = false) := by show _ = _; rw [hrv.out]; unfold termOkB; simp [eD.out]
    go_wp2
    go_ret
    exact ⟨by rw [hv.out]; rfl, hb4⟩
  go_wp2_with fail
  refine (cI _).mono ?_
  rintro e w5 ⟨rfl, hw⟩
  subst hw
  cases bI
  case false =>
    have hv : Hid (rv = false) := by
      have := of_decide_eq_false eI.out
      show _ = _; rw [hrv.out]; unfold termOkB
      rw [decide_eq_false (p := 0 ≤ t.top ∧ _) (by omega)]; simp
    go_wp2
    go_ret
    exact ⟨by rw [hv.out]; rfl, hb4⟩
  have q5 := of_decide_eq_true eI.out
  by_cases q6 : (t.g.length : Int) - 1 < t.bot
  case pos =>
    have hv : Hid (rv = false) := by
      show _ = _; rw [hrv.out]; unfold termOkB
      rw [decide_eq_false (p := 0 ≤ t.top ∧ _) (by omega)]; simp
    go_wp2
    go_ret
    exact ⟨by rw [hv.out]; rfl, hb4⟩
  by_cases q7 : t.top = t.bot
  case pos =>
    have q7b : (t.top == t.bot) = true := by simp [q7]
    by_cases q8 : 0 < (t.g.length : Int) - 1
    case pos =>
      have hv : Hid (rv = false) := by
        show _ = _; rw [hrv.out]; unfold termOkB
        rw [decide_eq_false (p := 0 ≤ t.top ∧ _) (by omega)]; simp
      clear q7
      go_wp2
      go_ret
      exact ⟨by rw [hv.out]; rfl, hb4⟩
    have q9 : Hid (0 ≤ t.top ∧ t.top ≤ t.bot ∧ t.bot ≤ (t.g.length : Int) - 1 ∧ ¬ (t.top = t.bot ∧ 0 < (t.g.length : Int) - 1)) := by show _ ∧ _; omega
    clear q7
    by_cases q10 : t.full = true ∧ t.col ≠ t.gc - 1
    case pos =>
      obtain ⟨qa, qb⟩ := q10
      have hv : Hid (rv = false) := by
        show _ = _; rw [hrv.out]; unfold termOkB
        rw [decide_eq_false (p := t.full = true → _) (fun h => qb (h qa))]; simp
      have qbb : (t.col != t.gc - 1) = true := by simp [qb]
      rw [qa] at c13
      clear qb qa
      go_wp2
      go_ret
      exact ⟨by rw [hv.out]; rfl, hb4⟩
    have q11 : Hid (t.full = true → t.col = t.gc - 1) := fun h => by
      by_cases hq : t.col = t.gc - 1
      · exact hq
      · exact absurd ⟨h, hq⟩ q10
    clear q10
    obtain ⟨fu, hfu⟩ : ∃ fu, Hid (t.full = fu) := ⟨_, rfl⟩
    rw [hfu.out] at c13
    cases fu
    case false =>
      go_wp2_with fail
      refine (cS _).mono ?_
      rintro e w6 ⟨rfl, hb⟩
      have hb6 := hb4.trans (hb.mono hb4.size)
      replace hB := hB.below hb
      clear c0 c1 c2 c3 c4 c5 c6 c7 c8 c9 c10 c11 c12 c13 c14 c15 c16 c17 c18 c19 c20 c21 c22 c23 c24 c25 c26 c27 c28 c29
      clear hb hb4
      obtain ⟨c0, c1, c2, c3, c4, c5, c6, c7, c8, c9, c10, c11, c12, c13, c14, c15, c16, c17, c18, c19, c20, c21, c22, c23, c24, c25, c26, c27, c28, c29⟩ := hB.cells
      cases bS
      case false =>
        have hv : Hid (rv = false) := by show _ = _; rw [hrv.out]; unfold termOkB; simp [eS.out]
        go_wp2
        go_ret
        exact ⟨by rw [hv.out]; rfl, hb6⟩
      go_wp2_with fail
      refine (cSs _).mono ?_
      rintro e w7 ⟨rfl, hb⟩
      have hb7 := hb6.trans (hb.mono hb6.size)
      replace hB := hB.below hb
      clear c0 c1 c2 c3 c4 c5 c6 c7 c8 c9 c10 c11 c12 c13 c14 c15 c16 c17 c18 c19 c20 c21 c22 c23 c24 c25 c26 c27 c28 c29
      clear hb hb6
      obtain ⟨c0, c1, c2, c3, c4, c5, c6, c7, c8, c9, c10, c11, c12, c13, c14, c15, c16, c17, c18, c19, c20, c21, c22, c23, c24, c25, c26, c27, c28, c29⟩ := hB.cells
      cases bSs
      case false =>
        have hv : Hid (rv = false) := by show _ = _; rw [hrv.out]; unfold termOkB; simp [eSs.out]
        go_wp2
        go_ret
        exact ⟨by rw [hv.out]; rfl, hb7⟩
      go_wp2_with fail
      refine (cT _ (hti.below hb7).l.sl).mono ?_
      rintro e w8 ⟨rfl, hw⟩
      subst hw
      cases bT
      case false =>
        have hv : Hid (rv = false) := by show _ = _; rw [hrv.out]; unfold termOkB; rw [eT.out]; simp
        go_wp2
        go_ret
        exact ⟨by rw [hv.out]; rfl, hb7⟩
      go_wp2_with fail
      refine (cP _ (hpp.below hb7).l.sl (hpt.below hb7).l.sl).mono ?_
      rintro e w9 ⟨rfl, hb⟩
      have hb9 := hb7.trans (hb.mono hb7.size)
      replace hB := hB.below hb
      clear c0 c1 c2 c3 c4 c5 c6 c7 c8 c9 c10 c11 c12 c13 c14 c15 c16 c17 c18 c19 c20 c21 c22 c23 c24 c25 c26 c27 c28 c29
      clear hb hb7
      obtain ⟨c0, c1, c2, c3, c4, c5, c6, c7, c8, c9, c10, c11, c12, c13, c14, c15, c16, c17, c18, c19, c20, c21, c22, c23, c24, c25, c26, c27, c28, c29⟩ := hB.cells
      cases bP
      case false =>
        have hv : Hid (rv = false) := by show _ = _; rw [hrv.out]; unfold termOkB; simp [eP.out]
        go_wp2
        go_ret
        exact ⟨by rw [hv.out]; rfl, hb9⟩
      go_wp2_with fail
      refine (cF _).mono ?_
      rintro e w10 ⟨rfl, hb⟩
      have hb10 := hb9.trans (hb.mono hb9.size)
      have hv : Hid (rv = bF) := by show _ = _; rw [hrv.out]; unfold termOkB; rw [eG.out, eO.out, decide_eq_true q3h.out, decide_eq_true q4h.out, eC.out, eD.out, decide_eq_true q9.out, decide_eq_true q11.out, eS.out, eSs.out, eT.out, eP.out, eF.out]; simp
      go_wp2
      go_ret
      exact ⟨by rw [hv.out]; rfl, hb10⟩
    case true =>
      have qbb : (t.col != t.gc - 1) = false := by simp [q11.out hfu.out]
      go_wp2_with fail
      refine (cS _).mono ?_
      rintro e w6 ⟨rfl, hb⟩
      have hb6 := hb4.trans (hb.mono hb4.size)
      replace hB := hB.below hb
      clear c0 c1 c2 c3 c4 c5 c6 c7 c8 c9 c10 c11 c12 c13 c14 c15 c16 c17 c18 c19 c20 c21 c22 c23 c24 c25 c26 c27 c28 c29
      clear hb hb4
      obtain ⟨c0, c1, c2, c3, c4, c5, c6, c7, c8, c9, c10, c11, c12, c13, c14, c15, c16, c17, c18, c19, c20, c21, c22, c23, c24, c25, c26, c27, c28, c29⟩ := hB.cells
      cases bS
      case false =>
        have hv : Hid (rv = false) := by show _ = _; rw [hrv.out]; unfold termOkB; simp [eS.out]
        go_wp2
        go_ret
        exact ⟨by rw [hv.out]; rfl, hb6⟩
      go_wp2_with fail
      refine (cSs _).mono ?_
      rintro e w7 ⟨rfl, hb⟩
      have hb7 := hb6.trans (hb.mono hb6.size)
      replace hB := hB.below hb
      clear c0 c1 c2 c3 c4 c5 c6 c7 c8 c9 c10 c11 c12 c13 c14 c15 c16 c17 c18 c19 c20 c21 c22 c23 c24 c25 c26 c27 c28 c29
      clear hb hb6
      obtain ⟨c0, c1, c2, c3, c4, c5, c6, c7, c8, c9, c10, c11, c12, c13, c14, c15, c16, c17, c18, c19, c20, c21, c22, c23, c24, c25, c26, c27, c28, c29⟩ := hB.cells
      cases bSs
      case false =>
        have hv : Hid (rv = false) := by show _ = _; rw [hrv.out]; unfold termOkB; simp [eSs.out]
        go_wp2
        go_ret
        exact ⟨by rw [hv.out]; rfl, hb7⟩
      go_wp2_with fail
      refine (cT _ (hti.below hb7).l.sl).mono ?_
      rintro e w8 ⟨rfl, hw⟩
      subst hw
      cases bT
      case false =>
        have hv : Hid (rv = false) := by show _ = _; rw [hrv.out]; unfold termOkB; rw [eT.out]; simp
        go_wp2
        go_ret
        exact ⟨by rw [hv.out]; rfl, hb7⟩
      go_wp2_with fail
      refine (cP _ (hpp.below hb7).l.sl (hpt.below hb7).l.sl).mono ?_
      rintro e w9 ⟨rfl, hb⟩
      have hb9 := hb7.trans (hb.mono hb7.size)
      replace hB := hB.below hb
      clear c0 c1 c2 c3 c4 c5 c6 c7 c8 c9 c10 c11 c12 c13 c14 c15 c16 c17 c18 c19 c20 c21 c22 c23 c24 c25 c26 c27 c28 c29
      clear hb hb7
      obtain ⟨c0, c1, c2, c3, c4, c5, c6, c7, c8, c9, c10, c11, c12, c13, c14, c15, c16, c17, c18, c19, c20, c21, c22, c23, c24, c25, c26, c27, c28, c29⟩ := hB.cells
      cases bP
      case false =>
        have hv : Hid (rv = false) := by show _ = _; rw [hrv.out]; unfold termOkB; simp [eP.out]
        go_wp2
        go_ret
        exact ⟨by rw [hv.out]; rfl, hb9⟩
      go_wp2_with fail
      refine (cF _).mono ?_
      rintro e w10 ⟨rfl, hb⟩
      have hb10 := hb9.trans (hb.mono hb9.size)
      have hv : Hid (rv = bF) := by show _ = _; rw [hrv.out]; unfold termOkB; rw [eG.out, eO.out, decide_eq_true q3h.out, decide_eq_true q4h.out, eC.out, eD.out, decide_eq_true q9.out, decide_eq_true q11.out, eS.out, eSs.out, eT.out, eP.out, eF.out]; simp
      go_wp2
      go_ret
      exact ⟨by rw [hv.out]; rfl, hb10⟩
  have q7b : (t.top == t.bot) = false := by simp [q7]
  have q9 : Hid (0 ≤ t.top ∧ t.top ≤ t.bot ∧ t.bot ≤ (t.g.length : Int) - 1 ∧ ¬ (t.top = t.bot ∧ 0 < (t.g.length : Int) - 1)) := by show _ ∧ _; omega
  by_cases q10 : t.full = true ∧ t.col ≠ t.gc - 1
  case pos =>
    obtain ⟨qa, qb⟩ := q10
    have hv : Hid (rv = false) := by
      show _ = _; rw [hrv.out]; unfold termOkB
      rw [decide_eq_false (p := t.full = true → _) (fun h => qb (h qa))]; simp
    have qbb : (t.col != t.gc - 1) = true := by simp [qb]
    rw [qa] at c13
    clear qb qa
    go_wp2
    go_ret
    exact ⟨by rw [hv.out]; rfl, hb4⟩
  have q11 : Hid (t.full = true → t.col = t.gc - 1) := fun h => by
    by_cases hq : t.col = t.gc - 1
    · exact hq
    · exact absurd ⟨h, hq⟩ q10
  clear q10
  obtain ⟨fu, hfu⟩ : ∃ fu, Hid (t.full = fu) := ⟨_, rfl⟩
  rw [hfu.out] at c13
  cases fu
  case false =>
    go_wp2_with fail
    refine (cS _).mono ?_
    rintro e w6 ⟨rfl, hb⟩
    have hb6 := hb4.trans (hb.mono hb4.size)
    replace hB := hB.below hb
    clear c0 c1 c2 c3 c4 c5 c6 c7 c8 c9 c10 c11 c12 c13 c14 c15 c16 c17 c18 c19 c20 c21 c22 c23 c24 c25 c26 c27 c28 c29
    clear hb hb4
    obtain ⟨c0, c1, c2, c3, c4, c5, c6, c7, c8, c9, c10, c11, c12, c13, c14, c15, c16, c17, c18, c19, c20, c21, c22, c23, c24, c25, c26, c27, c28, c29⟩ := hB.cells
    cases bS
    case false =>
      have hv : Hid (rv = false) := by show _ = _; rw [hrv.out]; unfold termOkB; simp [eS.out]
      go_wp2
      go_ret
      exact ⟨by rw [hv.out]; rfl, hb6⟩
    go_wp2_with fail
    refine (cSs _).mono ?_
    rintro e w7 ⟨rfl, hb⟩
    have hb7 := hb6.trans (hb.mono hb6.size)
    replace hB := hB.below hb
    clear c0 c1 c2 c3 c4 c5 c6 c7 c8 c9 c10 c11 c12 c13 c14 c15 c16 c17 c18 c19 c20 c21 c22 c23 c24 c25 c26 c27 c28 c29
    clear hb hb6
    obtain ⟨c0, c1, c2, c3, c4, c5, c6, c7, c8, c9, c10, c11, c12, c13, c14, c15, c16, c17, c18, c19, c20, c21, c22, c23, c24, c25, c26, c27, c28, c29⟩ := hB.cells
    cases bSs
    case false =>
      have hv : Hid (rv = false) := by show _ = _; rw [hrv.out]; unfold termOkB; simp [eSs.out]
      go_wp2
      go_ret
      exact ⟨by rw [hv.out]; rfl, hb7⟩
    go_wp2_with fail
    refine (cT _ (hti.below hb7).l.sl).mono ?_
    rintro e w8 ⟨rfl, hw⟩
    subst hw
    cases bT
    case false =>
      have hv : Hid (rv = false) := by show _ = _; rw [hrv.out]; unfold termOkB; rw [eT.out]; simp
      go_wp2
      go_ret
      exact ⟨by rw [hv.out]; rfl, hb7⟩
    go_wp2_with fail
    refine (cP _ (hpp.below hb7).l.sl (hpt.below hb7).l.sl).mono ?_
    rintro e w9 ⟨rfl, hb⟩
    have hb9 := hb7.trans (hb.mono hb7.size)
    replace hB := hB.below hb
    clear c0 c1 c2 c3 c4 c5 c6 c7 c8 c9 c10 c11 c12 c13 c14 c15 c16 c17 c18 c19 c20 c21 c22 c23 c24 c25 c26 c27 c28 c29
    clear hb hb7
    obtain ⟨c0, c1, c2, c3, c4, c5, c6, c7, c8, c9, c10, c11, c12, c13, c14, c15, c16, c17, c18, c19, c20, c21, c22, c23, c24, c25, c26, c27, c28, c29⟩ := hB.cells
    cases bP
    case false =>
      have hv : Hid (rv = false) := by show _ = _; rw [hrv.out]; unfold termOkB; simp [eP.out]
      go_wp2
      go_ret
      exact ⟨by rw [hv.out]; rfl, hb9⟩
    go_wp2_with fail
    refine (cF _).mono ?_
    rintro e w10 ⟨rfl, hb⟩
    have hb10 := hb9.trans (hb.mono hb9.size)
    have hv : Hid (rv = bF) := by show _ = _; rw [hrv.out]; unfold termOkB; rw [eG.out, eO.out, decide_eq_true q3h.out, decide_eq_true q4h.out, eC.out, eD.out, decide_eq_true q9.out, decide_eq_true q11.out, eS.out, eSs.out, eT.out, eP.out, eF.out]; simp
    go_wp2
    go_ret
    exact ⟨by rw [hv.out]; rfl, hb10⟩
  case true =>
    have qbb : (t.col != t.gc - 1) = false := by simp [q11.out hfu.out]
    go_wp2_with fail
    refine (cS _).mono ?_
    rintro e w6 ⟨rfl, hb⟩
    have hb6 := hb4.trans (hb.mono hb4.size)
    replace hB := hB.below hb
    clear c0 c1 c2 c3 c4 c5 c6 c7 c8 c9 c10 c11 c12 c13 c14 c15 c16 c17 c18 c19 c20 c21 c22 c23 c24 c25 c26 c27 c28 c29
    clear hb hb4
    obtain ⟨c0, c1, c2, c3, c4, c5, c6, c7, c8, c9, c10, c11, c12, c13, c14, c15, c16, c17, c18, c19, c20, c21, c22, c23, c24, c25, c26, c27, c28, c29⟩ := hB.cells
    cases bS
    case false =>
      have hv : Hid (rv = false) := by show _ = _; rw [hrv.out]; unfold termOkB; simp [eS.out]
      go_wp2
      go_ret
      exact ⟨by rw [hv.out]; rfl, hb6⟩
    go_wp2_with fail
    refine (cSs _).mono ?_
    rintro e w7 ⟨rfl, hb⟩
    have hb7 := hb6.trans (hb.mono hb6.size)
    replace hB := hB.below hb
    clear c0 c1 c2 c3 c4 c5 c6 c7 c8 c9 c10 c11 c12 c13 c14 c15 c16 c17 c18 c19 c20 c21 c22 c23 c24 c25 c26 c27 c28 c29
    clear hb hb6
    obtain ⟨c0, c1, c2, c3, c4, c5, c6, c7, c8, c9, c10, c11, c12, c13, c14, c15, c16, c17, c18, c19, c20, c21, c22, c23, c24, c25, c26, c27, c28, c29⟩ := hB.cells
    cases bSs
    case false =>
      have hv : Hid (rv = false) := by show _ = _; rw [hrv.out]; unfold termOkB; simp [eSs.out]
      go_wp2
      go_ret
      exact ⟨by rw [hv.out]; rfl, hb7⟩
    go_wp2_with fail
    refine (cT _ (hti.below hb7).l.sl).mono ?_
    rintro e w8 ⟨rfl, hw⟩
    subst hw
    cases bT
    case false =>
      have hv : Hid (rv = false) := by show _ = _; rw [hrv.out]; unfold termOkB; rw [eT.out]; simp
      go_wp2
      go_ret
      exact ⟨by rw [hv.out]; rfl, hb7⟩
    go_wp2_with fail
    refine (cP _ (hpp.below hb7).l.sl (hpt.below hb7).l.sl).mono ?_
    rintro e w9 ⟨rfl, hb⟩
    have hb9 := hb7.trans (hb.mono hb7.size)
    replace hB := hB.below hb
    clear c0 c1 c2 c3 c4 c5 c6 c7 c8 c9 c10 c11 c12 c13 c14 c15 c16 c17 c18 c19 c20 c21 c22 c23 c24 c25 c26 c27 c28 c29
    clear hb hb7
    obtain ⟨c0, c1, c2, c3, c4, c5, c6, c7, c8, c9, c10, c11, c12, c13, c14, c15, c16, c17, c18, c19, c20, c21, c22, c23, c24, c25, c26, c27, c28, c29⟩ := hB.cells
    cases bP
    case false =>
      have hv : Hid (rv = false) := by show _ = _; rw [hrv.out]; unfold termOkB; simp [eP.out]
      go_wp2
      go_ret
      exact ⟨by rw [hv.out]; rfl, hb9⟩
    go_wp2_with fail
    refine (cF _).mono ?_
    rintro e w10 ⟨rfl, hb⟩
    have hb10 := hb9.trans (hb.mono hb9.size)
    have hv : Hid (rv = bF) := by show _ = _; rw [hrv.out]; unfold termOkB; rw [eG.out, eO.out, decide_eq_true q3h.out, decide_eq_true q4h.out, eC.out, eD.out, decide_eq_true q9.out, decide_eq_true q11.out, eS.out, eSs.out, eT.out, eP.out, eF.out]; simp
    go_wp2
    go_ret
    exact ⟨by rw [hv.out]; rfl, hb10⟩
end Go.Proofs.YtdbpjfdlibodcaaGreatDoor
namespace Go.Proofs.YtdbpjfdlibodcaaGreatDoor
open Go.ChangeShapes Go.WideShapes Go.ChangeAt Go.RowKit
def refitT (t : Te) (cols n : Int) : Te := if decide (newOk cols n) && termOkB t then refitM t cols.toNat n.toNat else teZ
/-- What a right screen's numbers are. -/
theorem termOk_sizes {t : Te} (h : termOkB t = true) : ∃ gc : Nat, t.gc = gc ∧ t.oc = gc ∧ gridOkB (gc : Int) t.g = true ∧ gridOkB (gc : Int) t.o = true ∧ (0 ≤ t.row ∧ t.row ≤ 30) ∧ RtT t := by
  unfold termOkB cellB okV at h
  simp only [Bool.and_eq_true, decide_eq_true_eq] at h
  obtain ⟨⟨h1, h2, h3, h4⟩, ⟨⟨⟨r1, r2⟩, r3⟩, _⟩, _, _, _, ⟨h5, _⟩, ⟨⟨⟨_, _, h6, _, h7, _⟩, _⟩, _⟩, _⟩ := h
  have q := ((gridOk_iff _ _).1 h1).1
  obtain ⟨gc, hgc⟩ : ∃ k : Nat, t.gc = k := ⟨t.gc.toNat, by omega⟩
  have hoc : t.oc = gc := by rw [← h3, hgc]
  rw [hgc] at h1
  rw [hoc] at h2
  obtain ⟨⟨g1, g2⟩, gl, gx⟩ := gridOk_rows h1
  obtain ⟨_, ol, ox⟩ := gridOk_rows h2
  exact ⟨gc, hgc, hoc, h1, h2, ⟨r1, by omega⟩, gl, fun i hi => by rw [(gx i hi).1]; exact ⟨g1, g2⟩, ol, fun i hi => by rw [(ox i hi).1]; exact ⟨g1, g2⟩, h5, h6, h7⟩
theorem ownU_zero (w : World) (b : Nat) (hb : b ≤ w.heap.size) : OwnU w b teZ (tvN (.slice none 0 0) (.slice none 0 0)) :=
  ⟨b, b, b, (LiOk.nil _ _).nilc.nilc.nilc, fun p hp g e => by
    simp only [tvN, List.mem_cons, List.not_mem_nil, or_false] at hp
    rcases hp with rfl | rfl | rfl <;> simp [Value.ownBlock] at e, ownR_none w b hb, ownR_none w b hb, Nat.le_refl _, Nat.le_refl _, Nat.le_refl _, hb⟩
theorem OwnU.low {w : World} {base base' : Nat} {t : Te} {v : Tv} (h : OwnU w base t v) (hb : base' ≤ base) : OwnU w base' t v := by
  obtain ⟨b1, b2, b3, h1, h2, h3, h4, h5, h6⟩ := h
  exact ⟨b1, b2, b3, h1.low hb, h2, h3, h4, by omega, h6⟩
theorem OwnU.sl {w : World} {base : Nat} {t : Te} {v : Tv} (h : OwnU w base t v) : SlT w t v := by
  obtain ⟨b1, b2, b3, h1, _, h2, h3, _⟩ := h
  exact ⟨h2.sl, h3.sl, SlN.of_own h1.head, SlN.of_own h1.tail.head, SlN.of_own h1.tail.tail.head⟩
theorem OwnU.grown {w w' : World} {base B : Nat} {t : Te} {v : Tv} {cs : List Value} (h : OwnU w base t v) (hg : w.grownBy w' (some B)) (hB : B < base) (hT : TB w B cs) : OwnU w' base t v := by
  obtain ⟨b1, b2, b3, h1, h2, h3, h4, h5, h6, h7, h8⟩ := h
  exact ⟨b1, b2, b3, h1.kept hg (fun p hp => .inr ((h1.1 p hp).not_block hT (by decide))), h2, h3.grown hg (by omega), h4.grown hg (by omega), h5, h6, h7, Nat.le_trans h8 hg.size⟩
set_option maxHeartbeats 16000000 in
set_option maxRecDepth 20000 in
theorem specRefit_any (t : Te) (v : Tv) (cols n : Int) (w : World) (h : SlT w t v) (hz : SzT 1048576 t) :
    Calls Tryz.prog 19 #[.agg (teCs t v), .int .i64 cols, .int .i64 n] w fun e w' => ∃ v', e = .returned (.agg (teCs (refitT t cols n) v')) ∧ OwnU w' w.heap.size (refitT t cols n) v' ∧ Below w.heap.size w w' := by
  have cN := fun W => specNewGrid_any cols n W
  obtain ⟨g0, q1⟩ : ∃ x, Hid ((if newOk cols n then cols else 0) = x) := ⟨_, rfl⟩
  obtain ⟨G0, q2⟩ : ∃ x, Hid ((if newOk cols n then newR cols.toNat n.toNat else []) = x) := ⟨_, rfl⟩
  obtain ⟨b1, q3⟩ : ∃ x, Hid (decide (newOk cols n) = x) := ⟨_, rfl⟩
  rw [q1.out, q2.out, q3.out] at cN
  unfold gridV at cN
  have cT := fun W hW => specTermOk_any t v W hW hz
  obtain ⟨b2, q4⟩ : ∃ x, Hid (termOkB t = x) := ⟨_, rfl⟩
  rw [q4.out] at cT
  unfold teV at cT
  have hV : Hid (refitT t cols n = if b1 && b2 then refitM t cols.toNat n.toNat else teZ) := by show _ = _; unfold refitT; rw [q3.out, q4.out]
  rw [hV.out]
  have cR : Hid (b1 = true → b2 = true → ∀ W, SlT W t v → Calls Tryz.prog 54 #[.agg (teCs t v), .int .i64 cols, .int .i64 n] W fun e w' => ∃ v', e = .returned (.agg (teCs (refitM t cols.toNat n.toNat) v')) ∧ OwnU w' W.heap.size (refitM t cols.toNat n.toNat) v' ∧ Below W.heap.size W w') := by
    intro e1 e2 W hW
    obtain ⟨gc, f1, f2, f3, f4, f5, f6⟩ := termOk_sizes (q4.out.trans e2)
    have hnw := of_decide_eq_true (q3.out.trans e1)
    unfold newOk at hnw
    have := l7Refit_any gc cols.toNat n.toNat t v W hW f6 f1 f2 f3 f4 (by omega) (by omega) f5
    rw [show ((cols.toNat : Nat) : Int) = cols by omega, show ((n.toNat : Nat) : Int) = n by omega] at this
    exact this
  have hS : Hid (SlT w t v) := h
  have hb1 := bal' w (Obj.cells (teCs t v) 45)
  have hb2 := bal' (w.alloc (Obj.cells (teCs t v) 45)) (Obj.cells #[.int .i64 0, .slice none 0 0, .int .i64 0, .slice none 0 0, .int .i64 0, .int .i64 0, .int .i64 0, .int .i64 0, .bool false, .bool false, .bool false, .int .i64 0, .int .i64 0, .bool false, .bool false, .bool false, .bool false, .int .i64 0, .int .i64 0, .int .i64 0, .int .i64 0, .bool false, .bool false, .bool false, .slice none 0 0, .int .i64 0, .slice none 0 0, .int .i64 0, .slice none 0 0, .string ⟨#[]⟩] 45)
  have hB := (TB.new w (teCs t v).toList).below hb2
  have hR := TB.new (w.alloc (Obj.cells (teCs t v) 45)) [.int .i64 0, .slice none 0 0, .int .i64 0, .slice none 0 0, .int .i64 0, .int .i64 0, .int .i64 0, .int .i64 0, .bool false, .bool false, .bool false, .int .i64 0, .int .i64 0, .bool false, .bool false, .bool false, .bool false, .int .i64 0, .int .i64 0, .int .i64 0, .int .i64 0, .bool false, .bool false, .bool false, .slice none 0 0, .int .i64 0, .slice none 0 0, .int .i64 0, .slice none 0 0, .string ⟨#[]⟩]
  have kb := hb1.trans (hb2.mono hb1.size)
  rw [show (w.alloc (Obj.cells (teCs t v) 45)).heap.size = w.heap.size + 1 by simp] at hR
  obtain ⟨w2, hw2⟩ : ∃ w2, w2 = (w.alloc (Obj.cells (teCs t v) 45)).alloc (Obj.cells #[.int .i64 0, .slice none 0 0, .int .i64 0, .slice none 0 0, .int .i64 0, .int .i64 0, .int .i64 0, .int .i64 0, .bool false, .bool false, .bool false, .int .i64 0, .int .i64 0, .bool false, .bool false, .bool false, .bool false, .int .i64 0, .int .i64 0, .int .i64 0, .int .i64 0, .bool false, .bool false, .bool false, .slice none 0 0, .int .i64 0, .slice none 0 0, .int .i64 0, .slice none 0 0, .string ⟨#[]⟩] 45) := ⟨_, rfl⟩
  have hX : TeB w2 w.heap.size 45 t v := by rw [hw2]; exact hB
  rw [← hw2] at hR kb
  have zs2 : w2.heap.size = w.heap.size + 2 := by rw [hw2]; simp
  replace hw2 := (show Hid _ from hw2)
  clear hB hb1 hb2 q1 q2 q3 q4 hV h hz
  go_enter Tryz.func19, Tryz.ntmps19
  refine wp_seq_k (fun K hK => ?_)
  have hH := (show Hid _ from hK)
  clear hK
  go_wp2
  refine hH.out _ _ ?_
  rw [← hw2.out]
  clear hH hw2
  go_wp2_with fail
  refine (cN _).mono ?_
  rintro e w3 ⟨u1, rfl, ho1, hb⟩
  obtain ⟨xa, xn, xc, hx⟩ := slShp (SlG.of_own ho1)
  subst hx
  have hal := bal' w3 (Obj.cells #[.int .i64 g0, .slice xa xn xc] 40)
  replace hb := hb.trans (hal.mono hb.size)
  replace hX := hX.below hb
  replace hR := hR.below hb
  replace kb := kb.trans (hb.mono kb.size)
  clear hal ho1 hb cN
  cases b1
  · go_wp2_with (refine store_T (cs := teCs teZ (tvN (.slice none 0 0) (.slice none 0 0))) (by rfl) 45 _ _ (by rfl) info_te (by rfl) (by rfl) hR (by rfl) (by rfl) ?_; intro w4 hg hR4 hz4)
    have s4 : w.heap.size ≤ w4.heap.size := by rw [hz4]; exact kb.size
    exact bodyPost_ret (v := .agg (teCs teZ (tvN (.slice none 0 0) (.slice none 0 0)))) (results_cell_row Tryz.results19 _ _ _ _ _ _ _ rfl hR4 Tryz.underlying45 rfl info_te) rfl ⟨_, rfl, ownU_zero w4 _ s4, kb.grown hg kb.size (fun g e => by cases e; omega)⟩
  · replace cR := (show Hid _ from cR.out rfl)
    go_wp2_with (refine load_te hX (by rfl) _ (by rfl) (by rfl) ?_)
    refine (cT _ (SlT.below hS.out kb)).mono ?_
    rintro e w5 ⟨rfl, hb⟩
    replace hX := hX.below hb
    replace hR := hR.below hb
    replace kb := kb.trans (hb.mono kb.size)
    clear hb cT
    cases b2
    · go_wp2_with (refine store_T (cs := teCs teZ (tvN (.slice none 0 0) (.slice none 0 0))) (by rfl) 45 _ _ (by rfl) info_te (by rfl) (by rfl) hR (by rfl) (by rfl) ?_; intro w4 hg hR4 hz4)
      have s4 : w.heap.size ≤ w4.heap.size := by rw [hz4]; exact kb.size
      exact bodyPost_ret (v := .agg (teCs teZ (tvN (.slice none 0 0) (.slice none 0 0)))) (results_cell_row Tryz.results19 _ _ _ _ _ _ _ rfl hR4 Tryz.underlying45 rfl info_te) rfl ⟨_, rfl, ownU_zero w4 _ s4, kb.grown hg kb.size (fun g e => by cases e; omega)⟩
    · replace cR : ∀ W, SlT W t v → Calls Tryz.prog 54 #[.agg (teCs t v), .int .i64 cols, .int .i64 n] W fun e w' => ∃ v', e = .returned (.agg (teCs (refitM t cols.toNat n.toNat) v')) ∧ OwnU w' W.heap.size (refitM t cols.toNat n.toNat) v' ∧ Below W.heap.size W w' := fun W hW => cR.out rfl W hW
      go_wp2_with (refine load_te hX (by rfl) _ (by rfl) (by rfl) ?_)
      refine (cR _ (SlT.below hS.out kb)).mono ?_
      rintro e w6 ⟨v', rfl, hO, hb⟩
      have s5 : w.heap.size + 1 < w5.heap.size := hR.lt
      have hon := hO.sl.one
      replace hR := hR.below hb
      replace kb := kb.trans (hb.mono kb.size)
      clear hb cR hX
      go_wp2_with (refine store_T (cs := teCs (refitM t cols.toNat n.toNat) v') (by rfl) 45 _ _ (by rfl) info_te (by rfl) hon hR (by rfl) (by rfl) ?_; intro w7 hg hR7 hz7)
      exact bodyPost_ret (v := .agg (teCs (refitM t cols.toNat n.toNat) v')) (results_cell_row Tryz.results19 _ _ _ _ _ _ _ rfl hR7 Tryz.underlying45 rfl info_te) rfl ⟨_, rfl, (hO.grown hg (by omega) hR).low (by omega), kb.grown hg kb.size (fun g e => by cases e; omega)⟩
end Go.Proofs.YtdbpjfdlibodcaaGreatDoor
namespace Go.Proofs.YtdbpjfdlibodcaaGreatDoor
open Go.ChangeShapes Go.WideShapes Go.ChangeAt Go.RowKit
theorem cut_any (g n cap f t : Nat) (w : World) (hft : f < t) (ht : t ≤ n) (hc : n ≤ cap) :
    Calls Tryz.prog 177 #[.slice (some ⟨g, 0, none⟩) n cap, .int .i64 f, .int .i64 t] w fun e w' => e = .returned (.slice (some ⟨g, f * 7, none⟩) (t - f) (t - f)) ∧ w' = w := by
  have h1 : (f : Int) ≤ (t : Int) := by omega
  have h0 : (0 : Int) ≤ (f : Int) := by omega
  have h2 : (t : Int) ≤ (cap : Int) := by omega
  have h3 : ¬ (t - f = 0) := by omega
  go_enter Tryz.func177, Tryz.ntmps177
  go_wp2
  go_ret
  exact ⟨rfl, rfl⟩
end Go.Proofs.YtdbpjfdlibodcaaGreatDoor
namespace Go.Proofs.YtdbpjfdlibodcaaGreatDoor
open Go.ChangeShapes Go.WideShapes Go.ChangeAt Go.RowKit
/-- A row of this call's own, and nothing else has changed. -/
def PW (base g n cap : Nat) (L : List Ce) (w0 W : World) : Prop := OwnC W base (.slice (some ⟨g, 0, none⟩) n cap) L ∧ w0.grownBy W (some g)
theorem PW.below {base g n cap : Nat} {L : List Ce} {w0 W W' : World} (k : PW base g n cap L w0 W) (hb : Below W.heap.size W W') : PW base g n cap L w0 W' :=
  ⟨k.1.below hb, grown_tr k.2 (gbl hb _)⟩
theorem PW.own {base g n cap : Nat} {L L' : List Ce} {w0 W W' : World} (k : PW base g n cap L w0 W) (h : OwnC W' base (.slice (some ⟨g, 0, none⟩) n cap) L') (hg : W.grownBy W' (some g)) : PW base g n cap L' w0 W' :=
  ⟨h, grown_tr k.2 hg⟩
set_option maxHeartbeats 4000000 in
set_option maxRecDepth 20000 in
theorem part_any (base g n cap p : Nat) (L : List Ce) (w : World) (h : OwnC w base (.slice (some ⟨g, 0, none⟩) n cap) L) (hn : L.length = n) (hR : Right L) (hp : p ≤ n) (hl : n ≤ 1000) :
    Calls Tryz.prog 113 #[.slice (some ⟨g, 0, none⟩) n cap, .int .i64 p] w fun e w' => e = .returned (.tuple #[]) ∧ OwnC w' base (.slice (some ⟨g, 0, none⟩) n cap) (partW L p) ∧ w.grownBy w' (some g) := by
  have hp0 : (0 : Int) ≤ (p : Int) := by omega
  obtain ⟨_, _, _, hnc, _⟩ := h.cur hn
  have hG : ∀ W, w.grownBy W (some g) → w.heap.size ≤ W.heap.size := fun W h => h.size
  by_cases hpn : p < n
  · have hpi : (p : Int) < (n : Int) := by omega
    have hat := h.at hn p hpn
    obtain ⟨c0, c1, c2, c3, c4, c5, c6⟩ := hat
    by_cases h2 : (atC L p).part = 2
    · have b2 : ((atC L p).part == 2) = true := by simp [h2]
      obtain ⟨q0, q1, q2, q3⟩ := hR.two h2
      have hV : Hid (partW L p = fillUp L (p - 1) (p - 1 + 2) (atC L p).st) := by show _ = _; unfold partW; rw [if_pos h2, show p - 1 + 2 = p + 1 by omega]
      have hcut := fun W => cut_any g n cap (p - 1) (p + 1) W (by omega) (by omega) hnc
      have e1 : ((p - 1 : Nat) : Int) = (p : Int) - 1 := by omega
      have e2 : ((p + 1 : Nat) : Int) = (p : Int) + 1 := by omega
      have e3 : p + 1 - (p - 1) = 2 := by omega
      rw [e1, e2, e3] at hcut
      have hbo : ∀ W, OwnC W base (.slice (some ⟨g, 0, none⟩) n cap) L → Calls Tryz.prog 176 #[.slice (some ⟨g, (p - 1) * 7, none⟩) 2 2, stV (atC L p).st] W fun e w' => e = .returned (.tuple #[]) ∧ (w'.cell? ⟨g, p * 7 + 1, none⟩ = some (.int .i64 (atC L p).st.fore) ∧ w'.cell? ⟨g, p * 7 + 2, none⟩ = some (.int .i64 (atC L p).st.back) ∧ w'.cell? ⟨g, p * 7 + 3, none⟩ = some (.bool (atC L p).st.bold) ∧ w'.cell? ⟨g, p * 7 + 4, none⟩ = some (.bool (atC L p).st.under) ∧ w'.cell? ⟨g, p * 7 + 5, none⟩ = some (.bool (atC L p).st.turned)) ∧ OwnC w' base (.slice (some ⟨g, 0, none⟩) n cap) (fillUp L (p - 1) (p - 1 + 2) (atC L p).st) ∧ W.grownBy w' (some g) := fun W hW =>
        (blankOut_any base g n cap (p - 1) 2 2 ((p - 1) * 7) L (atC L p).st W hW hn (by omega) (by omega) hl rfl).mono fun e w' ⟨he, ho, hg⟩ => by
          have hz := ho.at (by rw [fillUp_len]; exact hn) p hpn
          rw [fill_at _ _ _ _ _ (by omega), if_pos (by omega)] at hz
          exact ⟨he, ⟨hz.2.1, hz.2.2.1, hz.2.2.2.1, hz.2.2.2.2.1, hz.2.2.2.2.2.1⟩, ho, hg⟩
      have hd := h.below (bdr w)
      have hgd : w.grownBy w.drew (some g) := gbl (bdr w) _
      have hcd : w.drew.cell? ⟨g, p * 7 + 1, none⟩ = some (.int .i64 (atC L p).st.fore) ∧ w.drew.cell? ⟨g, p * 7 + 2, none⟩ = some (.int .i64 (atC L p).st.back) ∧ w.drew.cell? ⟨g, p * 7 + 3, none⟩ = some (.bool (atC L p).st.bold) ∧ w.drew.cell? ⟨g, p * 7 + 4, none⟩ = some (.bool (atC L p).st.under) ∧ w.drew.cell? ⟨g, p * 7 + 5, none⟩ = some (.bool (atC L p).st.turned) := ⟨c1, c2, c3, c4, c5⟩
      have hw1 : IntKind.i64.wrap ((p : Int) - 1) = (p : Int) - 1 := by simp [IntKind.wrap_i64]; omega
      have hw2 : IntKind.i64.wrap ((p : Int) + 1) = (p : Int) + 1 := by simp [IntKind.wrap_i64]; omega
      unfold stV at hbo
      clear e1 e2 e3 h2 q3 q2 hR
      go_enter Tryz.func113, Tryz.ntmps113
      go_wp2
      clear h c0 c1 c2 c3 c4 c5 c6
      go_region_held3 (fun W => W.cell? ⟨g, p * 7 + 1, none⟩ = some (.int .i64 (atC L p).st.fore) ∧ W.cell? ⟨g, p * 7 + 2, none⟩ = some (.int .i64 (atC L p).st.back) ∧ W.cell? ⟨g, p * 7 + 3, none⟩ = some (.bool (atC L p).st.bold) ∧ W.cell? ⟨g, p * 7 + 4, none⟩ = some (.bool (atC L p).st.under) ∧ W.cell? ⟨g, p * 7 + 5, none⟩ = some (.bool (atC L p).st.turned)) (first | with_reducible assumption)
        (first
          | (go_at_call 177; refine (hcut _).mono ?_; rintro e wk ⟨rfl, hwk⟩; subst hwk)
          | (go_at_call 176; refine (hbo _ hd).mono ?_; rintro e wz ⟨rfl, hcz, ho, hg⟩))
      refine bodyPost_end (results_none rfl _ _ _) rfl ?_
      exact ⟨rfl, by rw [hV.out]; exact ho, grown_tr hgd hg⟩
    · have b2 : ((atC L p).part == 2) = false := by simp [h2]
      have hV : Hid (partW L p = L) := by show _ = _; unfold partW; rw [if_neg h2]
      clear h2 hR
      go_enter Tryz.func113, Tryz.ntmps113
      go_wp2
      refine bodyPost_end (results_none rfl _ _ _) rfl ?_
      exact ⟨rfl, by rw [hV.out]; exact h, World.grownBy.refl _ _⟩
  · have hpi : ¬ (p : Int) < (n : Int) := by omega
    have hV : Hid (partW L p = L) := by show _ = _; unfold partW; rw [atC_ge (by omega), if_neg (by decide)]
    clear hR
    go_enter Tryz.func113, Tryz.ntmps113
    go_wp2
    refine bodyPost_end (results_none rfl _ _ _) rfl ?_
    exact ⟨rfl, by rw [hV.out]; exact h, World.grownBy.refl _ _⟩
end Go.Proofs.YtdbpjfdlibodcaaGreatDoor
namespace Go.Proofs.YtdbpjfdlibodcaaGreatDoor
open Go.ChangeShapes Go.WideShapes Go.ChangeAt Go.RowKit
theorem res_way {X : List Ce} (h : Right X) (cn : Nat) : windL (rowL cn St.zero) 0 ((partW X cn).take (min cn X.length)) = mendV (X.take (min cn X.length)) ++ rowL (cn - (mendV (X.take (min cn X.length))).length) St.zero := by
  have hl1 : ((partW X cn).take (min cn X.length)).length = min cn X.length := by rw [List.length_take, partW_len]; omega
  have hl2 : (mendV (X.take (min cn X.length))).length = min cn X.length := by rw [mendV_len, List.length_take]; omega
  refine ext_atC _ _ ?_ fun i hi => ?_
  · rw [windL_len _ _ _ (by rw [hl1, rowL_len]; omega), rowL_len, List.length_append, hl2, rowL_len]; omega
  · rw [windL_len _ _ _ (by rw [hl1, rowL_len]; omega), rowL_len] at hi
    rw [windL_at _ _ _ (by rw [hl1, rowL_len]; omega), hl1, app_at, hl2]
    by_cases c : i < min cn X.length
    · rw [if_pos (by omega), if_pos c, atC_take _ _ _ (by omega), Nat.sub_zero, partW_at h, mendT h _ _ c]
      by_cases d : cn ≤ X.length
      · rw [Nat.min_eq_left d]
        by_cases e : (atC X cn).part = 2 ∧ i + 1 = cn
        · rw [if_pos ⟨e.1, .inl e.2⟩, if_pos e]
        · rw [if_neg (by intro x; exact e ⟨x.1, by omega⟩), if_neg e]
      · rw [Nat.min_eq_right (by omega), atC_ge (show X.length ≤ cn by omega), atC_ge (Nat.le_refl X.length)]
        simp [Ce.zero]
    · rw [if_neg (by omega), if_neg c, rowL_at _ _ _ hi, rowL_at _ _ _ (by omega)]
set_option maxRecDepth 20000 in
theorem part_out (base g n cap p : Nat) (L : List Ce) (w : World) (h : OwnC w base (.slice (some ⟨g, 0, none⟩) n cap) L) (hn : L.length = n) (hp : n ≤ p) :
    Calls Tryz.prog 113 #[.slice (some ⟨g, 0, none⟩) n cap, .int .i64 (p : Int)] w fun e w' => e = .returned (.tuple #[]) ∧ OwnC w' base (.slice (some ⟨g, 0, none⟩) n cap) (partW L p) ∧ w.grownBy w' (some g) := by
  have hlt : ¬ (p : Int) < (n : Int) := by omega
  have hW : Hid (partW L p = L) := by
    show _ = _
    unfold partW
    rw [atC_ge (by omega), if_neg (by decide)]
  go_enter Tryz.func113, Tryz.ntmps113
  go_wp2
  refine bodyPost_end (results_none rfl _ _ _) rfl ?_
  exact ⟨rfl, by rw [hW.out]; exact h, World.grownBy.refl _ _⟩
theorem part_all (base g n cap p : Nat) (L : List Ce) (w : World) (h : OwnC w base (.slice (some ⟨g, 0, none⟩) n cap) L) (hn : L.length = n) (hR : Right L) (hl : n ≤ 1000) :
    Calls Tryz.prog 113 #[.slice (some ⟨g, 0, none⟩) n cap, .int .i64 (p : Int)] w fun e w' => e = .returned (.tuple #[]) ∧ OwnC w' base (.slice (some ⟨g, 0, none⟩) n cap) (partW L p) ∧ w.grownBy w' (some g) := by
  by_cases c : n ≤ p
  · exact part_out base g n cap p L w h hn c
  · exact part_any base g n cap p L w h hn hR (by omega) hl
theorem OwnV.gr {lo hi base B : Nat} {w w' : World} {v : Value} {vs : List Value} {rows : List (List Ce)} (h : OwnV w base B v vs rows) (hv : ∀ g, v.ownBlock = some g → g < B) (hg : GrB lo hi w w') (hne : B ≤ lo ∨ hi ≤ base) : OwnV w' base B v vs rows := by
  obtain ⟨hl, ho, hr, hB, hd⟩ := h
  refine ⟨hl, World.ownsRow.gr ho hg (fun g e => ?_), fun i hi => (hr i hi).gr hg (fun g e => ?_), hB, hd⟩
  · have := hv g e; have := (ho.lt g e).1; omega
  · have := hB i hi g e; have := ((hr i hi).lt g e).1; omega
/-- A slice of rows cut at its head. -/
theorem SlG.drop {w : World} {b off n c : Nat} {rows : List (List Ce)} (h : SlG w (.slice (some ⟨b, off, none⟩) n c) rows) (k : Nat) (hk : k < n) : SlG w (.slice (some ⟨b, off + k, none⟩) (n - k) (c - k)) (rows.drop k) := by
  obtain ⟨a, c', vs, hv, hc, hn, hr, hs⟩ := h
  simp only [Value.slice.injEq] at hv
  obtain ⟨rfl, hnl, rfl⟩ := hv
  subst hnl
  have hx : ∀ i, i < rows.length - k → rowX (rows.drop k) i = rowX rows (k + i) := fun i hi => by simp [rowX, List.getD]
  have hvv : ∀ i, rowV (vs.drop k) i = rowV vs (k + i) := fun i => by simp [rowV, List.getD]
  rcases hr with hr | ⟨b', off', hab, hlt, hi⟩
  · rw [hr] at hk; simp at hk
  · simp only [Option.some.injEq, Addr.mk.injEq, and_true] at hab
    obtain ⟨rfl, rfl⟩ := hab
    refine ⟨_, c - k, vs.drop k, by rw [List.length_drop], by rw [List.length_drop]; omega, (fun e => by cases e), .inr ⟨b, off + k, rfl, hlt, fun i h2 => ?_⟩, fun i h2 => ?_⟩
    · rw [List.length_drop] at h2
      rw [hvv, Nat.add_assoc]; exact hi (k + i) (by omega)
    · rw [List.length_drop] at h2
      rw [hvv, hx i h2]; exact hs (k + i) (by omega)
theorem lowest_any (b off m c n : Nat) (w : World) (hm : 1 ≤ m) (hm2 : m ≤ 1000) (hc : m ≤ c) (hn : 1 ≤ n) (hn2 : n ≤ 1000) :
    Calls Tryz.prog 112 #[.slice (some ⟨b, off, none⟩) m c, .int .i64 (n : Int)] w fun e w' => e = .returned (.slice (some ⟨b, off + (m - n), none⟩) (m - (m - n)) (c - (m - n))) ∧ w' = w := by
  obtain ⟨f, hf⟩ : ∃ f, f = m - n := ⟨_, rfl⟩
  rw [← hf]
  have hfm : f < m := by omega
  have h0 : (0 : Int) ≤ (f : Int) := by omega
  have h1 : (f : Int) ≤ (m : Int) := by omega
  have hfc : ¬ c = f := by omega
  have hfc2 : ¬ (c - f = 0) := by omega
  by_cases hnm : 0 < f
  · have e1 : (m : Int) - (n : Int) = (f : Int) := by omega
    have e2 : (0 : Int) < (f : Int) := by omega
    clear hf
    go_enter Tryz.func112, Tryz.ntmps112
    go_wp2
    go_ret
    exact ⟨rfl, rfl⟩
  · have hf0 : f = 0 := by omega
    subst hf0
    have e1 : (m : Int) - (n : Int) ≤ 0 := by omega
    have e2 : ¬ 0 < (m : Int) - (n : Int) := by omega
    have e3 : ¬ (n : Int) < (m : Int) := by omega
    have e4 : max 0 ((m : Int) - (n : Int)) = 0 := by omega
    have e5 : max ((m : Int) - (n : Int)) 0 = 0 := by omega
    clear hf
    go_enter Tryz.func112, Tryz.ntmps112
    go_wp2
    go_ret
    exact ⟨by first | rfl | simp | simp [e4, e5], rfl⟩
end Go.Proofs.YtdbpjfdlibodcaaGreatDoor
