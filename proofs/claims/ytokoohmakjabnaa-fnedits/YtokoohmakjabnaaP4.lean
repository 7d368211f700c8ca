/- The program's route: its edits. The program's Edits. A law's bytes: how they are read, and whether they are too many. The walk of the law of Edits. -/
import Derived.Test.YtokoohmakjabnaaP3
namespace Go.Proofs.Ytokoohmakjabnaa
open Go.ChangeShapes Go.WideShapes Go.ChangeAt Go.RowKit
theorem wayN_is (k : Nat) (h : k < 3) : (waysL true).getD k (0, 0, 0) = wayN k := by
  match k, h with
  | 0, _ => rfl
  | 1, _ => rfl
  | 2, _ => rfl
theorem wayN_bd (k : Nat) : (wayN k).2.1 ≤ 1 ∧ (wayN k).2.2 ≤ 1 ∧ (0 < (wayN k).2.1 ∨ 0 < (wayN k).2.2) := by
  unfold wayN; split <;> decide
set_option maxHeartbeats 8000000 in
set_option maxRecDepth 20000 in
theorem edits_any (B : Nat) (va vb vw : Value) (L : Int) (R : Nat → Nat → Int) (xs ys : List Int) (w : World) (hR : RtB w B va vb vw L R) (ha : SlI w va xs) (hb : SlI w vb ys) (hw : WyS w vw (waysL true)) (hx : xs.length ≤ 40) (hy : ys.length ≤ 40) (hL : 0 ≤ L ∧ L < 160)
    (hF : ∀ i j, i ≤ xs.length → j ≤ ys.length → R i j = edC L (edD true (fun k => xs.getD k 0) (fun k => ys.getD k 0) i j)) (hle : edD true (fun k => xs.getD k 0) (fun k => ys.getD k 0) xs.length ys.length ≤ L) :
    Calls Try.prog 27 #[.pointer (some ⟨B, 0, none⟩)] w fun e w' => ∃ g cap, e = .returned (.slice (some ⟨g, 0, none⟩) (edE (fun k => xs.getD k 0) (fun k => ys.getD k 0) xs.length ys.length).length cap) ∧ OwnE w' w.heap.size g cap (edE (fun k => xs.getD k 0) (fun k => ys.getD k 0) xs.length ys.length) ∧ Below w.heap.size w w' := by
  have hBl := hR.lt
  have hal := fun W (k : Below w.heap.size w W) i j (hi : i ≤ xs.length) (hj : j ≤ ys.length) => alike_any B va vb vw L R xs ys W (hR.below k) (ha.below k) (hb.below k) hx hy i j hi hj
  have hed := fun W (k : Below w.heap.size w W) kd fa fb i j h1 h2 h3 h4 => edit_any B va vb vw L R ys W (hR.below k) (hb.below k) hy kd fa fb i j h1 h2 h3 h4
  have hlenE := edE_len (fun k => xs.getD k 0) (fun k => ys.getD k 0) xs.length ys.length
  have hbdE := edD_bd true (fun k => xs.getD k 0) (fun k => ys.getD k 0)
  have hway := edE_way (fun k => xs.getD k 0) (fun k => ys.getD k 0)
  have hsome := edE_some (fun k => xs.getD k 0) (fun k => ys.getD k 0)
  have hEq := edE_eq (fun k => xs.getD k 0) (fun k => ys.getD k 0)
  have hDq := edD_eq true (fun k => xs.getD k 0) (fun k => ys.getD k 0)
  have hcho : ∀ i j k, choN (fun k => xs.getD k 0) (fun k => ys.getD k 0) i j k ↔ ((wayN k).2.1 ≤ i ∧ (wayN k).2.2 ≤ j ∧ edD true (fun k => xs.getD k 0) (fun k => ys.getD k 0) (i - (wayN k).2.1) (j - (wayN k).2.2) < edD true (fun k => xs.getD k 0) (fun k => ys.getD k 0) i j) := fun _ _ _ => Iff.rfl
  obtain ⟨CH, hCH⟩ : ∃ CH, Hid (CH = choN (fun k => xs.getD k 0) (fun k => ys.getD k 0)) := ⟨_, rfl⟩
  rw [← hCH.out] at hway hsome hcho
  obtain ⟨D, hD⟩ : ∃ D, Hid (D = edD true (fun k => xs.getD k 0) (fun k => ys.getD k 0)) := ⟨_, rfl⟩
  rw [← hD.out] at hlenE hbdE hF hle hcho hDq
  obtain ⟨EE, hEE⟩ : ∃ EE, Hid (EE = edE (fun k => xs.getD k 0) (fun k => ys.getD k 0)) := ⟨_, rfl⟩
  rw [← hEE.out] at hlenE hway hEq ⊢
  have hE0 : EE 0 0 = [] := by rw [hEE.out, edE_00]
  have hE80 : (EE xs.length ys.length).length ≤ 80 := by have := (hbdE xs.length ys.length).2; omega
  obtain ⟨E, hE⟩ : ∃ E, Hid (E = EE xs.length ys.length) := ⟨_, rfl⟩
  rw [← hE.out] at hE80 ⊢
  obtain ⟨a, c, hva, _⟩ := id ha
  obtain ⟨a', c', hvb, _⟩ := id hb
  obtain ⟨V, cw, hvw, hVl, hVc⟩ := id hw
  subst hva; subst hvb; subst hvw
  have hVc2 : ∀ k, k < 3 → ∀ W, Below w.heap.size w W → W.cell? ⟨V, k * 3, none⟩ = some (.int .i64 (wayN k).1) ∧ W.cell? ⟨V, k * 3 + 1, none⟩ = some (.int .i64 ((wayN k).2.1 : Nat)) ∧ W.cell? ⟨V, k * 3 + 2, none⟩ = some (.int .i64 ((wayN k).2.2 : Nat)) := fun k hk W hb => by
    have e : ∀ q, W.cell? ⟨V, q, none⟩ = w.cell? ⟨V, q, none⟩ := fun q => hb.cell (p := ⟨V, q, none⟩) hVl
    rw [e, e, e, ← wayN_is k hk]
    exact hVc k hk
  have hnw : (waysL true).length = 3 := rfl
  rw [hnw] at *
  have hRc := fun W (k : Below w.heap.size w W) => (hR.below k).cells
  have hRa := fun W (k : Below w.heap.size w W) i j (hi : i ≤ 40) (hj : j ≤ 40) => (hR.below k).at i j hi hj
  have hAl : ∀ i j, alikeB xs ys i j = true → ∃ i1 j1, i = i1 + 1 ∧ j = j1 + 1 ∧ EE i j = EE i1 j1 ∧ D i j = D i1 j1 := fun i j h => by
    have h := of_decide_eq_true h
    refine ⟨i - 1, j - 1, by omega, by omega, ?_, ?_⟩
    · have := hEq (i - 1) (j - 1) h.2.2
      rwa [show i - 1 + 1 = i by omega, show j - 1 + 1 = j by omega] at this
    · have := hDq (i - 1) (j - 1) h.2.2
      rwa [show i - 1 + 1 = i by omega, show j - 1 + 1 = j by omega] at this
  have hNal : ∀ i j, alikeB xs ys i j = false → ∀ i1 j1, i = i1 + 1 → j = j1 + 1 → ¬ xs.getD i1 0 = ys.getD j1 0 := fun i j h i1 j1 e1 e2 q => by
    have h := of_decide_eq_false h
    subst e1; subst e2
    exact h ⟨by omega, by omega, by simpa using q⟩
  obtain ⟨m, hm⟩ : ∃ m, Hid (m = xs.length) := ⟨_, rfl⟩
  obtain ⟨n, hn⟩ : ∃ n, Hid (n = ys.length) := ⟨_, rfl⟩
  rw [← hm.out] at hx hF hle hal hE hRc
  rw [← hn.out] at hy hF hle hal hE hRc hed
  clear ha hb hw hR hVc hEq hDq hlenE
  replace hal := (show Hid _ from hal)
  replace hed := (show Hid _ from hed)
  replace hbdE := (show Hid _ from hbdE)
  replace hway := (show Hid _ from hway)
  replace hsome := (show Hid _ from hsome)
  replace hcho := (show Hid _ from hcho)
  replace hF := (show Hid _ from hF)
  replace hVc2 := (show Hid _ from hVc2)
  replace hRc := (show Hid _ from hRc)
  replace hRa := (show Hid _ from hRa)
  replace hAl := (show Hid _ from hAl)
  replace hNal := (show Hid _ from hNal)
  replace hE0 := (show Hid _ from hE0)
  have ho0 : OwnE (w.alloc (Obj.cells #[] 56)) w.heap.size w.heap.size 0 [] := World.ownsRow_lit (base := w.heap.size) (e := 56) (size := 3) w #[] 0 (Nat.le_refl _) (Nat.zero_le _) rfl
  have hbl := bal' w (Obj.cells #[] 56)
  obtain ⟨w0, hw0⟩ : ∃ w0, Hid (w0 = w.alloc (Obj.cells #[] 56)) := ⟨_, rfl⟩
  rw [← hw0.out] at ho0 hbl
  have c0 := (hRc.out w0 hbl).1
  have c1 := (hRc.out w0 hbl).2.1
  replace ho0 := (show Hid _ from ho0)
  replace hbl := (show Hid _ from hbl)
  go_enter Try.func27, Try.ntmps27
  go_wp2
  refine wp_scope_straight ?_
  refine wp_seq_k (fun K hK => ?_)
  have hH := (show Hid _ from hK)
  clear hK
  go_wp2
  refine hH.out _ _ ?_
  rw [← hw0.out]
  clear hH
  go_wp2
  go_quiet (fail)
  have kb0 : Below w.heap.size w (w0.drewN nq) := hbl.out.trans (Below.mono (show Below w0.heap.size w0 (w0.drewN nq) from ⟨rfl, rfl, rfl, Nat.le_refl _, fun _ _ => rfl⟩) hbl.out.size)
  have ho1 : OwnE (w0.drewN nq) w.heap.size w.heap.size 0 [] := ho0.out
  clear c0 c1 ho0 hbl hw0
  generalize w0.drewN nq = w1 at *
  replace ho1 := (show Hid _ from ho1)
  go_wp2
  refine wp_label ?_
  go_wp2
  try simp only [Act.put]
  go_loopw [3, 4, 5, 7, 38] (fun ov iv jv _ _ wr => ∃ (i j : Nat) (es : List (Int × Int × Int)) (g cap : Nat), i ≤ m ∧ j ≤ n ∧ iv = .int .i64 i ∧ jv = .int .i64 j ∧ ov = .slice (some ⟨g, 0, none⟩) es.length cap ∧ OwnE wr w.heap.size g cap es ∧ Hid (es ++ EE i j = E) ∧ Below w.heap.size w wr ∧ D i j ≤ L) (fun _ iv jv _ _ _ => (intOf iv).toNat + (intOf jv).toNat)
  case atStart => exact ⟨m, n, [], w.heap.size, 0, Nat.le_refl _, Nat.le_refl _, rfl, rfl, rfl, ho1.out, by show _ = _; rw [List.nil_append]; exact hE.out.symm, kb0, hle⟩
  case round =>
    obtain ⟨i, j, es, g, cap, hi, hj, rfl, rfl, rfl, ho, hq, kb, hDL⟩ := hrel
    clear ho1 kb0
    replace ho := (show Hid _ from ho)
    replace hDL := (show Hid _ from hDL)
    by_cases h00 : i = 0 ∧ j = 0
    · obtain ⟨rfl, rfl⟩ := h00
      have hes : es = E := by have := hq.out; rw [hE0.out, List.append_nil] at this; exact this
      subst hes
      go_wp2
      rw [Exit.noGoto_ret]
      go_ret
      exact ⟨_, _, rfl, ho.out, kb⟩
    have hpos : 0 < i ∨ 0 < j := by omega
    replace hpos := (show Hid _ from hpos)
    rcases (show decide (0 < i) = true ∨ (decide (0 < i) = false ∧ decide (0 < j) = true) from by
      by_cases q : 0 < i
      · exact .inl (decide_eq_true q)
      · exact .inr ⟨decide_eq_false q, decide_eq_true (by omega)⟩) with q1 | ⟨q1, q2⟩
    · clear h00
      by_cases hA : alikeB xs ys i j = true
      · obtain ⟨i1, j1, hi1, hj1, hEq, hDq⟩ := hAl.out i j hA
        have hcal := hal.out wr kb i j hi hj
        rw [hA] at hcal
        replace hi1 := (show Hid _ from hi1)
        replace hj1 := (show Hid _ from hj1)
        have e3 : IntKind.i64.wrap ((i : Int) - 1) = (i1 : Int) := wid (by have := hi1.out; omega) (by omega) (by omega)
        have e8 : IntKind.i64.wrap ((j : Int) - 1) = (j1 : Int) := wid (by have := hj1.out; omega) (by omega) (by omega)
        have hq2 : Hid (es ++ EE i1 j1 = E) := by show _ = _; rw [← hEq]; exact hq.out
        have hDL2 : Hid (D i1 j1 ≤ L) := by show _ ≤ _; rw [← hDq]; exact hDL.out
        clear hEq hDq hA
        go_wp2_with fail
        refine hcal.mono ?_
        rintro e w2 ⟨rfl, hb2⟩
        have ho2 : Hid (OwnE w2 w.heap.size g cap es) := World.ownsRow.kept ho.out (Below.gr hb2 none) (.inr (by simp [Value.ownBlock]))
        have kb2 := kb.trans (hb2.mono kb.size)
        clear hcal hb2
        go_wp2
        go_roundw
        case rel => exact ⟨i1, j1, es, g, cap, by have := hi1.out; omega, by have := hj1.out; omega, rfl, rfl, rfl, ho2.out, hq2, kb2, hDL2.out⟩
        case measure => simp [intOf]; have := hi1.out; have := hj1.out; omega
      have hA : alikeB xs ys i j = false := by simpa using hA
      have hne := hNal.out i j hA
      have hcal := hal.out wr kb i j hi hj
      rw [hA] at hcal
      replace hne := (show Hid _ from hne)
      clear hA
      go_wp2_with fail
      refine hcal.mono ?_
      rintro e w2 ⟨rfl, hb2⟩
      have ho2 : Hid (OwnE w2 w.heap.size g cap es) := World.ownsRow.kept ho.out (Below.gr hb2 none) (.inr (by simp [Value.ownBlock]))
      have kb2 := kb.trans (hb2.mono kb.size)
      have hgl := (OwnE.lt ho2.out).2
      have c2 := (hRc.out w2 kb2).2.2.1
      clear hcal hb2 ho kb
      go_wp2
      go_loopw [3, 4, 5, 7, 38] (fun ov iv jv _ kv wr => ∃ k : Nat, k ≤ 3 ∧ kv = .int .i64 k ∧ ov = .slice (some ⟨g, 0, none⟩) es.length cap ∧ iv = .int .i64 i ∧ jv = .int .i64 j ∧ Hid (∀ k', k' < k → ¬ CH i j k') ∧ Below w2.heap.size w2 wr) (fun _ _ _ _ kv _ => 3 - (intOf kv).toNat)
      case atStart => exact ⟨0, by omega, rfl, rfl, rfl, rfl, fun k' h => absurd h (Nat.not_lt_zero _), Below.refl _ _⟩
      case round =>
        obtain ⟨k, hk, rfl, rfl, rfl, rfl, hmin, k3⟩ := hrel
        by_cases hk3 : k < 3
        · have kbr := kb2.trans (k3.mono kb2.size)
          obtain ⟨v0, v1, v2⟩ := hVc2.out k hk3 wr kbr
          obtain ⟨b1, b2, b3⟩ := wayN_bd k
          have hch := hcho.out i j k
          have hwk := fun (hc : CH i j k) => hway.out i j k hk3 hne.out hc hmin.out
          have hnext : (¬ CH i j k) → Hid (∀ k', k' < k + 1 → ¬ CH i j k') := fun h k' h1 => by
            by_cases e : k' = k
            · rw [e]; exact h
            · exact hmin.out k' (by omega)
          generalize wayN k = wk at v0 v1 v2 b1 b2 b3 hch hwk
          obtain ⟨kd, fa, fb⟩ := wk
          dsimp only at v0 v1 v2 b1 b2 b3 hch hwk
          have hki : (k : Int) < 3 := by omega
          have hal1 := bal' wr (Obj.cells #[.int .i64 kd, .int .i64 fa, .int .i64 fb] 73)
          have hbx : BlkC (wr.alloc (Obj.cells #[.int .i64 kd, .int .i64 fa, .int .i64 fb] 73)) wr.heap.size 73 [.int .i64 kd, .int .i64 fa, .int .i64 fb] := heap_alloc_new wr _
          have kW := kbr.trans (hal1.mono kbr.size)
          have kW2 := k3.trans (hal1.mono k3.size)
          have hsz2 := k3.size
          have hbc : ∀ W, Below (wr.alloc (Obj.cells #[.int .i64 kd, .int .i64 fa, .int .i64 fb] 73)).heap.size (wr.alloc (Obj.cells #[.int .i64 kd, .int .i64 fa, .int .i64 fb] 73)) W → W.cell? ⟨wr.heap.size, 0, none⟩ = some (.int .i64 kd) ∧ W.cell? ⟨wr.heap.size, 1, none⟩ = some (.int .i64 fa) ∧ W.cell? ⟨wr.heap.size, 2, none⟩ = some (.int .i64 fb) := fun W k => by
            have := BlkC.below hbx k
            exact ⟨cell_blk this 0, cell_blk this 1, cell_blk this 2⟩
          have hd0 : Below (wr.alloc (Obj.cells #[.int .i64 kd, .int .i64 fa, .int .i64 fb] 73)).heap.size (wr.alloc (Obj.cells #[.int .i64 kd, .int .i64 fa, .int .i64 fb] 73)) (wr.alloc (Obj.cells #[.int .i64 kd, .int .i64 fa, .int .i64 fb] 73)).drew := ⟨rfl, rfl, rfl, Nat.le_refl _, fun _ _ => rfl⟩
          have hVw : V < wr.heap.size := Nat.lt_of_lt_of_le hVl kbr.size
          replace hwk := (show Hid _ from hwk)
          replace hch := (show Hid _ from hch)
          replace hbc := (show Hid _ from hbc)
          replace hnext := (show Hid _ from hnext)
          replace kW := (show Hid _ from kW)
          replace kW2 := (show Hid _ from kW2)
          replace hd0 := (show Hid _ from hd0)
          clear hbx hal1
          by_cases hfit : fa ≤ i ∧ fb ≤ j
          · obtain ⟨hf0, hf1⟩ := hfit
            have hft := fun W => fits_any kd fa fb i j W
            simp only [decide_eq_true (And.intro hf0 hf1)] at hft
            obtain ⟨p, hp⟩ : ∃ p, Hid (i - fa = p) := ⟨_, rfl⟩
            obtain ⟨q, hqq⟩ : ∃ q, Hid (j - fb = q) := ⟨_, rfl⟩
            have hpi := hp.out
            have hqj := hqq.out
            have g1 : IntKind.i64.wrap ((i : Int) - (fa : Int)) = (p : Int) := wid (by omega) (by omega) (by omega)
            have g2 : IntKind.i64.wrap ((j : Int) - (fb : Int)) = (q : Int) := wid (by omega) (by omega) (by omega)
            have p41 : (p : Int) < 41 := by omega
            have q41 : (q : Int) < 41 := by omega
            have i41 : (i : Int) < 41 := by omega
            have j41 : (j : Int) < 41 := by omega
            obtain ⟨rp, hrp⟩ : ∃ rp, Hid (R p q = rp) := ⟨_, rfl⟩
            obtain ⟨rij, hrij⟩ : ∃ rij, Hid (R i j = rij) := ⟨_, rfl⟩
            have hRp : rp = edC L (D p q) := by rw [← hrp.out]; exact hF.out p q (by omega) (by omega)
            have hRij : rij = D i j := by rw [← hrij.out, hF.out i j hi hj]; unfold edC; exact if_pos hDL.out
            have hless := edC_less L (D i j) (D p q) hDL.out hL.2
            rw [← hRp, ← hRij] at hless
            have hcl : ∀ W, Below (wr.alloc (Obj.cells #[.int .i64 kd, .int .i64 fa, .int .i64 fb] 73)).heap.size (wr.alloc (Obj.cells #[.int .i64 kd, .int .i64 fa, .int .i64 fb] 73)) W → W.cell? ⟨wr.heap.size, 0, none⟩ = some (.int .i64 kd) ∧ W.cell? ⟨wr.heap.size, 1, none⟩ = some (.int .i64 fa) ∧ W.cell? ⟨wr.heap.size, 2, none⟩ = some (.int .i64 fb) ∧ W.cell? ⟨B, 4 + p * 41 + q, none⟩ = some (.int .i64 rp) ∧ W.cell? ⟨B, 4 + i * 41 + j, none⟩ = some (.int .i64 rij) := fun W k => by
              obtain ⟨z0, z1, z2⟩ := hbc.out W k
              have z3 := hRa.out W (kW.out.trans (k.mono kW.out.size)) p q (by omega) (by omega)
              have z4 := hRa.out W (kW.out.trans (k.mono kW.out.size)) i j (by omega) (by omega)
              rw [hrp.out] at z3
              rw [hrij.out] at z4
              exact ⟨z0, z1, z2, z3, z4⟩
            have hchk := hch.out
            rw [hpi, hqj, ← hRij] at hchk
            replace hcl := (show Hid _ from hcl)
            clear hpi hqj hRp
            by_cases hc : rp < rij
            · have hEk := hwk.out (hchk.2 ⟨hf0, hf1, hless.1 hc⟩)
              rw [hp.out, hqq.out] at hEk
              have hqs : es ++ (kd, (p : Int), if fb = 0 then 0 else ys.getD (j - 1) 0) :: EE p q = E := by rw [← hEk]; exact hq.out
              have hDL3 : Hid (D p q ≤ L) := by show _ ≤ _; have := hless.1 hc; have := hDL.out; omega
              clear hEk hchk hless hRij
              replace hqs := (show Hid _ from hqs)
              have hd := hd0.out
              go_wp2
              refine wp_region_noPanic ?_
              refine wp_region_held_drew (S := (fun W => W.cell? ⟨wr.heap.size, 0, none⟩ = some (.int .i64 kd) ∧ W.cell? ⟨wr.heap.size, 1, none⟩ = some (.int .i64 fa) ∧ W.cell? ⟨wr.heap.size, 2, none⟩ = some (.int .i64 fb) ∧ W.cell? ⟨B, 4 + p * 41 + q, none⟩ = some (.int .i64 rp) ∧ W.cell? ⟨B, 4 + i * 41 + j, none⟩ = some (.int .i64 rij))) (by kernel_rfl) (hcl.out _ hd) (fun hHeld => ?_)
              refine' wpAnyH_take (i := 0) (v := _) rfl (by kernel_rfl) (by kernel_rfl) (by kernel_rfl) (fun _ _ _ h => h) (Or.inl ⟨by rfl, ?hy1⟩) hHeld ?hr1
              case hy1 => (intro w hSw; (try dsimp only at hSw); go_simp; (try with_reducible rfl))
              simp only [Act.put, List.setIfInBounds_toArray, List.set_cons_zero, List.set_cons_succ, List.getElem_toArray, List.getElem_cons_zero]
              refine' wpAnyH_take (i := 1) (v := _) rfl (by kernel_rfl) (by kernel_rfl) (by kernel_rfl) (fun _ _ _ h => h) (Or.inl ⟨by rfl, ?hy2⟩) hHeld ?hr2
              case hy2 => (intro w hSw; (try dsimp only at hSw); go_simp; (try with_reducible rfl))
              simp only [Act.put, List.setIfInBounds_toArray, List.set_cons_zero, List.set_cons_succ, List.getElem_toArray, List.getElem_cons_zero, List.getElem_cons_succ]
              refine' wpAnyH_take (i := 2) (v := _) rfl (by kernel_rfl) (by kernel_rfl) (by kernel_rfl) (fun _ _ _ h => h) (Or.inl ⟨by rfl, ?hy3⟩) hHeld ?hr3
              case hy3 => (intro w hSw; (try dsimp only at hSw); go_simp; (try with_reducible rfl))
              simp only [Act.put, List.setIfInBounds_toArray, List.set_cons_zero, List.set_cons_succ, List.getElem_toArray, List.getElem_cons_zero, List.getElem_cons_succ]
              refine wpAnyH_ready (rs := [3]) (by kernel_rfl) (by simp) (allReady_1 rfl rfl (fun K hK => ?_))
              go_simp
              refine (hft _).mono ?_
              rintro e w9 ⟨rfl, hb9⟩
              replace hd := hd.trans (hb9.mono hd.size)
              go_wp2_with fail
              refine hK.out _ _ (hcl.out _ hd) (fun hHeld => ?_)
              clear hK K
              (try simp only [Act.put, List.setIfInBounds_toArray, List.set_cons_zero, List.set_cons_succ])
              refine' wpAnyH_take (i := 4) (v := _) rfl (by kernel_rfl) (by kernel_rfl) (by kernel_rfl) (fun _ _ _ h => h) (Or.inl ⟨by rfl, ?hy4⟩) hHeld ?hr4
              case hy4 => (intro w hSw; (try dsimp only at hSw); go_simp; (try with_reducible rfl))
              simp only [Act.put, List.setIfInBounds_toArray, List.set_cons_zero, List.set_cons_succ, List.getElem_toArray, List.getElem_cons_zero, List.getElem_cons_succ]
              refine' wpAnyH_take (i := 5) (v := _) rfl (by kernel_rfl) (by kernel_rfl) (by kernel_rfl) (fun _ _ _ h => h) (Or.inl ⟨by rfl, ?hy5⟩) hHeld ?hr5
              case hy5 => (intro w hSw; (try dsimp only at hSw); go_simp; (try with_reducible rfl))
              simp only [Act.put, List.setIfInBounds_toArray, List.set_cons_zero, List.set_cons_succ, List.getElem_toArray, List.getElem_cons_zero, List.getElem_cons_succ]
              refine' wpAnyH_take (i := 6) (v := _) rfl (by kernel_rfl) (by kernel_rfl) (by kernel_rfl) (fun _ _ _ h => h) (Or.inl ⟨by rfl, ?hy6⟩) hHeld ?hr6
              case hy6 => (intro w hSw; (try dsimp only at hSw); go_simp; (try with_reducible rfl))
              simp only [Act.put, List.setIfInBounds_toArray, List.set_cons_zero, List.set_cons_succ, List.getElem_toArray, List.getElem_cons_zero, List.getElem_cons_succ]
              refine' wpAnyH_take (i := 7) (v := _) rfl (by kernel_rfl) (by kernel_rfl) (by kernel_rfl) (fun _ _ _ h => h) (Or.inl ⟨by rfl, ?hy7⟩) hHeld ?hr7
              case hy7 => (intro w hSw; (try dsimp only at hSw); go_simp; (try with_reducible rfl))
              simp only [Act.put, List.setIfInBounds_toArray, List.set_cons_zero, List.set_cons_succ, List.getElem_toArray, List.getElem_cons_zero, List.getElem_cons_succ]
              refine' wpAnyH_take (i := 8) (v := _) rfl (by kernel_rfl) (by kernel_rfl) (by kernel_rfl) (fun _ _ _ h => h) (Or.inl ⟨by rfl, ?hy8⟩) hHeld ?hr8
              case hy8 => (intro w hSw; (try dsimp only at hSw); go_simp; (try with_reducible rfl))
              simp only [Act.put, List.setIfInBounds_toArray, List.set_cons_zero, List.set_cons_succ, List.getElem_toArray, List.getElem_cons_zero, List.getElem_cons_succ]
              refine' wpAnyH_take (i := 9) (v := _) rfl (by kernel_rfl) (by kernel_rfl) (by kernel_rfl) (fun _ _ _ h => h) (Or.inl ⟨by rfl, ?hy9⟩) hHeld ?hr9
              case hy9 => (intro w hSw; (try dsimp only at hSw); go_simp; (try with_reducible rfl))
              simp only [Act.put, List.setIfInBounds_toArray, List.set_cons_zero, List.set_cons_succ, List.getElem_toArray, List.getElem_cons_zero, List.getElem_cons_succ]
              refine' wpAnyH_take (i := 10) (v := _) rfl (by kernel_rfl) (by kernel_rfl) (by kernel_rfl) (fun _ _ _ h => h) (Or.inl ⟨by rfl, ?hy10⟩) hHeld ?hr10
              case hy10 => (intro w hSw; (try dsimp only at hSw); go_simp; (try with_reducible rfl))
              simp only [Act.put, List.setIfInBounds_toArray, List.set_cons_zero, List.set_cons_succ, List.getElem_toArray, List.getElem_cons_zero, List.getElem_cons_succ]
              refine' wpAnyH_take (i := 11) (v := _) rfl (by kernel_rfl) (by kernel_rfl) (by kernel_rfl) (fun _ _ _ h => h) (Or.inl ⟨by rfl, ?hy11⟩) hHeld ?hr11
              case hy11 => (intro w hSw; (try dsimp only at hSw); go_simp; (try with_reducible rfl))
              simp only [Act.put, List.setIfInBounds_toArray, List.set_cons_zero, List.set_cons_succ, List.getElem_toArray, List.getElem_cons_zero, List.getElem_cons_succ]
              refine' wpAnyH_take (i := 12) (v := _) rfl (by kernel_rfl) (by kernel_rfl) (by kernel_rfl) (fun _ _ _ h => h) (Or.inl ⟨by rfl, ?hy12⟩) hHeld ?hr12
              case hy12 => (intro w hSw; (try dsimp only at hSw); go_simp; (try with_reducible rfl))
              simp only [Act.put, List.setIfInBounds_toArray, List.set_cons_zero, List.set_cons_succ, List.getElem_toArray, List.getElem_cons_zero, List.getElem_cons_succ]
              refine' wpAnyH_take (i := 13) (v := _) rfl (by kernel_rfl) (by kernel_rfl) (by kernel_rfl) (fun _ _ _ h => h) (Or.inl ⟨by rfl, ?hy13⟩) hHeld ?hr13
              case hy13 => (intro w hSw; (try dsimp only at hSw); go_simp; (try with_reducible rfl))
              simp only [Act.put, List.setIfInBounds_toArray, List.set_cons_zero, List.set_cons_succ, List.getElem_toArray, List.getElem_cons_zero, List.getElem_cons_succ]
              refine' wpAnyH_take (i := 14) (v := _) rfl (by kernel_rfl) (by kernel_rfl) (by kernel_rfl) (fun _ _ _ h => h) (Or.inl ⟨by rfl, ?hy14⟩) hHeld ?hr14
              case hy14 => (intro w hSw; (try dsimp only at hSw); go_simp; (try with_reducible rfl))
              simp only [Act.put, List.setIfInBounds_toArray, List.set_cons_zero, List.set_cons_succ, List.getElem_toArray, List.getElem_cons_zero, List.getElem_cons_succ]
              refine' wpAnyH_take (i := 15) (v := _) rfl (by kernel_rfl) (by kernel_rfl) (by kernel_rfl) (fun _ _ _ h => h) (Or.inl ⟨by rfl, ?hy15⟩) hHeld ?hr15
              case hy15 => (intro w hSw; (try dsimp only at hSw); go_simp; (try with_reducible rfl))
              simp only [Act.put, List.setIfInBounds_toArray, List.set_cons_zero, List.set_cons_succ, List.getElem_toArray, List.getElem_cons_zero, List.getElem_cons_succ]
              refine' wpAnyH_take (i := 16) (v := _) rfl (by kernel_rfl) (by kernel_rfl) (by kernel_rfl) (fun _ _ _ h => h) (Or.inl ⟨by rfl, ?hy16⟩) hHeld ?hr16
              case hy16 => (intro w hSw; (try dsimp only at hSw); go_simp; (try with_reducible rfl))
              simp only [Act.put, List.setIfInBounds_toArray, List.set_cons_zero, List.set_cons_succ, List.getElem_toArray, List.getElem_cons_zero, List.getElem_cons_succ]
              refine' wpAnyH_take (i := 17) (v := _) rfl (by kernel_rfl) (by kernel_rfl) (by kernel_rfl) (fun _ _ _ h => h) (Or.inl ⟨by rfl, ?hy17⟩) hHeld ?hr17
              case hy17 => (intro w hSw; (try dsimp only at hSw); go_simp; (try with_reducible rfl))
              simp only [Act.put, List.setIfInBounds_toArray, List.set_cons_zero, List.set_cons_succ, List.getElem_toArray, List.getElem_cons_zero, List.getElem_cons_succ]
              refine' wpAnyH_take (i := 18) (v := _) rfl (by kernel_rfl) (by kernel_rfl) (by kernel_rfl) (fun _ _ _ h => h) (Or.inl ⟨by rfl, ?hy18⟩) hHeld ?hr18
              case hy18 => (intro w hSw; (try dsimp only at hSw); go_simp; (try with_reducible rfl))
              simp only [Act.put, List.setIfInBounds_toArray, List.set_cons_zero, List.set_cons_succ, List.getElem_toArray, List.getElem_cons_zero, List.getElem_cons_succ]
              refine' wpAnyH_take (i := 19) (v := _) rfl (by kernel_rfl) (by kernel_rfl) (by kernel_rfl) (fun _ _ _ h => h) (Or.inl ⟨by rfl, ?hy19⟩) hHeld ?hr19
              case hy19 => (intro w hSw; (try dsimp only at hSw); go_simp; (try with_reducible rfl))
              simp only [Act.put, List.setIfInBounds_toArray, List.set_cons_zero, List.set_cons_succ, List.getElem_toArray, List.getElem_cons_zero, List.getElem_cons_succ]
              refine' wpAnyH_take (i := 20) (v := _) rfl (by kernel_rfl) (by kernel_rfl) (by kernel_rfl) (fun _ _ _ h => h) (Or.inl ⟨by rfl, ?hy20⟩) hHeld ?hr20
              case hy20 => (intro w hSw; (try dsimp only at hSw); go_simp; (try with_reducible rfl))
              simp only [Act.put, List.setIfInBounds_toArray, List.set_cons_zero, List.set_cons_succ, List.getElem_toArray, List.getElem_cons_zero, List.getElem_cons_succ]
              refine' wpAnyH_take (i := 21) (v := _) rfl (by kernel_rfl) (by kernel_rfl) (by kernel_rfl) (fun _ _ _ h => h) (Or.inl ⟨by rfl, ?hy21⟩) hHeld ?hr21
              case hy21 => (intro w hSw; (try dsimp only at hSw); go_simp; (try with_reducible rfl))
              simp only [Act.put, List.setIfInBounds_toArray, List.set_cons_zero, List.set_cons_succ, List.getElem_toArray, List.getElem_cons_zero, List.getElem_cons_succ]
              refine' wpAnyH_take (i := 22) (v := _) rfl (by kernel_rfl) (by kernel_rfl) (by kernel_rfl) (fun _ _ _ h => h) (Or.inl ⟨by rfl, ?hy22⟩) hHeld ?hr22
              case hy22 => (intro w hSw; (try dsimp only at hSw); go_simp; (try with_reducible rfl))
              simp only [Act.put, List.setIfInBounds_toArray, List.set_cons_zero, List.set_cons_succ, List.getElem_toArray, List.getElem_cons_zero, List.getElem_cons_succ]
              refine' wpAnyH_take (i := 23) (v := _) rfl (by kernel_rfl) (by kernel_rfl) (by kernel_rfl) (fun _ _ _ h => h) (Or.inl ⟨by rfl, ?hy23⟩) hHeld ?hr23
              case hy23 => (intro w hSw; (try dsimp only at hSw); go_simp; (try with_reducible rfl))
              simp only [Act.put, List.setIfInBounds_toArray, List.set_cons_zero, List.set_cons_succ, List.getElem_toArray, List.getElem_cons_zero, List.getElem_cons_succ]
              refine' wpAnyH_take (i := 24) (v := _) rfl (by kernel_rfl) (by kernel_rfl) (by kernel_rfl) (fun _ _ _ h => h) (Or.inl ⟨by rfl, ?hy24⟩) hHeld ?hr24
              case hy24 => (intro w hSw; (try dsimp only at hSw); go_simp; (try with_reducible rfl))
              simp only [Act.put, List.setIfInBounds_toArray, List.set_cons_zero, List.set_cons_succ, List.getElem_toArray, List.getElem_cons_zero, List.getElem_cons_succ]
              refine' wpAnyH_take (i := 25) (v := _) rfl (by kernel_rfl) (by kernel_rfl) (by kernel_rfl) (fun _ _ _ h => h) (Or.inl ⟨by rfl, ?hy25⟩) hHeld ?hr25
              case hy25 => (intro w hSw; (try dsimp only at hSw); go_simp; (try with_reducible rfl))
              simp only [Act.put, List.setIfInBounds_toArray, List.set_cons_zero, List.set_cons_succ, List.getElem_toArray, List.getElem_cons_zero, List.getElem_cons_succ]
              refine' wpAnyH_take (i := 26) (v := _) rfl (by kernel_rfl) (by kernel_rfl) (by kernel_rfl) (fun _ _ _ h => h) (Or.inl ⟨by rfl, ?hy26⟩) hHeld ?hr26
              case hy26 => (intro w hSw; (try dsimp only at hSw); go_simp; (try with_reducible rfl))
              simp only [Act.put, List.setIfInBounds_toArray, List.set_cons_zero, List.set_cons_succ, List.getElem_toArray, List.getElem_cons_zero, List.getElem_cons_succ]
              refine' wpAnyH_take (i := 27) (v := _) rfl (by kernel_rfl) (by kernel_rfl) (by kernel_rfl) (fun _ _ _ h => h) (Or.inl ⟨by rfl, ?hy27⟩) hHeld ?hr27
              case hy27 => (intro w hSw; (try dsimp only at hSw); go_simp; (try with_reducible rfl))
              simp only [Act.put, List.setIfInBounds_toArray, List.set_cons_zero, List.set_cons_succ, List.getElem_toArray, List.getElem_cons_zero, List.getElem_cons_succ]
              refine' wpAnyH_take (i := 28) (v := _) rfl (by kernel_rfl) (by kernel_rfl) (by kernel_rfl) (fun _ _ _ h => h) (Or.inl ⟨by rfl, ?hy28⟩) hHeld ?hr28
              case hy28 => (intro w hSw; (try dsimp only at hSw); go_simp; (try with_reducible rfl))
              simp only [Act.put, List.setIfInBounds_toArray, List.set_cons_zero, List.set_cons_succ, List.getElem_toArray, List.getElem_cons_zero, List.getElem_cons_succ]
              refine wpAnyH_done (by kernel_rfl) ?_ _
              refine NoPanic.normal ?_
              go_wp2_with fail
              have kb9 := kW.out.trans (hd.mono kW.out.size)
              obtain ⟨d0, d1, d2, _, _⟩ := hcl.out _ hd
              replace hq := hqs
              obtain ⟨yv, hyv⟩ : ∃ yv, Hid ((if fb = 0 then 0 else ys.getD (j - 1) 0) = yv) := ⟨_, rfl⟩
              have hedc := hed.out w9 kb9 kd fa fb i j hf0 ⟨b2, hf1⟩ (by omega) hj
              rw [hp.out, hyv.out] at hedc
              have hqs2 := hqs.out
              rw [hyv.out] at hqs2
              refine hedc.mono ?_
              rintro e w4 ⟨rfl, hb4⟩
              have kb4 := kb9.trans (hb4.mono kb9.size)
              have hk24 := (kW2.out.trans (hd.mono kW2.out.size)).trans (hb4.mono (Nat.le_trans kW2.out.size hd.size))
              have ho4 : OwnE w4 w.heap.size g cap es := World.ownsRow.kept ho2.out (Below.gr hk24 none) (.inr (by simp [Value.ownBlock]))
              have hbx9 : wr.heap.size < w9.heap.size := by have := hd.size; simp at this; omega
              have d4 : w4.cell? ⟨wr.heap.size, 1, none⟩ = some (.int .i64 fa) := (hb4.cell (p := ⟨wr.heap.size, 1, none⟩) hbx9).trans d1
              have d5 : w4.cell? ⟨wr.heap.size, 2, none⟩ = some (.int .i64 fb) := (hb4.cell (p := ⟨wr.heap.size, 2, none⟩) hbx9).trans d2
              have hbx4 : wr.heap.size < w4.heap.size := Nat.lt_of_lt_of_le hbx9 hb4.size
              have hes : es.length ≤ 200 := by have := congrArg List.length hqs2; rw [List.length_append] at this; omega
              have hq3 : Hid ((es ++ [(kd, (p : Int), yv)]) ++ EE p q = E) := by show _ = _; rw [List.append_assoc]; exact hqs2
              have hgl4 := OwnE.lt ho4
              clear hqs2 hq hqs hedc hk24 hb4 d0 d1 d2 kb9 hcl
              go_wp2_with (at_builtin; refine append_ed (w := w4) rfl _ _ rfl w.heap.size g cap es hes (by rfl) ho4 kd (p : Int) yv (by rfl) kb4.size ?_; intro g5 cap5 w5 ho5 hg5 hat)
              have kb5 := kb4.grown hg5 kb4.size (fun k e => by injection e with e; omega)
              have d6 : w5.cell? ⟨wr.heap.size, 1, none⟩ = some (.int .i64 fa) := (World.cell?_of_block (w := w4) (a := ⟨wr.heap.size, 1, none⟩) (hg5.block wr.heap.size hbx4 (fun e => by injection e with e; omega))).trans d4
              have d7 : w5.cell? ⟨wr.heap.size, 2, none⟩ = some (.int .i64 fb) := (World.cell?_of_block (w := w4) (a := ⟨wr.heap.size, 2, none⟩) (hg5.block wr.heap.size hbx4 (fun e => by injection e with e; omega))).trans d5
              replace ho5 := (show Hid _ from ho5)
              clear ho4 hg5 hat d4 d5 kb4
              go_wp2
              go_quiet (fail)
              go_wp2
              go_roundw
              case rel => exact ⟨p, q, es ++ [(kd, (p : Int), yv)], g5, cap5, by have := hp.out; omega, by have := hqq.out; omega, rfl, rfl, by rw [List.length_append]; rfl, ho5.out, hq3, kb5.trans (Below.mono (show Below w5.heap.size w5 (w5.drewN nq) from ⟨rfl, rfl, rfl, Nat.le_refl _, fun _ _ => rfl⟩) kb5.size), hDL3.out⟩
              case measure => simp [intOf]; have := hp.out; have := hqq.out; omega
            · have hncc : ¬ CH i j k := fun h => hc (hless.2 (hchk.1 h).2.2)
              have hnx := hnext.out hncc
              clear hchk hless hRij hncc
              have hd := hd0.out
              go_wp2
              refine wp_region_noPanic ?_
              refine wp_region_held_drew (S := (fun W => W.cell? ⟨wr.heap.size, 0, none⟩ = some (.int .i64 kd) ∧ W.cell? ⟨wr.heap.size, 1, none⟩ = some (.int .i64 fa) ∧ W.cell? ⟨wr.heap.size, 2, none⟩ = some (.int .i64 fb) ∧ W.cell? ⟨B, 4 + p * 41 + q, none⟩ = some (.int .i64 rp) ∧ W.cell? ⟨B, 4 + i * 41 + j, none⟩ = some (.int .i64 rij))) (by kernel_rfl) (hcl.out _ hd) (fun hHeld => ?_)
              refine' wpAnyH_take (i := 0) (v := _) rfl (by kernel_rfl) (by kernel_rfl) (by kernel_rfl) (fun _ _ _ h => h) (Or.inl ⟨by rfl, ?hy29⟩) hHeld ?hr29
              case hy29 => (intro w hSw; (try dsimp only at hSw); go_simp; (try with_reducible rfl))
              simp only [Act.put, List.setIfInBounds_toArray, List.set_cons_zero, List.set_cons_succ, List.getElem_toArray, List.getElem_cons_zero]
              refine' wpAnyH_take (i := 1) (v := _) rfl (by kernel_rfl) (by kernel_rfl) (by kernel_rfl) (fun _ _ _ h => h) (Or.inl ⟨by rfl, ?hy30⟩) hHeld ?hr30
              case hy30 => (intro w hSw; (try dsimp only at hSw); go_simp; (try with_reducible rfl))
              simp only [Act.put, List.setIfInBounds_toArray, List.set_cons_zero, List.set_cons_succ, List.getElem_toArray, List.getElem_cons_zero, List.getElem_cons_succ]
              refine' wpAnyH_take (i := 2) (v := _) rfl (by kernel_rfl) (by kernel_rfl) (by kernel_rfl) (fun _ _ _ h => h) (Or.inl ⟨by rfl, ?hy31⟩) hHeld ?hr31
              case hy31 => (intro w hSw; (try dsimp only at hSw); go_simp; (try with_reducible rfl))
              simp only [Act.put, List.setIfInBounds_toArray, List.set_cons_zero, List.set_cons_succ, List.getElem_toArray, List.getElem_cons_zero, List.getElem_cons_succ]
              refine wpAnyH_ready (rs := [3]) (by kernel_rfl) (by simp) (allReady_1 rfl rfl (fun K hK => ?_))
              go_simp
              refine (hft _).mono ?_
              rintro e w9 ⟨rfl, hb9⟩
              replace hd := hd.trans (hb9.mono hd.size)
              go_wp2_with fail
              refine hK.out _ _ (hcl.out _ hd) (fun hHeld => ?_)
              clear hK K
              (try simp only [Act.put, List.setIfInBounds_toArray, List.set_cons_zero, List.set_cons_succ])
              refine' wpAnyH_take (i := 4) (v := _) rfl (by kernel_rfl) (by kernel_rfl) (by kernel_rfl) (fun _ _ _ h => h) (Or.inl ⟨by rfl, ?hy32⟩) hHeld ?hr32
              case hy32 => (intro w hSw; (try dsimp only at hSw); go_simp; (try with_reducible rfl))
              simp only [Act.put, List.setIfInBounds_toArray, List.set_cons_zero, List.set_cons_succ, List.getElem_toArray, List.getElem_cons_zero, List.getElem_cons_succ]
              refine' wpAnyH_take (i := 5) (v := _) rfl (by kernel_rfl) (by kernel_rfl) (by kernel_rfl) (fun _ _ _ h => h) (Or.inl ⟨by rfl, ?hy33⟩) hHeld ?hr33
              case hy33 => (intro w hSw; (try dsimp only at hSw); go_simp; (try with_reducible rfl))
              simp only [Act.put, List.setIfInBounds_toArray, List.set_cons_zero, List.set_cons_succ, List.getElem_toArray, List.getElem_cons_zero, List.getElem_cons_succ]
              refine' wpAnyH_take (i := 6) (v := _) rfl (by kernel_rfl) (by kernel_rfl) (by kernel_rfl) (fun _ _ _ h => h) (Or.inl ⟨by rfl, ?hy34⟩) hHeld ?hr34
              case hy34 => (intro w hSw; (try dsimp only at hSw); go_simp; (try with_reducible rfl))
              simp only [Act.put, List.setIfInBounds_toArray, List.set_cons_zero, List.set_cons_succ, List.getElem_toArray, List.getElem_cons_zero, List.getElem_cons_succ]
              refine' wpAnyH_take (i := 7) (v := _) rfl (by kernel_rfl) (by kernel_rfl) (by kernel_rfl) (fun _ _ _ h => h) (Or.inl ⟨by rfl, ?hy35⟩) hHeld ?hr35
              case hy35 => (intro w hSw; (try dsimp only at hSw); go_simp; (try with_reducible rfl))
              simp only [Act.put, List.setIfInBounds_toArray, List.set_cons_zero, List.set_cons_succ, List.getElem_toArray, List.getElem_cons_zero, List.getElem_cons_succ]
              refine' wpAnyH_take (i := 8) (v := _) rfl (by kernel_rfl) (by kernel_rfl) (by kernel_rfl) (fun _ _ _ h => h) (Or.inl ⟨by rfl, ?hy36⟩) hHeld ?hr36
              case hy36 => (intro w hSw; (try dsimp only at hSw); go_simp; (try with_reducible rfl))
              simp only [Act.put, List.setIfInBounds_toArray, List.set_cons_zero, List.set_cons_succ, List.getElem_toArray, List.getElem_cons_zero, List.getElem_cons_succ]
              refine' wpAnyH_take (i := 9) (v := _) rfl (by kernel_rfl) (by kernel_rfl) (by kernel_rfl) (fun _ _ _ h => h) (Or.inl ⟨by rfl, ?hy37⟩) hHeld ?hr37
              case hy37 => (intro w hSw; (try dsimp only at hSw); go_simp; (try with_reducible rfl))
              simp only [Act.put, List.setIfInBounds_toArray, List.set_cons_zero, List.set_cons_succ, List.getElem_toArray, List.getElem_cons_zero, List.getElem_cons_succ]
              refine' wpAnyH_take (i := 10) (v := _) rfl (by kernel_rfl) (by kernel_rfl) (by kernel_rfl) (fun _ _ _ h => h) (Or.inl ⟨by rfl, ?hy38⟩) hHeld ?hr38
              case hy38 => (intro w hSw; (try dsimp only at hSw); go_simp; (try with_reducible rfl))
              simp only [Act.put, List.setIfInBounds_toArray, List.set_cons_zero, List.set_cons_succ, List.getElem_toArray, List.getElem_cons_zero, List.getElem_cons_succ]
              refine' wpAnyH_take (i := 11) (v := _) rfl (by kernel_rfl) (by kernel_rfl) (by kernel_rfl) (fun _ _ _ h => h) (Or.inl ⟨by rfl, ?hy39⟩) hHeld ?hr39
              case hy39 => (intro w hSw; (try dsimp only at hSw); go_simp; (try with_reducible rfl))
              simp only [Act.put, List.setIfInBounds_toArray, List.set_cons_zero, List.set_cons_succ, List.getElem_toArray, List.getElem_cons_zero, List.getElem_cons_succ]
              refine' wpAnyH_take (i := 12) (v := _) rfl (by kernel_rfl) (by kernel_rfl) (by kernel_rfl) (fun _ _ _ h => h) (Or.inl ⟨by rfl, ?hy40⟩) hHeld ?hr40
              case hy40 => (intro w hSw; (try dsimp only at hSw); go_simp; (try with_reducible rfl))
              simp only [Act.put, List.setIfInBounds_toArray, List.set_cons_zero, List.set_cons_succ, List.getElem_toArray, List.getElem_cons_zero, List.getElem_cons_succ]
              refine' wpAnyH_take (i := 13) (v := _) rfl (by kernel_rfl) (by kernel_rfl) (by kernel_rfl) (fun _ _ _ h => h) (Or.inl ⟨by rfl, ?hy41⟩) hHeld ?hr41
              case hy41 => (intro w hSw; (try dsimp only at hSw); go_simp; (try with_reducible rfl))
              simp only [Act.put, List.setIfInBounds_toArray, List.set_cons_zero, List.set_cons_succ, List.getElem_toArray, List.getElem_cons_zero, List.getElem_cons_succ]
              refine' wpAnyH_take (i := 14) (v := _) rfl (by kernel_rfl) (by kernel_rfl) (by kernel_rfl) (fun _ _ _ h => h) (Or.inl ⟨by rfl, ?hy42⟩) hHeld ?hr42
              case hy42 => (intro w hSw; (try dsimp only at hSw); go_simp; (try with_reducible rfl))
              simp only [Act.put, List.setIfInBounds_toArray, List.set_cons_zero, List.set_cons_succ, List.getElem_toArray, List.getElem_cons_zero, List.getElem_cons_succ]
              refine' wpAnyH_take (i := 15) (v := _) rfl (by kernel_rfl) (by kernel_rfl) (by kernel_rfl) (fun _ _ _ h => h) (Or.inl ⟨by rfl, ?hy43⟩) hHeld ?hr43
              case hy43 => (intro w hSw; (try dsimp only at hSw); go_simp; (try with_reducible rfl))
              simp only [Act.put, List.setIfInBounds_toArray, List.set_cons_zero, List.set_cons_succ, List.getElem_toArray, List.getElem_cons_zero, List.getElem_cons_succ]
              refine' wpAnyH_take (i := 16) (v := _) rfl (by kernel_rfl) (by kernel_rfl) (by kernel_rfl) (fun _ _ _ h => h) (Or.inl ⟨by rfl, ?hy44⟩) hHeld ?hr44
              case hy44 => (intro w hSw; (try dsimp only at hSw); go_simp; (try with_reducible rfl))
              simp only [Act.put, List.setIfInBounds_toArray, List.set_cons_zero, List.set_cons_succ, List.getElem_toArray, List.getElem_cons_zero, List.getElem_cons_succ]
              refine' wpAnyH_take (i := 17) (v := _) rfl (by kernel_rfl) (by kernel_rfl) (by kernel_rfl) (fun _ _ _ h => h) (Or.inl ⟨by rfl, ?hy45⟩) hHeld ?hr45
              case hy45 => (intro w hSw; (try dsimp only at hSw); go_simp; (try with_reducible rfl))
              simp only [Act.put, List.setIfInBounds_toArray, List.set_cons_zero, List.set_cons_succ, List.getElem_toArray, List.getElem_cons_zero, List.getElem_cons_succ]
              refine' wpAnyH_take (i := 18) (v := _) rfl (by kernel_rfl) (by kernel_rfl) (by kernel_rfl) (fun _ _ _ h => h) (Or.inl ⟨by rfl, ?hy46⟩) hHeld ?hr46
              case hy46 => (intro w hSw; (try dsimp only at hSw); go_simp; (try with_reducible rfl))
              simp only [Act.put, List.setIfInBounds_toArray, List.set_cons_zero, List.set_cons_succ, List.getElem_toArray, List.getElem_cons_zero, List.getElem_cons_succ]
              refine' wpAnyH_take (i := 19) (v := _) rfl (by kernel_rfl) (by kernel_rfl) (by kernel_rfl) (fun _ _ _ h => h) (Or.inl ⟨by rfl, ?hy47⟩) hHeld ?hr47
              case hy47 => (intro w hSw; (try dsimp only at hSw); go_simp; (try with_reducible rfl))
              simp only [Act.put, List.setIfInBounds_toArray, List.set_cons_zero, List.set_cons_succ, List.getElem_toArray, List.getElem_cons_zero, List.getElem_cons_succ]
              refine' wpAnyH_take (i := 20) (v := _) rfl (by kernel_rfl) (by kernel_rfl) (by kernel_rfl) (fun _ _ _ h => h) (Or.inl ⟨by rfl, ?hy48⟩) hHeld ?hr48
              case hy48 => (intro w hSw; (try dsimp only at hSw); go_simp; (try with_reducible rfl))
              simp only [Act.put, List.setIfInBounds_toArray, List.set_cons_zero, List.set_cons_succ, List.getElem_toArray, List.getElem_cons_zero, List.getElem_cons_succ]
              refine' wpAnyH_take (i := 21) (v := _) rfl (by kernel_rfl) (by kernel_rfl) (by kernel_rfl) (fun _ _ _ h => h) (Or.inl ⟨by rfl, ?hy49⟩) hHeld ?hr49
              case hy49 => (intro w hSw; (try dsimp only at hSw); go_simp; (try with_reducible rfl))
              simp only [Act.put, List.setIfInBounds_toArray, List.set_cons_zero, List.set_cons_succ, List.getElem_toArray, List.getElem_cons_zero, List.getElem_cons_succ]
              refine' wpAnyH_take (i := 22) (v := _) rfl (by kernel_rfl) (by kernel_rfl) (by kernel_rfl) (fun _ _ _ h => h) (Or.inl ⟨by rfl, ?hy50⟩) hHeld ?hr50
              case hy50 => (intro w hSw; (try dsimp only at hSw); go_simp; (try with_reducible rfl))
              simp only [Act.put, List.setIfInBounds_toArray, List.set_cons_zero, List.set_cons_succ, List.getElem_toArray, List.getElem_cons_zero, List.getElem_cons_succ]
              refine' wpAnyH_take (i := 23) (v := _) rfl (by kernel_rfl) (by kernel_rfl) (by kernel_rfl) (fun _ _ _ h => h) (Or.inl ⟨by rfl, ?hy51⟩) hHeld ?hr51
              case hy51 => (intro w hSw; (try dsimp only at hSw); go_simp; (try with_reducible rfl))
              simp only [Act.put, List.setIfInBounds_toArray, List.set_cons_zero, List.set_cons_succ, List.getElem_toArray, List.getElem_cons_zero, List.getElem_cons_succ]
              refine' wpAnyH_take (i := 24) (v := _) rfl (by kernel_rfl) (by kernel_rfl) (by kernel_rfl) (fun _ _ _ h => h) (Or.inl ⟨by rfl, ?hy52⟩) hHeld ?hr52
              case hy52 => (intro w hSw; (try dsimp only at hSw); go_simp; (try with_reducible rfl))
              simp only [Act.put, List.setIfInBounds_toArray, List.set_cons_zero, List.set_cons_succ, List.getElem_toArray, List.getElem_cons_zero, List.getElem_cons_succ]
              refine' wpAnyH_take (i := 25) (v := _) rfl (by kernel_rfl) (by kernel_rfl) (by kernel_rfl) (fun _ _ _ h => h) (Or.inl ⟨by rfl, ?hy53⟩) hHeld ?hr53
              case hy53 => (intro w hSw; (try dsimp only at hSw); go_simp; (try with_reducible rfl))
              simp only [Act.put, List.setIfInBounds_toArray, List.set_cons_zero, List.set_cons_succ, List.getElem_toArray, List.getElem_cons_zero, List.getElem_cons_succ]
              refine' wpAnyH_take (i := 26) (v := _) rfl (by kernel_rfl) (by kernel_rfl) (by kernel_rfl) (fun _ _ _ h => h) (Or.inl ⟨by rfl, ?hy54⟩) hHeld ?hr54
              case hy54 => (intro w hSw; (try dsimp only at hSw); go_simp; (try with_reducible rfl))
              simp only [Act.put, List.setIfInBounds_toArray, List.set_cons_zero, List.set_cons_succ, List.getElem_toArray, List.getElem_cons_zero, List.getElem_cons_succ]
              refine' wpAnyH_take (i := 27) (v := _) rfl (by kernel_rfl) (by kernel_rfl) (by kernel_rfl) (fun _ _ _ h => h) (Or.inl ⟨by rfl, ?hy55⟩) hHeld ?hr55
              case hy55 => (intro w hSw; (try dsimp only at hSw); go_simp; (try with_reducible rfl))
              simp only [Act.put, List.setIfInBounds_toArray, List.set_cons_zero, List.set_cons_succ, List.getElem_toArray, List.getElem_cons_zero, List.getElem_cons_succ]
              refine' wpAnyH_take (i := 28) (v := _) rfl (by kernel_rfl) (by kernel_rfl) (by kernel_rfl) (fun _ _ _ h => h) (Or.inl ⟨by rfl, ?hy56⟩) hHeld ?hr56
              case hy56 => (intro w hSw; (try dsimp only at hSw); go_simp; (try with_reducible rfl))
              simp only [Act.put, List.setIfInBounds_toArray, List.set_cons_zero, List.set_cons_succ, List.getElem_toArray, List.getElem_cons_zero, List.getElem_cons_succ]
              refine wpAnyH_done (by kernel_rfl) ?_ _
              refine NoPanic.normal ?_
              go_wp2
              go_roundw
              case rel => exact ⟨k + 1, by omega, by go_num, rfl, rfl, rfl, hnx, kW2.out.trans (hd.mono kW2.out.size)⟩
              case measure => simp [intOf]; omega
          · have hft := fun W => fits_any kd fa fb i j W
            simp only [decide_eq_false hfit] at hft
            have hncc : ¬ CH i j k := fun h => hfit ⟨(hch.out.1 h).1, (hch.out.1 h).2.1⟩
            have hnx := hnext.out hncc
            clear hncc hfit
            have hcl := hbc
            have hd := hd0.out
            go_wp2
            refine wp_region_noPanic ?_
            refine wp_region_held_drew (S := (fun W => W.cell? ⟨wr.heap.size, 0, none⟩ = some (.int .i64 kd) ∧ W.cell? ⟨wr.heap.size, 1, none⟩ = some (.int .i64 fa) ∧ W.cell? ⟨wr.heap.size, 2, none⟩ = some (.int .i64 fb))) (by kernel_rfl) (hcl.out _ hd) (fun hHeld => ?_)
            refine' wpAnyH_take (i := 0) (v := _) rfl (by kernel_rfl) (by kernel_rfl) (by kernel_rfl) (fun _ _ _ h => h) (Or.inl ⟨by rfl, ?hy57⟩) hHeld ?hr57
            case hy57 => (intro w hSw; (try dsimp only at hSw); go_simp; (try with_reducible rfl))
            simp only [Act.put, List.setIfInBounds_toArray, List.set_cons_zero, List.set_cons_succ, List.getElem_toArray, List.getElem_cons_zero]
            refine' wpAnyH_take (i := 1) (v := _) rfl (by kernel_rfl) (by kernel_rfl) (by kernel_rfl) (fun _ _ _ h => h) (Or.inl ⟨by rfl, ?hy58⟩) hHeld ?hr58
            case hy58 => (intro w hSw; (try dsimp only at hSw); go_simp; (try with_reducible rfl))
            simp only [Act.put, List.setIfInBounds_toArray, List.set_cons_zero, List.set_cons_succ, List.getElem_toArray, List.getElem_cons_zero, List.getElem_cons_succ]
            refine' wpAnyH_take (i := 2) (v := _) rfl (by kernel_rfl) (by kernel_rfl) (by kernel_rfl) (fun _ _ _ h => h) (Or.inl ⟨by rfl, ?hy59⟩) hHeld ?hr59
            case hy59 => (intro w hSw; (try dsimp only at hSw); go_simp; (try with_reducible rfl))
            simp only [Act.put, List.setIfInBounds_toArray, List.set_cons_zero, List.set_cons_succ, List.getElem_toArray, List.getElem_cons_zero, List.getElem_cons_succ]
            refine wpAnyH_ready (rs := [3]) (by kernel_rfl) (by simp) (allReady_1 rfl rfl (fun K hK => ?_))
            go_simp
            refine (hft _).mono ?_
            rintro e w9 ⟨rfl, hb9⟩
            replace hd := hd.trans (hb9.mono hd.size)
            go_wp2_with fail
            refine hK.out _ _ (hcl.out _ hd) (fun hHeld => ?_)
            clear hK K
            (try simp only [Act.put, List.setIfInBounds_toArray, List.set_cons_zero, List.set_cons_succ])
            refine' wpAnyH_take (i := 4) (v := _) rfl (by kernel_rfl) (by kernel_rfl) (by kernel_rfl) (fun _ _ _ h => h) (Or.inl ⟨by rfl, ?hy60⟩) hHeld ?hr60
            case hy60 => (intro w hSw; (try dsimp only at hSw); go_simp; (try with_reducible rfl))
            simp only [Act.put, List.setIfInBounds_toArray, List.set_cons_zero, List.set_cons_succ, List.getElem_toArray, List.getElem_cons_zero, List.getElem_cons_succ]
            refine wpAnyH_take (i := 5) (v := undef) rfl (by kernel_rfl) (by kernel_rfl) (by kernel_rfl) (fun _ _ _ h => h) (Or.inr ⟨by rfl, rfl⟩) hHeld ?_
            simp only [Act.put, List.setIfInBounds_toArray, List.set_cons_zero, List.set_cons_succ, List.getElem_toArray, List.getElem_cons_zero, List.getElem_cons_succ]
            refine wpAnyH_take (i := 6) (v := undef) rfl (by kernel_rfl) (by kernel_rfl) (by kernel_rfl) (fun _ _ _ h => h) (Or.inr ⟨by rfl, rfl⟩) hHeld ?_
            simp only [Act.put, List.setIfInBounds_toArray, List.set_cons_zero, List.set_cons_succ, List.getElem_toArray, List.getElem_cons_zero, List.getElem_cons_succ]
            refine wpAnyH_take (i := 7) (v := undef) rfl (by kernel_rfl) (by kernel_rfl) (by kernel_rfl) (fun _ _ _ h => h) (Or.inr ⟨by rfl, rfl⟩) hHeld ?_
            simp only [Act.put, List.setIfInBounds_toArray, List.set_cons_zero, List.set_cons_succ, List.getElem_toArray, List.getElem_cons_zero, List.getElem_cons_succ]
            refine wpAnyH_take (i := 8) (v := undef) rfl (by kernel_rfl) (by kernel_rfl) (by kernel_rfl) (fun _ _ _ h => h) (Or.inr ⟨by rfl, rfl⟩) hHeld ?_
            simp only [Act.put, List.setIfInBounds_toArray, List.set_cons_zero, List.set_cons_succ, List.getElem_toArray, List.getElem_cons_zero, List.getElem_cons_succ]
            refine wpAnyH_take (i := 9) (v := undef) rfl (by kernel_rfl) (by kernel_rfl) (by kernel_rfl) (fun _ _ _ h => h) (Or.inr ⟨by rfl, rfl⟩) hHeld ?_
            simp only [Act.put, List.setIfInBounds_toArray, List.set_cons_zero, List.set_cons_succ, List.getElem_toArray, List.getElem_cons_zero, List.getElem_cons_succ]
            refine wpAnyH_take (i := 10) (v := undef) rfl (by kernel_rfl) (by kernel_rfl) (by kernel_rfl) (fun _ _ _ h => h) (Or.inr ⟨by rfl, rfl⟩) hHeld ?_
            simp only [Act.put, List.setIfInBounds_toArray, List.set_cons_zero, List.set_cons_succ, List.getElem_toArray, List.getElem_cons_zero, List.getElem_cons_succ]
            refine wpAnyH_take (i := 11) (v := undef) rfl (by kernel_rfl) (by kernel_rfl) (by kernel_rfl) (fun _ _ _ h => h) (Or.inr ⟨by rfl, rfl⟩) hHeld ?_
            simp only [Act.put, List.setIfInBounds_toArray, List.set_cons_zero, List.set_cons_succ, List.getElem_toArray, List.getElem_cons_zero, List.getElem_cons_succ]
            refine wpAnyH_take (i := 12) (v := undef) rfl (by kernel_rfl) (by kernel_rfl) (by kernel_rfl) (fun _ _ _ h => h) (Or.inr ⟨by rfl, rfl⟩) hHeld ?_
            simp only [Act.put, List.setIfInBounds_toArray, List.set_cons_zero, List.set_cons_succ, List.getElem_toArray, List.getElem_cons_zero, List.getElem_cons_succ]
            refine wpAnyH_take (i := 13) (v := undef) rfl (by kernel_rfl) (by kernel_rfl) (by kernel_rfl) (fun _ _ _ h => h) (Or.inr ⟨by rfl, rfl⟩) hHeld ?_
            simp only [Act.put, List.setIfInBounds_toArray, List.set_cons_zero, List.set_cons_succ, List.getElem_toArray, List.getElem_cons_zero, List.getElem_cons_succ]
            refine wpAnyH_take (i := 14) (v := undef) rfl (by kernel_rfl) (by kernel_rfl) (by kernel_rfl) (fun _ _ _ h => h) (Or.inr ⟨by rfl, rfl⟩) hHeld ?_
            simp only [Act.put, List.setIfInBounds_toArray, List.set_cons_zero, List.set_cons_succ, List.getElem_toArray, List.getElem_cons_zero, List.getElem_cons_succ]
            refine wpAnyH_take (i := 15) (v := undef) rfl (by kernel_rfl) (by kernel_rfl) (by kernel_rfl) (fun _ _ _ h => h) (Or.inr ⟨by rfl, rfl⟩) hHeld ?_
            simp only [Act.put, List.setIfInBounds_toArray, List.set_cons_zero, List.set_cons_succ, List.getElem_toArray, List.getElem_cons_zero, List.getElem_cons_succ]
            refine wpAnyH_take (i := 16) (v := undef) rfl (by kernel_rfl) (by kernel_rfl) (by kernel_rfl) (fun _ _ _ h => h) (Or.inr ⟨by rfl, rfl⟩) hHeld ?_
            simp only [Act.put, List.setIfInBounds_toArray, List.set_cons_zero, List.set_cons_succ, List.getElem_toArray, List.getElem_cons_zero, List.getElem_cons_succ]
            refine wpAnyH_take (i := 17) (v := undef) rfl (by kernel_rfl) (by kernel_rfl) (by kernel_rfl) (fun _ _ _ h => h) (Or.inr ⟨by rfl, rfl⟩) hHeld ?_
            simp only [Act.put, List.setIfInBounds_toArray, List.set_cons_zero, List.set_cons_succ, List.getElem_toArray, List.getElem_cons_zero, List.getElem_cons_succ]
            refine wpAnyH_take (i := 18) (v := undef) rfl (by kernel_rfl) (by kernel_rfl) (by kernel_rfl) (fun _ _ _ h => h) (Or.inr ⟨by rfl, rfl⟩) hHeld ?_
            simp only [Act.put, List.setIfInBounds_toArray, List.set_cons_zero, List.set_cons_succ, List.getElem_toArray, List.getElem_cons_zero, List.getElem_cons_succ]
            refine wpAnyH_take (i := 19) (v := undef) rfl (by kernel_rfl) (by kernel_rfl) (by kernel_rfl) (fun _ _ _ h => h) (Or.inr ⟨by rfl, rfl⟩) hHeld ?_
            simp only [Act.put, List.setIfInBounds_toArray, List.set_cons_zero, List.set_cons_succ, List.getElem_toArray, List.getElem_cons_zero, List.getElem_cons_succ]
            refine wpAnyH_take (i := 20) (v := undef) rfl (by kernel_rfl) (by kernel_rfl) (by kernel_rfl) (fun _ _ _ h => h) (Or.inr ⟨by rfl, rfl⟩) hHeld ?_
            simp only [Act.put, List.setIfInBounds_toArray, List.set_cons_zero, List.set_cons_succ, List.getElem_toArray, List.getElem_cons_zero, List.getElem_cons_succ]
            refine wpAnyH_take (i := 21) (v := undef) rfl (by kernel_rfl) (by kernel_rfl) (by kernel_rfl) (fun _ _ _ h => h) (Or.inr ⟨by rfl, rfl⟩) hHeld ?_
            simp only [Act.put, List.setIfInBounds_toArray, List.set_cons_zero, List.set_cons_succ, List.getElem_toArray, List.getElem_cons_zero, List.getElem_cons_succ]
            refine wpAnyH_take (i := 22) (v := undef) rfl (by kernel_rfl) (by kernel_rfl) (by kernel_rfl) (fun _ _ _ h => h) (Or.inr ⟨by rfl, rfl⟩) hHeld ?_
            simp only [Act.put, List.setIfInBounds_toArray, List.set_cons_zero, List.set_cons_succ, List.getElem_toArray, List.getElem_cons_zero, List.getElem_cons_succ]
            refine wpAnyH_take (i := 23) (v := undef) rfl (by kernel_rfl) (by kernel_rfl) (by kernel_rfl) (fun _ _ _ h => h) (Or.inr ⟨by rfl, rfl⟩) hHeld ?_
            simp only [Act.put, List.setIfInBounds_toArray, List.set_cons_zero, List.set_cons_succ, List.getElem_toArray, List.getElem_cons_zero, List.getElem_cons_succ]
            refine wpAnyH_take (i := 24) (v := undef) rfl (by kernel_rfl) (by kernel_rfl) (by kernel_rfl) (fun _ _ _ h => h) (Or.inr ⟨by rfl, rfl⟩) hHeld ?_
            simp only [Act.put, List.setIfInBounds_toArray, List.set_cons_zero, List.set_cons_succ, List.getElem_toArray, List.getElem_cons_zero, List.getElem_cons_succ]
            refine wpAnyH_take (i := 25) (v := undef) rfl (by kernel_rfl) (by kernel_rfl) (by kernel_rfl) (fun _ _ _ h => h) (Or.inr ⟨by rfl, rfl⟩) hHeld ?_
            simp only [Act.put, List.setIfInBounds_toArray, List.set_cons_zero, List.set_cons_succ, List.getElem_toArray, List.getElem_cons_zero, List.getElem_cons_succ]
            refine wpAnyH_take (i := 26) (v := undef) rfl (by kernel_rfl) (by kernel_rfl) (by kernel_rfl) (fun _ _ _ h => h) (Or.inr ⟨by rfl, rfl⟩) hHeld ?_
            simp only [Act.put, List.setIfInBounds_toArray, List.set_cons_zero, List.set_cons_succ, List.getElem_toArray, List.getElem_cons_zero, List.getElem_cons_succ]
            refine wpAnyH_take (i := 27) (v := undef) rfl (by kernel_rfl) (by kernel_rfl) (by kernel_rfl) (fun _ _ _ h => h) (Or.inr ⟨by rfl, rfl⟩) hHeld ?_
            simp only [Act.put, List.setIfInBounds_toArray, List.set_cons_zero, List.set_cons_succ, List.getElem_toArray, List.getElem_cons_zero, List.getElem_cons_succ]
            refine' wpAnyH_take (i := 28) (v := _) rfl (by kernel_rfl) (by kernel_rfl) (by kernel_rfl) (fun _ _ _ h => h) (Or.inl ⟨by rfl, ?hy61⟩) hHeld ?hr61
            case hy61 => (intro w hSw; (try dsimp only at hSw); go_simp; (try with_reducible rfl))
            simp only [Act.put, List.setIfInBounds_toArray, List.set_cons_zero, List.set_cons_succ, List.getElem_toArray, List.getElem_cons_zero, List.getElem_cons_succ]
            refine wpAnyH_done (by kernel_rfl) ?_ _
            refine NoPanic.normal ?_
            go_wp2
            go_roundw
            case rel => exact ⟨k + 1, by omega, by go_num, rfl, rfl, rfl, hnx, kW2.out.trans (hd.mono kW2.out.size)⟩
            case measure => simp [intOf]; omega
        · exfalso
          have : k = 3 := by omega
          subst this
          exact hsome.out i j hpos.out hne.out hmin.out
    · clear h00
      by_cases hA : alikeB xs ys i j = true
      · obtain ⟨i1, j1, hi1, hj1, hEq, hDq⟩ := hAl.out i j hA
        have hcal := hal.out wr kb i j hi hj
        rw [hA] at hcal
        replace hi1 := (show Hid _ from hi1)
        replace hj1 := (show Hid _ from hj1)
        have e3 : IntKind.i64.wrap ((i : Int) - 1) = (i1 : Int) := wid (by have := hi1.out; omega) (by omega) (by omega)
        have e8 : IntKind.i64.wrap ((j : Int) - 1) = (j1 : Int) := wid (by have := hj1.out; omega) (by omega) (by omega)
        have hq2 : Hid (es ++ EE i1 j1 = E) := by show _ = _; rw [← hEq]; exact hq.out
        have hDL2 : Hid (D i1 j1 ≤ L) := by show _ ≤ _; rw [← hDq]; exact hDL.out
        clear hEq hDq hA
        go_wp2_with fail
        refine hcal.mono ?_
        rintro e w2 ⟨rfl, hb2⟩
        have ho2 : Hid (OwnE w2 w.heap.size g cap es) := World.ownsRow.kept ho.out (Below.gr hb2 none) (.inr (by simp [Value.ownBlock]))
        have kb2 := kb.trans (hb2.mono kb.size)
        clear hcal hb2
        go_wp2
        go_roundw
        case rel => exact ⟨i1, j1, es, g, cap, by have := hi1.out; omega, by have := hj1.out; omega, rfl, rfl, rfl, ho2.out, hq2, kb2, hDL2.out⟩
        case measure => simp [intOf]; have := hi1.out; have := hj1.out; omega
      have hA : alikeB xs ys i j = false := by simpa using hA
      have hne := hNal.out i j hA
      have hcal := hal.out wr kb i j hi hj
      rw [hA] at hcal
      replace hne := (show Hid _ from hne)
      clear hA
      go_wp2_with fail
      refine hcal.mono ?_
      rintro e w2 ⟨rfl, hb2⟩
      have ho2 : Hid (OwnE w2 w.heap.size g cap es) := World.ownsRow.kept ho.out (Below.gr hb2 none) (.inr (by simp [Value.ownBlock]))
      have kb2 := kb.trans (hb2.mono kb.size)
      have hgl := (OwnE.lt ho2.out).2
      have c2 := (hRc.out w2 kb2).2.2.1
      clear hcal hb2 ho kb
      go_wp2
      go_loopw [3, 4, 5, 7, 38] (fun ov iv jv _ kv wr => ∃ k : Nat, k ≤ 3 ∧ kv = .int .i64 k ∧ ov = .slice (some ⟨g, 0, none⟩) es.length cap ∧ iv = .int .i64 i ∧ jv = .int .i64 j ∧ Hid (∀ k', k' < k → ¬ CH i j k') ∧ Below w2.heap.size w2 wr) (fun _ _ _ _ kv _ => 3 - (intOf kv).toNat)
      case atStart => exact ⟨0, by omega, rfl, rfl, rfl, rfl, fun k' h => absurd h (Nat.not_lt_zero _), Below.refl _ _⟩
      case round =>
        obtain ⟨k, hk, rfl, rfl, rfl, rfl, hmin, k3⟩ := hrel
        by_cases hk3 : k < 3
        · have kbr := kb2.trans (k3.mono kb2.size)
          obtain ⟨v0, v1, v2⟩ := hVc2.out k hk3 wr kbr
          obtain ⟨b1, b2, b3⟩ := wayN_bd k
          have hch := hcho.out i j k
          have hwk := fun (hc : CH i j k) => hway.out i j k hk3 hne.out hc hmin.out
          have hnext : (¬ CH i j k) → Hid (∀ k', k' < k + 1 → ¬ CH i j k') := fun h k' h1 => by
            by_cases e : k' = k
            · rw [e]; exact h
            · exact hmin.out k' (by omega)
          generalize wayN k = wk at v0 v1 v2 b1 b2 b3 hch hwk
          obtain ⟨kd, fa, fb⟩ := wk
          dsimp only at v0 v1 v2 b1 b2 b3 hch hwk
          have hki : (k : Int) < 3 := by omega
          have hal1 := bal' wr (Obj.cells #[.int .i64 kd, .int .i64 fa, .int .i64 fb] 73)
          have hbx : BlkC (wr.alloc (Obj.cells #[.int .i64 kd, .int .i64 fa, .int .i64 fb] 73)) wr.heap.size 73 [.int .i64 kd, .int .i64 fa, .int .i64 fb] := heap_alloc_new wr _
          have kW := kbr.trans (hal1.mono kbr.size)
          have kW2 := k3.trans (hal1.mono k3.size)
          have hsz2 := k3.size
          have hbc : ∀ W, Below (wr.alloc (Obj.cells #[.int .i64 kd, .int .i64 fa, .int .i64 fb] 73)).heap.size (wr.alloc (Obj.cells #[.int .i64 kd, .int .i64 fa, .int .i64 fb] 73)) W → W.cell? ⟨wr.heap.size, 0, none⟩ = some (.int .i64 kd) ∧ W.cell? ⟨wr.heap.size, 1, none⟩ = some (.int .i64 fa) ∧ W.cell? ⟨wr.heap.size, 2, none⟩ = some (.int .i64 fb) := fun W k => by
            have := BlkC.below hbx k
            exact ⟨cell_blk this 0, cell_blk this 1, cell_blk this 2⟩
          have hd0 : Below (wr.alloc (Obj.cells #[.int .i64 kd, .int .i64 fa, .int .i64 fb] 73)).heap.size (wr.alloc (Obj.cells #[.int .i64 kd, .int .i64 fa, .int .i64 fb] 73)) (wr.alloc (Obj.cells #[.int .i64 kd, .int .i64 fa, .int .i64 fb] 73)).drew := ⟨rfl, rfl, rfl, Nat.le_refl _, fun _ _ => rfl⟩
          have hVw : V < wr.heap.size := Nat.lt_of_lt_of_le hVl kbr.size
          replace hwk := (show Hid _ from hwk)
          replace hch := (show Hid _ from hch)
          replace hbc := (show Hid _ from hbc)
          replace hnext := (show Hid _ from hnext)
          replace kW := (show Hid _ from kW)
          replace kW2 := (show Hid _ from kW2)
          replace hd0 := (show Hid _ from hd0)
          clear hbx hal1
          by_cases hfit : fa ≤ i ∧ fb ≤ j
          · obtain ⟨hf0, hf1⟩ := hfit
            have hft := fun W => fits_any kd fa fb i j W
            simp only [decide_eq_true (And.intro hf0 hf1)] at hft
            obtain ⟨p, hp⟩ : ∃ p, Hid (i - fa = p) := ⟨_, rfl⟩
            obtain ⟨q, hqq⟩ : ∃ q, Hid (j - fb = q) := ⟨_, rfl⟩
            have hpi := hp.out
            have hqj := hqq.out
            have g1 : IntKind.i64.wrap ((i : Int) - (fa : Int)) = (p : Int) := wid (by omega) (by omega) (by omega)
            have g2 : IntKind.i64.wrap ((j : Int) - (fb : Int)) = (q : Int) := wid (by omega) (by omega) (by omega)
            have p41 : (p : Int) < 41 := by omega
            have q41 : (q : Int) < 41 := by omega
            have i41 : (i : Int) < 41 := by omega
            have j41 : (j : Int) < 41 := by omega
            obtain ⟨rp, hrp⟩ : ∃ rp, Hid (R p q = rp) := ⟨_, rfl⟩
            obtain ⟨rij, hrij⟩ : ∃ rij, Hid (R i j = rij) := ⟨_, rfl⟩
            have hRp : rp = edC L (D p q) := by rw [← hrp.out]; exact hF.out p q (by omega) (by omega)
            have hRij : rij = D i j := by rw [← hrij.out, hF.out i j hi hj]; unfold edC; exact if_pos hDL.out
            have hless := edC_less L (D i j) (D p q) hDL.out hL.2
            rw [← hRp, ← hRij] at hless
            have hcl : ∀ W, Below (wr.alloc (Obj.cells #[.int .i64 kd, .int .i64 fa, .int .i64 fb] 73)).heap.size (wr.alloc (Obj.cells #[.int .i64 kd, .int .i64 fa, .int .i64 fb] 73)) W → W.cell? ⟨wr.heap.size, 0, none⟩ = some (.int .i64 kd) ∧ W.cell? ⟨wr.heap.size, 1, none⟩ = some (.int .i64 fa) ∧ W.cell? ⟨wr.heap.size, 2, none⟩ = some (.int .i64 fb) ∧ W.cell? ⟨B, 4 + p * 41 + q, none⟩ = some (.int .i64 rp) ∧ W.cell? ⟨B, 4 + i * 41 + j, none⟩ = some (.int .i64 rij) := fun W k => by
              obtain ⟨z0, z1, z2⟩ := hbc.out W k
              have z3 := hRa.out W (kW.out.trans (k.mono kW.out.size)) p q (by omega) (by omega)
              have z4 := hRa.out W (kW.out.trans (k.mono kW.out.size)) i j (by omega) (by omega)
              rw [hrp.out] at z3
              rw [hrij.out] at z4
              exact ⟨z0, z1, z2, z3, z4⟩
            have hchk := hch.out
            rw [hpi, hqj, ← hRij] at hchk
            replace hcl := (show Hid _ from hcl)
            clear hpi hqj hRp
            by_cases hc : rp < rij
            · have hEk := hwk.out (hchk.2 ⟨hf0, hf1, hless.1 hc⟩)
              rw [hp.out, hqq.out] at hEk
              have hqs : es ++ (kd, (p : Int), if fb = 0 then 0 else ys.getD (j - 1) 0) :: EE p q = E := by rw [← hEk]; exact hq.out
              have hDL3 : Hid (D p q ≤ L) := by show _ ≤ _; have := hless.1 hc; have := hDL.out; omega
              clear hEk hchk hless hRij
              replace hqs := (show Hid _ from hqs)
              have hd := hd0.out
              go_wp2
              refine wp_region_noPanic ?_
              refine wp_region_held_drew (S := (fun W => W.cell? ⟨wr.heap.size, 0, none⟩ = some (.int .i64 kd) ∧ W.cell? ⟨wr.heap.size, 1, none⟩ = some (.int .i64 fa) ∧ W.cell? ⟨wr.heap.size, 2, none⟩ = some (.int .i64 fb) ∧ W.cell? ⟨B, 4 + p * 41 + q, none⟩ = some (.int .i64 rp) ∧ W.cell? ⟨B, 4 + i * 41 + j, none⟩ = some (.int .i64 rij))) (by kernel_rfl) (hcl.out _ hd) (fun hHeld => ?_)
              refine' wpAnyH_take (i := 0) (v := _) rfl (by kernel_rfl) (by kernel_rfl) (by kernel_rfl) (fun _ _ _ h => h) (Or.inl ⟨by rfl, ?hy62⟩) hHeld ?hr62
              case hy62 => (intro w hSw; (try dsimp only at hSw); go_simp; (try with_reducible rfl))
              simp only [Act.put, List.setIfInBounds_toArray, List.set_cons_zero, List.set_cons_succ, List.getElem_toArray, List.getElem_cons_zero]
              refine' wpAnyH_take (i := 1) (v := _) rfl (by kernel_rfl) (by kernel_rfl) (by kernel_rfl) (fun _ _ _ h => h) (Or.inl ⟨by rfl, ?hy63⟩) hHeld ?hr63
              case hy63 => (intro w hSw; (try dsimp only at hSw); go_simp; (try with_reducible rfl))
              simp only [Act.put, List.setIfInBounds_toArray, List.set_cons_zero, List.set_cons_succ, List.getElem_toArray, List.getElem_cons_zero, List.getElem_cons_succ]
              refine' wpAnyH_take (i := 2) (v := _) rfl (by kernel_rfl) (by kernel_rfl) (by kernel_rfl) (fun _ _ _ h => h) (Or.inl ⟨by rfl, ?hy64⟩) hHeld ?hr64
              case hy64 => (intro w hSw; (try dsimp only at hSw); go_simp; (try with_reducible rfl))
              simp only [Act.put, List.setIfInBounds_toArray, List.set_cons_zero, List.set_cons_succ, List.getElem_toArray, List.getElem_cons_zero, List.getElem_cons_succ]
              refine wpAnyH_ready (rs := [3]) (by kernel_rfl) (by simp) (allReady_1 rfl rfl (fun K hK => ?_))
              go_simp
              refine (hft _).mono ?_
              rintro e w9 ⟨rfl, hb9⟩
              replace hd := hd.trans (hb9.mono hd.size)
              go_wp2_with fail
              refine hK.out _ _ (hcl.out _ hd) (fun hHeld => ?_)
              clear hK K
              (try simp only [Act.put, List.setIfInBounds_toArray, List.set_cons_zero, List.set_cons_succ])
              refine' wpAnyH_take (i := 4) (v := _) rfl (by kernel_rfl) (by kernel_rfl) (by kernel_rfl) (fun _ _ _ h => h) (Or.inl ⟨by rfl, ?hy65⟩) hHeld ?hr65
              case hy65 => (intro w hSw; (try dsimp only at hSw); go_simp; (try with_reducible rfl))
              simp only [Act.put, List.setIfInBounds_toArray, List.set_cons_zero, List.set_cons_succ, List.getElem_toArray, List.getElem_cons_zero, List.getElem_cons_succ]
              refine' wpAnyH_take (i := 5) (v := _) rfl (by kernel_rfl) (by kernel_rfl) (by kernel_rfl) (fun _ _ _ h => h) (Or.inl ⟨by rfl, ?hy66⟩) hHeld ?hr66
              case hy66 => (intro w hSw; (try dsimp only at hSw); go_simp; (try with_reducible rfl))
              simp only [Act.put, List.setIfInBounds_toArray, List.set_cons_zero, List.set_cons_succ, List.getElem_toArray, List.getElem_cons_zero, List.getElem_cons_succ]
              refine' wpAnyH_take (i := 6) (v := _) rfl (by kernel_rfl) (by kernel_rfl) (by kernel_rfl) (fun _ _ _ h => h) (Or.inl ⟨by rfl, ?hy67⟩) hHeld ?hr67
              case hy67 => (intro w hSw; (try dsimp only at hSw); go_simp; (try with_reducible rfl))
              simp only [Act.put, List.setIfInBounds_toArray, List.set_cons_zero, List.set_cons_succ, List.getElem_toArray, List.getElem_cons_zero, List.getElem_cons_succ]
              refine' wpAnyH_take (i := 7) (v := _) rfl (by kernel_rfl) (by kernel_rfl) (by kernel_rfl) (fun _ _ _ h => h) (Or.inl ⟨by rfl, ?hy68⟩) hHeld ?hr68
              case hy68 => (intro w hSw; (try dsimp only at hSw); go_simp; (try with_reducible rfl))
              simp only [Act.put, List.setIfInBounds_toArray, List.set_cons_zero, List.set_cons_succ, List.getElem_toArray, List.getElem_cons_zero, List.getElem_cons_succ]
              refine' wpAnyH_take (i := 8) (v := _) rfl (by kernel_rfl) (by kernel_rfl) (by kernel_rfl) (fun _ _ _ h => h) (Or.inl ⟨by rfl, ?hy69⟩) hHeld ?hr69
              case hy69 => (intro w hSw; (try dsimp only at hSw); go_simp; (try with_reducible rfl))
              simp only [Act.put, List.setIfInBounds_toArray, List.set_cons_zero, List.set_cons_succ, List.getElem_toArray, List.getElem_cons_zero, List.getElem_cons_succ]
              refine' wpAnyH_take (i := 9) (v := _) rfl (by kernel_rfl) (by kernel_rfl) (by kernel_rfl) (fun _ _ _ h => h) (Or.inl ⟨by rfl, ?hy70⟩) hHeld ?hr70
              case hy70 => (intro w hSw; (try dsimp only at hSw); go_simp; (try with_reducible rfl))
              simp only [Act.put, List.setIfInBounds_toArray, List.set_cons_zero, List.set_cons_succ, List.getElem_toArray, List.getElem_cons_zero, List.getElem_cons_succ]
              refine' wpAnyH_take (i := 10) (v := _) rfl (by kernel_rfl) (by kernel_rfl) (by kernel_rfl) (fun _ _ _ h => h) (Or.inl ⟨by rfl, ?hy71⟩) hHeld ?hr71
              case hy71 => (intro w hSw; (try dsimp only at hSw); go_simp; (try with_reducible rfl))
              simp only [Act.put, List.setIfInBounds_toArray, List.set_cons_zero, List.set_cons_succ, List.getElem_toArray, List.getElem_cons_zero, List.getElem_cons_succ]
              refine' wpAnyH_take (i := 11) (v := _) rfl (by kernel_rfl) (by kernel_rfl) (by kernel_rfl) (fun _ _ _ h => h) (Or.inl ⟨by rfl, ?hy72⟩) hHeld ?hr72
              case hy72 => (intro w hSw; (try dsimp only at hSw); go_simp; (try with_reducible rfl))
              simp only [Act.put, List.setIfInBounds_toArray, List.set_cons_zero, List.set_cons_succ, List.getElem_toArray, List.getElem_cons_zero, List.getElem_cons_succ]
              refine' wpAnyH_take (i := 12) (v := _) rfl (by kernel_rfl) (by kernel_rfl) (by kernel_rfl) (fun _ _ _ h => h) (Or.inl ⟨by rfl, ?hy73⟩) hHeld ?hr73
              case hy73 => (intro w hSw; (try dsimp only at hSw); go_simp; (try with_reducible rfl))
              simp only [Act.put, List.setIfInBounds_toArray, List.set_cons_zero, List.set_cons_succ, List.getElem_toArray, List.getElem_cons_zero, List.getElem_cons_succ]
              refine' wpAnyH_take (i := 13) (v := _) rfl (by kernel_rfl) (by kernel_rfl) (by kernel_rfl) (fun _ _ _ h => h) (Or.inl ⟨by rfl, ?hy74⟩) hHeld ?hr74
              case hy74 => (intro w hSw; (try dsimp only at hSw); go_simp; (try with_reducible rfl))
              simp only [Act.put, List.setIfInBounds_toArray, List.set_cons_zero, List.set_cons_succ, List.getElem_toArray, List.getElem_cons_zero, List.getElem_cons_succ]
              refine' wpAnyH_take (i := 14) (v := _) rfl (by kernel_rfl) (by kernel_rfl) (by kernel_rfl) (fun _ _ _ h => h) (Or.inl ⟨by rfl, ?hy75⟩) hHeld ?hr75
              case hy75 => (intro w hSw; (try dsimp only at hSw); go_simp; (try with_reducible rfl))
              simp only [Act.put, List.setIfInBounds_toArray, List.set_cons_zero, List.set_cons_succ, List.getElem_toArray, List.getElem_cons_zero, List.getElem_cons_succ]
              refine' wpAnyH_take (i := 15) (v := _) rfl (by kernel_rfl) (by kernel_rfl) (by kernel_rfl) (fun _ _ _ h => h) (Or.inl ⟨by rfl, ?hy76⟩) hHeld ?hr76
              case hy76 => (intro w hSw; (try dsimp only at hSw); go_simp; (try with_reducible rfl))
              simp only [Act.put, List.setIfInBounds_toArray, List.set_cons_zero, List.set_cons_succ, List.getElem_toArray, List.getElem_cons_zero, List.getElem_cons_succ]
              refine' wpAnyH_take (i := 16) (v := _) rfl (by kernel_rfl) (by kernel_rfl) (by kernel_rfl) (fun _ _ _ h => h) (Or.inl ⟨by rfl, ?hy77⟩) hHeld ?hr77
              case hy77 => (intro w hSw; (try dsimp only at hSw); go_simp; (try with_reducible rfl))
              simp only [Act.put, List.setIfInBounds_toArray, List.set_cons_zero, List.set_cons_succ, List.getElem_toArray, List.getElem_cons_zero, List.getElem_cons_succ]
              refine' wpAnyH_take (i := 17) (v := _) rfl (by kernel_rfl) (by kernel_rfl) (by kernel_rfl) (fun _ _ _ h => h) (Or.inl ⟨by rfl, ?hy78⟩) hHeld ?hr78
              case hy78 => (intro w hSw; (try dsimp only at hSw); go_simp; (try with_reducible rfl))
              simp only [Act.put, List.setIfInBounds_toArray, List.set_cons_zero, List.set_cons_succ, List.getElem_toArray, List.getElem_cons_zero, List.getElem_cons_succ]
              refine' wpAnyH_take (i := 18) (v := _) rfl (by kernel_rfl) (by kernel_rfl) (by kernel_rfl) (fun _ _ _ h => h) (Or.inl ⟨by rfl, ?hy79⟩) hHeld ?hr79
              case hy79 => (intro w hSw; (try dsimp only at hSw); go_simp; (try with_reducible rfl))
              simp only [Act.put, List.setIfInBounds_toArray, List.set_cons_zero, List.set_cons_succ, List.getElem_toArray, List.getElem_cons_zero, List.getElem_cons_succ]
              refine' wpAnyH_take (i := 19) (v := _) rfl (by kernel_rfl) (by kernel_rfl) (by kernel_rfl) (fun _ _ _ h => h) (Or.inl ⟨by rfl, ?hy80⟩) hHeld ?hr80
              case hy80 => (intro w hSw; (try dsimp only at hSw); go_simp; (try with_reducible rfl))
              simp only [Act.put, List.setIfInBounds_toArray, List.set_cons_zero, List.set_cons_succ, List.getElem_toArray, List.getElem_cons_zero, List.getElem_cons_succ]
              refine' wpAnyH_take (i := 20) (v := _) rfl (by kernel_rfl) (by kernel_rfl) (by kernel_rfl) (fun _ _ _ h => h) (Or.inl ⟨by rfl, ?hy81⟩) hHeld ?hr81
              case hy81 => (intro w hSw; (try dsimp only at hSw); go_simp; (try with_reducible rfl))
              simp only [Act.put, List.setIfInBounds_toArray, List.set_cons_zero, List.set_cons_succ, List.getElem_toArray, List.getElem_cons_zero, List.getElem_cons_succ]
              refine' wpAnyH_take (i := 21) (v := _) rfl (by kernel_rfl) (by kernel_rfl) (by kernel_rfl) (fun _ _ _ h => h) (Or.inl ⟨by rfl, ?hy82⟩) hHeld ?hr82
              case hy82 => (intro w hSw; (try dsimp only at hSw); go_simp; (try with_reducible rfl))
              simp only [Act.put, List.setIfInBounds_toArray, List.set_cons_zero, List.set_cons_succ, List.getElem_toArray, List.getElem_cons_zero, List.getElem_cons_succ]
              refine' wpAnyH_take (i := 22) (v := _) rfl (by kernel_rfl) (by kernel_rfl) (by kernel_rfl) (fun _ _ _ h => h) (Or.inl ⟨by rfl, ?hy83⟩) hHeld ?hr83
              case hy83 => (intro w hSw; (try dsimp only at hSw); go_simp; (try with_reducible rfl))
              simp only [Act.put, List.setIfInBounds_toArray, List.set_cons_zero, List.set_cons_succ, List.getElem_toArray, List.getElem_cons_zero, List.getElem_cons_succ]
              refine' wpAnyH_take (i := 23) (v := _) rfl (by kernel_rfl) (by kernel_rfl) (by kernel_rfl) (fun _ _ _ h => h) (Or.inl ⟨by rfl, ?hy84⟩) hHeld ?hr84
              case hy84 => (intro w hSw; (try dsimp only at hSw); go_simp; (try with_reducible rfl))
              simp only [Act.put, List.setIfInBounds_toArray, List.set_cons_zero, List.set_cons_succ, List.getElem_toArray, List.getElem_cons_zero, List.getElem_cons_succ]
              refine' wpAnyH_take (i := 24) (v := _) rfl (by kernel_rfl) (by kernel_rfl) (by kernel_rfl) (fun _ _ _ h => h) (Or.inl ⟨by rfl, ?hy85⟩) hHeld ?hr85
              case hy85 => (intro w hSw; (try dsimp only at hSw); go_simp; (try with_reducible rfl))
              simp only [Act.put, List.setIfInBounds_toArray, List.set_cons_zero, List.set_cons_succ, List.getElem_toArray, List.getElem_cons_zero, List.getElem_cons_succ]
              refine' wpAnyH_take (i := 25) (v := _) rfl (by kernel_rfl) (by kernel_rfl) (by kernel_rfl) (fun _ _ _ h => h) (Or.inl ⟨by rfl, ?hy86⟩) hHeld ?hr86
              case hy86 => (intro w hSw; (try dsimp only at hSw); go_simp; (try with_reducible rfl))
              simp only [Act.put, List.setIfInBounds_toArray, List.set_cons_zero, List.set_cons_succ, List.getElem_toArray, List.getElem_cons_zero, List.getElem_cons_succ]
              refine' wpAnyH_take (i := 26) (v := _) rfl (by kernel_rfl) (by kernel_rfl) (by kernel_rfl) (fun _ _ _ h => h) (Or.inl ⟨by rfl, ?hy87⟩) hHeld ?hr87
              case hy87 => (intro w hSw; (try dsimp only at hSw); go_simp; (try with_reducible rfl))
              simp only [Act.put, List.setIfInBounds_toArray, List.set_cons_zero, List.set_cons_succ, List.getElem_toArray, List.getElem_cons_zero, List.getElem_cons_succ]
              refine' wpAnyH_take (i := 27) (v := _) rfl (by kernel_rfl) (by kernel_rfl) (by kernel_rfl) (fun _ _ _ h => h) (Or.inl ⟨by rfl, ?hy88⟩) hHeld ?hr88
              case hy88 => (intro w hSw; (try dsimp only at hSw); go_simp; (try with_reducible rfl))
              simp only [Act.put, List.setIfInBounds_toArray, List.set_cons_zero, List.set_cons_succ, List.getElem_toArray, List.getElem_cons_zero, List.getElem_cons_succ]
              refine' wpAnyH_take (i := 28) (v := _) rfl (by kernel_rfl) (by kernel_rfl) (by kernel_rfl) (fun _ _ _ h => h) (Or.inl ⟨by rfl, ?hy89⟩) hHeld ?hr89
              case hy89 => (intro w hSw; (try dsimp only at hSw); go_simp; (try with_reducible rfl))
              simp only [Act.put, List.setIfInBounds_toArray, List.set_cons_zero, List.set_cons_succ, List.getElem_toArray, List.getElem_cons_zero, List.getElem_cons_succ]
              refine wpAnyH_done (by kernel_rfl) ?_ _
              refine NoPanic.normal ?_
              go_wp2_with fail
              have kb9 := kW.out.trans (hd.mono kW.out.size)
              obtain ⟨d0, d1, d2, _, _⟩ := hcl.out _ hd
              replace hq := hqs
              obtain ⟨yv, hyv⟩ : ∃ yv, Hid ((if fb = 0 then 0 else ys.getD (j - 1) 0) = yv) := ⟨_, rfl⟩
              have hedc := hed.out w9 kb9 kd fa fb i j hf0 ⟨b2, hf1⟩ (by omega) hj
              rw [hp.out, hyv.out] at hedc
              have hqs2 := hqs.out
              rw [hyv.out] at hqs2
              refine hedc.mono ?_
              rintro e w4 ⟨rfl, hb4⟩
              have kb4 := kb9.trans (hb4.mono kb9.size)
              have hk24 := (kW2.out.trans (hd.mono kW2.out.size)).trans (hb4.mono (Nat.le_trans kW2.out.size hd.size))
              have ho4 : OwnE w4 w.heap.size g cap es := World.ownsRow.kept ho2.out (Below.gr hk24 none) (.inr (by simp [Value.ownBlock]))
              have hbx9 : wr.heap.size < w9.heap.size := by have := hd.size; simp at this; omega
              have d4 : w4.cell? ⟨wr.heap.size, 1, none⟩ = some (.int .i64 fa) := (hb4.cell (p := ⟨wr.heap.size, 1, none⟩) hbx9).trans d1
              have d5 : w4.cell? ⟨wr.heap.size, 2, none⟩ = some (.int .i64 fb) := (hb4.cell (p := ⟨wr.heap.size, 2, none⟩) hbx9).trans d2
              have hbx4 : wr.heap.size < w4.heap.size := Nat.lt_of_lt_of_le hbx9 hb4.size
              have hes : es.length ≤ 200 := by have := congrArg List.length hqs2; rw [List.length_append] at this; omega
              have hq3 : Hid ((es ++ [(kd, (p : Int), yv)]) ++ EE p q = E) := by show _ = _; rw [List.append_assoc]; exact hqs2
              have hgl4 := OwnE.lt ho4
              clear hqs2 hq hqs hedc hk24 hb4 d0 d1 d2 kb9 hcl
              go_wp2_with (at_builtin; refine append_ed (w := w4) rfl _ _ rfl w.heap.size g cap es hes (by rfl) ho4 kd (p : Int) yv (by rfl) kb4.size ?_; intro g5 cap5 w5 ho5 hg5 hat)
              have kb5 := kb4.grown hg5 kb4.size (fun k e => by injection e with e; omega)
              have d6 : w5.cell? ⟨wr.heap.size, 1, none⟩ = some (.int .i64 fa) := (World.cell?_of_block (w := w4) (a := ⟨wr.heap.size, 1, none⟩) (hg5.block wr.heap.size hbx4 (fun e => by injection e with e; omega))).trans d4
              have d7 : w5.cell? ⟨wr.heap.size, 2, none⟩ = some (.int .i64 fb) := (World.cell?_of_block (w := w4) (a := ⟨wr.heap.size, 2, none⟩) (hg5.block wr.heap.size hbx4 (fun e => by injection e with e; omega))).trans d5
              replace ho5 := (show Hid _ from ho5)
              clear ho4 hg5 hat d4 d5 kb4
              go_wp2
              go_quiet (fail)
              go_wp2
              go_roundw
              case rel => exact ⟨p, q, es ++ [(kd, (p : Int), yv)], g5, cap5, by have := hp.out; omega, by have := hqq.out; omega, rfl, rfl, by rw [List.length_append]; rfl, ho5.out, hq3, kb5.trans (Below.mono (show Below w5.heap.size w5 (w5.drewN nq) from ⟨rfl, rfl, rfl, Nat.le_refl _, fun _ _ => rfl⟩) kb5.size), hDL3.out⟩
              case measure => simp [intOf]; have := hp.out; have := hqq.out; omega
            · have hncc : ¬ CH i j k := fun h => hc (hless.2 (hchk.1 h).2.2)
              have hnx := hnext.out hncc
              clear hchk hless hRij hncc
              have hd := hd0.out
              go_wp2
              refine wp_region_noPanic ?_
              refine wp_region_held_drew (S := (fun W => W.cell? ⟨wr.heap.size, 0, none⟩ = some (.int .i64 kd) ∧ W.cell? ⟨wr.heap.size, 1, none⟩ = some (.int .i64 fa) ∧ W.cell? ⟨wr.heap.size, 2, none⟩ = some (.int .i64 fb) ∧ W.cell? ⟨B, 4 + p * 41 + q, none⟩ = some (.int .i64 rp) ∧ W.cell? ⟨B, 4 + i * 41 + j, none⟩ = some (.int .i64 rij))) (by kernel_rfl) (hcl.out _ hd) (fun hHeld => ?_)
              refine' wpAnyH_take (i := 0) (v := _) rfl (by kernel_rfl) (by kernel_rfl) (by kernel_rfl) (fun _ _ _ h => h) (Or.inl ⟨by rfl, ?hy90⟩) hHeld ?hr90
              case hy90 => (intro w hSw; (try dsimp only at hSw); go_simp; (try with_reducible rfl))
              simp only [Act.put, List.setIfInBounds_toArray, List.set_cons_zero, List.set_cons_succ, List.getElem_toArray, List.getElem_cons_zero]
              refine' wpAnyH_take (i := 1) (v := _) rfl (by kernel_rfl) (by kernel_rfl) (by kernel_rfl) (fun _ _ _ h => h) (Or.inl ⟨by rfl, ?hy91⟩) hHeld ?hr91
              case hy91 => (intro w hSw; (try dsimp only at hSw); go_simp; (try with_reducible rfl))
              simp only [Act.put, List.setIfInBounds_toArray, List.set_cons_zero, List.set_cons_succ, List.getElem_toArray, List.getElem_cons_zero, List.getElem_cons_succ]
              refine' wpAnyH_take (i := 2) (v := _) rfl (by kernel_rfl) (by kernel_rfl) (by kernel_rfl) (fun _ _ _ h => h) (Or.inl ⟨by rfl, ?hy92⟩) hHeld ?hr92
              case hy92 => (intro w hSw; (try dsimp only at hSw); go_simp; (try with_reducible rfl))
              simp only [Act.put, List.setIfInBounds_toArray, List.set_cons_zero, List.set_cons_succ, List.getElem_toArray, List.getElem_cons_zero, List.getElem_cons_succ]
              refine wpAnyH_ready (rs := [3]) (by kernel_rfl) (by simp) (allReady_1 rfl rfl (fun K hK => ?_))
              go_simp
              refine (hft _).mono ?_
              rintro e w9 ⟨rfl, hb9⟩
              replace hd := hd.trans (hb9.mono hd.size)
              go_wp2_with fail
              refine hK.out _ _ (hcl.out _ hd) (fun hHeld => ?_)
              clear hK K
              (try simp only [Act.put, List.setIfInBounds_toArray, List.set_cons_zero, List.set_cons_succ])
              refine' wpAnyH_take (i := 4) (v := _) rfl (by kernel_rfl) (by kernel_rfl) (by kernel_rfl) (fun _ _ _ h => h) (Or.inl ⟨by rfl, ?hy93⟩) hHeld ?hr93
              case hy93 => (intro w hSw; (try dsimp only at hSw); go_simp; (try with_reducible rfl))
              simp only [Act.put, List.setIfInBounds_toArray, List.set_cons_zero, List.set_cons_succ, List.getElem_toArray, List.getElem_cons_zero, List.getElem_cons_succ]
              refine' wpAnyH_take (i := 5) (v := _) rfl (by kernel_rfl) (by kernel_rfl) (by kernel_rfl) (fun _ _ _ h => h) (Or.inl ⟨by rfl, ?hy94⟩) hHeld ?hr94
              case hy94 => (intro w hSw; (try dsimp only at hSw); go_simp; (try with_reducible rfl))
              simp only [Act.put, List.setIfInBounds_toArray, List.set_cons_zero, List.set_cons_succ, List.getElem_toArray, List.getElem_cons_zero, List.getElem_cons_succ]
              refine' wpAnyH_take (i := 6) (v := _) rfl (by kernel_rfl) (by kernel_rfl) (by kernel_rfl) (fun _ _ _ h => h) (Or.inl ⟨by rfl, ?hy95⟩) hHeld ?hr95
              case hy95 => (intro w hSw; (try dsimp only at hSw); go_simp; (try with_reducible rfl))
              simp only [Act.put, List.setIfInBounds_toArray, List.set_cons_zero, List.set_cons_succ, List.getElem_toArray, List.getElem_cons_zero, List.getElem_cons_succ]
              refine' wpAnyH_take (i := 7) (v := _) rfl (by kernel_rfl) (by kernel_rfl) (by kernel_rfl) (fun _ _ _ h => h) (Or.inl ⟨by rfl, ?hy96⟩) hHeld ?hr96
              case hy96 => (intro w hSw; (try dsimp only at hSw); go_simp; (try with_reducible rfl))
              simp only [Act.put, List.setIfInBounds_toArray, List.set_cons_zero, List.set_cons_succ, List.getElem_toArray, List.getElem_cons_zero, List.getElem_cons_succ]
              refine' wpAnyH_take (i := 8) (v := _) rfl (by kernel_rfl) (by kernel_rfl) (by kernel_rfl) (fun _ _ _ h => h) (Or.inl ⟨by rfl, ?hy97⟩) hHeld ?hr97
              case hy97 => (intro w hSw; (try dsimp only at hSw); go_simp; (try with_reducible rfl))
              simp only [Act.put, List.setIfInBounds_toArray, List.set_cons_zero, List.set_cons_succ, List.getElem_toArray, List.getElem_cons_zero, List.getElem_cons_succ]
              refine' wpAnyH_take (i := 9) (v := _) rfl (by kernel_rfl) (by kernel_rfl) (by kernel_rfl) (fun _ _ _ h => h) (Or.inl ⟨by rfl, ?hy98⟩) hHeld ?hr98
              case hy98 => (intro w hSw; (try dsimp only at hSw); go_simp; (try with_reducible rfl))
              simp only [Act.put, List.setIfInBounds_toArray, List.set_cons_zero, List.set_cons_succ, List.getElem_toArray, List.getElem_cons_zero, List.getElem_cons_succ]
              refine' wpAnyH_take (i := 10) (v := _) rfl (by kernel_rfl) (by kernel_rfl) (by kernel_rfl) (fun _ _ _ h => h) (Or.inl ⟨by rfl, ?hy99⟩) hHeld ?hr99
              case hy99 => (intro w hSw; (try dsimp only at hSw); go_simp; (try with_reducible rfl))
              simp only [Act.put, List.setIfInBounds_toArray, List.set_cons_zero, List.set_cons_succ, List.getElem_toArray, List.getElem_cons_zero, List.getElem_cons_succ]
              refine' wpAnyH_take (i := 11) (v := _) rfl (by kernel_rfl) (by kernel_rfl) (by kernel_rfl) (fun _ _ _ h => h) (Or.inl ⟨by rfl, ?hy100⟩) hHeld ?hr100
              case hy100 => (intro w hSw; (try dsimp only at hSw); go_simp; (try with_reducible rfl))
              simp only [Act.put, List.setIfInBounds_toArray, List.set_cons_zero, List.set_cons_succ, List.getElem_toArray, List.getElem_cons_zero, List.getElem_cons_succ]
              refine' wpAnyH_take (i := 12) (v := _) rfl (by kernel_rfl) (by kernel_rfl) (by kernel_rfl) (fun _ _ _ h => h) (Or.inl ⟨by rfl, ?hy101⟩) hHeld ?hr101
              case hy101 => (intro w hSw; (try dsimp only at hSw); go_simp; (try with_reducible rfl))
              simp only [Act.put, List.setIfInBounds_toArray, List.set_cons_zero, List.set_cons_succ, List.getElem_toArray, List.getElem_cons_zero, List.getElem_cons_succ]
              refine' wpAnyH_take (i := 13) (v := _) rfl (by kernel_rfl) (by kernel_rfl) (by kernel_rfl) (fun _ _ _ h => h) (Or.inl ⟨by rfl, ?hy102⟩) hHeld ?hr102
              case hy102 => (intro w hSw; (try dsimp only at hSw); go_simp; (try with_reducible rfl))
              simp only [Act.put, List.setIfInBounds_toArray, List.set_cons_zero, List.set_cons_succ, List.getElem_toArray, List.getElem_cons_zero, List.getElem_cons_succ]
              refine' wpAnyH_take (i := 14) (v := _) rfl (by kernel_rfl) (by kernel_rfl) (by kernel_rfl) (fun _ _ _ h => h) (Or.inl ⟨by rfl, ?hy103⟩) hHeld ?hr103
              case hy103 => (intro w hSw; (try dsimp only at hSw); go_simp; (try with_reducible rfl))
              simp only [Act.put, List.setIfInBounds_toArray, List.set_cons_zero, List.set_cons_succ, List.getElem_toArray, List.getElem_cons_zero, List.getElem_cons_succ]
              refine' wpAnyH_take (i := 15) (v := _) rfl (by kernel_rfl) (by kernel_rfl) (by kernel_rfl) (fun _ _ _ h => h) (Or.inl ⟨by rfl, ?hy104⟩) hHeld ?hr104
              case hy104 => (intro w hSw; (try dsimp only at hSw); go_simp; (try with_reducible rfl))
              simp only [Act.put, List.setIfInBounds_toArray, List.set_cons_zero, List.set_cons_succ, List.getElem_toArray, List.getElem_cons_zero, List.getElem_cons_succ]
              refine' wpAnyH_take (i := 16) (v := _) rfl (by kernel_rfl) (by kernel_rfl) (by kernel_rfl) (fun _ _ _ h => h) (Or.inl ⟨by rfl, ?hy105⟩) hHeld ?hr105
              case hy105 => (intro w hSw; (try dsimp only at hSw); go_simp; (try with_reducible rfl))
              simp only [Act.put, List.setIfInBounds_toArray, List.set_cons_zero, List.set_cons_succ, List.getElem_toArray, List.getElem_cons_zero, List.getElem_cons_succ]
              refine' wpAnyH_take (i := 17) (v := _) rfl (by kernel_rfl) (by kernel_rfl) (by kernel_rfl) (fun _ _ _ h => h) (Or.inl ⟨by rfl, ?hy106⟩) hHeld ?hr106
              case hy106 => (intro w hSw; (try dsimp only at hSw); go_simp; (try with_reducible rfl))
              simp only [Act.put, List.setIfInBounds_toArray, List.set_cons_zero, List.set_cons_succ, List.getElem_toArray, List.getElem_cons_zero, List.getElem_cons_succ]
              refine' wpAnyH_take (i := 18) (v := _) rfl (by kernel_rfl) (by kernel_rfl) (by kernel_rfl) (fun _ _ _ h => h) (Or.inl ⟨by rfl, ?hy107⟩) hHeld ?hr107
              case hy107 => (intro w hSw; (try dsimp only at hSw); go_simp; (try with_reducible rfl))
              simp only [Act.put, List.setIfInBounds_toArray, List.set_cons_zero, List.set_cons_succ, List.getElem_toArray, List.getElem_cons_zero, List.getElem_cons_succ]
              refine' wpAnyH_take (i := 19) (v := _) rfl (by kernel_rfl) (by kernel_rfl) (by kernel_rfl) (fun _ _ _ h => h) (Or.inl ⟨by rfl, ?hy108⟩) hHeld ?hr108
              case hy108 => (intro w hSw; (try dsimp only at hSw); go_simp; (try with_reducible rfl))
              simp only [Act.put, List.setIfInBounds_toArray, List.set_cons_zero, List.set_cons_succ, List.getElem_toArray, List.getElem_cons_zero, List.getElem_cons_succ]
              refine' wpAnyH_take (i := 20) (v := _) rfl (by kernel_rfl) (by kernel_rfl) (by kernel_rfl) (fun _ _ _ h => h) (Or.inl ⟨by rfl, ?hy109⟩) hHeld ?hr109
              case hy109 => (intro w hSw; (try dsimp only at hSw); go_simp; (try with_reducible rfl))
              simp only [Act.put, List.setIfInBounds_toArray, List.set_cons_zero, List.set_cons_succ, List.getElem_toArray, List.getElem_cons_zero, List.getElem_cons_succ]
              refine' wpAnyH_take (i := 21) (v := _) rfl (by kernel_rfl) (by kernel_rfl) (by kernel_rfl) (fun _ _ _ h => h) (Or.inl ⟨by rfl, ?hy110⟩) hHeld ?hr110
              case hy110 => (intro w hSw; (try dsimp only at hSw); go_simp; (try with_reducible rfl))
              simp only [Act.put, List.setIfInBounds_toArray, List.set_cons_zero, List.set_cons_succ, List.getElem_toArray, List.getElem_cons_zero, List.getElem_cons_succ]
              refine' wpAnyH_take (i := 22) (v := _) rfl (by kernel_rfl) (by kernel_rfl) (by kernel_rfl) (fun _ _ _ h => h) (Or.inl ⟨by rfl, ?hy111⟩) hHeld ?hr111
              case hy111 => (intro w hSw; (try dsimp only at hSw); go_simp; (try with_reducible rfl))
              simp only [Act.put, List.setIfInBounds_toArray, List.set_cons_zero, List.set_cons_succ, List.getElem_toArray, List.getElem_cons_zero, List.getElem_cons_succ]
              refine' wpAnyH_take (i := 23) (v := _) rfl (by kernel_rfl) (by kernel_rfl) (by kernel_rfl) (fun _ _ _ h => h) (Or.inl ⟨by rfl, ?hy112⟩) hHeld ?hr112
              case hy112 => (intro w hSw; (try dsimp only at hSw); go_simp; (try with_reducible rfl))
              simp only [Act.put, List.setIfInBounds_toArray, List.set_cons_zero, List.set_cons_succ, List.getElem_toArray, List.getElem_cons_zero, List.getElem_cons_succ]
              refine' wpAnyH_take (i := 24) (v := _) rfl (by kernel_rfl) (by kernel_rfl) (by kernel_rfl) (fun _ _ _ h => h) (Or.inl ⟨by rfl, ?hy113⟩) hHeld ?hr113
              case hy113 => (intro w hSw; (try dsimp only at hSw); go_simp; (try with_reducible rfl))
              simp only [Act.put, List.setIfInBounds_toArray, List.set_cons_zero, List.set_cons_succ, List.getElem_toArray, List.getElem_cons_zero, List.getElem_cons_succ]
              refine' wpAnyH_take (i := 25) (v := _) rfl (by kernel_rfl) (by kernel_rfl) (by kernel_rfl) (fun _ _ _ h => h) (Or.inl ⟨by rfl, ?hy114⟩) hHeld ?hr114
              case hy114 => (intro w hSw; (try dsimp only at hSw); go_simp; (try with_reducible rfl))
              simp only [Act.put, List.setIfInBounds_toArray, List.set_cons_zero, List.set_cons_succ, List.getElem_toArray, List.getElem_cons_zero, List.getElem_cons_succ]
              refine' wpAnyH_take (i := 26) (v := _) rfl (by kernel_rfl) (by kernel_rfl) (by kernel_rfl) (fun _ _ _ h => h) (Or.inl ⟨by rfl, ?hy115⟩) hHeld ?hr115
              case hy115 => (intro w hSw; (try dsimp only at hSw); go_simp; (try with_reducible rfl))
              simp only [Act.put, List.setIfInBounds_toArray, List.set_cons_zero, List.set_cons_succ, List.getElem_toArray, List.getElem_cons_zero, List.getElem_cons_succ]
              refine' wpAnyH_take (i := 27) (v := _) rfl (by kernel_rfl) (by kernel_rfl) (by kernel_rfl) (fun _ _ _ h => h) (Or.inl ⟨by rfl, ?hy116⟩) hHeld ?hr116
              case hy116 => (intro w hSw; (try dsimp only at hSw); go_simp; (try with_reducible rfl))
              simp only [Act.put, List.setIfInBounds_toArray, List.set_cons_zero, List.set_cons_succ, List.getElem_toArray, List.getElem_cons_zero, List.getElem_cons_succ]
              refine' wpAnyH_take (i := 28) (v := _) rfl (by kernel_rfl) (by kernel_rfl) (by kernel_rfl) (fun _ _ _ h => h) (Or.inl ⟨by rfl, ?hy117⟩) hHeld ?hr117
              case hy117 => (intro w hSw; (try dsimp only at hSw); go_simp; (try with_reducible rfl))
              simp only [Act.put, List.setIfInBounds_toArray, List.set_cons_zero, List.set_cons_succ, List.getElem_toArray, List.getElem_cons_zero, List.getElem_cons_succ]
              refine wpAnyH_done (by kernel_rfl) ?_ _
              refine NoPanic.normal ?_
              go_wp2
              go_roundw
              case rel => exact ⟨k + 1, by omega, by go_num, rfl, rfl, rfl, hnx, kW2.out.trans (hd.mono kW2.out.size)⟩
              case measure => simp [intOf]; omega
          · have hft := fun W => fits_any kd fa fb i j W
            simp only [decide_eq_false hfit] at hft
            have hncc : ¬ CH i j k := fun h => hfit ⟨(hch.out.1 h).1, (hch.out.1 h).2.1⟩
            have hnx := hnext.out hncc
            clear hncc hfit
            have hcl := hbc
            have hd := hd0.out
            go_wp2
            refine wp_region_noPanic ?_
            refine wp_region_held_drew (S := (fun W => W.cell? ⟨wr.heap.size, 0, none⟩ = some (.int .i64 kd) ∧ W.cell? ⟨wr.heap.size, 1, none⟩ = some (.int .i64 fa) ∧ W.cell? ⟨wr.heap.size, 2, none⟩ = some (.int .i64 fb))) (by kernel_rfl) (hcl.out _ hd) (fun hHeld => ?_)
            refine' wpAnyH_take (i := 0) (v := _) rfl (by kernel_rfl) (by kernel_rfl) (by kernel_rfl) (fun _ _ _ h => h) (Or.inl ⟨by rfl, ?hy118⟩) hHeld ?hr118
            case hy118 => (intro w hSw; (try dsimp only at hSw); go_simp; (try with_reducible rfl))
            simp only [Act.put, List.setIfInBounds_toArray, List.set_cons_zero, List.set_cons_succ, List.getElem_toArray, List.getElem_cons_zero]
            refine' wpAnyH_take (i := 1) (v := _) rfl (by kernel_rfl) (by kernel_rfl) (by kernel_rfl) (fun _ _ _ h => h) (Or.inl ⟨by rfl, ?hy119⟩) hHeld ?hr119
            case hy119 => (intro w hSw; (try dsimp only at hSw); go_simp; (try with_reducible rfl))
            simp only [Act.put, List.setIfInBounds_toArray, List.set_cons_zero, List.set_cons_succ, List.getElem_toArray, List.getElem_cons_zero, List.getElem_cons_succ]
            refine' wpAnyH_take (i := 2) (v := _) rfl (by kernel_rfl) (by kernel_rfl) (by kernel_rfl) (fun _ _ _ h => h) (Or.inl ⟨by rfl, ?hy120⟩) hHeld ?hr120
            case hy120 => (intro w hSw; (try dsimp only at hSw); go_simp; (try with_reducible rfl))
            simp only [Act.put, List.setIfInBounds_toArray, List.set_cons_zero, List.set_cons_succ, List.getElem_toArray, List.getElem_cons_zero, List.getElem_cons_succ]
            refine wpAnyH_ready (rs := [3]) (by kernel_rfl) (by simp) (allReady_1 rfl rfl (fun K hK => ?_))
            go_simp
            refine (hft _).mono ?_
            rintro e w9 ⟨rfl, hb9⟩
            replace hd := hd.trans (hb9.mono hd.size)
            go_wp2_with fail
            refine hK.out _ _ (hcl.out _ hd) (fun hHeld => ?_)
            clear hK K
            (try simp only [Act.put, List.setIfInBounds_toArray, List.set_cons_zero, List.set_cons_succ])
            refine' wpAnyH_take (i := 4) (v := _) rfl (by kernel_rfl) (by kernel_rfl) (by kernel_rfl) (fun _ _ _ h => h) (Or.inl ⟨by rfl, ?hy121⟩) hHeld ?hr121
            case hy121 => (intro w hSw; (try dsimp only at hSw); go_simp; (try with_reducible rfl))
            simp only [Act.put, List.setIfInBounds_toArray, List.set_cons_zero, List.set_cons_succ, List.getElem_toArray, List.getElem_cons_zero, List.getElem_cons_succ]
            refine wpAnyH_take (i := 5) (v := undef) rfl (by kernel_rfl) (by kernel_rfl) (by kernel_rfl) (fun _ _ _ h => h) (Or.inr ⟨by rfl, rfl⟩) hHeld ?_
            simp only [Act.put, List.setIfInBounds_toArray, List.set_cons_zero, List.set_cons_succ, List.getElem_toArray, List.getElem_cons_zero, List.getElem_cons_succ]
            refine wpAnyH_take (i := 6) (v := undef) rfl (by kernel_rfl) (by kernel_rfl) (by kernel_rfl) (fun _ _ _ h => h) (Or.inr ⟨by rfl, rfl⟩) hHeld ?_
            simp only [Act.put, List.setIfInBounds_toArray, List.set_cons_zero, List.set_cons_succ, List.getElem_toArray, List.getElem_cons_zero, List.getElem_cons_succ]
            refine wpAnyH_take (i := 7) (v := undef) rfl (by kernel_rfl) (by kernel_rfl) (by kernel_rfl) (fun _ _ _ h => h) (Or.inr ⟨by rfl, rfl⟩) hHeld ?_
            simp only [Act.put, List.setIfInBounds_toArray, List.set_cons_zero, List.set_cons_succ, List.getElem_toArray, List.getElem_cons_zero, List.getElem_cons_succ]
            refine wpAnyH_take (i := 8) (v := undef) rfl (by kernel_rfl) (by kernel_rfl) (by kernel_rfl) (fun _ _ _ h => h) (Or.inr ⟨by rfl, rfl⟩) hHeld ?_
            simp only [Act.put, List.setIfInBounds_toArray, List.set_cons_zero, List.set_cons_succ, List.getElem_toArray, List.getElem_cons_zero, List.getElem_cons_succ]
            refine wpAnyH_take (i := 9) (v := undef) rfl (by kernel_rfl) (by kernel_rfl) (by kernel_rfl) (fun _ _ _ h => h) (Or.inr ⟨by rfl, rfl⟩) hHeld ?_
            simp only [Act.put, List.setIfInBounds_toArray, List.set_cons_zero, List.set_cons_succ, List.getElem_toArray, List.getElem_cons_zero, List.getElem_cons_succ]
            refine wpAnyH_take (i := 10) (v := undef) rfl (by kernel_rfl) (by kernel_rfl) (by kernel_rfl) (fun _ _ _ h => h) (Or.inr ⟨by rfl, rfl⟩) hHeld ?_
            simp only [Act.put, List.setIfInBounds_toArray, List.set_cons_zero, List.set_cons_succ, List.getElem_toArray, List.getElem_cons_zero, List.getElem_cons_succ]
            refine wpAnyH_take (i := 11) (v := undef) rfl (by kernel_rfl) (by kernel_rfl) (by kernel_rfl) (fun _ _ _ h => h) (Or.inr ⟨by rfl, rfl⟩) hHeld ?_
            simp only [Act.put, List.setIfInBounds_toArray, List.set_cons_zero, List.set_cons_succ, List.getElem_toArray, List.getElem_cons_zero, List.getElem_cons_succ]
            refine wpAnyH_take (i := 12) (v := undef) rfl (by kernel_rfl) (by kernel_rfl) (by kernel_rfl) (fun _ _ _ h => h) (Or.inr ⟨by rfl, rfl⟩) hHeld ?_
            simp only [Act.put, List.setIfInBounds_toArray, List.set_cons_zero, List.set_cons_succ, List.getElem_toArray, List.getElem_cons_zero, List.getElem_cons_succ]
            refine wpAnyH_take (i := 13) (v := undef) rfl (by kernel_rfl) (by kernel_rfl) (by kernel_rfl) (fun _ _ _ h => h) (Or.inr ⟨by rfl, rfl⟩) hHeld ?_
            simp only [Act.put, List.setIfInBounds_toArray, List.set_cons_zero, List.set_cons_succ, List.getElem_toArray, List.getElem_cons_zero, List.getElem_cons_succ]
            refine wpAnyH_take (i := 14) (v := undef) rfl (by kernel_rfl) (by kernel_rfl) (by kernel_rfl) (fun _ _ _ h => h) (Or.inr ⟨by rfl, rfl⟩) hHeld ?_
            simp only [Act.put, List.setIfInBounds_toArray, List.set_cons_zero, List.set_cons_succ, List.getElem_toArray, List.getElem_cons_zero, List.getElem_cons_succ]
            refine wpAnyH_take (i := 15) (v := undef) rfl (by kernel_rfl) (by kernel_rfl) (by kernel_rfl) (fun _ _ _ h => h) (Or.inr ⟨by rfl, rfl⟩) hHeld ?_
            simp only [Act.put, List.setIfInBounds_toArray, List.set_cons_zero, List.set_cons_succ, List.getElem_toArray, List.getElem_cons_zero, List.getElem_cons_succ]
            refine wpAnyH_take (i := 16) (v := undef) rfl (by kernel_rfl) (by kernel_rfl) (by kernel_rfl) (fun _ _ _ h => h) (Or.inr ⟨by rfl, rfl⟩) hHeld ?_
            simp only [Act.put, List.setIfInBounds_toArray, List.set_cons_zero, List.set_cons_succ, List.getElem_toArray, List.getElem_cons_zero, List.getElem_cons_succ]
            refine wpAnyH_take (i := 17) (v := undef) rfl (by kernel_rfl) (by kernel_rfl) (by kernel_rfl) (fun _ _ _ h => h) (Or.inr ⟨by rfl, rfl⟩) hHeld ?_
            simp only [Act.put, List.setIfInBounds_toArray, List.set_cons_zero, List.set_cons_succ, List.getElem_toArray, List.getElem_cons_zero, List.getElem_cons_succ]
            refine wpAnyH_take (i := 18) (v := undef) rfl (by kernel_rfl) (by kernel_rfl) (by kernel_rfl) (fun _ _ _ h => h) (Or.inr ⟨by rfl, rfl⟩) hHeld ?_
            simp only [Act.put, List.setIfInBounds_toArray, List.set_cons_zero, List.set_cons_succ, List.getElem_toArray, List.getElem_cons_zero, List.getElem_cons_succ]
            refine wpAnyH_take (i := 19) (v := undef) rfl (by kernel_rfl) (by kernel_rfl) (by kernel_rfl) (fun _ _ _ h => h) (Or.inr ⟨by rfl, rfl⟩) hHeld ?_
            simp only [Act.put, List.setIfInBounds_toArray, List.set_cons_zero, List.set_cons_succ, List.getElem_toArray, List.getElem_cons_zero, List.getElem_cons_succ]
            refine wpAnyH_take (i := 20) (v := undef) rfl (by kernel_rfl) (by kernel_rfl) (by kernel_rfl) (fun _ _ _ h => h) (Or.inr ⟨by rfl, rfl⟩) hHeld ?_
            simp only [Act.put, List.setIfInBounds_toArray, List.set_cons_zero, List.set_cons_succ, List.getElem_toArray, List.getElem_cons_zero, List.getElem_cons_succ]
            refine wpAnyH_take (i := 21) (v := undef) rfl (by kernel_rfl) (by kernel_rfl) (by kernel_rfl) (fun _ _ _ h => h) (Or.inr ⟨by rfl, rfl⟩) hHeld ?_
            simp only [Act.put, List.setIfInBounds_toArray, List.set_cons_zero, List.set_cons_succ, List.getElem_toArray, List.getElem_cons_zero, List.getElem_cons_succ]
            refine wpAnyH_take (i := 22) (v := undef) rfl (by kernel_rfl) (by kernel_rfl) (by kernel_rfl) (fun _ _ _ h => h) (Or.inr ⟨by rfl, rfl⟩) hHeld ?_
            simp only [Act.put, List.setIfInBounds_toArray, List.set_cons_zero, List.set_cons_succ, List.getElem_toArray, List.getElem_cons_zero, List.getElem_cons_succ]
            refine wpAnyH_take (i := 23) (v := undef) rfl (by kernel_rfl) (by kernel_rfl) (by kernel_rfl) (fun _ _ _ h => h) (Or.inr ⟨by rfl, rfl⟩) hHeld ?_
            simp only [Act.put, List.setIfInBounds_toArray, List.set_cons_zero, List.set_cons_succ, List.getElem_toArray, List.getElem_cons_zero, List.getElem_cons_succ]
            refine wpAnyH_take (i := 24) (v := undef) rfl (by kernel_rfl) (by kernel_rfl) (by kernel_rfl) (fun _ _ _ h => h) (Or.inr ⟨by rfl, rfl⟩) hHeld ?_
            simp only [Act.put, List.setIfInBounds_toArray, List.set_cons_zero, List.set_cons_succ, List.getElem_toArray, List.getElem_cons_zero, List.getElem_cons_succ]
            refine wpAnyH_take (i := 25) (v := undef) rfl (by kernel_rfl) (by kernel_rfl) (by kernel_rfl) (fun _ _ _ h => h) (Or.inr ⟨by rfl, rfl⟩) hHeld ?_
            simp only [Act.put, List.setIfInBounds_toArray, List.set_cons_zero, List.set_cons_succ, List.getElem_toArray, List.getElem_cons_zero, List.getElem_cons_succ]
            refine wpAnyH_take (i := 26) (v := undef) rfl (by kernel_rfl) (by kernel_rfl) (by kernel_rfl) (fun _ _ _ h => h) (Or.inr ⟨by rfl, rfl⟩) hHeld ?_
            simp only [Act.put, List.setIfInBounds_toArray, List.set_cons_zero, List.set_cons_succ, List.getElem_toArray, List.getElem_cons_zero, List.getElem_cons_succ]
            refine wpAnyH_take (i := 27) (v := undef) rfl (by kernel_rfl) (by kernel_rfl) (by kernel_rfl) (fun _ _ _ h => h) (Or.inr ⟨by rfl, rfl⟩) hHeld ?_
            simp only [Act.put, List.setIfInBounds_toArray, List.set_cons_zero, List.set_cons_succ, List.getElem_toArray, List.getElem_cons_zero, List.getElem_cons_succ]
            refine' wpAnyH_take (i := 28) (v := _) rfl (by kernel_rfl) (by kernel_rfl) (by kernel_rfl) (fun _ _ _ h => h) (Or.inl ⟨by rfl, ?hy122⟩) hHeld ?hr122
            case hy122 => (intro w hSw; (try dsimp only at hSw); go_simp; (try with_reducible rfl))
            simp only [Act.put, List.setIfInBounds_toArray, List.set_cons_zero, List.set_cons_succ, List.getElem_toArray, List.getElem_cons_zero, List.getElem_cons_succ]
            refine wpAnyH_done (by kernel_rfl) ?_ _
            refine NoPanic.normal ?_
            go_wp2
            go_roundw
            case rel => exact ⟨k + 1, by omega, by go_num, rfl, rfl, rfl, hnx, kW2.out.trans (hd.mono kW2.out.size)⟩
            case measure => simp [intOf]; omega
        · exfalso
          have : k = 3 := by omega
          subst this
          exact hsome.out i j hpos.out hne.out hmin.out
end Go.Proofs.Ytokoohmakjabnaa
namespace Go.Proofs.Ytokoohmakjabnaa
open Go.ChangeShapes Go.WideShapes Go.ChangeAt Go.RowKit
theorem own_low {w : World} {base base' g cap : Nat} {es : List (Int × Int × Int)} (h : OwnE w base g cap es) (hb : base' ≤ base) : OwnE w base' g cap es := by
  refine ⟨h.1, ?_⟩
  rcases h.2 with h2 | ⟨g', cap', cur, hv, hbg, hg, r⟩
  · exact .inl h2
  · exact .inr ⟨g', cap', cur, hv, Nat.le_trans hb hbg, hg, r⟩
set_option maxHeartbeats 1000000 in
theorem implEdits_any (va vb : Value) (xs ys : List Int) (w : World) (ha : SlI w va xs) (hb : SlI w vb ys) :
    Calls Try.prog 7 #[va, vb] w fun e w' => ∃ g cap, e = .returned (.tuple #[.slice (some ⟨g, 0, none⟩) (editsV xs ys).length cap, .bool (decide (xs.length ≤ 40 ∧ ys.length ≤ 40))]) ∧ OwnE w' w.heap.size g cap (editsV xs ys) ∧ Below w.heap.size w w' := by
  have hlo := listsOk_any va vb xs ys w ha hb
  by_cases h : xs.length ≤ 40 ∧ ys.length ≤ 40
  case neg =>
    simp only [decide_eq_false h] at hlo ⊢
    have hA : editsV xs ys = [] := if_neg h
    rw [hA]
    have ho0 : OwnE (w.alloc (Obj.cells #[] 56)) w.heap.size w.heap.size 0 [] := World.ownsRow_lit (base := w.heap.size) (e := 56) (size := 3) w #[] 0 (Nat.le_refl _) (Nat.zero_le _) rfl
    have hbl := bal' w (Obj.cells #[] 56)
    replace ho0 := (show Hid _ from ho0)
    replace hbl := (show Hid _ from hbl)
    clear hA h
    go_enter Try.func7, Try.ntmps7
    go_wp2_with fail
    refine hlo.mono ?_
    rintro e w1 ⟨rfl, hw1⟩
    subst hw1
    go_wp2
    exact bodyPost_ret (results_tmp2 rfl _ _ _) rfl ⟨_, _, rfl, ho0.out, hbl.out⟩
  simp only [decide_eq_true h] at hlo ⊢
  have hA : editsV xs ys = edE (fun k => xs.getD k 0) (fun k => ys.getD k 0) xs.length ys.length := if_pos h
  rw [hA]
  clear hA
  go_enter Try.func7, Try.ntmps7
  go_wp2_with fail
  refine hlo.mono ?_
  rintro e w1 ⟨rfl, hw1⟩
  subst hw1
  go_wp2_with fail
  refine (allWays_any _).mono ?_
  rintro e w2 ⟨vw, rfl, hw2, kb2⟩
  go_wp2_with fail
  refine (routeOf_any true va vb vw xs ys w2 (ha.below kb2) (hb.below kb2) hw2 h.1 h.2).mono ?_
  rintro e w3 ⟨rfl, kb3, L, R, hR, hL, hF, hle⟩
  have k3 := kb2.trans (kb3.mono kb2.size)
  go_wp2_with fail
  refine (edits_any _ va vb vw L R xs ys w3 hR (ha.below k3) (hb.below k3) (hw2.below kb3) h.1 h.2 hL hF hle).mono ?_
  rintro e w4 ⟨g, cap, rfl, ho, kb4⟩
  have k4 := k3.trans (kb4.mono k3.size)
  have hlow : OwnE w4 w1.heap.size g cap (edE (fun k => xs.getD k 0) (fun k => ys.getD k 0) xs.length ys.length) := own_low ho k3.size
  replace hlow := (show Hid _ from hlow)
  clear ho kb4 hF hle hR
  go_wp2
  exact bodyPost_ret (results_tmp2 rfl _ _ _) rfl ⟨_, _, rfl, hlow.out, k4⟩
end Go.Proofs.Ytokoohmakjabnaa
namespace Go.Proofs.Ytokoohmakjabnaa
open Go.ChangeShapes Go.WideShapes Go.ChangeAt Go.RowKit
theorem u8_bd (y : Int) (h : (Lit.int .u8 y).wf = true) : 0 ≤ y ∧ y < 256 := by
  have := bounds_u8 h
  omega
theorem SlB.of_row {w : World} {a : Option Addr} {len cap : Nat} {zs : List Int} (h : IsRow .u8 w a len cap zs) (h4 : len ≤ 4096) : SlB w (.slice a len cap) (zs.take len) ∧ (zs.take len).length = len := by
  rcases h with ⟨rfl, rfl, rfl, rfl⟩ | ⟨x, rfl, hl, hm, hz, hc, hw⟩
  · exact ⟨⟨none, 0, rfl, by simp, by simp, .inl rfl⟩, rfl⟩
  · have hlen : (zs.take len).length = len := by rw [List.length_take]; omega
    refine ⟨⟨some x, cap, by rw [hlen], by rw [hlen]; exact h4, fun y hy => ?_, ?_⟩, hlen⟩
    · have := hw y (List.mem_of_mem_take hy)
      exact u8_bd y this
    · by_cases h0 : len = 0
      · left; subst h0; simp
      · right
        obtain ⟨b, off, spot⟩ := x
        have h1 := hc 0 (by omega)
        have hspot : spot = none := by simpa [Addr.add] using World.cell?_spot h1
        subst hspot
        refine ⟨b, off, rfl, World.block_lt_of_cell? w _ h1, fun i hi => ?_⟩
        rw [hlen] at hi
        have h2 := hc i (by omega)
        have e : (zs.take len).getD i 0 = zs.getD i 0 := by simp [List.getD, hi]
        rw [e, ← h2]
        by_cases hi0 : i = 0
        · subst hi0; simp [Addr.add]
        · simp [Addr.add, hi0]
theorem big_a (a : Option Addr) (len cap : Nat) (w : World) :
    Calls Try.prog 5 #[.slice a len cap] w fun e w' => e = .returned (.bool (decide (4096 < (len : Int)))) ∧ w' = w := by
  go_enter Try.func5, Try.ntmps5
  go_wp2
  go_ret
  exact ⟨rfl, rfl⟩
end Go.Proofs.Ytokoohmakjabnaa
namespace Go.Proofs.Ytokoohmakjabnaa
open Go.ChangeShapes Go.WideShapes Go.ChangeAt Go.RowKit
theorem SlN.li {w : World} {v : Value} {xs : List Int} (h : SlN w v xs) : SlI w v xs := h.l.sl
theorem drwF (w : World) (n : Nat) : Below w.heap.size w (w.drewN n) := ⟨rfl, rfl, rfl, Nat.le_refl _, fun _ _ => rfl⟩
theorem OwnE.sle {w : World} {base g cap : Nat} {es : List (Int × Int × Int)} (h : OwnE w base g cap es) : SlE w (.slice (some ⟨g, 0, none⟩) es.length cap) es.length (edV es) := SlE.of_own h
/-- What the law asks of two lists that are not too long. -/
theorem edits_all (xs ys : List Int) (hx : xs.length ≤ 40) (hy : ys.length ≤ 40) : edAll xs (editsV xs ys) = some ys ∧ edAll xs [] = some xs ∧ ((editsV xs ys).length : Int) = apartV xs ys := by
  have he : editsV xs ys = edE (fun k => xs.getD k 0) (fun k => ys.getD k 0) xs.length ys.length := if_pos ⟨hx, hy⟩
  have hl := edE_len (fun k => xs.getD k 0) (fun k => ys.getD k 0) xs.length ys.length
  have hb := (edD_bd true (fun k => xs.getD k 0) (fun k => ys.getD k 0) xs.length ys.length).2
  refine ⟨?_, ?_, ?_⟩
  · unfold edAll
    rw [if_pos ⟨by omega, by rw [he]; omega⟩, he]
    exact edRun_all xs ys hx hy
  · unfold edAll
    rw [if_pos ⟨by omega, by simp⟩]
    rfl
  · rw [he, hl]
    exact (if_pos ⟨hx, hy⟩).symm
set_option maxRecDepth 20000 in
set_option maxHeartbeats 4000000 in
theorem walk_FnEdits (w : World) (a : Option Addr) (len cap : Nat) (zs : List Int) (hr : IsRow .u8 w a len cap zs) :
    Calls Try.prog 3 #[.slice a len cap] w fun e w' => e = .returned (.bool true) ∧ Below w.heap.size w w' := by
  by_cases h4 : len ≤ 4096
  case neg =>
    have hbig : decide (4096 < (len : Int)) = true := by simp; omega
    go_enter Try.func3, Try.ntmps3
    go_wp2_with fail
    refine (big_a a len cap _).mono ?_
    rw [hbig]
    rintro e w0 ⟨rfl, rfl⟩
    go_wp2
    go_ret
    exact ⟨rfl, Below.refl _ _⟩
  obtain ⟨hv, _⟩ := SlB.of_row hr h4
  have hbig : decide (4096 < (len : Int)) = false := by simp; omega
  clear hr
  generalize zs.take len = cd at *
  go_enter Try.func3, Try.ntmps3
  go_wp2_with fail
  refine (big_a a len cap _).mono ?_
  rw [hbig]
  rintro e w0 ⟨rfl, rfl⟩
  clear hbig
  go_wp2_with fail
  refine (drawEdits_a _ cd _ hv).mono ?_
  rintro e w1 ⟨u1, u2, xs, ys, rfl, hx, hy, s1, s2, k1⟩
  obtain ⟨bb, hbb⟩ : ∃ bb, Hid (bb = decide (xs.length ≤ 40 ∧ ys.length ≤ 40)) := ⟨_, rfl⟩
  have hI := fun W h1 h2 => implEdits_any u1 u2 xs ys W h1 h2
  have hSp := fun W h1 h2 => specEdits_any u1 u2 xs ys W h1 h2
  rw [← hbb.out] at hI hSp
  go_wp2_with fail
  refine (hI _ s1.li s2.li).mono ?_
  rintro e w2 ⟨gl, cl, rfl, ol, b2⟩
  have k2 := k1.trans (b2.mono k1.size)
  replace s1 := s1.below b2
  replace s2 := s2.below b2
  have el := ol.sle
  have hv2 := hv.below k2
  clear ol b2 k1 hv
  go_wp2_with fail
  refine (drawEdited_a _ cd _ hv2).mono ?_
  rintro e w3 ⟨u3, cs, g3, c3, ms, rfl, hcl, hml, s3, o3, b2⟩
  have k3 := k2.trans (b2.mono k2.size)
  replace s1 := s1.below b2
  replace s2 := s2.below b2
  replace el := el.below b2
  have e3 := o3.sle
  clear o3 b2 k2 hv2
  go_wp2_with fail
  refine (implEdited_any _ _ cs ms _ s3 e3).mono ?_
  rintro e w4 ⟨ue, rfl, oe, b2⟩
  have k4 := k3.trans (b2.mono k3.size)
  replace s1 := s1.below b2
  replace s2 := s2.below b2
  replace s3 := s3.below b2
  replace el := el.below b2
  replace e3 := e3.below b2
  have se := SlN.of_own oe
  clear oe b2 k3
  go_wp2_with fail
  refine (hSp _ s1.li s2.li).mono ?_
  rintro e w5 ⟨gs, cs5, rfl, os5, b2⟩
  have k5 := k4.trans (b2.mono k4.size)
  replace s1 := s1.below b2
  replace s2 := s2.below b2
  replace s3 := s3.below b2
  replace el := el.below b2
  replace e3 := e3.below b2
  replace se := se.below b2
  have es5 := os5.sle
  clear os5 b2 k4
  have hall := edits_all xs ys
  have hEl : (editsV xs ys).length ≤ 80 := by
    unfold editsV
    split
    · rename_i h
      have h1 := edE_len (fun k => xs.getD k 0) (fun k => ys.getD k 0) xs.length ys.length
      have h2 := (edD_bd true (fun k => xs.getD k 0) (fun k => ys.getD k 0) xs.length ys.length).2
      omega
    · simp
  have hE0 : ¬ (xs.length ≤ 40 ∧ ys.length ≤ 40) → editsV xs ys = [] := fun h => if_neg h
  obtain ⟨E, hE⟩ : ∃ E, Hid (E = editsV xs ys) := ⟨_, rfl⟩
  rw [← hE.out] at el es5 hEl hE0 hall ⊢
  clear hI hSp
  have hR := edAll_len cs ms
  have hX := fun va vb W h1 h2 => specEdited_any va vb cs ms W h1 h2
  generalize edOut (edAll cs ms) = R at *
  have hEl2 : E.length ≤ 1073741824 := by omega
  have hRl : R.length ≤ 1073741824 := by omega
  replace s1 := (show Hid (SlN _ _ _) from s1)
  replace s2 := (show Hid (SlN _ _ _) from s2)
  replace s3 := (show Hid (SlN _ _ _) from s3)
  replace se := (show Hid (SlN _ _ _) from se)
  replace el := (show Hid (SlE _ _ _ _) from el)
  replace e3 := (show Hid (SlE _ _ _ _) from e3)
  replace es5 := (show Hid (SlE _ _ _ _) from es5)
  replace hall := (show Hid _ from hall)
  replace hX := (show Hid _ from hX)
  replace hE0 := (show Hid _ from hE0)
  go_wp2_with fail
  refine (likeE_same _ _ E _ el.out es5.out hEl2).mono ?_
  rintro e w6 ⟨rfl, b2⟩
  have k6 := k5.trans (b2.mono k5.size)
  have t1 := s1.out.below b2
  have t2 := s2.out.below b2
  have t3 := s3.out.below b2
  have te := se.out.below b2
  have tl := SlE.below el.out b2
  have t4 := SlE.below e3.out b2
  clear s1 s2 s3 se el e3 es5 b2 k5
  go_wp2_with fail
  refine (hX.out _ _ _ t3 t4).mono ?_
  rintro e w7 ⟨gx, cx, rfl, ox, b2⟩
  have k7 := k6.trans (b2.mono k6.size)
  replace t1 := t1.below b2
  replace t2 := t2.below b2
  replace te := te.below b2
  replace tl := SlE.below tl b2
  have sx := SlN.of_own ox
  clear b2 k6 t3 t4 ox hX
  replace t1 := (show Hid (SlN _ _ _) from t1)
  replace t2 := (show Hid (SlN _ _ _) from t2)
  replace te := (show Hid (SlN _ _ _) from te)
  replace tl := (show Hid (SlE _ _ _ _) from tl)
  replace sx := (show Hid (SlN _ _ _) from sx)
  go_wp2_with fail
  refine (like_same _ _ R _ te.out.li sx.out.li hRl).mono ?_
  rintro e w8 ⟨rfl, q8, hq8⟩
  subst hq8
  have b2 := drwF w7 q8
  have k8 := k7.trans (b2.mono k7.size)
  have r1 := t1.out.below b2
  have r2 := t2.out.below b2
  have rl := SlE.below tl.out b2
  generalize w7.drewN q8 = w8 at *
  clear t1 t2 te tl sx b2 k7
  by_cases hxy : xs.length ≤ 40 ∧ ys.length ≤ 40
  case neg =>
    have hb : bb = false := by rw [hbb.out]; exact decide_eq_false hxy
    have hE2 : E = [] := hE0.out hxy
    clear hall hE0 hE hbb
    subst hb
    subst hE2
    clear r1 r2 rl
    go_wp2
    go_ret
    exact ⟨rfl, k8⟩
  have hb : bb = true := by rw [hbb.out]; exact decide_eq_true hxy
  obtain ⟨a1, a2, a3⟩ := hall.out hxy.1 hxy.2
  clear hall hE0 hE hbb
  subst hb
  have hm := fun va vb W => implEdited_any va vb xs E W
  have hm0 := fun va vb W => implEdited_any va vb xs [] W
  rw [a1] at hm
  rw [a2] at hm0
  have hnilE : ∀ W, SlE W (.slice none 0 0) 0 (edV []) := fun W => ⟨rfl, none, 0, rfl, .inl rfl⟩
  replace hm := (show Hid _ from hm)
  replace hm0 := (show Hid _ from hm0)
  replace hnilE := (show Hid _ from hnilE)
  replace a3 := (show Hid _ from a3)
  clear a1 a2
  have hxl : xs.length ≤ 1073741824 := by omega
  have hyl : ys.length ≤ 1073741824 := by omega
  go_wp2_with fail
  refine (hm.out _ _ _ r1 rl).mono ?_
  rintro e w9 ⟨ux, rfl, oq, b2⟩
  have k9 := k8.trans (b2.mono k8.size)
  replace r1 := r1.below b2
  replace r2 := r2.below b2
  have sq := SlN.of_own oq
  clear b2 k8 oq rl
  go_wp2_with fail
  refine (hm0.out _ _ _ r1 (hnilE.out _)).mono ?_
  rintro e w10 ⟨uy, rfl, oq, b2⟩
  have k10 := k9.trans (b2.mono k9.size)
  replace r1 := r1.below b2
  replace r2 := r2.below b2
  replace sq := sq.below b2
  have sy := SlN.of_own oq
  clear b2 k9 oq
  simp only [edAns, Option.isSome_some, edOut] at *
  replace r1 := (show Hid (SlN _ _ _) from r1)
  replace r2 := (show Hid (SlN _ _ _) from r2)
  replace sq := (show Hid (SlN _ _ _) from sq)
  replace sy := (show Hid (SlN _ _ _) from sy)
  go_wp2_with fail
  refine (like_same _ _ ys _ sq.out.li r2.out.li hyl).mono ?_
  rintro e w11 ⟨rfl, q11, hq11⟩
  subst hq11
  have b2 := drwF w10 q11
  have k11 := k10.trans (b2.mono k10.size)
  have p1 := r1.out.below b2
  have p2 := r2.out.below b2
  have py := sy.out.below b2
  generalize w10.drewN q11 = w11 at *
  clear r1 r2 sq sy b2 k10
  go_wp2_with fail
  refine (specApart_any _ _ xs ys _ p1.li p2.li).mono ?_
  rintro e w12 ⟨rfl, b2⟩
  rw [← a3.out]
  have k12 := k11.trans (b2.mono k11.size)
  replace p1 := p1.below b2
  replace py := py.below b2
  clear b2 k11 p2
  replace p1 := (show Hid (SlN _ _ _) from p1)
  replace py := (show Hid (SlN _ _ _) from py)
  go_wp2_with fail
  refine (like_same _ _ xs _ py.out.li p1.out.li hxl).mono ?_
  rintro e w13 ⟨rfl, q13, hq13⟩
  subst hq13
  have k13 := k12.trans ((drwF w12 q13).mono k12.size)
  go_wp2
  go_ret
  exact ⟨rfl, k13⟩
end Go.Proofs.Ytokoohmakjabnaa
