/- The walk of the law of Places. -/
import Derived.Test.YtkjfajdjiikpcaaP1
namespace Go.Proofs.Ytkjfajdjiikpcaa
open Go.ChangeShapes Go.WideShapes Go.ChangeAt Go.RowKit
/-- A part of a slice. -/
theorem SlI.sub {w : World} {b off n c : Nat} {xs : List Int} (h : SlI w (.slice (some ⟨b, off, none⟩) n c) xs) (i k c' : Nat) (hl : xs.length = n) (hk : i + k ≤ n) : SlI w (.slice (some ⟨b, off + i, none⟩) k c') ((xs.drop i).take k) := by
  have hlen : ((xs.drop i).take k).length = k := by simp; omega
  obtain ⟨a, c2, e, h⟩ := h
  cases e
  refine ⟨some ⟨b, off + i, none⟩, c', by rw [hlen], ?_⟩
  by_cases h0 : k = 0
  · exact .inl (by subst h0; simp)
  rcases h with h | ⟨b2, off2, e, hb, hc⟩
  · rw [h] at hk; simp at hk; omega
  · cases e
    refine .inr ⟨b, off + i, rfl, hb, fun j hj => ?_⟩
    rw [hlen] at hj
    rw [Nat.add_assoc, hc (i + j) (by omega)]
    simp [show i + j < xs.length by omega, hj, List.getD_eq_getElem?_getD]
theorem SlI.none {w : World} (a : Option Addr) (c : Nat) : SlI w (.slice a 0 c) [] := ⟨a, c, rfl, .inl rfl⟩
set_option maxRecDepth 20000 in
set_option maxHeartbeats 16000000 in
theorem walk_FnPlaces (w : World) (a : Option Addr) (len cap : Nat) (zs : List Int) (hr : IsRow .u8 w a len cap zs) :
    Calls Try.prog 3 #[.slice a len cap] w fun e w' => e = .returned (.bool true) ∧ Below w.heap.size w w' := by
  by_cases h4 : len ≤ 4096
  case neg =>
    have hbig : decide (4096 < (len : Int)) = true := by simp; omega
    go_enter Try.func3, Try.ntmps3
    go_wp2_with fail
    refine (big_a a len cap _).mono ?_
    rw [hbig]
    rintro e w0 ⟨rfl, rfl⟩
    go_wp2
    go_ret
    exact ⟨rfl, Below.refl _ _⟩
  obtain ⟨hv, _⟩ := SlB.of_row hr h4
  have hbig : decide (4096 < (len : Int)) = false := by simp; omega
  clear hr
  generalize zs.take len = cd at *
  go_enter Try.func3, Try.ntmps3
  go_wp2_with fail
  refine (big_a a len cap _).mono ?_
  rw [hbig]
  rintro e w0 ⟨rfl, hw0⟩
  subst hw0
  go_wp2_with fail
  refine (drawPlaces_a _ cd _ hv).mono ?_
  rintro e w1 ⟨vt, vp, ts, ps, rfl, hts, hps, ot, op, b1⟩
  have cp := CapOk.own op
  go_wp2_with fail
  refine (implPlaces_any vt vp ts ps _ (SlI.of_own ot) (SlI.of_own op) cp).mono ?_
  rintro e w2 ⟨vl, rfl, ol, b2⟩
  have k2 := b1.trans (b2.mono b1.size)
  have ot2 := ot.below b2
  have op2 := op.below b2
  clear ot op b1 b2
  go_wp2_with fail
  refine (drawBorders_a _ cd _ (hv.below k2)).mono ?_
  rintro e w3 ⟨vq, qs, rfl, hqs, oq, b3⟩
  have k3 := k2.trans (b3.mono k2.size)
  have cq := CapOk.own oq
  have ot3 := ot2.below b3
  have op3 := op2.below b3
  have ol3 := ol.below b3
  clear ot2 op2 ol b3 k2
  go_wp2_with fail
  refine (implBorders_any vq qs _ (SlI.of_own oq) cq).mono ?_
  rintro e w4 ⟨vb, rfl, ob, b4⟩
  have k4 := k3.trans (b4.mono k3.size)
  have ot4 := ot3.below b4
  have op4 := op3.below b4
  have ol4 := ol3.below b4
  have oq4 := oq.below b4
  clear ot3 op3 ol3 oq b4 k3
  go_wp2_with fail
  refine (implPeriod_any vq qs _ (SlI.of_own oq4) cq).mono ?_
  rintro e w5 ⟨rfl, b5⟩
  have k5 := k4.trans (b5.mono k4.size)
  have st := (SlI.of_own ot4).below b5
  have sp := (SlI.of_own op4).below b5
  have sl := (SlI.of_own ol4).below b5
  have sq := (SlI.of_own oq4).below b5
  have sb := (SlI.of_own ob).below b5
  have ct := CapOk.own ot4
  have cl := CapOk.own ol4
  have cb := CapOk.own ob
  clear ot4 op4 ol4 oq4 ob b5 k4
  have hll := placesV_len ts ps
  have hbl := bordersV_len qs
  have e1 := fun W (k : Below w5.heap.size w5 W) => specPlaces_any vt vp ts ps W (st.below k) (sp.below k)
  have e2 := fun W (k : Below w5.heap.size w5 W) => specBorders_any vq qs W (sq.below k)
  have e3 := fun W (k : Below w5.heap.size w5 W) => specPeriod_any vq qs W (sq.below k)
  go_wp2_with fail
  refine (e1 _ (Below.refl _ _)).mono ?_
  rintro e w6 ⟨u6, rfl, o6, b6⟩
  go_wp2_with fail
  refine (like_same _ _ _ _ (sl.below b6) (SlI.of_own o6) (by omega)).mono ?_
  rintro e w7 ⟨rfl, n7, hq7⟩
  have b7 : Below w5.heap.size w5 w7 := by rw [hq7]; exact drwL b6 _
  clear o6 b6 hq7 e1
  go_wp2_with fail
  refine (e2 _ b7).mono ?_
  rintro e w8 ⟨u8, rfl, o8, b8⟩
  have k8 := b7.trans (b8.mono b7.size)
  go_wp2_with fail
  refine (like_same _ _ _ _ (sb.below k8) (SlI.of_own o8) (by omega)).mono ?_
  rintro e w9 ⟨rfl, n9, hq9⟩
  have b9 : Below w5.heap.size w5 w9 := by rw [hq9]; exact drwL k8 _
  clear o8 b7 b8 k8 hq9 e2
  go_wp2_with fail
  refine (e3 _ b9).mono ?_
  rintro e w10 ⟨rfl, b10⟩
  have k10 := b9.trans (b10.mono b9.size)
  have K := k5.trans (k10.mono k5.size)
  replace st := st.below k10
  replace sp := sp.below k10
  replace sl := sl.below k10
  replace sq := sq.below k10
  replace sb := sb.below k10
  clear b9 b10 e3 k10 k5
  clear hv h4 hbig
  obtain ⟨wz, hwz⟩ : ∃ wz, wz = w10 := ⟨_, rfl⟩
  by_cases hA : 1 ≤ ps.length ∧ ts.length ≤ 5000
  · obtain ⟨hm1, hn⟩ := hA
    have hpv : placesV ts ps = plK (atL ts) (atL ps) ps.length ts.length := if_pos ⟨⟨hm1, by omega⟩, hn⟩
    rw [hpv] at sl cl hll
    clear hpv
    obtain ⟨pa, pc, rfl, hpa⟩ := id sp
    obtain ⟨ta, tc, rfl, hta⟩ := id st
    obtain ⟨la, lc, rfl, hla⟩ := id sl
    obtain ⟨LN, hLN⟩ : ∃ LN, Hid ((plK (atL ts) (atL ps) ps.length ts.length).length = LN) := ⟨_, rfl⟩
    rw [hLN.out] at sl cl hll hla ⊢
    have hmi : (1 : Int) ≤ (ps.length : Int) := by omega
    have hni : (ts.length : Int) ≤ 5000 := by omega
    have hpi := fun i h => place_iff ts ps i h
    have hlat := fun e d (h : e + d = ts.length) => by
      have h1 := plK_pre (atL ts) (atL ps) ps.length e d
      rw [h] at h1; exact h1
    obtain ⟨f, hf⟩ : ∃ f, Hid (f = atL ts) := ⟨_, rfl⟩
    obtain ⟨g, hg⟩ : ∃ g, Hid (g = atL ps) := ⟨_, rfl⟩
    rw [← hf.out, ← hg.out] at sl hla hlat hLN
    simp only [← hf.out, ← hg.out] at hpi
    have hsm := plK_small f g ps.length
    have hsu := fun e => show plK f g ps.length (e + 1) = if heldK f g ps.length (e + 1) = ps.length then plK f g ps.length e ++ [((e + 1 - ps.length : Nat) : Int)] else plK f g ps.length e by rw [plK]
    replace hpi := (show Hid _ from hpi)
    replace hlat := (show Hid _ from hlat)
    replace hsu := (show Hid _ from hsu)
    replace hsm := (show Hid _ from hsm)
    generalize plK f g ps.length = pk at *
    go_wp2
    go_loopw [9, 10] (fun nv iv wr => ∃ i : Nat, iv = .int .i64 i ∧ nv = .int .i64 ((pk (i + ps.length - 1)).length : Nat) ∧ (i + ps.length ≤ ts.length + 1 ∨ i = 0) ∧ Below w10.heap.size w10 wr) (fun _ iv _ => ts.length + 1 - (intOf iv).toNat)
    case atStart => exact ⟨0, rfl, by rw [hsm.out _ (by omega)]; rfl, .inr rfl, Below.refl _ _⟩
    case round =>
      obtain ⟨i, rfl, rfl, hi, kb⟩ := hrel
      obtain ⟨m, hm⟩ : ∃ m, Hid (ps.length = m) := ⟨_, rfl⟩
      obtain ⟨n, hnn⟩ : ∃ n, Hid (ts.length = n) := ⟨_, rfl⟩
      rw [hm.out] at hm1 hmi hi
      rw [hnn.out] at hn hni hi
      rw [hm.out, hnn.out]
      by_cases hin : i + m ≤ n
      · have hini : (i : Int) + (m : Int) ≤ (n : Int) := by omega
        have hwi : IntKind.i64.wrap ((i : Int) + (m : Int)) = ((i + m : Nat) : Int) := by simp [IntKind.wrap, IntKind.bits, IntKind.signed]; omega
        have hcs : (tc = i) = False := by
          obtain ⟨a', c', e, h⟩ := ct
          cases e
          have := hnn.out
          simp; omega
        have hct : i + m ≤ tc := by
          obtain ⟨a', c', e, h⟩ := ct
          cases e
          have := hnn.out
          omega
        rcases hta with h | ⟨tb, toff, rfl, htb, htc⟩
        · exfalso; have := hnn.out; rw [h] at this; simp at this; omega
        have hsub := (st.below kb).sub i m (tc - i) rfl (by have := hnn.out; omega)
        have hlk := hpi.out i (by have := hnn.out; have := hm.out; omega)
        rw [hm.out] at hlk
        replace hlk := (show Hid _ from hlk)
        have hsp : SlI wr (.slice pa m pc) ps := by have := sp.below kb; rw [hm.out] at this; exact this
        obtain ⟨e1, he1⟩ : ∃ e1, Hid (i + m - 1 = e1) := ⟨_, rfl⟩
        have hpn := hsu.out e1
        rw [show e1 + 1 = i + m by have := he1.out; omega, hm.out, show i + m - m = i by omega] at hpn
        obtain ⟨rest, hrest⟩ := hlat.out (i + m) (n - (i + m)) (by have := hnn.out; omega)
        rw [he1.out]
        obtain ⟨N0, hN0⟩ : ∃ N0, Hid ((pk e1).length = N0) := ⟨_, rfl⟩
        rw [hN0.out]
        have hlen2 : ((ts.drop i).take m).length ≤ 1073741824 := by simp; omega
        replace hpn := (show Hid _ from hpn)
        replace hrest := (show Hid _ from hrest)
        go_wp2_with fail
        refine (like_d _ _ _ ps _ hsub hsp hlen2).mono ?_
        clear hlen2 hsub hsp
        by_cases hq : (ts.drop i).take m = ps
        · rw [decide_eq_true hq]
          have hfull := hlk.out.1 hq
          have hp2 : Hid (pk (i + m) = pk e1 ++ [(i : Int)]) := by have h1 := hpn.out; rw [if_pos hfull] at h1; exact h1
          have hLen : N0 < LN := by rw [← hLN.out, hrest.out, hp2.out, ← hN0.out]; simp
          rintro e wk ⟨rfl, nk, hwk⟩
          have hbk : Below wr.heap.size wr wk := by rw [hwk]; exact drwK _ _
          clear hwk
          have kb2 := kb.trans (hbk.mono kb.size)
          rcases hla with h | ⟨lb, loff, rfl, hlb, hlc⟩
          · exfalso; rw [← hLN.out, h] at hLen; simp at hLen
          have hcell : wk.cell? ⟨lb, loff + N0, none⟩ = some (.int .i64 i) := by
            have h1 := (kb2.cell (p := ⟨lb, loff + N0, none⟩) hlb).trans (hlc N0 hLen)
            rw [h1, hrest.out, hp2.out, ← hN0.out]
            simp
          have hLi : (N0 : Int) < (LN : Int) := by omega
          have hieq : ((i : Int) != (i : Int)) = false := by simp
          clear hlc hfull hq hbk kb hlk
          go_wp2
          refine ⟨⟨i + 1, by go_num, ?_, ?_, kb2⟩, ?_⟩
          · rw [show i + 1 + m - 1 = i + m by omega, hp2.out, List.length_append]
            have := hN0.out
            simp only [List.length_cons, List.length_nil]
            congr 1; omega
          · omega
          · simp [intOf]; omega
        · rw [decide_eq_false hq]
          have hp2 : Hid (pk (i + m) = pk e1) := by have h1 := hpn.out; rw [if_neg (fun h => hq (hlk.out.2 h))] at h1; exact h1
          rintro e wk ⟨rfl, nk, hwk⟩
          have hbk : Below wr.heap.size wr wk := by rw [hwk]; exact drwK _ _
          clear hwk
          have kb2 := kb.trans (hbk.mono kb.size)
          clear hq hbk kb hlk
          go_wp2
          refine ⟨⟨i + 1, by go_num, ?_, ?_, kb2⟩, ?_⟩
          · rw [show i + 1 + m - 1 = i + m by omega, hp2.out, hN0.out]
          · omega
          · simp [intOf]; omega
      · have hini : ¬ (i : Int) + (m : Int) ≤ (n : Int) := by omega
        have hwi : IntKind.i64.wrap ((i : Int) + (m : Int)) = ((i + m : Nat) : Int) := by have e1 := hm.out; simp [IntKind.wrap, IntKind.bits, IntKind.signed]; omega
        have hN : (pk (i + m - 1)).length = LN := by
          have e1 := hm.out
          have e2 := hnn.out
          rcases hi with h | h
          · rw [← hLN.out, show i + m - 1 = ts.length by omega]
          · rw [← hLN.out, h, hsm.out (0 + m - 1) (by omega), hsm.out ts.length (by omega)]
        rw [hN]
        obtain ⟨wr0, hwr0⟩ : ∃ x, x = wr := ⟨_, rfl⟩
        subst hwr0
        have KBL := kb
        clear kb hpi hlat hsu hsm hta hla hpa st sp sl ct cl cp
        have sqL := sq.below KBL
        have sbL := sb.below KBL
        have KL := K.trans (KBL.mono K.size)
        clear KBL sq sb K
        by_cases hB : 0 < qs.length ∧ qs.length ≤ 100
        case neg =>
          have hbv : bordersV qs = [] := by
            unfold bordersV
            split
            · have : qs = [] := List.eq_nil_of_length_eq_zero (by omega)
              subst this; rfl
            · rfl
          have hpv : periodV qs = -1 := if_neg hB
          rw [hbv] at sbL
          rw [hpv]
          obtain ⟨ba, bc, rfl, _⟩ := id sbL
          obtain ⟨qa, qc, rfl, _⟩ := id sqL
          rw [List.length_nil]
          clear hbv hpv sbL sqL
          generalize qs.length = L at *
          by_cases h1 : L < 1
          · have h1i : (L : Int) < 1 := by omega
            go_wp2
            refine wp_loop_rounds 1 ?_
            rw [rounds_succ]
            go_wp2
            go_ret
            exact ⟨rfl, KL⟩
          · have h1i : ¬ (L : Int) < 1 := by omega
            have h2i : (100 : Int) < (L : Int) := by omega
            go_wp2
            refine wp_loop_rounds 1 ?_
            rw [rounds_succ]
            go_wp2
            go_ret
            exact ⟨rfl, KL⟩
        have hbv : bordersV qs = bV qs := if_pos hB.2
        have hpv : periodV qs = (qs.length : Int) - (bK (atL qs) qs.length (qs.length - 1) : Int) := if_pos hB
        obtain ⟨hL1, hL2⟩ := hB
        rw [hbv] at sbL
        obtain ⟨ba, bc, rfl, hba⟩ := id sbL
        obtain ⟨qa, qc, rfl, hqa⟩ := id sqL
        have hqcap : qs.length ≤ qc := by
          obtain ⟨a', c', e, h⟩ := cq
          cases e; exact h
        rcases hqa with h | ⟨qb, qo, rfl, hqb, hqcell⟩
        · rw [h] at hL1; simp at hL1
        have hvl := bV_len qs
        have hva := bV_at qs
        rcases hba with h | ⟨bb, bo, rfl, hbb, hbcell⟩
        · rw [h] at hvl; simp at hvl; omega
        rw [hvl] at hbcell sbL ⊢
        have hbc : ∀ i, i < qs.length → wr0.cell? ⟨bb, bo + i, none⟩ = some (.int .i64 (bK (atL qs) qs.length i)) := fun i hi => by rw [hbcell i hi, hva i hi]
        have hbi := border_is qs
        have hbt := border_top qs
        have hpd := period_is qs hL1
        have hble := bK_le (atL qs) qs.length
        clear sbL hbcell hva hvl hbv
        generalize bK (atL qs) qs.length = bk at *
        obtain ⟨L, hLq⟩ : ∃ L, Hid (qs.length = L) := ⟨_, rfl⟩
        rw [hLq.out] at hL1 hL2 hpv hqcap hbc hpd hqcell ⊢
        simp only [hLq.out] at hbi hbt
        obtain ⟨dN, hdN⟩ : ∃ dN, Hid (L - bk (L - 1) = dN) := ⟨_, rfl⟩
        have hbL := hble (L - 1)
        have hpv2 : periodV qs = (dN : Int) := by rw [hpv]; have := hdN.out; omega
        rw [hpv2]
        rw [hdN.out] at hpd
        have hd1 : 1 ≤ dN := by have := hdN.out; omega
        have hdL : dN ≤ L := by have := hdN.out; omega
        have hd0 : ¬ (dN : Int) < 0 := by omega
        clear hpv hpv2
        replace hbi := (show Hid _ from hbi)
        replace hbt := (show Hid _ from hbt)
        replace hpd := (show Hid _ from hpd)
        replace hble := (show Hid _ from hble)
        replace hbc := (show Hid _ from hbc)
        replace hqcell := (show Hid _ from hqcell)
        replace cq := (show Hid _ from cq)
        go_wp2
        go_loopw [11] (fun iv wr => ∃ i : Nat, iv = .int .i64 i ∧ i ≤ L ∧ Below wr0.heap.size wr0 wr) (fun iv _ => L - (intOf iv).toNat)
        case atStart => exact ⟨0, rfl, Nat.zero_le _, Below.refl _ _⟩
        case round =>
          obtain ⟨i, rfl, hiL, kb⟩ := hrel
          by_cases hlt : i < L
          · have hii : (i : Int) < (L : Int) := by omega
            have hbx := cell_kept (hbc.out i hlt) (gbl kb none) (by simp)
            have his := hbi.out i hlt
            have htop := fun j => hbt.out i j hlt
            have hki := hble.out i
            generalize bk i = k at *
            obtain ⟨i1, hi1⟩ : ∃ i1, Hid (i + 1 = i1) := ⟨_, rfl⟩
            obtain ⟨k1, hk1⟩ : ∃ k1, Hid (k + 1 = k1) := ⟨_, rfl⟩
            obtain ⟨lo, hlo⟩ : ∃ lo, Hid (i1 - k = lo) := ⟨_, rfl⟩
            rw [hi1.out, hlo.out] at his
            simp only [hi1.out] at htop
            have ei1 := hi1.out
            have ek1 := hk1.out
            have elo := hlo.out
            have hw1 : IntKind.i64.wrap ((i : Int) + 1) = (i1 : Int) := by rw [show ((i : Int) + 1) = (i1 : Int) by omega]; simp [IntKind.wrap, IntKind.bits, IntKind.signed]; omega
            have hw2 : IntKind.i64.wrap ((i1 : Int) - (k : Int)) = (lo : Int) := by rw [show ((i1 : Int) - (k : Int)) = (lo : Int) by omega]; simp [IntKind.wrap, IntKind.bits, IntKind.signed]; omega
            have hw3 : IntKind.i64.wrap ((k : Int) + 1) = (k1 : Int) := by rw [show ((k : Int) + 1) = (k1 : Int) by omega]; simp [IntKind.wrap, IntKind.bits, IntKind.signed]; omega
            have hkii : ¬ (i : Int) < (k : Int) := by omega
            have hk0 : (0 : Int) ≤ (k : Int) := by omega
            have hkc : (k : Int) ≤ (qc : Int) := by omega
            have hlo1 : (lo : Int) ≤ (i1 : Int) := by omega
            have hi1c : (i1 : Int) ≤ (qc : Int) := by omega
            have sqw := sqL.below kb
            rw [hLq.out] at sqw
            have eLq := hLq.out
            have hqs2 : ∀ (ad : Option Addr) (c' : Nat), (k = 0 ∨ ad = some ⟨qb, qo + lo, none⟩) → ∀ n, Calls Try.prog 13 #[.slice (some ⟨qb, qo, none⟩) k qc, .slice ad (i1 - lo) c'] (wr.drewN n) fun e w' => e = .returned (.bool true) ∧ ∃ m, w' = (wr.drewN n).drewN m := by
              intro ad c' had n
              rw [show i1 - lo = k by omega]
              have p1 := (sqw.below (drwK wr n)).sub 0 k qc eLq (by omega)
              rw [Nat.add_zero, List.drop_zero] at p1
              have p2 : SlI (wr.drewN n) (.slice ad k c') ((qs.drop lo).take k) := by
                rcases had with h0 | rfl
                · rw [h0, List.take_zero]; exact SlI.none _ _
                · exact (sqw.below (drwK wr n)).sub lo k c' eLq (by omega)
              refine (like_d _ _ _ _ _ p1 p2 (by rw [List.length_take]; omega)).mono ?_
              rw [decide_eq_true his]
              exact fun e w' h => h
            replace hqs2 := (show Hid _ from hqs2)
            have hqs3 : ∀ W, Below wr.heap.size wr W → ∀ j, k < j → j ≤ i → ∀ n, Calls Try.prog 13 #[.slice (some ⟨qb, qo, none⟩) j qc, .slice (some ⟨qb, qo + (i1 - j), none⟩) (i1 - (i1 - j)) (qc - (i1 - j))] (W.drewN n) fun e w' => e = .returned (.bool false) ∧ ∃ m, w' = (W.drewN n).drewN m := by
              intro W kW j hj1 hj2 n
              have sqW := (sqw.below kW).below (drwK W n)
              rw [show i1 - (i1 - j) = j by omega]
              have p1 := sqW.sub 0 j qc eLq (by omega)
              rw [Nat.add_zero, List.drop_zero] at p1
              have p2 := sqW.sub (i1 - j) j (qc - (i1 - j)) eLq (by omega)
              refine (like_d _ _ _ _ _ p1 p2 (by rw [List.length_take]; omega)).mono ?_
              rw [decide_eq_false (htop j hj1 hj2)]
              exact fun e w' h => h
            replace hqs3 := (show Hid _ from hqs3)
            clear sqw his htop eLq
            by_cases hkz : k = 0
            · have hkzH : Hid (k = 0) := hkz
              clear hkz
              by_cases hqc : qc = lo
              · have hqcp : (qc = lo) = True := by simp [hqc]
                clear hqc
                go_wp2
                go_quiet (exact Calls.quiet_of (hqs2.out _ _ (.inl hkzH.out) _))
                go_wp2
                go_loopw [13] (fun jv W => ∃ j : Nat, jv = .int .i64 j ∧ k < j ∧ j ≤ i1 ∧ Below wr.heap.size wr W) (fun jv _ => i1 + 1 - (intOf jv).toNat)
                case atStart => exact ⟨k1, rfl, by omega, by omega, drwK wr _⟩
                case round =>
                  obtain ⟨j, rfl, hj1, hj2, kj⟩ := hrel
                  by_cases hji : j ≤ i
                  · have hjii : (j : Int) ≤ (i : Int) := by omega
                    obtain ⟨lj, hlj⟩ : ∃ lj, Hid (i1 - j = lj) := ⟨_, rfl⟩
                    have elj := hlj.out
                    have hcj := hqs3.out _ kj j hj1 hji
                    simp only [elj] at hcj
                    replace hcj := (show Hid _ from hcj)
                    have hwj : IntKind.i64.wrap ((i1 : Int) - (j : Int)) = (lj : Int) := by rw [show ((i1 : Int) - (j : Int)) = (lj : Int) by omega]; simp [IntKind.wrap, IntKind.bits, IntKind.signed]; omega
                    have hlj1 : (lj : Int) ≤ (i1 : Int) := by omega
                    have hjc : (j : Int) ≤ (qc : Int) := by omega
                    have hqcj : (qc = lj) = False := by simp; omega
                    have hjb : (j : Int) < 1000 := by omega
                    have hj3 : k < j + 1 := by omega
                    have hj4 : j + 1 ≤ i1 := by omega
                    clear elj hj1 hj2 hji
                    go_wp2
                    go_quiet (exact Calls.quiet_of (hcj.out _))
                    go_wp2
                    go_roundw
                    case rel => exact ⟨j + 1, by go_num, hj3, hj4, kj.trans ((drwK _ _).mono kj.size)⟩
                    case measure => simp [intOf]; omega
                  · have hjii : ¬ (j : Int) ≤ (i : Int) := by omega
                    have hend := kb.trans (kj.mono kb.size)
                    clear hqs3 hbx hj1 hj2 kj kb
                    go_wp2
                    exact ⟨⟨i + 1, by go_num, by omega, hend⟩, by simp [intOf]; omega⟩
              · have hqcp : (qc = lo) = False := by simp [hqc]
                clear hqc
                go_wp2
                go_quiet (exact Calls.quiet_of (hqs2.out _ _ (.inl hkzH.out) _))
                go_wp2
                go_loopw [13] (fun jv W => ∃ j : Nat, jv = .int .i64 j ∧ k < j ∧ j ≤ i1 ∧ Below wr.heap.size wr W) (fun jv _ => i1 + 1 - (intOf jv).toNat)
                case atStart => exact ⟨k1, rfl, by omega, by omega, drwK wr _⟩
                case round =>
                  obtain ⟨j, rfl, hj1, hj2, kj⟩ := hrel
                  by_cases hji : j ≤ i
                  · have hjii : (j : Int) ≤ (i : Int) := by omega
                    obtain ⟨lj, hlj⟩ : ∃ lj, Hid (i1 - j = lj) := ⟨_, rfl⟩
                    have elj := hlj.out
                    have hcj := hqs3.out _ kj j hj1 hji
                    simp only [elj] at hcj
                    replace hcj := (show Hid _ from hcj)
                    have hwj : IntKind.i64.wrap ((i1 : Int) - (j : Int)) = (lj : Int) := by rw [show ((i1 : Int) - (j : Int)) = (lj : Int) by omega]; simp [IntKind.wrap, IntKind.bits, IntKind.signed]; omega
                    have hlj1 : (lj : Int) ≤ (i1 : Int) := by omega
                    have hjc : (j : Int) ≤ (qc : Int) := by omega
                    have hqcj : (qc = lj) = False := by simp; omega
                    have hjb : (j : Int) < 1000 := by omega
                    have hj3 : k < j + 1 := by omega
                    have hj4 : j + 1 ≤ i1 := by omega
                    clear elj hj1 hj2 hji
                    go_wp2
                    go_quiet (exact Calls.quiet_of (hcj.out _))
                    go_wp2
                    go_roundw
                    case rel => exact ⟨j + 1, by go_num, hj3, hj4, kj.trans ((drwK _ _).mono kj.size)⟩
                    case measure => simp [intOf]; omega
                  · have hjii : ¬ (j : Int) ≤ (i : Int) := by omega
                    have hend := kb.trans (kj.mono kb.size)
                    clear hqs3 hbx hj1 hj2 kj kb
                    go_wp2
                    exact ⟨⟨i + 1, by go_num, by omega, hend⟩, by simp [intOf]; omega⟩
            · have hqcp : (qc = lo) = False := by simp; omega
              go_wp2
              go_quiet (exact Calls.quiet_of (hqs2.out _ _ (.inr rfl) _))
              go_wp2
              go_loopw [13] (fun jv W => ∃ j : Nat, jv = .int .i64 j ∧ k < j ∧ j ≤ i1 ∧ Below wr.heap.size wr W) (fun jv _ => i1 + 1 - (intOf jv).toNat)
              case atStart => exact ⟨k1, rfl, by omega, by omega, drwK wr _⟩
              case round =>
                obtain ⟨j, rfl, hj1, hj2, kj⟩ := hrel
                by_cases hji : j ≤ i
                · have hjii : (j : Int) ≤ (i : Int) := by omega
                  obtain ⟨lj, hlj⟩ : ∃ lj, Hid (i1 - j = lj) := ⟨_, rfl⟩
                  have elj := hlj.out
                  have hcj := hqs3.out _ kj j hj1 hji
                  simp only [elj] at hcj
                  replace hcj := (show Hid _ from hcj)
                  have hwj : IntKind.i64.wrap ((i1 : Int) - (j : Int)) = (lj : Int) := by rw [show ((i1 : Int) - (j : Int)) = (lj : Int) by omega]; simp [IntKind.wrap, IntKind.bits, IntKind.signed]; omega
                  have hlj1 : (lj : Int) ≤ (i1 : Int) := by omega
                  have hjc : (j : Int) ≤ (qc : Int) := by omega
                  have hqcj : (qc = lj) = False := by simp; omega
                  have hjb : (j : Int) < 1000 := by omega
                  have hj3 : k < j + 1 := by omega
                  have hj4 : j + 1 ≤ i1 := by omega
                  clear elj hj1 hj2 hji
                  go_wp2
                  go_quiet (exact Calls.quiet_of (hcj.out _))
                  go_wp2
                  go_roundw
                  case rel => exact ⟨j + 1, by go_num, hj3, hj4, kj.trans ((drwK _ _).mono kj.size)⟩
                  case measure => simp [intOf]; omega
                · have hjii : ¬ (j : Int) ≤ (i : Int) := by omega
                  have hend := kb.trans (kj.mono kb.size)
                  clear hqs3 hbx hj1 hj2 kj kb
                  go_wp2
                  exact ⟨⟨i + 1, by go_num, by omega, hend⟩, by simp [intOf]; omega⟩
          · have hii : ¬ (i : Int) < (L : Int) := by omega
            clear hbi hbt
            go_wp2
            go_loopw [14] (fun iv W => ∃ x : Nat, iv = .int .i64 x ∧ dN ≤ x ∧ x ≤ L ∧ Below wr0.heap.size wr0 W) (fun iv _ => L - (intOf iv).toNat)
            case atStart => exact ⟨dN, rfl, Nat.le_refl _, hdL, kb⟩
            case round =>
              obtain ⟨x, rfl, hx1, hx2, kx⟩ := hrel
              by_cases hxL : x < L
              · have hxi : (x : Int) < (L : Int) := by omega
                obtain ⟨y, hy⟩ : ∃ y, Hid (x - dN = y) := ⟨_, rfl⟩
                have ey := hy.out
                have c1 := cell_kept (hqcell.out x hxL) (gbl kx none) (by simp)
                have c2 := cell_kept (hqcell.out y (by omega)) (gbl kx none) (by simp)
                have hp := hpd.out x hx1 hxL
                rw [ey] at hp
                change qs.getD x 0 = qs.getD y 0 at hp
                rw [hp] at c1
                clear hp
                generalize qs.getD y 0 = z at *
                have hwy : IntKind.i64.wrap ((x : Int) - (dN : Int)) = (y : Int) := by rw [show ((x : Int) - (dN : Int)) = (y : Int) by omega]; simp [IntKind.wrap, IntKind.bits, IntKind.signed]; omega
                have hyi : (y : Int) < (L : Int) := by omega
                have hze : (z != z) = false := by simp
                clear ey
                go_wp2
                go_quiet (fail)
                go_wp2
                go_roundw
                case rel => exact ⟨x + 1, by go_num, by omega, by omega, kx.trans ((drwK _ _).mono kx.size)⟩
                case measure => simp [intOf]; omega
              · have hxi : ¬ (x : Int) < (L : Int) := by omega
                have c1 := cell_kept (hbc.out (L - 1) (by omega)) (gbl kx none) (by simp)
                have ed := hdN.out
                generalize bk (L - 1) = z at *
                obtain ⟨q1, hq1⟩ : ∃ q1, Hid (L - 1 = q1) := ⟨_, rfl⟩
                rw [hq1.out] at c1
                have eq1 := hq1.out
                have hw1 : IntKind.i64.wrap ((L : Int) - 1) = (q1 : Int) := by rw [show ((L : Int) - 1) = (q1 : Int) by omega]; simp [IntKind.wrap, IntKind.bits, IntKind.signed]; omega
                have hw2 : IntKind.i64.wrap ((L : Int) - (z : Int)) = (dN : Int) := by rw [show ((L : Int) - (z : Int)) = (dN : Int) by omega]; simp [IntKind.wrap, IntKind.bits, IntKind.signed]; omega
                have hq1i : (q1 : Int) < (L : Int) := by omega
                have hend := KL.trans (kx.mono KL.size)
                clear eq1 ed hx1 hx2
                go_wp2
                go_ret
                exact ⟨by simp, hend⟩
  · have hA2 : ¬ (1 ≤ ps.length ∧ ts.length ≤ 5000) := hA
    have KBL := Below.refl w10.heap.size w10
    obtain ⟨pa, pc, rfl, _⟩ := id sp
    obtain ⟨ta, tc, rfl, _⟩ := id st
    clear cp ct cl sl sp st hll hA
    generalize ps.length = m at *
    generalize ts.length = n at *
    by_cases h1 : 1 ≤ m
    · have h1i : (1 : Int) ≤ (m : Int) := by omega
      have h2i : ¬ (n : Int) ≤ 5000 := by omega
      clear hA2
      have sqL := sq.below KBL
      have sbL := sb.below KBL
      have KL := K.trans (KBL.mono K.size)
      clear KBL sq sb K
      by_cases hB : 0 < qs.length ∧ qs.length ≤ 100
      case neg =>
        have hbv : bordersV qs = [] := by
          unfold bordersV
          split
          · have : qs = [] := List.eq_nil_of_length_eq_zero (by omega)
            subst this; rfl
          · rfl
        have hpv : periodV qs = -1 := if_neg hB
        rw [hbv] at sbL
        rw [hpv]
        obtain ⟨ba, bc, rfl, _⟩ := id sbL
        obtain ⟨qa, qc, rfl, _⟩ := id sqL
        rw [List.length_nil]
        clear hbv hpv sbL sqL
        generalize qs.length = L at *
        by_cases h1 : L < 1
        · have h1i : (L : Int) < 1 := by omega
          go_wp2
          refine wp_loop_rounds 1 ?_
          rw [rounds_succ]
          go_wp2
          go_ret
          exact ⟨rfl, KL⟩
        · have h1i : ¬ (L : Int) < 1 := by omega
          have h2i : (100 : Int) < (L : Int) := by omega
          go_wp2
          refine wp_loop_rounds 1 ?_
          rw [rounds_succ]
          go_wp2
          go_ret
          exact ⟨rfl, KL⟩
      have hbv : bordersV qs = bV qs := if_pos hB.2
      have hpv : periodV qs = (qs.length : Int) - (bK (atL qs) qs.length (qs.length - 1) : Int) := if_pos hB
      obtain ⟨hL1, hL2⟩ := hB
      rw [hbv] at sbL
      obtain ⟨ba, bc, rfl, hba⟩ := id sbL
      obtain ⟨qa, qc, rfl, hqa⟩ := id sqL
      have hqcap : qs.length ≤ qc := by
        obtain ⟨a', c', e, h⟩ := cq
        cases e; exact h
      rcases hqa with h | ⟨qb, qo, rfl, hqb, hqcell⟩
      · rw [h] at hL1; simp at hL1
      have hvl := bV_len qs
      have hva := bV_at qs
      rcases hba with h | ⟨bb, bo, rfl, hbb, hbcell⟩
      · rw [h] at hvl; simp at hvl; omega
      rw [hvl] at hbcell sbL ⊢
      have hbc : ∀ i, i < qs.length → w10.cell? ⟨bb, bo + i, none⟩ = some (.int .i64 (bK (atL qs) qs.length i)) := fun i hi => by rw [hbcell i hi, hva i hi]
      have hbi := border_is qs
      have hbt := border_top qs
      have hpd := period_is qs hL1
      have hble := bK_le (atL qs) qs.length
      clear sbL hbcell hva hvl hbv
      generalize bK (atL qs) qs.length = bk at *
      obtain ⟨L, hLq⟩ : ∃ L, Hid (qs.length = L) := ⟨_, rfl⟩
      rw [hLq.out] at hL1 hL2 hpv hqcap hbc hpd hqcell ⊢
      simp only [hLq.out] at hbi hbt
      obtain ⟨dN, hdN⟩ : ∃ dN, Hid (L - bk (L - 1) = dN) := ⟨_, rfl⟩
      have hbL := hble (L - 1)
      have hpv2 : periodV qs = (dN : Int) := by rw [hpv]; have := hdN.out; omega
      rw [hpv2]
      rw [hdN.out] at hpd
      have hd1 : 1 ≤ dN := by have := hdN.out; omega
      have hdL : dN ≤ L := by have := hdN.out; omega
      have hd0 : ¬ (dN : Int) < 0 := by omega
      clear hpv hpv2
      replace hbi := (show Hid _ from hbi)
      replace hbt := (show Hid _ from hbt)
      replace hpd := (show Hid _ from hpd)
      replace hble := (show Hid _ from hble)
      replace hbc := (show Hid _ from hbc)
      replace hqcell := (show Hid _ from hqcell)
      replace cq := (show Hid _ from cq)
      go_wp2
      go_loopw [11] (fun iv wr => ∃ i : Nat, iv = .int .i64 i ∧ i ≤ L ∧ Below w10.heap.size w10 wr) (fun iv _ => L - (intOf iv).toNat)
      case atStart => exact ⟨0, rfl, Nat.zero_le _, Below.refl _ _⟩
      case round =>
        obtain ⟨i, rfl, hiL, kb⟩ := hrel
        by_cases hlt : i < L
        · have hii : (i : Int) < (L : Int) := by omega
          have hbx := cell_kept (hbc.out i hlt) (gbl kb none) (by simp)
          have his := hbi.out i hlt
          have htop := fun j => hbt.out i j hlt
          have hki := hble.out i
          generalize bk i = k at *
          obtain ⟨i1, hi1⟩ : ∃ i1, Hid (i + 1 = i1) := ⟨_, rfl⟩
          obtain ⟨k1, hk1⟩ : ∃ k1, Hid (k + 1 = k1) := ⟨_, rfl⟩
          obtain ⟨lo, hlo⟩ : ∃ lo, Hid (i1 - k = lo) := ⟨_, rfl⟩
          rw [hi1.out, hlo.out] at his
          simp only [hi1.out] at htop
          have ei1 := hi1.out
          have ek1 := hk1.out
          have elo := hlo.out
          have hw1 : IntKind.i64.wrap ((i : Int) + 1) = (i1 : Int) := by rw [show ((i : Int) + 1) = (i1 : Int) by omega]; simp [IntKind.wrap, IntKind.bits, IntKind.signed]; omega
          have hw2 : IntKind.i64.wrap ((i1 : Int) - (k : Int)) = (lo : Int) := by rw [show ((i1 : Int) - (k : Int)) = (lo : Int) by omega]; simp [IntKind.wrap, IntKind.bits, IntKind.signed]; omega
          have hw3 : IntKind.i64.wrap ((k : Int) + 1) = (k1 : Int) := by rw [show ((k : Int) + 1) = (k1 : Int) by omega]; simp [IntKind.wrap, IntKind.bits, IntKind.signed]; omega
          have hkii : ¬ (i : Int) < (k : Int) := by omega
          have hk0 : (0 : Int) ≤ (k : Int) := by omega
          have hkc : (k : Int) ≤ (qc : Int) := by omega
          have hlo1 : (lo : Int) ≤ (i1 : Int) := by omega
          have hi1c : (i1 : Int) ≤ (qc : Int) := by omega
          have sqw := sqL.below kb
          rw [hLq.out] at sqw
          have eLq := hLq.out
          have hqs2 : ∀ (ad : Option Addr) (c' : Nat), (k = 0 ∨ ad = some ⟨qb, qo + lo, none⟩) → ∀ n, Calls Try.prog 13 #[.slice (some ⟨qb, qo, none⟩) k qc, .slice ad (i1 - lo) c'] (wr.drewN n) fun e w' => e = .returned (.bool true) ∧ ∃ m, w' = (wr.drewN n).drewN m := by
            intro ad c' had n
            rw [show i1 - lo = k by omega]
            have p1 := (sqw.below (drwK wr n)).sub 0 k qc eLq (by omega)
            rw [Nat.add_zero, List.drop_zero] at p1
            have p2 : SlI (wr.drewN n) (.slice ad k c') ((qs.drop lo).take k) := by
              rcases had with h0 | rfl
              · rw [h0, List.take_zero]; exact SlI.none _ _
              · exact (sqw.below (drwK wr n)).sub lo k c' eLq (by omega)
            refine (like_d _ _ _ _ _ p1 p2 (by rw [List.length_take]; omega)).mono ?_
            rw [decide_eq_true his]
            exact fun e w' h => h
          replace hqs2 := (show Hid _ from hqs2)
          have hqs3 : ∀ W, Below wr.heap.size wr W → ∀ j, k < j → j ≤ i → ∀ n, Calls Try.prog 13 #[.slice (some ⟨qb, qo, none⟩) j qc, .slice (some ⟨qb, qo + (i1 - j), none⟩) (i1 - (i1 - j)) (qc - (i1 - j))] (W.drewN n) fun e w' => e = .returned (.bool false) ∧ ∃ m, w' = (W.drewN n).drewN m := by
            intro W kW j hj1 hj2 n
            have sqW := (sqw.below kW).below (drwK W n)
            rw [show i1 - (i1 - j) = j by omega]
            have p1 := sqW.sub 0 j qc eLq (by omega)
            rw [Nat.add_zero, List.drop_zero] at p1
            have p2 := sqW.sub (i1 - j) j (qc - (i1 - j)) eLq (by omega)
            refine (like_d _ _ _ _ _ p1 p2 (by rw [List.length_take]; omega)).mono ?_
            rw [decide_eq_false (htop j hj1 hj2)]
            exact fun e w' h => h
          replace hqs3 := (show Hid _ from hqs3)
          clear sqw his htop eLq
          by_cases hkz : k = 0
          · have hkzH : Hid (k = 0) := hkz
            clear hkz
            by_cases hqc : qc = lo
            · have hqcp : (qc = lo) = True := by simp [hqc]
              clear hqc
              go_wp2
              go_quiet (exact Calls.quiet_of (hqs2.out _ _ (.inl hkzH.out) _))
              go_wp2
              go_loopw [13] (fun jv W => ∃ j : Nat, jv = .int .i64 j ∧ k < j ∧ j ≤ i1 ∧ Below wr.heap.size wr W) (fun jv _ => i1 + 1 - (intOf jv).toNat)
              case atStart => exact ⟨k1, rfl, by omega, by omega, drwK wr _⟩
              case round =>
                obtain ⟨j, rfl, hj1, hj2, kj⟩ := hrel
                by_cases hji : j ≤ i
                · have hjii : (j : Int) ≤ (i : Int) := by omega
                  obtain ⟨lj, hlj⟩ : ∃ lj, Hid (i1 - j = lj) := ⟨_, rfl⟩
                  have elj := hlj.out
                  have hcj := hqs3.out _ kj j hj1 hji
                  simp only [elj] at hcj
                  replace hcj := (show Hid _ from hcj)
                  have hwj : IntKind.i64.wrap ((i1 : Int) - (j : Int)) = (lj : Int) := by rw [show ((i1 : Int) - (j : Int)) = (lj : Int) by omega]; simp [IntKind.wrap, IntKind.bits, IntKind.signed]; omega
                  have hlj1 : (lj : Int) ≤ (i1 : Int) := by omega
                  have hjc : (j : Int) ≤ (qc : Int) := by omega
                  have hqcj : (qc = lj) = False := by simp; omega
                  have hjb : (j : Int) < 1000 := by omega
                  have hj3 : k < j + 1 := by omega
                  have hj4 : j + 1 ≤ i1 := by omega
                  clear elj hj1 hj2 hji
                  go_wp2
                  go_quiet (exact Calls.quiet_of (hcj.out _))
                  go_wp2
                  go_roundw
                  case rel => exact ⟨j + 1, by go_num, hj3, hj4, kj.trans ((drwK _ _).mono kj.size)⟩
                  case measure => simp [intOf]; omega
                · have hjii : ¬ (j : Int) ≤ (i : Int) := by omega
                  have hend := kb.trans (kj.mono kb.size)
                  clear hqs3 hbx hj1 hj2 kj kb
                  go_wp2
                  exact ⟨⟨i + 1, by go_num, by omega, hend⟩, by simp [intOf]; omega⟩
            · have hqcp : (qc = lo) = False := by simp [hqc]
              clear hqc
              go_wp2
              go_quiet (exact Calls.quiet_of (hqs2.out _ _ (.inl hkzH.out) _))
              go_wp2
              go_loopw [13] (fun jv W => ∃ j : Nat, jv = .int .i64 j ∧ k < j ∧ j ≤ i1 ∧ Below wr.heap.size wr W) (fun jv _ => i1 + 1 - (intOf jv).toNat)
              case atStart => exact ⟨k1, rfl, by omega, by omega, drwK wr _⟩
              case round =>
                obtain ⟨j, rfl, hj1, hj2, kj⟩ := hrel
                by_cases hji : j ≤ i
                · have hjii : (j : Int) ≤ (i : Int) := by omega
                  obtain ⟨lj, hlj⟩ : ∃ lj, Hid (i1 - j = lj) := ⟨_, rfl⟩
                  have elj := hlj.out
                  have hcj := hqs3.out _ kj j hj1 hji
                  simp only [elj] at hcj
                  replace hcj := (show Hid _ from hcj)
                  have hwj : IntKind.i64.wrap ((i1 : Int) - (j : Int)) = (lj : Int) := by rw [show ((i1 : Int) - (j : Int)) = (lj : Int) by omega]; simp [IntKind.wrap, IntKind.bits, IntKind.signed]; omega
                  have hlj1 : (lj : Int) ≤ (i1 : Int) := by omega
                  have hjc : (j : Int) ≤ (qc : Int) := by omega
                  have hqcj : (qc = lj) = False := by simp; omega
                  have hjb : (j : Int) < 1000 := by omega
                  have hj3 : k < j + 1 := by omega
                  have hj4 : j + 1 ≤ i1 := by omega
                  clear elj hj1 hj2 hji
                  go_wp2
                  go_quiet (exact Calls.quiet_of (hcj.out _))
                  go_wp2
                  go_roundw
                  case rel => exact ⟨j + 1, by go_num, hj3, hj4, kj.trans ((drwK _ _).mono kj.size)⟩
                  case measure => simp [intOf]; omega
                · have hjii : ¬ (j : Int) ≤ (i : Int) := by omega
                  have hend := kb.trans (kj.mono kb.size)
                  clear hqs3 hbx hj1 hj2 kj kb
                  go_wp2
                  exact ⟨⟨i + 1, by go_num, by omega, hend⟩, by simp [intOf]; omega⟩
          · have hqcp : (qc = lo) = False := by simp; omega
            go_wp2
            go_quiet (exact Calls.quiet_of (hqs2.out _ _ (.inr rfl) _))
            go_wp2
            go_loopw [13] (fun jv W => ∃ j : Nat, jv = .int .i64 j ∧ k < j ∧ j ≤ i1 ∧ Below wr.heap.size wr W) (fun jv _ => i1 + 1 - (intOf jv).toNat)
            case atStart => exact ⟨k1, rfl, by omega, by omega, drwK wr _⟩
            case round =>
              obtain ⟨j, rfl, hj1, hj2, kj⟩ := hrel
              by_cases hji : j ≤ i
              · have hjii : (j : Int) ≤ (i : Int) := by omega
                obtain ⟨lj, hlj⟩ : ∃ lj, Hid (i1 - j = lj) := ⟨_, rfl⟩
                have elj := hlj.out
                have hcj := hqs3.out _ kj j hj1 hji
                simp only [elj] at hcj
                replace hcj := (show Hid _ from hcj)
                have hwj : IntKind.i64.wrap ((i1 : Int) - (j : Int)) = (lj : Int) := by rw [show ((i1 : Int) - (j : Int)) = (lj : Int) by omega]; simp [IntKind.wrap, IntKind.bits, IntKind.signed]; omega
                have hlj1 : (lj : Int) ≤ (i1 : Int) := by omega
                have hjc : (j : Int) ≤ (qc : Int) := by omega
                have hqcj : (qc = lj) = False := by simp; omega
                have hjb : (j : Int) < 1000 := by omega
                have hj3 : k < j + 1 := by omega
                have hj4 : j + 1 ≤ i1 := by omega
                clear elj hj1 hj2 hji
                go_wp2
                go_quiet (exact Calls.quiet_of (hcj.out _))
                go_wp2
                go_roundw
                case rel => exact ⟨j + 1, by go_num, hj3, hj4, kj.trans ((drwK _ _).mono kj.size)⟩
                case measure => simp [intOf]; omega
              · have hjii : ¬ (j : Int) ≤ (i : Int) := by omega
                have hend := kb.trans (kj.mono kb.size)
                clear hqs3 hbx hj1 hj2 kj kb
                go_wp2
                exact ⟨⟨i + 1, by go_num, by omega, hend⟩, by simp [intOf]; omega⟩
        · have hii : ¬ (i : Int) < (L : Int) := by omega
          clear hbi hbt
          go_wp2
          go_loopw [14] (fun iv W => ∃ x : Nat, iv = .int .i64 x ∧ dN ≤ x ∧ x ≤ L ∧ Below w10.heap.size w10 W) (fun iv _ => L - (intOf iv).toNat)
          case atStart => exact ⟨dN, rfl, Nat.le_refl _, hdL, kb⟩
          case round =>
            obtain ⟨x, rfl, hx1, hx2, kx⟩ := hrel
            by_cases hxL : x < L
            · have hxi : (x : Int) < (L : Int) := by omega
              obtain ⟨y, hy⟩ : ∃ y, Hid (x - dN = y) := ⟨_, rfl⟩
              have ey := hy.out
              have c1 := cell_kept (hqcell.out x hxL) (gbl kx none) (by simp)
              have c2 := cell_kept (hqcell.out y (by omega)) (gbl kx none) (by simp)
              have hp := hpd.out x hx1 hxL
              rw [ey] at hp
              change qs.getD x 0 = qs.getD y 0 at hp
              rw [hp] at c1
              clear hp
              generalize qs.getD y 0 = z at *
              have hwy : IntKind.i64.wrap ((x : Int) - (dN : Int)) = (y : Int) := by rw [show ((x : Int) - (dN : Int)) = (y : Int) by omega]; simp [IntKind.wrap, IntKind.bits, IntKind.signed]; omega
              have hyi : (y : Int) < (L : Int) := by omega
              have hze : (z != z) = false := by simp
              clear ey
              go_wp2
              go_quiet (fail)
              go_wp2
              go_roundw
              case rel => exact ⟨x + 1, by go_num, by omega, by omega, kx.trans ((drwK _ _).mono kx.size)⟩
              case measure => simp [intOf]; omega
            · have hxi : ¬ (x : Int) < (L : Int) := by omega
              have c1 := cell_kept (hbc.out (L - 1) (by omega)) (gbl kx none) (by simp)
              have ed := hdN.out
              generalize bk (L - 1) = z at *
              obtain ⟨q1, hq1⟩ : ∃ q1, Hid (L - 1 = q1) := ⟨_, rfl⟩
              rw [hq1.out] at c1
              have eq1 := hq1.out
              have hw1 : IntKind.i64.wrap ((L : Int) - 1) = (q1 : Int) := by rw [show ((L : Int) - 1) = (q1 : Int) by omega]; simp [IntKind.wrap, IntKind.bits, IntKind.signed]; omega
              have hw2 : IntKind.i64.wrap ((L : Int) - (z : Int)) = (dN : Int) := by rw [show ((L : Int) - (z : Int)) = (dN : Int) by omega]; simp [IntKind.wrap, IntKind.bits, IntKind.signed]; omega
              have hq1i : (q1 : Int) < (L : Int) := by omega
              have hend := KL.trans (kx.mono KL.size)
              clear eq1 ed hx1 hx2
              go_wp2
              go_ret
              exact ⟨by simp, hend⟩
    · have h1i : ¬ (1 : Int) ≤ (m : Int) := by omega
      clear hA2
      have sqL := sq.below KBL
      have sbL := sb.below KBL
      have KL := K.trans (KBL.mono K.size)
      clear KBL sq sb K
      by_cases hB : 0 < qs.length ∧ qs.length ≤ 100
      case neg =>
        have hbv : bordersV qs = [] := by
          unfold bordersV
          split
          · have : qs = [] := List.eq_nil_of_length_eq_zero (by omega)
            subst this; rfl
          · rfl
        have hpv : periodV qs = -1 := if_neg hB
        rw [hbv] at sbL
        rw [hpv]
        obtain ⟨ba, bc, rfl, _⟩ := id sbL
        obtain ⟨qa, qc, rfl, _⟩ := id sqL
        rw [List.length_nil]
        clear hbv hpv sbL sqL
        generalize qs.length = L at *
        by_cases h1 : L < 1
        · have h1i : (L : Int) < 1 := by omega
          go_wp2
          refine wp_loop_rounds 1 ?_
          rw [rounds_succ]
          go_wp2
          go_ret
          exact ⟨rfl, KL⟩
        · have h1i : ¬ (L : Int) < 1 := by omega
          have h2i : (100 : Int) < (L : Int) := by omega
          go_wp2
          refine wp_loop_rounds 1 ?_
          rw [rounds_succ]
          go_wp2
          go_ret
          exact ⟨rfl, KL⟩
      have hbv : bordersV qs = bV qs := if_pos hB.2
      have hpv : periodV qs = (qs.length : Int) - (bK (atL qs) qs.length (qs.length - 1) : Int) := if_pos hB
      obtain ⟨hL1, hL2⟩ := hB
      rw [hbv] at sbL
      obtain ⟨ba, bc, rfl, hba⟩ := id sbL
      obtain ⟨qa, qc, rfl, hqa⟩ := id sqL
      have hqcap : qs.length ≤ qc := by
        obtain ⟨a', c', e, h⟩ := cq
        cases e; exact h
      rcases hqa with h | ⟨qb, qo, rfl, hqb, hqcell⟩
      · rw [h] at hL1; simp at hL1
      have hvl := bV_len qs
      have hva := bV_at qs
      rcases hba with h | ⟨bb, bo, rfl, hbb, hbcell⟩
      · rw [h] at hvl; simp at hvl; omega
      rw [hvl] at hbcell sbL ⊢
      have hbc : ∀ i, i < qs.length → w10.cell? ⟨bb, bo + i, none⟩ = some (.int .i64 (bK (atL qs) qs.length i)) := fun i hi => by rw [hbcell i hi, hva i hi]
      have hbi := border_is qs
      have hbt := border_top qs
      have hpd := period_is qs hL1
      have hble := bK_le (atL qs) qs.length
      clear sbL hbcell hva hvl hbv
      generalize bK (atL qs) qs.length = bk at *
      obtain ⟨L, hLq⟩ : ∃ L, Hid (qs.length = L) := ⟨_, rfl⟩
      rw [hLq.out] at hL1 hL2 hpv hqcap hbc hpd hqcell ⊢
      simp only [hLq.out] at hbi hbt
      obtain ⟨dN, hdN⟩ : ∃ dN, Hid (L - bk (L - 1) = dN) := ⟨_, rfl⟩
      have hbL := hble (L - 1)
      have hpv2 : periodV qs = (dN : Int) := by rw [hpv]; have := hdN.out; omega
      rw [hpv2]
      rw [hdN.out] at hpd
      have hd1 : 1 ≤ dN := by have := hdN.out; omega
      have hdL : dN ≤ L := by have := hdN.out; omega
      have hd0 : ¬ (dN : Int) < 0 := by omega
      clear hpv hpv2
      replace hbi := (show Hid _ from hbi)
      replace hbt := (show Hid _ from hbt)
      replace hpd := (show Hid _ from hpd)
      replace hble := (show Hid _ from hble)
      replace hbc := (show Hid _ from hbc)
      replace hqcell := (show Hid _ from hqcell)
      replace cq := (show Hid _ from cq)
      go_wp2
      go_loopw [11] (fun iv wr => ∃ i : Nat, iv = .int .i64 i ∧ i ≤ L ∧ Below w10.heap.size w10 wr) (fun iv _ => L - (intOf iv).toNat)
      case atStart => exact ⟨0, rfl, Nat.zero_le _, Below.refl _ _⟩
      case round =>
        obtain ⟨i, rfl, hiL, kb⟩ := hrel
        by_cases hlt : i < L
        · have hii : (i : Int) < (L : Int) := by omega
          have hbx := cell_kept (hbc.out i hlt) (gbl kb none) (by simp)
          have his := hbi.out i hlt
          have htop := fun j => hbt.out i j hlt
          have hki := hble.out i
          generalize bk i = k at *
          obtain ⟨i1, hi1⟩ : ∃ i1, Hid (i + 1 = i1) := ⟨_, rfl⟩
          obtain ⟨k1, hk1⟩ : ∃ k1, Hid (k + 1 = k1) := ⟨_, rfl⟩
          obtain ⟨lo, hlo⟩ : ∃ lo, Hid (i1 - k = lo) := ⟨_, rfl⟩
          rw [hi1.out, hlo.out] at his
          simp only [hi1.out] at htop
          have ei1 := hi1.out
          have ek1 := hk1.out
          have elo := hlo.out
          have hw1 : IntKind.i64.wrap ((i : Int) + 1) = (i1 : Int) := by rw [show ((i : Int) + 1) = (i1 : Int) by omega]; simp [IntKind.wrap, IntKind.bits, IntKind.signed]; omega
          have hw2 : IntKind.i64.wrap ((i1 : Int) - (k : Int)) = (lo : Int) := by rw [show ((i1 : Int) - (k : Int)) = (lo : Int) by omega]; simp [IntKind.wrap, IntKind.bits, IntKind.signed]; omega
          have hw3 : IntKind.i64.wrap ((k : Int) + 1) = (k1 : Int) := by rw [show ((k : Int) + 1) = (k1 : Int) by omega]; simp [IntKind.wrap, IntKind.bits, IntKind.signed]; omega
          have hkii : ¬ (i : Int) < (k : Int) := by omega
          have hk0 : (0 : Int) ≤ (k : Int) := by omega
          have hkc : (k : Int) ≤ (qc : Int) := by omega
          have hlo1 : (lo : Int) ≤ (i1 : Int) := by omega
          have hi1c : (i1 : Int) ≤ (qc : Int) := by omega
          have sqw := sqL.below kb
          rw [hLq.out] at sqw
          have eLq := hLq.out
          have hqs2 : ∀ (ad : Option Addr) (c' : Nat), (k = 0 ∨ ad = some ⟨qb, qo + lo, none⟩) → ∀ n, Calls Try.prog 13 #[.slice (some ⟨qb, qo, none⟩) k qc, .slice ad (i1 - lo) c'] (wr.drewN n) fun e w' => e = .returned (.bool true) ∧ ∃ m, w' = (wr.drewN n).drewN m := by
            intro ad c' had n
            rw [show i1 - lo = k by omega]
            have p1 := (sqw.below (drwK wr n)).sub 0 k qc eLq (by omega)
            rw [Nat.add_zero, List.drop_zero] at p1
            have p2 : SlI (wr.drewN n) (.slice ad k c') ((qs.drop lo).take k) := by
              rcases had with h0 | rfl
              · rw [h0, List.take_zero]; exact SlI.none _ _
              · exact (sqw.below (drwK wr n)).sub lo k c' eLq (by omega)
            refine (like_d _ _ _ _ _ p1 p2 (by rw [List.length_take]; omega)).mono ?_
            rw [decide_eq_true his]
            exact fun e w' h => h
          replace hqs2 := (show Hid _ from hqs2)
          have hqs3 : ∀ W, Below wr.heap.size wr W → ∀ j, k < j → j ≤ i → ∀ n, Calls Try.prog 13 #[.slice (some ⟨qb, qo, none⟩) j qc, .slice (some ⟨qb, qo + (i1 - j), none⟩) (i1 - (i1 - j)) (qc - (i1 - j))] (W.drewN n) fun e w' => e = .returned (.bool false) ∧ ∃ m, w' = (W.drewN n).drewN m := by
            intro W kW j hj1 hj2 n
            have sqW := (sqw.below kW).below (drwK W n)
            rw [show i1 - (i1 - j) = j by omega]
            have p1 := sqW.sub 0 j qc eLq (by omega)
            rw [Nat.add_zero, List.drop_zero] at p1
            have p2 := sqW.sub (i1 - j) j (qc - (i1 - j)) eLq (by omega)
            refine (like_d _ _ _ _ _ p1 p2 (by rw [List.length_take]; omega)).mono ?_
            rw [decide_eq_false (htop j hj1 hj2)]
            exact fun e w' h => h
          replace hqs3 := (show Hid _ from hqs3)
          clear sqw his htop eLq
          by_cases hkz : k = 0
          · have hkzH : Hid (k = 0) := hkz
            clear hkz
            by_cases hqc : qc = lo
            · have hqcp : (qc = lo) = True := by simp [hqc]
              clear hqc
              go_wp2
              go_quiet (exact Calls.quiet_of (hqs2.out _ _ (.inl hkzH.out) _))
              go_wp2
              go_loopw [13] (fun jv W => ∃ j : Nat, jv = .int .i64 j ∧ k < j ∧ j ≤ i1 ∧ Below wr.heap.size wr W) (fun jv _ => i1 + 1 - (intOf jv).toNat)
              case atStart => exact ⟨k1, rfl, by omega, by omega, drwK wr _⟩
              case round =>
                obtain ⟨j, rfl, hj1, hj2, kj⟩ := hrel
                by_cases hji : j ≤ i
                · have hjii : (j : Int) ≤ (i : Int) := by omega
                  obtain ⟨lj, hlj⟩ : ∃ lj, Hid (i1 - j = lj) := ⟨_, rfl⟩
                  have elj := hlj.out
                  have hcj := hqs3.out _ kj j hj1 hji
                  simp only [elj] at hcj
                  replace hcj := (show Hid _ from hcj)
                  have hwj : IntKind.i64.wrap ((i1 : Int) - (j : Int)) = (lj : Int) := by rw [show ((i1 : Int) - (j : Int)) = (lj : Int) by omega]; simp [IntKind.wrap, IntKind.bits, IntKind.signed]; omega
                  have hlj1 : (lj : Int) ≤ (i1 : Int) := by omega
                  have hjc : (j : Int) ≤ (qc : Int) := by omega
                  have hqcj : (qc = lj) = False := by simp; omega
                  have hjb : (j : Int) < 1000 := by omega
                  have hj3 : k < j + 1 := by omega
                  have hj4 : j + 1 ≤ i1 := by omega
                  clear elj hj1 hj2 hji
                  go_wp2
                  go_quiet (exact Calls.quiet_of (hcj.out _))
                  go_wp2
                  go_roundw
                  case rel => exact ⟨j + 1, by go_num, hj3, hj4, kj.trans ((drwK _ _).mono kj.size)⟩
                  case measure => simp [intOf]; omega
                · have hjii : ¬ (j : Int) ≤ (i : Int) := by omega
                  have hend := kb.trans (kj.mono kb.size)
                  clear hqs3 hbx hj1 hj2 kj kb
                  go_wp2
                  exact ⟨⟨i + 1, by go_num, by omega, hend⟩, by simp [intOf]; omega⟩
            · have hqcp : (qc = lo) = False := by simp [hqc]
              clear hqc
              go_wp2
              go_quiet (exact Calls.quiet_of (hqs2.out _ _ (.inl hkzH.out) _))
              go_wp2
              go_loopw [13] (fun jv W => ∃ j : Nat, jv = .int .i64 j ∧ k < j ∧ j ≤ i1 ∧ Below wr.heap.size wr W) (fun jv _ => i1 + 1 - (intOf jv).toNat)
              case atStart => exact ⟨k1, rfl, by omega, by omega, drwK wr _⟩
              case round =>
                obtain ⟨j, rfl, hj1, hj2, kj⟩ := hrel
                by_cases hji : j ≤ i
                · have hjii : (j : Int) ≤ (i : Int) := by omega
                  obtain ⟨lj, hlj⟩ : ∃ lj, Hid (i1 - j = lj) := ⟨_, rfl⟩
                  have elj := hlj.out
                  have hcj := hqs3.out _ kj j hj1 hji
                  simp only [elj] at hcj
                  replace hcj := (show Hid _ from hcj)
                  have hwj : IntKind.i64.wrap ((i1 : Int) - (j : Int)) = (lj : Int) := by rw [show ((i1 : Int) - (j : Int)) = (lj : Int) by omega]; simp [IntKind.wrap, IntKind.bits, IntKind.signed]; omega
                  have hlj1 : (lj : Int) ≤ (i1 : Int) := by omega
                  have hjc : (j : Int) ≤ (qc : Int) := by omega
                  have hqcj : (qc = lj) = False := by simp; omega
                  have hjb : (j : Int) < 1000 := by omega
                  have hj3 : k < j + 1 := by omega
                  have hj4 : j + 1 ≤ i1 := by omega
                  clear elj hj1 hj2 hji
                  go_wp2
                  go_quiet (exact Calls.quiet_of (hcj.out _))
                  go_wp2
                  go_roundw
                  case rel => exact ⟨j + 1, by go_num, hj3, hj4, kj.trans ((drwK _ _).mono kj.size)⟩
                  case measure => simp [intOf]; omega
                · have hjii : ¬ (j : Int) ≤ (i : Int) := by omega
                  have hend := kb.trans (kj.mono kb.size)
                  clear hqs3 hbx hj1 hj2 kj kb
                  go_wp2
                  exact ⟨⟨i + 1, by go_num, by omega, hend⟩, by simp [intOf]; omega⟩
          · have hqcp : (qc = lo) = False := by simp; omega
            go_wp2
            go_quiet (exact Calls.quiet_of (hqs2.out _ _ (.inr rfl) _))
            go_wp2
            go_loopw [13] (fun jv W => ∃ j : Nat, jv = .int .i64 j ∧ k < j ∧ j ≤ i1 ∧ Below wr.heap.size wr W) (fun jv _ => i1 + 1 - (intOf jv).toNat)
            case atStart => exact ⟨k1, rfl, by omega, by omega, drwK wr _⟩
            case round =>
              obtain ⟨j, rfl, hj1, hj2, kj⟩ := hrel
              by_cases hji : j ≤ i
              · have hjii : (j : Int) ≤ (i : Int) := by omega
                obtain ⟨lj, hlj⟩ : ∃ lj, Hid (i1 - j = lj) := ⟨_, rfl⟩
                have elj := hlj.out
                have hcj := hqs3.out _ kj j hj1 hji
                simp only [elj] at hcj
                replace hcj := (show Hid _ from hcj)
                have hwj : IntKind.i64.wrap ((i1 : Int) - (j : Int)) = (lj : Int) := by rw [show ((i1 : Int) - (j : Int)) = (lj : Int) by omega]; simp [IntKind.wrap, IntKind.bits, IntKind.signed]; omega
                have hlj1 : (lj : Int) ≤ (i1 : Int) := by omega
                have hjc : (j : Int) ≤ (qc : Int) := by omega
                have hqcj : (qc = lj) = False := by simp; omega
                have hjb : (j : Int) < 1000 := by omega
                have hj3 : k < j + 1 := by omega
                have hj4 : j + 1 ≤ i1 := by omega
                clear elj hj1 hj2 hji
                go_wp2
                go_quiet (exact Calls.quiet_of (hcj.out _))
                go_wp2
                go_roundw
                case rel => exact ⟨j + 1, by go_num, hj3, hj4, kj.trans ((drwK _ _).mono kj.size)⟩
                case measure => simp [intOf]; omega
              · have hjii : ¬ (j : Int) ≤ (i : Int) := by omega
                have hend := kb.trans (kj.mono kb.size)
                clear hqs3 hbx hj1 hj2 kj kb
                go_wp2
                exact ⟨⟨i + 1, by go_num, by omega, hend⟩, by simp [intOf]; omega⟩
        · have hii : ¬ (i : Int) < (L : Int) := by omega
          clear hbi hbt
          go_wp2
          go_loopw [14] (fun iv W => ∃ x : Nat, iv = .int .i64 x ∧ dN ≤ x ∧ x ≤ L ∧ Below w10.heap.size w10 W) (fun iv _ => L - (intOf iv).toNat)
          case atStart => exact ⟨dN, rfl, Nat.le_refl _, hdL, kb⟩
          case round =>
            obtain ⟨x, rfl, hx1, hx2, kx⟩ := hrel
            by_cases hxL : x < L
            · have hxi : (x : Int) < (L : Int) := by omega
              obtain ⟨y, hy⟩ : ∃ y, Hid (x - dN = y) := ⟨_, rfl⟩
              have ey := hy.out
              have c1 := cell_kept (hqcell.out x hxL) (gbl kx none) (by simp)
              have c2 := cell_kept (hqcell.out y (by omega)) (gbl kx none) (by simp)
              have hp := hpd.out x hx1 hxL
              rw [ey] at hp
              change qs.getD x 0 = qs.getD y 0 at hp
              rw [hp] at c1
              clear hp
              generalize qs.getD y 0 = z at *
              have hwy : IntKind.i64.wrap ((x : Int) - (dN : Int)) = (y : Int) := by rw [show ((x : Int) - (dN : Int)) = (y : Int) by omega]; simp [IntKind.wrap, IntKind.bits, IntKind.signed]; omega
              have hyi : (y : Int) < (L : Int) := by omega
              have hze : (z != z) = false := by simp
              clear ey
              go_wp2
              go_quiet (fail)
              go_wp2
              go_roundw
              case rel => exact ⟨x + 1, by go_num, by omega, by omega, kx.trans ((drwK _ _).mono kx.size)⟩
              case measure => simp [intOf]; omega
            · have hxi : ¬ (x : Int) < (L : Int) := by omega
              have c1 := cell_kept (hbc.out (L - 1) (by omega)) (gbl kx none) (by simp)
              have ed := hdN.out
              generalize bk (L - 1) = z at *
              obtain ⟨q1, hq1⟩ : ∃ q1, Hid (L - 1 = q1) := ⟨_, rfl⟩
              rw [hq1.out] at c1
              have eq1 := hq1.out
              have hw1 : IntKind.i64.wrap ((L : Int) - 1) = (q1 : Int) := by rw [show ((L : Int) - 1) = (q1 : Int) by omega]; simp [IntKind.wrap, IntKind.bits, IntKind.signed]; omega
              have hw2 : IntKind.i64.wrap ((L : Int) - (z : Int)) = (dN : Int) := by rw [show ((L : Int) - (z : Int)) = (dN : Int) by omega]; simp [IntKind.wrap, IntKind.bits, IntKind.signed]; omega
              have hq1i : (q1 : Int) < (L : Int) := by omega
              have hend := KL.trans (kx.mono KL.size)
              clear eq1 ed hx1 hx2
              go_wp2
              go_ret
              exact ⟨by simp, hend⟩
end Go.Proofs.Ytkjfajdjiikpcaa
