/- The walk of the law of fed bytes. -/
import Derived.Test.YticogomjpefoeaaKFed
import Derived.Test.YticogomjpefoeaaDrawS
import Derived.Test.YticogomjpefoeaaBig
import Derived.Test.YticogomjpefoeaaSRunes
namespace Go.Proofs.Yticogomjpefoeaa
open Go.ChangeShapes Go.WideShapes Go.ChangeAt Go.RowKit
attribute [local go_sem ↓] Go.wp_at_zero Go.wp_at_succ

theorem info_int64fed : (Try.prog.info? 2).map (fun i => (i.zero, i.size, i.bytes)) = some (some (.int .i64 0), 1, 8) := by kernel_rfl
theorem drop_here (s : ByteArray) (j : Nat) (h : j < s.size) : (nums s).drop j = ((s[j]'h).toNat : Int) :: (nums s).drop (j + 1) := by
  rw [← List.getElem_cons_drop (by rw [nums_len]; exact h)]
  congr 1
  have := nums_get s j h
  rw [List.getElem?_eq_getElem (by rw [nums_len]; exact h)] at this
  exact Option.some.inj this
theorem KL.told {BG B5 : Nat} {q x : ByteArray} {ut ut' : Value} {T M : List Int} {w0 W W' : World} (k : KL BG B5 (BG + 1) q x ut T w0 W) (h5 : B5 < BG) (h0 : w0.heap.size ≤ BG)
    (ho : W'.ownsRow (BG + 1) 2 1 ut' (T.length + M.length) (T.map (Value.int .i64) ++ M.map (Value.int .i64))) (hg : W.grownBy W' ut.ownBlock) : KL BG B5 (BG + 1) q x ut' (T ++ M) w0 W' := by
  have hb : ∀ g, ut.ownBlock = some g → BG + 1 ≤ g := fun g e => (k.2.2.1.lt g e).1
  refine ⟨k.1.grown hg (fun e => by have := hb _ e; omega), k.2.1.grown hg (fun e => by have := hb _ e; omega), ?_, Nat.le_trans k.2.2.2.1 hg.size, k.2.2.2.2.grown hg k.2.2.2.2.size (fun g e => by have := hb g e; omega)⟩
  rw [List.length_append, List.map_append]
  simpa using ho

set_option maxRecDepth 20000 in
set_option maxHeartbeats 8000000 in
theorem walk_FnFed (w : World) (a : Option Addr) (len cap : Nat) (zs : List Int) (hr : IsRow .u8 w a len cap zs) :
    Calls Try.prog 5 #[.slice a len cap] w fun e w' => e = .returned (.bool true) ∧ Below w.heap.size w w' := by
  by_cases h4 : len ≤ 4096
  · obtain ⟨hv, _⟩ := SlB.of_row hr h4
    have hbig : decide (4096 < (len : Int)) = false := by simp; omega
    clear hr
    go_enter Try.func5, Try.ntmps5
    go_wp2_with fail
    refine (big_a a len cap _).mono ?_
    rw [hbig]
    rintro e w0 ⟨rfl, hw0⟩
    subst hw0
    go_wp2_with fail
    refine (drawFeed_a _ _ _ hv).mono ?_
    rintro e w1 ⟨h, b, rfl, hh4, hbl, hbh, hb1⟩
    have hlb1 := hb1.size
    go_wp2_with fail
    have hA := HeldAt.new w1 h 38
    have hbA := hb1.trans ((bal w1 (Obj.cells #[.string h] 38)).mono hb1.size)
    have hsA : (w1.alloc (Obj.cells #[.string h] 38)).heap.size = w1.heap.size + 1 := by simp
    refine (implFeed_any h b _).mono ?_
    rintro e w2 ⟨u2, rfl, hb2, ho2⟩
    have h32 := hA.below hb2
    have hs2 := hb2.size
    rw [hsA] at hs2
    have hL2 := SlI.of_own ho2
    have hb2' := hbA.trans (hb2.mono hbA.size)
    have hc32 := h32.2.1
    have hn32 : ¬ (w1.heap.size = w2.heap.size) := by omega
    have hn32' : ¬ (w2.heap.size = w1.heap.size) := by omega
    have hx := fed_ok h b
    have hfl := fed_len h b
    have hfn : feedOk h = false → (fedV h b).1 = [] ∧ (fedV h b).2 = ⟨#[]⟩ := by intro e; simp [fedV, e]
    generalize hfx : fedV h b = fx at *
    obtain ⟨L, x⟩ := fx
    simp only at ho2 hL2 hx hfl hfn
    clear hA hbA hsA hb2 ho2 hb1
    have hc3A := (h32.below (bal w2 (Obj.cells #[.string x] 38))).2.1
    go_wp2_with fail
    have h5A := HeldAt.new w2 x 38
    have h3A := h32.below (bal w2 (Obj.cells #[.string x] 38))
    have hLA := hL2.below (bal w2 (Obj.cells #[.string x] 38))
    have hbA := hb2'.trans ((bal w2 (Obj.cells #[.string x] 38)).mono hb2'.size)
    have hsA : (w2.alloc (Obj.cells #[.string x] 38)).heap.size = w2.heap.size + 1 := by simp
    have hsf := specFeed_any h b (w2.alloc (Obj.cells #[.string x] 38))
    rw [hfx] at hsf
    refine hsf.mono ?_
    clear hsf
    rintro e w3 ⟨u3, rfl, hb3, ho3⟩
    have h33 := h3A.below hb3
    have h53 := h5A.below hb3
    have hL23 := hLA.below hb3
    have hL33 := SlI.of_own ho3
    have hb3' := hbA.trans (hb3.mono hbA.size)
    have hs3 := hb3.size
    rw [hsA] at hs3
    have hn33 : ¬ (w1.heap.size = w3.heap.size) := by omega
    have hn53 : ¬ (w2.heap.size = w3.heap.size) := by omega
    have hk : KF w1.heap.size w2.heap.size w3.heap.size h x u2 u3 L w0 (w3.alloc (Obj.cells #[.string x] 38)) :=
      ⟨h33.below (bal w3 _), h53.below (bal w3 _), HeldAt.new w3 x _, hL23.below (bal w3 _), hL33.below (bal w3 _), hb3'.trans ((bal w3 _).mono hb3'.size)⟩
    clear h33 h53 hL23 hL33 hb3' h5A h3A hLA hbA hsA hb3 ho3 h32 hL2 hb2' hc32 hn32 hn32' hc3A
    have hkA := hk.all
    go_wp2
    generalize w3.alloc (Obj.cells #[.string x] 38) = W3 at *
    generalize w3.heap.size = B7 at *
    generalize w2.heap.size = B5 at *
    generalize w1.heap.size = B3 at *
    go_region_held3 (fun W => W.cell? ⟨B3, 0, none⟩ = some (.string h) ∧ W.cell? ⟨B5, 0, none⟩ = some (.string x) ∧ W.cell? ⟨B7, 0, none⟩ = some (.string x) ∧ KF B3 B5 B7 h x u2 u3 L w0 W) (first | assumption | exact hk.drew)
      (first
        | (go_at_call 18; refine (like_kf B3 B5 B7 h x u2 u3 L w0 _ (by omega) (by assumption)).mono ?_; rintro e wk ⟨rfl, hk⟩)
        | (go_at_call 27; refine (implOk_kf B3 B5 B7 h x u2 u3 L w0 _ h (by assumption)).mono ?_; rintro e wk ⟨rfl, hk⟩)
        | (go_at_call 28; refine (specOk_kf B3 B5 B7 h x u2 u3 L w0 _ h (by assumption)).mono ?_; rintro e wk ⟨rfl, hk⟩))
    have hc3 := hk.1
    have HK : Hid (KF B3 B5 B7 h x u2 u3 L w0 wk) := hk.2.2.2
    clear hk hkA
    by_cases hf : feedOk h = true
    · rw [hf]
      go_wp2_with fail
      have hso := specFeederOk_any h wk
      rw [hf] at hso
      refine hso.mono ?_
      clear hso
      rintro e wm ⟨rfl, hbm⟩
      have km := HK.out.below hbm
      have hbM := km.2.2.2.2.2
      have h5M := km.2.1
      clear HK hc3 hbm km
      go_wp2_with fail
      refine (drawRunes_a _ _ _ (hv.below hbM)).mono ?_
      rintro e w5 ⟨s, rfl, hs, hb5⟩
      have h55 := h5M.below hb5
      have hb5' := hbM.trans (hb5.mono hbM.size)
      have hl5 := hb5'.size
      have hB5 := h55.1
      have kl0 : KL w5.heap.size B5 (w5.heap.size + 1) ⟨#[]⟩ x (.slice (some ⟨w5.heap.size + 1, 0, none⟩) 0 0) [] w0 ((w5.alloc (Obj.cells #[.string ⟨#[]⟩] 38)).alloc (Obj.cells #[] 2)) := by
        refine ⟨(HeldAt.new w5 ⟨#[]⟩ _).below (bal _ _), (h55.below (bal w5 _)).below (bal _ _), ?_, by simp, (hb5'.trans ((bal w5 _).mono hb5'.size)).trans ((bal _ _).mono (by simp; omega))⟩
        have := World.ownsRow_lit (base := w5.heap.size + 1) (e := 2) (size := 1) (w5.alloc (Obj.cells #[.string ⟨#[]⟩] 38)) #[] 0 (by simp) (Nat.zero_le _) rfl
        simpa using this
      clear h5M hbM h55 hb5 hb5'
      go_wp2
      generalize (w5.alloc (Obj.cells #[.string ⟨#[]⟩] 38)).alloc (Obj.cells #[] 2) = W5 at *
      generalize w5.heap.size = BG at *
      have hrs : runesV s = runesF 50 (nums s) := runesF_fuel _ _ _ (by rw [nums_len]; exact Nat.le_refl _) (by rw [nums_len]; omega) (nums_nonneg s)
      have hrl := runesV_len s
      have HR : Hid (runesV s = runesF 50 (nums s)) := hrs
      clear hrs
      obtain ⟨i0, hi, hz0, hz1, hz2⟩ := info_parts info_int64fed
      go_loopw [11, 12] (fun ut i wr => ∃ (j : Nat) (q : ByteArray) (T : List Int), i = .int .i64 j ∧ j ≤ s.size ∧ feedOk q = true ∧ Hid (T ++ runesF 50 (nums q ++ (nums s).drop j) = runesV s) ∧ KL BG B5 (BG + 1) q x ut T w0 wr) (fun _ i _ => s.size - (intOf i).toNat)
      case atStart => exact ⟨0, ⟨#[]⟩, [], rfl, Nat.zero_le _, feedOk_0 _ (by decide), (by show _ = _; rw [HR.out]; rfl), kl0⟩
      case round =>
        clear kl0
        obtain ⟨j, q, T, rfl, hj, hq, hT, k⟩ := hrel
        have hq3 := feedOk_small q hq
        have hTl : T.length ≤ 40 := by have := congrArg List.length hT.out; rw [List.length_append] at this; omega
        have hcG := k.1.2.1
        have hzG := k.1.2.2
        have hlG := k.1.1
        by_cases hlt2 : j < s.size
        · have hji : (j : Int) < (s.size : Int) := by omega
          have hj0 : (0 : Int) ≤ (j : Int) := by omega
          have hbb : (s[j].toNat : Int) < 256 := by have := s[j].toNat_lt; omega
          have hst : Hid (runesF 50 (nums q ++ (nums s).drop j) = (fedV q s[j].toNat).1 ++ runesF 50 (nums (fedV q s[j].toNat).2 ++ (nums s).drop (j + 1))) := by
            show _ = _
            rw [drop_here s j hlt2]
            exact fed_runes 50 q hq _ ⟨by omega, hbb⟩ _ (fun y hy => nums_nonneg s y (List.mem_of_mem_drop hy)) (by rw [List.length_drop, nums_len]; omega)
          have hfo := fed_ok q (s[j].toNat : Int)
          have hml := fed_len q (s[j].toNat : Int)
          have hnG : ¬ (BG = wr.heap.size) := by omega
          have hnG' : ¬ (wr.heap.size = BG) := by omega
          go_wp2
          go_region_held3 (fun W => W.cell? ⟨BG, 0, none⟩ = some (.string q) ∧ KL BG B5 (BG + 1) q x u11 T w0 W) (first | assumption | exact k.drew | exact KL.drew2 (by assumption) | exact KL.alloc2 (by assumption) _ | exact KL.set2 k (by omega) (by omega) (by assumption) _)
            (first | (go_at_call 25; refine (implFeed_kl BG B5 (BG + 1) q x u11 T w0 _ _ (by assumption)).mono ?_; rintro e wk ⟨u, rfl, hk, hbk, hok⟩; have hl3 := hk.2.1.1; have hn3 : ¬ (BG = wk.heap.size) := (by omega); have hn4 : ¬ (wk.heap.size = BG) := (by omega); try (have hqq : HeldAt wk wr.heap.size ⟨#[]⟩ := new_after1 hbk; obtain ⟨hq1, hq2, hq3⟩ := hqq)))
          · have hF := KL.alloc2 hk (Obj.cells #[.string (fedV q s[j].toNat).2] 38)
            have hTT := HeldAt.new wk (fedV q s[j].toNat).2 38
            have hlo := hbk.size
            have hoF := hok.below (bal wk (Obj.cells #[.string (fedV q s[j].toNat).2] 38))
            generalize (fedV q s[j].toNat).2 = y at *
            generalize (fedV q s[j].toNat).1 = M at *
            generalize wk.alloc (Obj.cells #[.string y] 38) = Wf at *
            generalize wk.heap.size = Tb at *
            have hbu : BG < wr.drew.heap.size := hlG
            have hcF := hF.1
            have hzF := hF.2.1.2.2
            obtain ⟨_, hT2, hT3⟩ := hTT
            have kP := hF.2.put hB5 (Nat.lt_succ_self _) hl5 y
            have hoP := hoF.kept (setCell_grown Wf BG 0 (.string y)) (by
              cases hqu : u.ownBlock with
              | none => exact .inl rfl
              | some g => right; intro e; have := (hoF.lt g hqu).1; cases e; omega)
            have hML : (M.map (Value.int .i64)).length = M.length := List.length_map _
            clear hF hk hbk hok hoF hl3 hn3 hn4 hnG hnG' k hcG hzG hlG
            go_wp2_with (at_builtin; refine append_any rfl _ _ 26 rfl (BG + 1) 2 i0 (.int .i64 0) 8 Try.underlying26 hi hz0 hz1 hz2 rfl _ _ _ rfl kP.2.2.1 _ (M.map (Value.int .i64)) rfl (ReadsRow.of_own hoP) (ints_oneCell .i64 M) ?c1 ?c2 ?c3 ?_)
            case c1 => rw [hML]; unfold maxLen; omega
            case c2 => rw [hML]; omega
            case c3 => exact kP.2.2.2.1
            intro v' wn hon hgn
            have kN := kP.told hB5 hl5 hon hgn
            clear kP hoP hon hgn
            go_wp2
            go_roundw
            case rel =>
              refine ⟨j + 1, y, T ++ M, by go_num, by omega, hfo, ?_, kN⟩
              show _ = _
              rw [List.append_assoc, ← hst.out]
              exact hT.out
            case measure => simp [intOf]; omega
          all_goals
            have hF := KL.set2 k (by omega) (by omega) hk (.string (fedV q s[j].toNat).2)
            have hTT := HeldAt.set (⟨hq1, hq2, hq3⟩ : HeldAt wk wr.heap.size ⟨#[]⟩) (fedV q s[j].toNat).2
            have hoF := hok.kept (setCell_grown wk wr.heap.size 0 (.string (fedV q s[j].toNat).2)) (by
              cases hqu : u.ownBlock with
              | none => exact .inl rfl
              | some g => right; intro e; have := (hok.lt g hqu).1; cases e; simp at this; omega)
            have hbu : BG < (wr.alloc (Obj.cells #[.string ⟨#[]⟩] 38)).drew.heap.size := by simp; omega
            generalize (fedV q s[j].toNat).2 = y at *
            generalize (fedV q s[j].toNat).1 = M at *
            generalize wk.setCell ⟨wr.heap.size, 0, none⟩ (.string y) = Wf at *
            generalize wr.heap.size = Tb at *
            clear hq1 hq2 hq3
            have hcF := hF.1
            have hzF := hF.2.1.2.2
            obtain ⟨_, hT2, hT3⟩ := hTT
            have kP := hF.2.put hB5 (Nat.lt_succ_self _) hl5 y
            have hoP := hoF.kept (setCell_grown Wf BG 0 (.string y)) (by
              cases hqu : u.ownBlock with
              | none => exact .inl rfl
              | some g => right; intro e; have := (hoF.lt g hqu).1; cases e; omega)
            have hML : (M.map (Value.int .i64)).length = M.length := List.length_map _
            clear hF hk hbk hok hoF hl3 hn3 hn4 hnG hnG' k hcG hzG hlG
            go_wp2_with (at_builtin; refine append_any rfl _ _ 26 rfl (BG + 1) 2 i0 (.int .i64 0) 8 Try.underlying26 hi hz0 hz1 hz2 rfl _ _ _ rfl kP.2.2.1 _ (M.map (Value.int .i64)) rfl (ReadsRow.of_own hoP) (ints_oneCell .i64 M) ?c1 ?c2 ?c3 ?_)
            case c1 => rw [hML]; unfold maxLen; omega
            case c2 => rw [hML]; omega
            case c3 => exact kP.2.2.2.1
            intro v' wn hon hgn
            have kN := kP.told hB5 hl5 hon hgn
            clear kP hoP hon hgn
            go_wp2
            go_roundw
            case rel =>
              refine ⟨j + 1, y, T ++ M, by go_num, by omega, hfo, ?_, kN⟩
              show _ = _
              rw [List.append_assoc, ← hst.out]
              exact hT.out
            case measure => simp [intOf]; omega
        · have hps : j = s.size := by omega
          have hfin : Hid (T ++ runesV q = runesV s) := by
            have h1 := hT.out
            rw [hps, ← nums_len s, List.drop_length, List.append_nil] at h1
            have h2 : runesF 50 (nums q) = runesV q := runesF_fuel _ _ _ (by rw [nums_len]; omega) (by rw [nums_len]; exact Nat.le_refl _) (nums_nonneg q)
            rw [h2] at h1
            exact h1
          have hji : ¬ (j : Int) < (s.size : Int) := by omega
          have hc5 := k.2.1.2.1
          have hrq := runesV_len q
          clear hT HR
          go_wp2_with fail
          have hox := implFeederOk_any x wr
          rw [hx] at hox
          refine hox.mono ?_
          clear hox
          rintro e wa ⟨rfl, hba⟩
          have ka := k.below hba
          have hcGa := ka.1.2.1
          clear k hcG hzG hlG hc5 hba
          go_wp2_with fail
          have hoq := implFeederOk_any q wa
          rw [hq] at hoq
          refine hoq.mono ?_
          clear hoq
          rintro e wb ⟨rfl, hbb⟩
          have kb := ka.below hbb
          have hcGb := kb.1.2.1
          clear ka hcGa hbb
          go_wp2_with fail
          refine (specRunes_any q _ (by omega)).mono ?_
          rintro e wc ⟨uq, rfl, hbc, hoc⟩
          have kc := kb.below hbc
          clear kb hcGb hbc
          have hML : ((runesV q).map (Value.int .i64)).length = (runesV q).length := List.length_map _
          go_wp2_with (at_builtin; refine append_any_g (by rfl) _ _ 26 rfl (BG + 1) 2 i0 (.int .i64 0) 8 Try.underlying26 hi hz0 hz1 hz2 rfl _ _ _ rfl kc.2.2.1 _ ((runesV q).map (Value.int .i64)) rfl (ReadsRow.of_own hoc) (ints_oneCell .i64 _) ?d1 ?d2 ?d3 ?_)
          case d1 => rw [hML]; unfold maxLen; omega
          case d2 => rw [hML]; omega
          case d3 => exact kc.2.2.2.1
          intro v' wd hod hgd
          have kd := kc.told hB5 hl5 hod hgd
          clear kc hod hgd hoc
          go_wp2_with fail
          refine (specRunes_any s _ (by omega)).mono ?_
          rintro e we ⟨us, rfl, hbe, hoe⟩
          have ke := kd.below hbe
          have hoT := ke.2.2.1
          rw [hfin.out] at hoT
          clear kd hbe hML
          go_wp2_with fail
          refine (like_same v' us (runesV s) _ (SlI.of_own hoT) (SlI.of_own hoe) (by omega)).mono ?_
          rintro e wg ⟨rfl, n9, hwg⟩
          have hbZ : Below w0.heap.size w0 wg := by rw [hwg]; exact ke.2.2.2.2.trans (drewB n9)
          clear hwg
          go_wp2
          go_ret
          exact ⟨rfl, hbZ⟩
    · have hf : feedOk h = false := by simpa using hf
      obtain ⟨rfl, rfl⟩ := hfn hf
      rw [hf]
      go_wp2_with fail
      have hso := specFeederOk_any h wk
      rw [hf] at hso
      refine hso.mono ?_
      clear hso
      rintro e wm ⟨rfl, hbm⟩
      have km := HK.out.below hbm
      have hc5 := km.2.1.2.1
      obtain ⟨a2, c2, rfl, _⟩ := km.2.2.2.1
      have hbM := km.2.2.2.2.2
      clear HK hc3 hbm km
      go_wp2
      go_ret
      exact ⟨rfl, hbM⟩
  · have hbig : decide (4096 < (len : Int)) = true := by simp; omega
    go_enter Try.func5, Try.ntmps5
    go_wp2_with fail
    refine (big_a a len cap _).mono ?_
    rw [hbig]
    rintro e w0 ⟨rfl, hw0⟩
    subst hw0
    go_wp2
    go_ret
    exact ⟨rfl, Below.refl _ _⟩
end Go.Proofs.Yticogomjpefoeaa
