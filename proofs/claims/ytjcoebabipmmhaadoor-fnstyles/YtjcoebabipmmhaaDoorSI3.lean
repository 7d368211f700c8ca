/- Contract of Styled as the program has it. -/
import Derived.Test.YtjcoebabipmmhaaDoorSI2
import Derived.Test.YtjcoebabipmmhaaDoorS2
namespace Go.Proofs.YtjcoebabipmmhaaDoor
open Go.ChangeShapes Go.WideShapes Go.ChangeAt Go.RowKit
attribute [local go_sem ↓] Go.wp_at_zero Go.wp_at_succ

theorem wf64 (n : Int) (h : -9223372036854775808 ≤ n ∧ n ≤ 9223372036854775807) : (Lit.int .i64 n).wf = true := WalkArith.wf_i64 h
set_option maxHeartbeats 16000000 in
set_option maxRecDepth 20000 in
theorem implStyled_main (s : St) (bb off c : Nat) (xs : List Int) (w : World) (hbb : bb < w.heap.size) (hc : ∀ j, j < xs.length → w.cell? ⟨bb, off + j, none⟩ = some (.int .i64 (xs.getD j 0))) (hwf : ∀ j, j < xs.length → (Lit.int .i64 (xs.getD j 0)).wf = true) (h0 : 0 < xs.length) (h16 : xs.length ≤ 16) (hok : s.ok = true) :
    Calls Tryd.prog 7 #[stV s, .slice (some ⟨bb, off, none⟩) xs.length c] w fun e w' => e = .returned (stV (styledF s xs)) ∧ Below w.heap.size w w' := by
  have hxz : ((xs.length : Int) == 0) = false := by simp; intro e; simp [e] at h0
  have hi16 : ¬ 16 < (xs.length : Int) := by omega
  have hmm := @run_makeMap Tryd.prog
  have h2 := StAt.new w s 25
  have h4 := StAt.new (w.alloc (Obj.cells #[.int .i64 s.fore, .int .i64 s.back, .bool s.bold, .bool s.under, .bool s.turned] 25)) St.zero 25
  have h2' := h2.below (w' := (w.alloc (Obj.cells #[.int .i64 s.fore, .int .i64 s.back, .bool s.bold, .bool s.under, .bool s.turned] 25)).alloc (Obj.cells #[.int .i64 0, .int .i64 0, .bool false, .bool false, .bool false] 25)) ((Below.refl _ _).alloc (Nat.le_refl _) _)
  have e4 : (w.alloc (Obj.cells #[.int .i64 s.fore, .int .i64 s.back, .bool s.bold, .bool s.under, .bool s.turned] 25)).heap.size = w.heap.size + 1 := by simp
  rw [e4] at h4
  have hbA : Below w.heap.size w ((w.alloc (Obj.cells #[.int .i64 s.fore, .int .i64 s.back, .bool s.bold, .bool s.under, .bool s.turned] 25)).alloc (Obj.cells #[.int .i64 0, .int .i64 0, .bool false, .bool false, .bool false] 25)) := ((Below.refl _ _).alloc (Nat.le_refl _) _).alloc (by simp) _
  have hOK := implStyleOk_any s
  rw [hok] at hOK
  unfold stV at *
  go_enter Tryd.func7, Tryd.ntmps7
  go_wp2_with fail
  refine (hOK _).mono ?_
  rintro e w2 ⟨rfl, hb2⟩
  have k2 := h2'.below hb2
  have k4 := h4.below hb2
  have kb := hbA.trans (hb2.mono hbA.size)
  clear h2 h4 h2' e4 hbA hb2 hOK hok
  have hk := MK.start k2 k4 kb (Nat.le_refl _) (by omega)
  clear k2 k4 kb
  go_wp2_with (refine MK.ins hk rfl _ _ _ rfl (by decide) rfl _ _ rfl (by decide) rfl ?_; clear hk; intro w' hk)
  have hk : MK w2.heap.size w.heap.size (w.heap.size + 1) s w w' CH := hk
  generalize w2.heap.size = Bm at *
  clear hmm
  go_loopw [57] (fun i wr => ∃ j : Nat, i = .int .i64 j ∧ j ≤ xs.length ∧ MK Bm w.heap.size (w.heap.size + 1) (styledF s (xs.take j)) w wr CH) (fun i _ => xs.length - (intOf i).toNat)
  case atStart => exact ⟨0, rfl, Nat.zero_le _, hk⟩
  case round =>
    clear hk
    obtain ⟨j, rfl, hj, hk⟩ := hrel
    by_cases hlt : j < xs.length
    · have hji : (j : Int) < (xs.length : Int) := by omega
      have hj0 : (0 : Int) ≤ (j : Int) := by omega
      have hst : Hid (styledF s (xs.take (j + 1)) = paramV (styledF s (xs.take j)) (xs.getD j 0)) := by
        show _ = _
        rw [List.take_succ_eq_append_getElem hlt, styledF, List.foldl_append]
        simp [styledF, hlt]
      have hcj := (hk.2.2.2.1.cell (p := ⟨bb, off + j, none⟩) hbb).trans (hc j hlt)
      have hwj := hwf j hlt
      clear hc hwf
      generalize xs.getD j 0 = n at *
      generalize styledF s (xs.take j) = y at *
      rcases looks w.heap.size n with ⟨hlk, hpv⟩ | ⟨f, g, hlk, hcg, hpv, hf⟩
      · have hst' : Hid (styledF s (xs.take (j + 1)) = y) := by show _ = _; rw [hst.out, hpv]
        clear hst hpv
        go_wp2_with (refine MK.look hk rfl _ _ rfl rfl _ _ _ hlk rfl hwj ?_)
        go_roundw
        case rel => exact ⟨j + 1, by go_num, by omega, by rw [hst'.out]; exact hk⟩
        case measure => simp [intOf]; omega
      · have hst' : Hid (styledF s (xs.take (j + 1)) = g y) := by show _ = _; rw [hst.out, hpv]
        have hcl := fun W h => hcg y W h
        clear hst hpv hcg
        simp only [List.mem_cons, List.not_mem_nil, or_false] at hf
        rcases hf with rfl | rfl | rfl | rfl | rfl | rfl | rfl | rfl | rfl | rfl | rfl
        all_goals
          unfold clo at hlk
          go_wp2_with (refine MK.look hk rfl _ _ rfl rfl _ _ _ hlk rfl hwj ?_)
          refine (hcl _ hk.2.1).mono ?_
          rintro e w3 ⟨rfl, hs3, hg3⟩
          have hk3 := hk.chg hs3 hg3
          clear hk hcl hs3 hg3
          go_wp2
          go_roundw
          case rel => exact ⟨j + 1, by go_num, by omega, by rw [hst'.out]; exact hk3⟩
          case measure => simp [intOf]; omega
    · have hjn : j = xs.length := by omega
      have hji : ¬ (j : Int) < (xs.length : Int) := by omega
      rw [hjn, List.take_length] at hk
      have HY : Hid (∃ y, y = styledF s xs) := ⟨_, rfl⟩
      obtain ⟨y, hy⟩ := HY.out
      rw [← hy] at hk
      have HYY : Hid (y = styledF s xs) := hy
      clear hy HY hc hwf
      obtain ⟨_, k2, k4, kb, _⟩ := hk
      have kP := k4.put y
      have kbP := own_lift kb (putSt_grown wr (w.heap.size + 1) y) (by omega)
      obtain ⟨_, ⟨c0, c1, c2, c3, c4⟩, ⟨z0, z1, z2, z3, z4⟩⟩ := k2
      obtain ⟨_, ⟨d0, d1, d2, d3, d4⟩, ⟨x0, x1, x2, x3, x4⟩⟩ := k4
      obtain ⟨_, ⟨e0, e1, e2, e3, e4⟩, _⟩ := kP
      simp only [putSt] at kbP e0 e1 e2 e3 e4
      go_wp2
      exact bodyPost_ret (v := .agg #[.int .i64 y.fore, .int .i64 y.back, .bool y.bold, .bool y.under, .bool y.turned]) (by simp [results, Tryd.results7, go_sem, e0, e1, e2, e3, e4]) rfl ⟨by rw [← HYY.out], kbP⟩
end Go.Proofs.YtjcoebabipmmhaaDoor
