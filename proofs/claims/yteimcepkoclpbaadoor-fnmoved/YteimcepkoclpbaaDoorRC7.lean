/- Contracts of the specification's pushed and pulled rows. -/
import Derived.Test.YteimcepkoclpbaaDoorRC2
namespace Go.Proofs.YteimcepkoclpbaaDoor
open Go.ChangeShapes Go.WideShapes Go.ChangeAt Go.RowKit

def pushL (xs : List Ce) (p n : Nat) (s : St) : List Ce := if n = 0 then xs else mendV ((mendV (xs.take p) ++ rowL n s ++ mendV (xs.drop p)).take xs.length)
theorem SlC.take {w : World} {a : Option Addr} {n c : Nat} {xs : List Ce} (h : SlC w (.slice a n c) xs) (k : Nat) (hk : k ≤ n) : SlC w (.slice a k c) (xs.take k) := by
  obtain ⟨a', c', e, hc, hn, hr⟩ := h
  simp only [Value.slice.injEq] at e
  obtain ⟨rfl, rfl, rfl⟩ := e
  have hl : (xs.take k).length = k := by rw [List.length_take]; omega
  refine ⟨a, c, by rw [hl], by omega, hn, ?_⟩
  rcases hr with h | ⟨b, off, ha, hb, hi⟩
  · left; rw [h]; simp
  · right
    refine ⟨b, off, ha, hb, fun i h => ?_⟩
    rw [hl] at h
    rw [atC_take xs k i h]
    exact hi i (by omega)
theorem SlC.drop {w : World} {b off n c : Nat} {xs : List Ce} (h : SlC w (.slice (some ⟨b, off, none⟩) n c) xs) (k : Nat) (hk : k < n) : SlC w (.slice (some ⟨b, off + k * 7, none⟩) (n - k) (c - k)) (xs.drop k) := by
  obtain ⟨a', c', e, hc, hn, hr⟩ := h
  simp only [Value.slice.injEq] at e
  obtain ⟨rfl, rfl, rfl⟩ := e
  have hl : (xs.drop k).length = xs.length - k := by simp
  refine ⟨_, c - k, by rw [hl], by omega, (fun h => by cases h), ?_⟩
  rcases hr with h | ⟨b', off', ha, hb, hi⟩
  · rw [h] at hk; simp at hk
  · cases ha
    right
    refine ⟨b, off + k * 7, rfl, hb, fun i h => ?_⟩
    rw [hl] at h
    rw [atC_drop]
    have := hi (k + i) (by omega)
    have e : off + k * 7 + i * 7 = off + (k + i) * 7 := by omega
    rw [e]; exact this
set_option maxHeartbeats 4000000 in
set_option maxRecDepth 20000 in
theorem l4Pushed_any (v : Value) (xs : List Ce) (p n : Nat) (s : St) (w : World) (hv : SlC w v xs) (hp : p < xs.length) (hn : n ≤ xs.length) (hl : xs.length ≤ 1000) :
    Calls Tryd.prog 61 #[v, .int .i64 p, .int .i64 n, stV s] w fun e w' => ∃ u, e = .returned u ∧ OwnC w' w.heap.size u (pushL xs p n s) ∧ Below w.heap.size w w' := by
  have h2 := StAt.new w s 26
  have hbA := bal' w (Obj.cells #[.int .i64 s.fore, .int .i64 s.back, .bool s.bold, .bool s.under, .bool s.turned] 26)
  have hsz : (w.alloc (Obj.cells #[.int .i64 s.fore, .int .i64 s.back, .bool s.bold, .bool s.under, .bool s.turned] 26)).heap.size = w.heap.size + 1 := by simp
  have hv1 := hv.below hbA
  obtain ⟨a, c, rfl, hcp, hna, hr⟩ := id hv
  obtain ⟨b, off, rfl, hbb, hsrc⟩ : ∃ b off, a = some ⟨b, off, none⟩ ∧ b < w.heap.size ∧ ∀ i, i < xs.length → CeAt w b (off + i * 7) (atC xs i) := by
    rcases hr with h | h
    · rw [h] at hp; simp at hp
    · exact h
  have hpi : (p : Int) < (xs.length : Int) := by omega
  have hp0 : (0 : Int) ≤ (p : Int) := by omega
  have hpc : (p : Int) ≤ (c : Int) := by omega
  have hpn : (p : Int) ≤ (xs.length : Int) := by omega
  have hv0 := hv
  by_cases h0 : n = 0
  · have hnb : ((n : Int) == 0) = true := by simp [h0]
    have hP : Hid (pushL xs p n s = xs) := by show _ = _; unfold pushL; rw [if_pos h0]
    have k00 := ownC_nil (w.alloc (Obj.cells #[.int .i64 s.fore, .int .i64 s.back, .bool s.bold, .bool s.under, .bool s.turned] 26)) (w.heap.size + 1) (by simp)
    rw [hsz] at k00
    have k0 : OC (w.heap.size + 1) (.slice (some ⟨w.heap.size + 1, 0, none⟩) 0 0) [] w ((w.alloc (Obj.cells #[.int .i64 s.fore, .int .i64 s.back, .bool s.bold, .bool s.under, .bool s.turned] 26)).alloc (Obj.cells #[] 37)) := ⟨k00, hbA.trans ((bal' _ _).mono hbA.size), by simp, by omega⟩
    have hvv := hv1.below (bal' _ (Obj.cells #[] 37))
    clear h0 hv hv1 hbA h2
    unfold stV at *
    go_enter Tryd.func61, Tryd.ntmps61
    go_wp2_with (at_builtin; refine append_os rfl _ _ rfl (w.heap.size + 1) _ [] rfl (by exact k0.1) k0.2.2.1 _ xs hvv rfl (by simp; omega) ?_; intro u4 w4 ho4 hg4)
    go_ret
    have k4 : OC (w.heap.size + 1) u4 xs w w4 := k0.own (by simpa using ho4) hg4
    exact ⟨u4, rfl, by rw [hP.out]; exact k4.1.low (by omega), k4.2.1⟩
  · have hnb : ((n : Int) == 0) = false := by simp [h0]
    have hm1 := fun W h => l4Mended_any (.slice (some ⟨b, off, none⟩) p c) (xs.take p) W h (by rw [List.length_take]; omega)
    have hrow := fun W => l4Row_any n s W (by omega)
    unfold stV at *
    go_enter Tryd.func61, Tryd.ntmps61
    go_wp2_with fail
    refine (hm1 _ (hv1.take p (by omega))).mono ?_
    rintro e w2 ⟨u2, rfl, ho2, hb2⟩
    have hs := h2.below hb2
    have kb := hbA.trans (hb2.mono hbA.size)
    have hv2 := hv1.below hb2
    clear hm1 hv1 h2 hbA hv
    obtain ⟨_, ⟨c0, c1, c2, c3, c4⟩, _⟩ := id hs
    go_wp2_with fail
    refine (hrow _).mono ?_
    rintro e w3 ⟨u3, rfl, ho3, hb3⟩
    go_wp2_with (at_builtin; refine append_os rfl _ _ rfl (w.heap.size + 1) _ (mendV (xs.take p)) rfl (by exact (ho2.below hb3).low (by rw [hsz]; exact Nat.le_refl _)) (by have := hb2.size; have := hb3.size; omega) _ (rowL n s) (SlC.of_own ho3) rfl (by rw [mendV_len, bigRow, List.length_take]; omega) ?_; intro u4 w4 ho4 hg4)
    have k4 : OC (w.heap.size + 1) u4 (mendV (xs.take p) ++ rowL n s) w w4 := by
      have k2 : OC (w.heap.size + 1) u2 (mendV (xs.take p)) w w2 := ⟨ho2.low (by rw [hsz]; exact Nat.le_refl _), kb, by have := hb2.size; omega, by omega⟩
      exact (k2.below hb3).own ho4 hg4
    have hv4 := hv0.below k4.2.1
    clear ho2 ho3 hb3 hg4 ho4 hs c0 c1 c2 c3 c4 hv2 kb hrow hb2
    have hm2 := l4Mended_any _ (xs.drop p) w4 (hv4.drop p hp) (by simp; omega)
    refine hm2.mono ?_
    clear hm2
    rintro e w5 ⟨u5, rfl, ho5, hb5⟩
    have k5 := k4.below hb5
    go_wp2_with (at_builtin; refine append_os rfl _ _ rfl (w.heap.size + 1) _ (mendV (xs.take p) ++ rowL n s) rfl (by exact k5.1) k5.2.2.1 _ (mendV (xs.drop p)) (SlC.of_own ho5) rfl (by rw [List.length_append, mendV_len, mendV_len, bigRow, List.length_take, List.length_drop]; omega) ?_; intro u6 w6 ho6 hg6)
    have k6 : OC (w.heap.size + 1) u6 (mendV (xs.take p) ++ rowL n s ++ mendV (xs.drop p)) w w6 := k5.own ho6 hg6
    clear ho6 hg6 k5 ho5 hb5 k4 hv4
    have hP : Hid (pushL xs p n s = mendV ((mendV (xs.take p) ++ rowL n s ++ mendV (xs.drop p)).take xs.length)) := by show _ = _; unfold pushL; rw [if_neg h0]
    have hL : (mendV (xs.take p) ++ rowL n s ++ mendV (xs.drop p)).length = xs.length + n := by rw [List.length_append, List.length_append, mendV_len, mendV_len, bigRow, List.length_take, List.length_drop]; omega
    generalize mendV (xs.take p) ++ rowL n s ++ mendV (xs.drop p) = Z at *
    rcases k6.1.shape with ⟨_, hz⟩ | ⟨g, cap, rfl, hbg, hlg, hcap⟩
    · rw [hz] at hL; simp at hL; omega
    · have hsl := SlC.of_own k6.1
      rw [hL] at hcap hsl ⊢
      have hm3 := l4Mended_any (.slice (some ⟨g, 0, none⟩) xs.length cap) (Z.take xs.length) w6 (hsl.take xs.length (by omega)) (by rw [List.length_take]; omega)
      have hci : (xs.length : Int) ≤ (cap : Int) := by omega
      have hxi : (0 : Int) ≤ (xs.length : Int) := by omega
      have hxm : (xs.length : Int) ≤ ((xs.length + n : Nat) : Int) := by omega
      generalize xs.length + n = M at *
      generalize hX : xs.length = X at *
      go_simp
      go_wp2_with fail
      refine hm3.mono ?_
      rintro e w7 ⟨u7, rfl, ho7, hb7⟩
      go_wp2
      go_ret
      exact ⟨u7, rfl, by rw [hP.out]; exact ho7.low k6.2.1.size, k6.2.1.trans (hb7.mono k6.2.1.size)⟩
theorem l1Min_any (a b : Int) (w : World) :
    Calls Tryd.prog 80 #[.int .i64 a, .int .i64 b] w fun e w' => e = .returned (.int .i64 (min a b)) ∧ w' = w := by
  by_cases h : a < b
  · have hm : Hid (min a b = a) := by show _ = _; omega
    go_enter Tryd.func80, Tryd.ntmps80
    go_wp2
    go_ret
    exact ⟨by rw [hm.out]; rfl, rfl⟩
  · have hm : Hid (min a b = b) := by show _ = _; omega
    go_enter Tryd.func80, Tryd.ntmps80
    go_wp2
    go_ret
    exact ⟨by rw [hm.out]; rfl, rfl⟩
def pullL (xs : List Ce) (p n : Nat) (s : St) : List Ce := if min n (xs.length - p) = 0 then xs else mendV (xs.take p) ++ mendV (xs.drop (p + min n (xs.length - p))) ++ rowL (min n (xs.length - p)) s
theorem slC_end {w : World} (a : Addr) (c : Nat) : SlC w (.slice (some a) 0 c) [] := ⟨_, c, rfl, Nat.zero_le _, (fun h => by cases h), .inl rfl⟩
set_option maxHeartbeats 4000000 in
set_option maxRecDepth 20000 in
theorem l4Pulled_any (v : Value) (xs : List Ce) (p n : Nat) (s : St) (w : World) (hv : SlC w v xs) (hp : p < xs.length) (_hn : n ≤ xs.length) (hl : xs.length ≤ 1000) :
    Calls Tryd.prog 62 #[v, .int .i64 p, .int .i64 n, stV s] w fun e w' => ∃ u, e = .returned u ∧ OwnC w' w.heap.size u (pullL xs p n s) ∧ Below w.heap.size w w' := by
  have h2 := StAt.new w s 26
  have hbA := bal' w (Obj.cells #[.int .i64 s.fore, .int .i64 s.back, .bool s.bold, .bool s.under, .bool s.turned] 26)
  have hsz : (w.alloc (Obj.cells #[.int .i64 s.fore, .int .i64 s.back, .bool s.bold, .bool s.under, .bool s.turned] 26)).heap.size = w.heap.size + 1 := by simp
  have hv1 := hv.below hbA
  obtain ⟨a, c, rfl, hcp, hna, hr⟩ := id hv
  obtain ⟨b, off, rfl, hbb, hsrc⟩ : ∃ b off, a = some ⟨b, off, none⟩ ∧ b < w.heap.size ∧ ∀ i, i < xs.length → CeAt w b (off + i * 7) (atC xs i) := by
    rcases hr with h | h
    · rw [h] at hp; simp at hp
    · exact h
  have hpi : (p : Int) < (xs.length : Int) := by omega
  have hp0 : (0 : Int) ≤ (p : Int) := by omega
  have hpc : (p : Int) ≤ (c : Int) := by omega
  have hpn : (p : Int) ≤ (xs.length : Int) := by omega
  have hv0 := hv
  have hmin := fun W => l1Min_any (n : Int) ((xs.length : Int) - (p : Int)) W
  have hme : min (n : Int) ((xs.length : Int) - (p : Int)) = ((min n (xs.length - p) : Nat) : Int) := by omega
  rw [hme] at hmin
  have hPP : Hid (pullL xs p n s = if min n (xs.length - p) = 0 then xs else mendV (xs.take p) ++ mendV (xs.drop (p + min n (xs.length - p))) ++ rowL (min n (xs.length - p)) s) := rfl
  have hml : p + min n (xs.length - p) ≤ xs.length := by omega
  clear hme hsrc hr hna
  generalize min n (xs.length - p) = m at *
  by_cases h0 : m = 0
  · have hnb : ((m : Int) == 0) = true := by simp [h0]
    have hP : Hid (pullL xs p n s = xs) := by show _ = _; rw [hPP.out, if_pos h0]
    have k00 := ownC_nil (w.alloc (Obj.cells #[.int .i64 s.fore, .int .i64 s.back, .bool s.bold, .bool s.under, .bool s.turned] 26)) (w.heap.size + 1) (by simp)
    rw [hsz] at k00
    have k0 : OC (w.heap.size + 1) (.slice (some ⟨w.heap.size + 1, 0, none⟩) 0 0) [] w ((w.alloc (Obj.cells #[.int .i64 s.fore, .int .i64 s.back, .bool s.bold, .bool s.under, .bool s.turned] 26)).alloc (Obj.cells #[] 37)) := ⟨k00, hbA.trans ((bal' _ _).mono hbA.size), by simp, by omega⟩
    have hvv := hv1.below (bal' _ (Obj.cells #[] 37))
    clear h0 hv hv1 hbA h2 hPP
    unfold stV at *
    go_enter Tryd.func62, Tryd.ntmps62
    go_wp2_with (first
      | (go_at_call 80; refine (hmin _).mono ?_; rintro e w1 ⟨rfl, hw⟩; subst hw)
      | (at_builtin; refine append_os rfl _ _ rfl (w.heap.size + 1) _ [] rfl (by exact k0.1) k0.2.2.1 _ xs hvv rfl (by simp; omega) ?_; intro u4 w4 ho4 hg4))
    go_ret
    have k4 : OC (w.heap.size + 1) u4 xs w w4 := k0.own (by simpa using ho4) hg4
    exact ⟨u4, rfl, by rw [hP.out]; exact k4.1.low (by omega), k4.2.1⟩
  · have hnb : ((m : Int) == 0) = false := by simp [h0]
    have hP : Hid (pullL xs p n s = mendV (xs.take p) ++ mendV (xs.drop (p + m)) ++ rowL m s) := by show _ = _; rw [hPP.out, if_neg h0]
    have hm1 := fun W h => l4Mended_any (.slice (some ⟨b, off, none⟩) p c) (xs.take p) W h (by rw [List.length_take]; omega)
    have hrow := fun W => l4Row_any m s W (by omega)
    have hq : ∃ ad, (∀ W : World, SlC W (.slice (some ⟨b, off, none⟩) xs.length c) xs → SlC W (.slice (some ad) (xs.length - (p + m)) (c - (p + m))) (xs.drop (p + m))) ∧ (if c = p + m then some (⟨b, off, none⟩ : Addr) else some (⟨b, off + (p + m) * 7, none⟩ : Addr)) = some ad := by
      by_cases hc : c = p + m
      · refine ⟨⟨b, off, none⟩, fun W _ => ?_, by rw [if_pos hc]⟩
        have e : xs.length = p + m := by omega
        have e2 : xs.drop (p + m) = [] := by rw [← e]; simp
        rw [e2, e, Nat.sub_self]
        exact slC_end _ _
      · refine ⟨⟨b, off + (p + m) * 7, none⟩, fun W h => ?_, by rw [if_neg hc]⟩
        by_cases hx : p + m < xs.length
        · exact h.drop (p + m) hx
        · have e : xs.length = p + m := by omega
          have e2 : xs.drop (p + m) = [] := by rw [← e]; simp
          rw [e2, e, Nat.sub_self]
          exact slC_end _ _
    obtain ⟨ad, hdrop, had⟩ := hq
    clear hPP h0
    unfold stV at *
    go_enter Tryd.func62, Tryd.ntmps62
    go_wp2_with (go_at_call 80; refine (hmin _).mono ?_; rintro e w1 ⟨rfl, hw⟩; subst hw)
    refine (hm1 _ (hv1.take p (by omega))).mono ?_
    rintro e w2 ⟨u2, rfl, ho2, hb2⟩
    have hs := h2.below hb2
    have kb := hbA.trans (hb2.mono hbA.size)
    have k2 : OC (w.heap.size + 1) u2 (mendV (xs.take p)) w w2 := ⟨ho2.low (by rw [hsz]; exact Nat.le_refl _), kb, by have := hb2.size; omega, by omega⟩
    have hv2 := hv0.below kb
    clear hm1 hv1 h2 hbA hv ho2 kb hb2 hmin
    have hpm0 : (0 : Int) ≤ (p : Int) + (m : Int) := by omega
    have hpmx : (p : Int) + (m : Int) ≤ (xs.length : Int) := by omega
    have hpmc : (p : Int) + (m : Int) ≤ (c : Int) := by omega
    go_wp2_with fail
    · have ec : c - (p + m) = 0 := by rename_i hh; omega
      rw [ec] at hdrop
      have hm2 := l4Mended_any (.slice (some ad) (xs.length - (p + m)) 0) (xs.drop (p + m)) w2 (hdrop w2 hv2) (by rw [List.length_drop]; omega)
      refine hm2.mono ?_
      clear hm2
      rintro e w3 ⟨u3, rfl, ho3, hb3⟩
      have hs3 := hs.below hb3
      have k3 := k2.below hb3
      go_wp2_with (at_builtin; refine append_os rfl _ _ rfl (w.heap.size + 1) _ (mendV (xs.take p)) rfl (by exact k3.1) k3.2.2.1 _ (mendV (xs.drop (p + m))) (SlC.of_own ho3) rfl (by rw [mendV_len, mendV_len, List.length_take, List.length_drop]; omega) ?_; intro u4 w4 ho4 hg4; have hs4 := hs3.own k3.1 (Nat.lt_succ_self _) hg4; have hss := hs4; obtain ⟨_, ⟨c0, c1, c2, c3, c4⟩, _⟩ := hss)
      have k4 : OC (w.heap.size + 1) u4 (mendV (xs.take p) ++ mendV (xs.drop (p + m))) w w4 := k3.own ho4 hg4
      clear ho3 hb3 k3 ho4 hg4 hs3
      refine (hrow _).mono ?_
      rintro e w5 ⟨u5, rfl, ho5, hb5⟩
      have k5 := k4.below hb5
      go_wp2_with (at_builtin; refine append_os rfl _ _ rfl (w.heap.size + 1) _ (mendV (xs.take p) ++ mendV (xs.drop (p + m))) rfl (by exact k5.1) k5.2.2.1 _ (rowL m s) (SlC.of_own ho5) rfl (by rw [List.length_append, mendV_len, mendV_len, bigRow, List.length_take, List.length_drop]; omega) ?_; intro u6 w6 ho6 hg6)
      go_ret
      have k6 : OC (w.heap.size + 1) u6 (mendV (xs.take p) ++ mendV (xs.drop (p + m)) ++ rowL m s) w w6 := k5.own ho6 hg6
      exact ⟨u6, rfl, by rw [hP.out]; exact k6.1.low (by omega), k6.2.1⟩
    · have hm2 := l4Mended_any (.slice (some ad) (xs.length - (p + m)) (c - (p + m))) (xs.drop (p + m)) w2 (hdrop w2 hv2) (by rw [List.length_drop]; omega)
      refine hm2.mono ?_
      clear hm2
      rintro e w3 ⟨u3, rfl, ho3, hb3⟩
      have hs3 := hs.below hb3
      have k3 := k2.below hb3
      go_wp2_with (at_builtin; refine append_os rfl _ _ rfl (w.heap.size + 1) _ (mendV (xs.take p)) rfl (by exact k3.1) k3.2.2.1 _ (mendV (xs.drop (p + m))) (SlC.of_own ho3) rfl (by rw [mendV_len, mendV_len, List.length_take, List.length_drop]; omega) ?_; intro u4 w4 ho4 hg4; have hs4 := hs3.own k3.1 (Nat.lt_succ_self _) hg4; have hss := hs4; obtain ⟨_, ⟨c0, c1, c2, c3, c4⟩, _⟩ := hss)
      have k4 : OC (w.heap.size + 1) u4 (mendV (xs.take p) ++ mendV (xs.drop (p + m))) w w4 := k3.own ho4 hg4
      clear ho3 hb3 k3 ho4 hg4 hs3
      refine (hrow _).mono ?_
      rintro e w5 ⟨u5, rfl, ho5, hb5⟩
      have k5 := k4.below hb5
      go_wp2_with (at_builtin; refine append_os rfl _ _ rfl (w.heap.size + 1) _ (mendV (xs.take p) ++ mendV (xs.drop (p + m))) rfl (by exact k5.1) k5.2.2.1 _ (rowL m s) (SlC.of_own ho5) rfl (by rw [List.length_append, mendV_len, mendV_len, bigRow, List.length_take, List.length_drop]; omega) ?_; intro u6 w6 ho6 hg6)
      go_ret
      have k6 : OC (w.heap.size + 1) u6 (mendV (xs.take p) ++ mendV (xs.drop (p + m)) ++ rowL m s) w w6 := k5.own ho6 hg6
      exact ⟨u6, rfl, by rw [hP.out]; exact k6.1.low (by omega), k6.2.1⟩
end Go.Proofs.YteimcepkoclpbaaDoor
