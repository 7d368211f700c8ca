/- Contract of the program's Blank. -/
import Derived.Test.YteimcepkoclpbaaRK1
import Derived.Test.YteimcepkoclpbaaRCB
import Derived.Test.YteimcepkoclpbaaSI0A
namespace Go.Proofs.Yteimcepkoclpbaa
open Go.ChangeShapes Go.WideShapes Go.ChangeAt Go.RowKit

theorem fill_row (n : Nat) (s : St) : fillUp (List.replicate n Ce.zero) 0 (0 + n) s = rowL n s := ext_atC _ _ (by rw [fillUp_len]; simp [rowL]) fun i hi => by
  rw [fillUp_len, List.length_replicate] at hi
  rw [fillUp_at _ _ _ _ _ (by simpa using hi), if_pos (by omega), rowL_at _ _ _ hi]
set_option maxHeartbeats 4000000 in
set_option maxRecDepth 20000 in
theorem implBlank_any (n : Int) (s : St) (w : World) :
    Calls Try.prog 6 #[.int .i64 n, stV s] w fun e w' => ∃ v, e = .returned v ∧ OwnC w' w.heap.size v (blankV n s) ∧ Below w.heap.size w w' := by
  have h2 := StAt.new w s 26
  have hbA := bal' w (Obj.cells #[.int .i64 s.fore, .int .i64 s.back, .bool s.bold, .bool s.under, .bool s.turned] 26)
  have hOK := implStyleOk_any s
  have hno : ∀ W : World, OwnC W w.heap.size (.slice none 0 0) [] := fun W => ownC_none W _
  by_cases h1 : 1 ≤ n
  · by_cases h60 : n ≤ 60
    · have h1i : ¬ n < 1 := by omega
      have h60i : ¬ 60 < n := by omega
      obtain ⟨_, ⟨c0, c1, c2, c3, c4⟩, _⟩ := id h2
      have hV : Hid (blankV n s = if s.ok = true then rowL n.toNat s else []) := by
        show _ = _; unfold blankV
        by_cases h : s.ok = true
        · rw [if_pos ⟨h1, h60, h⟩, if_pos h]
        · rw [if_neg (fun x => h x.2.2), if_neg h]
      unfold stV at *
      go_enter Try.func6, Try.ntmps6
      go_wp2_with fail
      generalize w.alloc (Obj.cells #[.int .i64 s.fore, .int .i64 s.back, .bool s.bold, .bool s.under, .bool s.turned] 26) = W0 at *
      refine (hOK _).mono ?_
      rintro e w1 ⟨rfl, hb1⟩
      have kb := hbA.trans (hb1.mono hbA.size)
      have hs1 := h2.below hb1
      clear hbA h2 hb1 c0 c1 c2 c3 c4 hOK
      cases ho : s.ok
      · have hV2 : Hid (blankV n s = []) := by show _ = _; rw [hV.out, if_neg (by rw [ho]; decide)]
        clear ho hs1
        go_wp2
        go_ret
        exact ⟨_, rfl, by rw [hV2.out]; exact hno _, kb⟩
      · obtain ⟨m, rfl⟩ : ∃ m : Nat, n = m := ⟨n.toNat, by omega⟩
        have hV2 : Hid (blankV m s = rowL m s) := by show _ = _; rw [hV.out, if_pos ho]; simp
        have hm2 : m ≤ 1073741824 := by omega
        have hbo := fun W h => blankOut_any w1.heap.size w1.heap.size m m 0 m m 0 (List.replicate m Ce.zero) s W h (by simp) (by omega) (by omega) (by omega) rfl
        have hs0 := hs1.1
        unfold stV at hbo
        clear ho h1 h60 hV
        go_wp2_with (refine make_oc rfl _ _ rfl m rfl rfl hm2 ?_; intro w2 ho2 hb2; have hs2 := hs1.below hb2; have hss := hs2; obtain ⟨_, ⟨c0, c1, c2, c3, c4⟩, _⟩ := hss)
        refine (hbo _ ho2).mono ?_
        rintro e w3 ⟨rfl, ho3, hg3⟩
        rw [fill_row] at ho3
        have kb2 := kb.trans (hb2.mono kb.size)
        go_wp2
        go_ret
        exact ⟨_, rfl, by rw [hV2.out]; exact ho3.low kb.size, kb2.grown hg3 kb2.size (fun k hk => by cases hk; exact kb.size)⟩
    · have h60i : 60 < n := by omega
      have h1i : ¬ n < 1 := by omega
      have hV : Hid (blankV n s = []) := by show _ = _; unfold blankV; rw [if_neg (by omega)]
      clear hOK
      unfold stV
      go_enter Try.func6, Try.ntmps6
      go_wp2
      go_ret
      exact ⟨_, rfl, by rw [hV.out]; exact hno _, hbA⟩
  · have h1i : n < 1 := by omega
    have hV : Hid (blankV n s = []) := by show _ = _; unfold blankV; rw [if_neg (by omega)]
    clear hOK
    unfold stV
    go_enter Try.func6, Try.ntmps6
    go_wp2
    go_ret
    exact ⟨_, rfl, by rw [hV.out]; exact hno _, hbA⟩
end Go.Proofs.Yteimcepkoclpbaa
