/- Contract of the specification's Blank. -/
import Derived.Test.YteimcepkoclpbaaRC1
namespace Go.Proofs.Yteimcepkoclpbaa
open Go.ChangeShapes Go.WideShapes Go.ChangeAt Go.RowKit

def blankV (n : Int) (s : St) : List Ce := if 1 ≤ n ∧ n ≤ 60 ∧ s.ok = true then rowL n.toNat s else []
set_option maxHeartbeats 1000000 in
theorem specBlank_any (n : Int) (s : St) (w : World) :
    Calls Try.prog 4 #[.int .i64 n, stV s] w fun e w' => ∃ v, e = .returned v ∧ OwnC w' w.heap.size v (blankV n s) ∧ Below w.heap.size w w' := by
  have h2 := StAt.new w s 26
  have hbA := bal' w (Obj.cells #[.int .i64 s.fore, .int .i64 s.back, .bool s.bold, .bool s.under, .bool s.turned] 26)
  have hOK := specStyleOk_any s
  have hnil : ∀ W : World, w.heap.size ≤ W.heap.size → OwnC (W.alloc (Obj.cells #[] 36)) w.heap.size (.slice (some ⟨W.heap.size, 0, none⟩) 0 0) [] := fun W h => ownC_nil W _ h
  by_cases h1 : 1 ≤ n ∧ n ≤ 60
  · obtain ⟨m, rfl⟩ : ∃ m : Nat, n = m := ⟨n.toNat, by omega⟩
    obtain ⟨h1a, h1b⟩ := h1
    have hrow := fun W => l4Row_any m s W (by omega)
    have hin : decide ((1 : Int) ≤ (m : Int) ∧ (m : Int) ≤ 60) = true := decide_eq_true ⟨h1a, h1b⟩
    have hl1 := fun W => l1In_any (m : Int) 1 60 W
    rw [hin] at hl1
    have hs2 := h2
    obtain ⟨_, ⟨c0, c1, c2, c3, c4⟩, _⟩ := id h2
    unfold stV at *
    cases ho : s.ok
    · have hV : Hid (blankV m s = []) := by show _ = _; unfold blankV; rw [if_neg (fun h => by rw [ho] at h; exact absurd h.2.2 (by decide))]
      rw [ho] at hOK
      go_enter Try.func4, Try.ntmps4
      go_wp2_with fail
      refine (hl1 _).mono ?_
      rintro e w1 ⟨rfl, hw⟩
      subst hw
      go_wp2_with fail
      refine (hOK _).mono ?_
      rintro e w2 ⟨rfl, hb2⟩
      have kb := hbA.trans (hb2.mono hbA.size)
      clear hb2 h2 hs2 c0 c1 c2 c3 c4 hOK hl1 hrow
      go_wp2
      go_ret
      exact ⟨_, rfl, by rw [hV.out]; exact hnil w2 kb.size, kb.trans ((bal' _ _).mono kb.size)⟩
    · have hV : Hid (blankV m s = rowL m s) := by show _ = _; unfold blankV; rw [if_pos ⟨h1a, h1b, ho⟩]; simp
      rw [ho] at hOK
      go_enter Try.func4, Try.ntmps4
      go_wp2_with fail
      refine (hl1 _).mono ?_
      rintro e w1 ⟨rfl, hw⟩
      subst hw
      go_wp2_with fail
      refine (hOK _).mono ?_
      rintro e w2 ⟨rfl, hb2⟩
      have kb := hbA.trans (hb2.mono hbA.size)
      have hs3 := hs2.below hb2
      clear hb2 h2 hs2 c0 c1 c2 c3 c4 hOK hl1
      obtain ⟨_, ⟨c0, c1, c2, c3, c4⟩, _⟩ := id hs3
      go_wp2_with fail
      refine (hrow _).mono ?_
      rintro e w3 ⟨v, rfl, ho3, hb3⟩
      go_wp2
      go_ret
      exact ⟨v, rfl, by rw [hV.out]; exact ho3.low kb.size, kb.trans (hb3.mono kb.size)⟩
  · have hV : Hid (blankV n s = []) := by show _ = _; unfold blankV; rw [if_neg (fun h => h1 ⟨h.1, h.2.1⟩)]
    have hin : decide ((1 : Int) ≤ n ∧ n ≤ 60) = false := decide_eq_false h1
    have hl1 := fun W => l1In_any n 1 60 W
    rw [hin] at hl1
    clear hin h1 hOK
    unfold stV at *
    go_enter Try.func4, Try.ntmps4
    go_wp2_with fail
    refine (hl1 _).mono ?_
    rintro e w1 ⟨rfl, hw⟩
    subst hw
    go_wp2
    go_ret
    refine ⟨_, rfl, ?_, hbA.trans ((bal' _ _).mono hbA.size)⟩
    rw [hV.out]
    have := hnil (w.alloc (Obj.cells #[.int .i64 s.fore, .int .i64 s.back, .bool s.bold, .bool s.under, .bool s.turned] 26)) (by simp)
    simpa using this
end Go.Proofs.Yteimcepkoclpbaa
