/- Contract of Sign as the specification has it: all cases. -/
import Derived.Test.YtjcoebabipmmhaaDoorS6
namespace Go.Proofs.YtjcoebabipmmhaaDoor
open Go.ChangeShapes Go.WideShapes Go.ChangeAt Go.RowKit

set_option maxHeartbeats 2000000 in
theorem specSign_any (a b : St) (w : World) :
    Calls Tryd.prog 14 #[stV a, stV b] w fun e w' => ∃ t, e = .returned (.string t) ∧ nums t = signN a b ∧ Below w.heap.size w w' := by
  have ha := StAt.new w a 25
  have hb := StAt.new (w.alloc (Obj.cells #[.int .i64 a.fore, .int .i64 a.back, .bool a.bold, .bool a.under, .bool a.turned] 25)) b 25
  have e1 : (w.alloc (Obj.cells #[.int .i64 a.fore, .int .i64 a.back, .bool a.bold, .bool a.under, .bool a.turned] 25)).heap.size = w.heap.size + 1 := by simp
  rw [e1] at hb
  have ha' := ha.below (bal' _ (Obj.cells #[.int .i64 b.fore, .int .i64 b.back, .bool b.bold, .bool b.under, .bool b.turned] 25))
  have hbA : Below w.heap.size w ((w.alloc (Obj.cells #[.int .i64 a.fore, .int .i64 a.back, .bool a.bold, .bool a.under, .bool a.turned] 25)).alloc (Obj.cells #[.int .i64 b.fore, .int .i64 b.back, .bool b.bold, .bool b.under, .bool b.turned] 25)) := ((Below.refl _ _).alloc (Nat.le_refl _) _).alloc (by simp) _
  have oka := specStyleOk_any a
  have okb := specStyleOk_any b
  have hall := fun W h => l3Sign_any a b W h
  have hno : Hid (¬ (a.ok = true ∧ b.ok = true) → signN a b = []) := by intro h; simp only [signN]; rw [if_neg h]
  have hyes : Hid ((a.ok = true ∧ b.ok = true) → signN a b = signL (paramsL a b)) := by intro h; simp only [signN]; rw [if_pos h]
  unfold stV at *
  go_enter Tryd.func14, Tryd.ntmps14
  go_wp2_with fail
  refine (oka _).mono ?_
  rintro e w2 ⟨rfl, hb2⟩
  have ka := ha'.below hb2
  have kb := hb.below hb2
  have kw := hbA.trans (hb2.mono hbA.size)
  clear ha hb e1 ha' hbA hb2 oka
  have KA : Hid (StAt w2 w.heap.size a) := ka
  have KB : Hid (StAt w2 (w.heap.size + 1) b) := kb
  obtain ⟨_, ⟨c0, c1, c2, c3, c4⟩, _⟩ := ka
  obtain ⟨_, ⟨d0, d1, d2, d3, d4⟩, _⟩ := kb
  cases hoa : a.ok
  · have hp : Hid (signN a b = []) := hno.out (by rw [hoa]; rintro ⟨h, _⟩; cases h)
    clear hno hyes hall okb
    go_wp2
    go_ret
    exact ⟨⟨#[]⟩, rfl, by rw [hp.out]; rfl, kw⟩
  · go_wp2_with fail
    refine (okb _).mono ?_
    rintro e w3 ⟨rfl, hb3⟩
    have ka3 := KA.out.below hb3
    have kb3 := KB.out.below hb3
    have kw3 := kw.trans (hb3.mono kw.size)
    clear c0 c1 c2 c3 c4 d0 d1 d2 d3 d4 KA KB kw hb3 okb
    obtain ⟨_, ⟨c0, c1, c2, c3, c4⟩, _⟩ := ka3
    obtain ⟨_, ⟨d0, d1, d2, d3, d4⟩, _⟩ := kb3
    cases hob : b.ok
    · have hp : Hid (signN a b = []) := hno.out (by rw [hob]; rintro ⟨_, h⟩; cases h)
      clear hno hyes hall
      go_wp2
      go_ret
      exact ⟨⟨#[]⟩, rfl, by rw [hp.out]; rfl, kw3⟩
    · have hp : Hid (signN a b = signL (paramsL a b)) := hyes.out ⟨hoa, hob⟩
      have hal := hall w3 hob
      clear hno hyes hall
      go_wp2_with fail
      refine hal.mono ?_
      clear hal
      rintro e w4 ⟨t, rfl, ht, hb4⟩
      have HT : Hid (nums t = signN a b) := by show _ = _; rw [hp.out]; exact ht
      clear ht
      go_wp2
      go_ret
      exact ⟨t, rfl, HT.out, kw3.trans (hb4.mono kw3.size)⟩
end Go.Proofs.YtjcoebabipmmhaaDoor
