/- Contracts of Params as the specification has it: all cases. -/
import Derived.Test.YtjcoebabipmmhaaDoorS3
namespace Go.Proofs.YtjcoebabipmmhaaDoor
open Go.ChangeShapes Go.WideShapes Go.ChangeAt Go.RowKit

theorem own_low {w : World} {base base' : Nat} {e : TypeId} {size : Nat} {v : Value} {n : Nat} {xs : List Value} (h : w.ownsRow base e size v n xs) (hb : base' ≤ base) : w.ownsRow base' e size v n xs := by
  refine ⟨h.1, ?_⟩
  rcases h.2 with h2 | ⟨g, cap, cur, hv, hbg, r⟩
  · exact .inl h2
  · exact .inr ⟨g, cap, cur, hv, Nat.le_trans hb hbg, r⟩
set_option maxHeartbeats 4000000 in
theorem l3Params_any (a b : St) (w : World) (hok : b.ok = true) :
    Calls Tryd.prog 37 #[stV a, stV b] w fun e w' => ∃ v, e = .returned v ∧ Below w.heap.size w w' ∧ w'.ownsRow w.heap.size 2 1 v (paramsL a b).length ((paramsL a b).map (Value.int .i64)) := by
  by_cases hz : b = St.zero
  · subst hz
    have hk0 := pk_start a St.zero w
    by_cases ha : a = St.zero
    · subst ha
      have hp := paramsL_self St.zero
      unfold stV St.zero at *
      go_enter Tryd.func37, Tryd.ntmps37
      go_wp2
      go_ret
      exact pk_fin hk0 hp
    · have hp : Hid (paramsL a St.zero = [0]) := by show _ = _; rw [paramsL, if_pos ⟨rfl, ha⟩]
      have hq : ∀ W, (Op.equalIn 10000 25 (.agg #[.int .i64 a.fore, .int .i64 a.back, .bool a.bold, .bool a.under, .bool a.turned]) (.agg #[.int .i64 0, .int .i64 0, .bool false, .bool false, .bool false])).run Tryd.prog W = .ok false W := fun W => by
        have := eq_st a St.zero W
        rw [decide_eq_false ha] at this
        exact this
      have hbl := hk0.2.2.2.1
      have hlo := hk0.2.2.2.2.1
      unfold stV St.zero at *
      go_enter Tryd.func37, Tryd.ntmps37
      go_wp2
      go_ret
      have ho := World.ownsRow_lit (base := w.heap.size) (e := 2) (size := 1) ((((w.alloc (Obj.cells #[.int .i64 a.fore, .int .i64 a.back, .bool a.bold, .bool a.under, .bool a.turned] 25)).alloc (Obj.cells #[.int .i64 0, .int .i64 0, .bool false, .bool false, .bool false] 25)).alloc (Obj.cells #[] 2)).alloc (Obj.cells #[.int .i64 0, .int .i64 0, .bool false, .bool false, .bool false] 25)) #[.int .i64 0] 1 (by simp; omega) (by decide) rfl
      refine ⟨_, rfl, hbl.trans ((bal' _ _).mono hbl.size), ?_⟩
      rw [hp.out]
      simpa using ho
  · exact l3Params_ne a b w hok hz
set_option maxHeartbeats 2000000 in
theorem specParams_any (a b : St) (w : World) :
    Calls Tryd.prog 13 #[stV a, stV b] w fun e w' => ∃ v, e = .returned v ∧ Below w.heap.size w w' ∧ w'.ownsRow w.heap.size 2 1 v (paramsV a b).length ((paramsV a b).map (Value.int .i64)) := by
  have ha := StAt.new w a 25
  have hb := StAt.new (w.alloc (Obj.cells #[.int .i64 a.fore, .int .i64 a.back, .bool a.bold, .bool a.under, .bool a.turned] 25)) b 25
  have e1 : (w.alloc (Obj.cells #[.int .i64 a.fore, .int .i64 a.back, .bool a.bold, .bool a.under, .bool a.turned] 25)).heap.size = w.heap.size + 1 := by simp
  rw [e1] at hb
  have ha' := ha.below (bal' _ (Obj.cells #[.int .i64 b.fore, .int .i64 b.back, .bool b.bold, .bool b.under, .bool b.turned] 25))
  have hbA : Below w.heap.size w ((w.alloc (Obj.cells #[.int .i64 a.fore, .int .i64 a.back, .bool a.bold, .bool a.under, .bool a.turned] 25)).alloc (Obj.cells #[.int .i64 b.fore, .int .i64 b.back, .bool b.bold, .bool b.under, .bool b.turned] 25)) := ((Below.refl _ _).alloc (Nat.le_refl _) _).alloc (by simp) _
  have oka := specStyleOk_any a
  have okb := specStyleOk_any b
  have hall := fun W h => l3Params_any a b W h
  have hno : Hid (¬ (a.ok = true ∧ b.ok = true) → paramsV a b = []) := by intro h; simp only [paramsV]; rw [if_neg h]
  have hyes : Hid ((a.ok = true ∧ b.ok = true) → paramsV a b = paramsL a b) := by intro h; simp only [paramsV]; rw [if_pos h]
  have hnil : ∀ W : World, w.heap.size ≤ W.heap.size → (W.alloc (Obj.cells #[] 2)).ownsRow w.heap.size 2 1 (.slice (some ⟨W.heap.size, 0, none⟩) 0 0) 0 [] := fun W h => World.ownsRow_lit (base := w.heap.size) (e := 2) (size := 1) W #[] 0 h (Nat.zero_le _) rfl
  unfold stV at *
  go_enter Tryd.func13, Tryd.ntmps13
  go_wp2_with fail
  refine (oka _).mono ?_
  rintro e w2 ⟨rfl, hb2⟩
  have ka := ha'.below hb2
  have kb := hb.below hb2
  have kw := hbA.trans (hb2.mono hbA.size)
  clear ha hb e1 ha' hbA hb2 oka
  have KA : Hid (StAt w2 w.heap.size a) := ka
  have KB : Hid (StAt w2 (w.heap.size + 1) b) := kb
  obtain ⟨_, ⟨c0, c1, c2, c3, c4⟩, _⟩ := ka
  obtain ⟨_, ⟨d0, d1, d2, d3, d4⟩, _⟩ := kb
  cases hoa : a.ok
  · have hp : Hid (paramsV a b = []) := hno.out (by rw [hoa]; rintro ⟨h, _⟩; cases h)
    clear hno hyes hall okb
    go_wp2
    go_ret
    exact ⟨_, rfl, kw.trans ((bal' _ _).mono kw.size), by rw [hp.out]; exact hnil w2 kw.size⟩
  · go_wp2_with fail
    refine (okb _).mono ?_
    rintro e w3 ⟨rfl, hb3⟩
    have ka3 := KA.out.below hb3
    have kb3 := KB.out.below hb3
    have kw3 := kw.trans (hb3.mono kw.size)
    clear c0 c1 c2 c3 c4 d0 d1 d2 d3 d4 KA KB kw hb3 okb
    obtain ⟨_, ⟨c0, c1, c2, c3, c4⟩, _⟩ := ka3
    obtain ⟨_, ⟨d0, d1, d2, d3, d4⟩, _⟩ := kb3
    cases hob : b.ok
    · have hp : Hid (paramsV a b = []) := hno.out (by rw [hob]; rintro ⟨_, h⟩; cases h)
      clear hno hyes hall
      go_wp2
      go_ret
      exact ⟨_, rfl, kw3.trans ((bal' _ _).mono kw3.size), by rw [hp.out]; exact hnil w3 kw3.size⟩
    · have hp : Hid (paramsV a b = paramsL a b) := hyes.out ⟨hoa, hob⟩
      have hal := hall w3 hob
      clear hno hyes hall
      go_wp2_with fail
      refine hal.mono ?_
      clear hal
      rintro e w4 ⟨v, rfl, hb4, ho4⟩
      go_wp2
      go_ret
      exact ⟨v, rfl, kw3.trans (hb4.mono kw3.size), by rw [hp.out]; exact own_low ho4 kw3.size⟩
end Go.Proofs.YtjcoebabipmmhaaDoor
