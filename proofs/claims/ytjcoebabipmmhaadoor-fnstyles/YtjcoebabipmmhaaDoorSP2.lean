/- Contract of Params as the program has it: all cases. -/
import Derived.Test.YtjcoebabipmmhaaDoorSP1
namespace Go.Proofs.YtjcoebabipmmhaaDoor
open Go.ChangeShapes Go.WideShapes Go.ChangeAt Go.RowKit
attribute [local go_sem ↓] eq_st

theorem pk_zero (a b : St) (w : World) : PK (w.heap.size + 1 + 1) w.heap.size (w.heap.size + 1) a b (.slice (some ⟨w.heap.size + 1 + 1, 0, none⟩) 0 0) [] w (((w.alloc (Obj.cells #[.int .i64 a.fore, .int .i64 a.back, .bool a.bold, .bool a.under, .bool a.turned] 25)).alloc (Obj.cells #[.int .i64 b.fore, .int .i64 b.back, .bool b.bold, .bool b.under, .bool b.turned] 25)).alloc (Obj.cells #[] 2)) := by
  have ha := StAt.new w a 25
  have hb := StAt.new (w.alloc (Obj.cells #[.int .i64 a.fore, .int .i64 a.back, .bool a.bold, .bool a.under, .bool a.turned] 25)) b 25
  have e1 : (w.alloc (Obj.cells #[.int .i64 a.fore, .int .i64 a.back, .bool a.bold, .bool a.under, .bool a.turned] 25)).heap.size = w.heap.size + 1 := by simp
  rw [e1] at hb
  have ho := World.ownsRow_lit (base := w.heap.size + 1 + 1) (e := 2) (size := 1) ((w.alloc (Obj.cells #[.int .i64 a.fore, .int .i64 a.back, .bool a.bold, .bool a.under, .bool a.turned] 25)).alloc (Obj.cells #[.int .i64 b.fore, .int .i64 b.back, .bool b.bold, .bool b.under, .bool b.turned] 25)) #[] 0 (by simp) (Nat.zero_le _) rfl
  exact ⟨(ha.below (bal' _ _)).below (bal' _ _), hb.below (bal' _ _), by simpa using ho, (((Below.refl _ _).alloc (Nat.le_refl _) _).alloc (by simp) _).alloc (by simp; omega) _, by simp, by omega, by omega, by omega, by simp⟩
theorem pk_end {base A B : Nat} {a b : St} {v : Value} {L : List Int} {w0 W : World} (k : PK base A B a b v L w0 W) {N : List Int} (hp : N = L) :
    ∃ u, Ending.returned v = .returned u ∧ Below w0.heap.size w0 W ∧ W.ownsRow w0.heap.size 2 1 u N.length (N.map (Value.int .i64)) := by
  subst hp
  exact ⟨v, rfl, k.2.2.2.1, own_low k.2.2.1 k.2.2.2.2.2.2.2.1⟩
set_option maxHeartbeats 4000000 in
theorem implParams_any (a b : St) (w : World) :
    Calls Tryd.prog 9 #[stV a, stV b] w fun e w' => ∃ v, e = .returned v ∧ Below w.heap.size w w' ∧ w'.ownsRow w.heap.size 2 1 v (paramsV a b).length ((paramsV a b).map (Value.int .i64)) := by
  by_cases hmain : a.ok = true ∧ b.ok = true ∧ a ≠ b ∧ b ≠ St.zero
  · obtain ⟨h1, h2, h3, h4⟩ := hmain
    have := implParams_ne a b w h1 h2 h3 h4
    rwa [show paramsV a b = paramsL a b by unfold paramsV; rw [if_pos ⟨h1, h2⟩]]
  · have k0 := pk_zero a b w
    have oka := implStyleOk_any a
    have okb := implStyleOk_any b
    cases hoa : a.ok
    · have hp : Hid (paramsV a b = []) := by show _ = _; unfold paramsV; rw [hoa]; simp
      rw [hoa] at oka
      clear hmain okb
      unfold stV at *
      go_enter Tryd.func9, Tryd.ntmps9
      go_wp2_with fail
      refine (oka _).mono ?_
      rintro e w2 ⟨rfl, hb2⟩
      have k1 := k0.below hb2
      clear k0 hb2 oka
      go_wp2
      go_ret
      exact pk_end k1 hp.out
    · rw [hoa] at oka
      cases hob : b.ok
      · have hp : Hid (paramsV a b = []) := by show _ = _; unfold paramsV; rw [hob]; simp
        rw [hob] at okb
        clear hmain
        unfold stV at *
        go_enter Tryd.func9, Tryd.ntmps9
        go_wp2_with fail
        refine (oka _).mono ?_
        rintro e w2 ⟨rfl, hb2⟩
        have k1 := k0.below hb2
        clear k0 hb2 oka
        have hc1 := k1.cells
        go_wp2_with fail
        refine (okb _).mono ?_
        rintro e w3 ⟨rfl, hb3⟩
        have k2 := k1.below hb3
        clear k1 hc1 hb3 okb
        go_wp2
        go_ret
        exact pk_end k2 hp.out
      · rw [hob] at okb
        by_cases hab : a = b
        · have hp : Hid (paramsV a b = []) := by show _ = _; subst hab; unfold paramsV; rw [if_pos ⟨hoa, hoa⟩]; exact paramsL_self a
          have hab' : decide (a = b) = true := decide_eq_true hab
          clear hmain hab
          unfold stV at *
          go_enter Tryd.func9, Tryd.ntmps9
          go_wp2_with fail
          refine (oka _).mono ?_
          rintro e w2 ⟨rfl, hb2⟩
          have k1 := k0.below hb2
          clear k0 hb2 oka
          have hc1 := k1.cells
          go_wp2_with fail
          refine (okb _).mono ?_
          rintro e w3 ⟨rfl, hb3⟩
          have k2 := k1.below hb3
          clear k1 hc1 hb3 okb
          have hc2 := k2.cells
          go_wp2
          go_ret
          exact pk_end k2 hp.out
        · have hz : b = St.zero := Classical.byContradiction fun h => hmain ⟨hoa, hob, hab, h⟩
          have hp : Hid (paramsV a b = [] ++ [0]) := by show _ = _; subst hz; unfold paramsV; rw [if_pos ⟨hoa, hob⟩]; unfold paramsL; rw [if_pos ⟨rfl, hab⟩]; rfl
          have hab' : decide (a = b) = false := decide_eq_false hab
          have hq : ∀ W, (Op.equalIn 10000 25 (.agg #[.int .i64 b.fore, .int .i64 b.back, .bool b.bold, .bool b.under, .bool b.turned]) (.agg #[.int .i64 0, .int .i64 0, .bool false, .bool false, .bool false])).run Tryd.prog W = .ok true W := fun W => by
            have := eq_st b St.zero W
            rw [decide_eq_true hz] at this
            exact this
          clear hmain hab hz
          unfold stV at *
          go_enter Tryd.func9, Tryd.ntmps9
          go_wp2_with fail
          refine (oka _).mono ?_
          rintro e w2 ⟨rfl, hb2⟩
          have k1 := k0.below hb2
          clear k0 hb2 oka
          have hc1 := k1.cells
          go_wp2_with fail
          refine (okb _).mono ?_
          rintro e w3 ⟨rfl, hb3⟩
          have k2 := k1.below hb3
          clear k1 hc1 hb3 okb
          have hc2 := k2.cells
          go_wp2_with (at_builtin; refine append_pk rfl _ _ rfl (w.heap.size + 1 + 1) w.heap.size (w.heap.size + 1) a b _ _ w _ rfl (by exact k2) (by simp) _ (by simp) rfl ?_; intro v' w' hk0)
          go_ret
          exact pk_end hk0 hp.out
end Go.Proofs.YtjcoebabipmmhaaDoor
