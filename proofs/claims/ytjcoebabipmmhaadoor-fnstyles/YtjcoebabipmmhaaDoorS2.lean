/- Contracts of Styled and Params as the specification has them. -/
import Derived.Test.YtjcoebabipmmhaaDoorS1
namespace Go.Proofs.YtjcoebabipmmhaaDoor
open Go.ChangeShapes Go.WideShapes Go.ChangeAt Go.RowKit

def stylN (s : St) (xs : List Int) : St := if xs = [] then St.zero else styledF s xs
theorem st_agg {a b : St} (h : a = b) : Ending.returned (.agg #[.int .i64 a.fore, .int .i64 a.back, .bool a.bold, .bool a.under, .bool a.turned]) = .returned (stV b) := by rw [h]; rfl
set_option maxHeartbeats 1000000 in
theorem l3Styled_all (s : St) (v : Value) (xs : List Int) (w : World) (hv : SlI w v xs) (hl : xs.length ≤ 1048576) :
    Calls Tryd.prog 36 #[stV s, v] w fun e w' => e = .returned (stV (stylN s xs)) ∧ Below w.heap.size w w' := by
  by_cases hne : xs = []
  · have hs : Hid (stylN s xs = St.zero) := by show _ = _; simp [stylN, hne]
    subst hne
    obtain ⟨f, b, bo, un, tu⟩ := s
    obtain ⟨a, c, rfl, _⟩ := hv
    rw [hs.out]
    unfold stV
    simp only
    go_enter Tryd.func36, Tryd.ntmps36
    go_wp2
    exact bodyPost_ret (v := .agg #[.int .i64 0, .int .i64 0, .bool false, .bool false, .bool false]) (by simp [results, Tryd.results36, go_sem]) rfl ⟨rfl, ((Below.refl _ _).alloc (Nat.le_refl _) _).alloc (by simp) _⟩
  · have := l3Styled_any s v xs w hv hl hne
    simpa [stylN, hne] using this
set_option maxHeartbeats 2000000 in
theorem specStyled_any (s : St) (v : Value) (xs : List Int) (w : World) (hv : SlI w v xs) (hl : xs.length ≤ 1048576) :
    Calls Tryd.prog 11 #[stV s, v] w fun e w' => e = .returned (stV (styledV s xs)) ∧ Below w.heap.size w w' := by
  have hV : SlI w v xs := hv
  obtain ⟨a, c, rfl, _⟩ := hv
  have hall := fun W h => l3Styled_all s (.slice a xs.length c) xs W h hl
  have hok := specStyleOk_any s
  have hno : Hid (¬ (s.ok = true ∧ xs.length ≤ 16) → styledV s xs = St.zero) := by intro h; simp only [styledV]; rw [if_neg h]
  have hyes : Hid ((s.ok = true ∧ xs.length ≤ 16) → styledV s xs = stylN s xs) := by intro h; simp only [styledV, stylN]; rw [if_pos h]
  have h2 := StAt.new w s 25
  have h4 := StAt.new (w.alloc (Obj.cells #[.int .i64 s.fore, .int .i64 s.back, .bool s.bold, .bool s.under, .bool s.turned] 25)) St.zero 25
  have h2' := h2.below (w' := (w.alloc (Obj.cells #[.int .i64 s.fore, .int .i64 s.back, .bool s.bold, .bool s.under, .bool s.turned] 25)).alloc (Obj.cells #[.int .i64 0, .int .i64 0, .bool false, .bool false, .bool false] 25)) ((Below.refl _ _).alloc (Nat.le_refl _) _)
  have e4 : (w.alloc (Obj.cells #[.int .i64 s.fore, .int .i64 s.back, .bool s.bold, .bool s.under, .bool s.turned] 25)).heap.size = w.heap.size + 1 := by simp
  rw [e4] at h4
  have hbA : Below w.heap.size w ((w.alloc (Obj.cells #[.int .i64 s.fore, .int .i64 s.back, .bool s.bold, .bool s.under, .bool s.turned] 25)).alloc (Obj.cells #[.int .i64 0, .int .i64 0, .bool false, .bool false, .bool false] 25)) := ((Below.refl _ _).alloc (Nat.le_refl _) _).alloc (by simp) _
  unfold stV at *
  go_enter Tryd.func11, Tryd.ntmps11
  go_wp2_with fail
  refine (hok _).mono ?_
  rintro e w2 ⟨rfl, hb2⟩
  have k2 := h2'.below hb2
  have k4 := h4.below hb2
  have kb := hbA.trans (hb2.mono hbA.size)
  clear h2 h4 h2' e4 hbA hb2 hok
  obtain ⟨_, ⟨c0, c1, c2, c3, c4⟩, _⟩ := k2
  have K4 : Hid (StAt w2 (w.heap.size + 1) St.zero) := k4
  by_cases hc : s.ok = true ∧ xs.length ≤ 16
  · have hi : (xs.length : Int) ≤ 16 := by omega
    rw [hc.1]
    clear hno k4
    go_wp2_with fail
    refine (hall _ (hV.below kb)).mono ?_
    rintro e w3 ⟨he, hb3⟩
    obtain ⟨y, hy⟩ : ∃ y, y = stylN s xs := ⟨_, rfl⟩
    rw [← hy] at he
    subst he
    have k5 := K4.out.below hb3
    have kb3 := kb.trans (hb3.mono kb.size)
    clear hall hb3 c0 c1 c2 c3 c4 K4 kb hV
    have HY : Hid (y = stylN s xs) := hy
    clear hy
    have kP := k5.put y
    have kbP := own_lift kb3 (putSt_grown w3 (w.heap.size + 1) y) (by omega)
    obtain ⟨_, ⟨d0, d1, d2, d3, d4⟩, ⟨x0, x1, x2, x3, x4⟩⟩ := k5
    obtain ⟨_, ⟨e0, e1, e2, e3, e4⟩, _⟩ := kP
    simp only [putSt] at kbP e0 e1 e2 e3 e4
    go_wp2
    exact bodyPost_ret (v := .agg #[.int .i64 y.fore, .int .i64 y.back, .bool y.bold, .bool y.under, .bool y.turned]) (by simp [results, Tryd.results11, go_sem, e0, e1, e2, e3, e4]) rfl ⟨by rw [hyes.out hc, ← HY.out], kbP⟩
  · clear hyes hall
    have kP := k4.put St.zero
    have kbP := own_lift kb (putSt_grown w2 (w.heap.size + 1) St.zero) (by omega)
    obtain ⟨_, ⟨d0, d1, d2, d3, d4⟩, ⟨x0, x1, x2, x3, x4⟩⟩ := k4
    obtain ⟨_, ⟨e0, e1, e2, e3, e4⟩, _⟩ := kP
    simp only [putSt, St.zero] at kbP e0 e1 e2 e3 e4 d0 d1 d2 d3 d4
    clear K4
    cases hok : s.ok
    · go_wp2
      exact bodyPost_ret (v := .agg #[.int .i64 0, .int .i64 0, .bool false, .bool false, .bool false]) (by simp [results, Tryd.results11, go_sem, e0, e1, e2, e3, e4]) rfl ⟨by rw [hno.out hc]; rfl, kbP⟩
    · have hi : ¬ (xs.length : Int) ≤ 16 := fun h => hc ⟨hok, by omega⟩
      have hi' : 16 < (xs.length : Int) := by omega
      go_wp2
      exact bodyPost_ret (v := .agg #[.int .i64 0, .int .i64 0, .bool false, .bool false, .bool false]) (by simp [results, Tryd.results11, go_sem, e0, e1, e2, e3, e4]) rfl ⟨by rw [hno.out hc]; rfl, kbP⟩
end Go.Proofs.YtjcoebabipmmhaaDoor
