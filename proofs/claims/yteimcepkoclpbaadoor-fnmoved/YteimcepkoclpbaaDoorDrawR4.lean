/- Any row drawn. -/
import Derived.Test.YteimcepkoclpbaaDoorDrawR3
namespace Go.Proofs.YteimcepkoclpbaaDoor
open Go.ChangeShapes Go.WideShapes Go.ChangeAt Go.RowKit

theorem KR.below {g : Nat} {v : Value} {xs : List Int} {u : Value} {L : List Ce} {w0 W W' : World} (k : KR g v xs u L w0 W) (hb : Below W.heap.size W W') : KR g v xs u L w0 W' :=
  ⟨k.1.below hb, k.2.1.below hb, gtr k.2.2.1 (gbl hb (some g)), k.2.2.2⟩
/-- A style is written into one cell. -/
def putCs (w : World) (g o : Nat) (s : St) : World :=
  ((((w.setCell ⟨g, o + 1, none⟩ (.int .i64 s.fore)).setCell ⟨g, o + 2, none⟩ (.int .i64 s.back)).setCell ⟨g, o + 3, none⟩ (.bool s.bold)).setCell ⟨g, o + 4, none⟩ (.bool s.under)).setCell ⟨g, o + 5, none⟩ (.bool s.turned)
theorem OwnC.putS {w : World} {base g n cap : Nat} {xs : List Ce} (h : OwnC w base (.slice (some ⟨g, 0, none⟩) n cap) xs) (hn : xs.length = n) (i : Nat) (hi : i < n) (s : St) :
    ∃ ys, ys.length = n ∧ OwnC (putCs w g (i * 7) s) base (.slice (some ⟨g, 0, none⟩) n cap) ys ∧ w.grownBy (putCs w g (i * 7) s) (some g) := by
  have hi' : i < xs.length := by omega
  have at_set : ∀ (ys : List Ce) (c : Ce), ys.length = n → atC (ys.set i c) i = c := fun ys c hy => by rw [atC_set, if_pos ⟨rfl, by omega⟩]
  obtain ⟨⟨r, ⟨f, b, bo, un, tu⟩, p⟩, hc⟩ : ∃ c, atC xs i = c := ⟨_, rfl⟩
  have h1 := h.put1 hn i hi 1 (by decide) (.int .i64 s.fore) ⟨r, ⟨s.fore, b, bo, un, tu⟩, p⟩ (by rw [hc]; rfl)
  have l1 : (xs.set i ⟨r, ⟨s.fore, b, bo, un, tu⟩, p⟩).length = n := by simpa using hn
  have h2 := h1.1.put1 l1 i hi 2 (by decide) (.int .i64 s.back) ⟨r, ⟨s.fore, s.back, bo, un, tu⟩, p⟩ (by rw [at_set _ _ hn]; rfl)
  have l2 := l1
  rw [← List.length_set (i := i) (a := (⟨r, ⟨s.fore, s.back, bo, un, tu⟩, p⟩ : Ce))] at l2
  have h3 := h2.1.put1 l2 i hi 3 (by decide) (.bool s.bold) ⟨r, ⟨s.fore, s.back, s.bold, un, tu⟩, p⟩ (by rw [at_set _ _ l1]; rfl)
  have l3 := l2
  rw [← List.length_set (i := i) (a := (⟨r, ⟨s.fore, s.back, s.bold, un, tu⟩, p⟩ : Ce))] at l3
  have h4 := h3.1.put1 l3 i hi 4 (by decide) (.bool s.under) ⟨r, ⟨s.fore, s.back, s.bold, s.under, tu⟩, p⟩ (by rw [at_set _ _ l2]; rfl)
  have l4 := l3
  rw [← List.length_set (i := i) (a := (⟨r, ⟨s.fore, s.back, s.bold, s.under, tu⟩, p⟩ : Ce))] at l4
  have h5 := h4.1.put1 l4 i hi 5 (by decide) (.bool s.turned) ⟨r, ⟨s.fore, s.back, s.bold, s.under, s.turned⟩, p⟩ (by rw [at_set _ _ l3]; rfl)
  have l5 := l4
  rw [← List.length_set (i := i) (a := (⟨r, ⟨s.fore, s.back, s.bold, s.under, s.turned⟩, p⟩ : Ce))] at l5
  exact ⟨_, l5, h5.1, grown_tr (grown_tr (grown_tr (grown_tr h1.2 h2.2) h3.2) h4.2) h5.2⟩
def RZ : List Int := [0, 10, 19968, -1]
set_option maxHeartbeats 1000000 in
set_option maxRecDepth 20000 in
theorem l4DrawAny_a (g : Nat) (v : Value) (xs : List Int) (w : World) (hc : CurAt w g v xs) :
    Calls Tryd.prog 36 #[.pointer (some ⟨g, 0, none⟩)] w fun e w' => ∃ u L, e = .returned u ∧ L.length ≤ 100 ∧ KR g v xs u L w w' := by
  go_enter Tryd.func36, Tryd.ntmps36
  go_wp2_with fail
  refine (l1Below_a g v xs 9 _ hc).mono ?_
  rintro e w1 ⟨x, rfl, hx0, hx1, _, hc1, hg1⟩
  obtain ⟨n, rfl⟩ : ∃ k : Nat, x = k := ⟨x.toNat, by omega⟩
  have hn : n < 9 := by have := hx1 (by omega); omega
  have hd := fun W h => l4Draw_a g v xs (n + 1) W h (by omega) (by omega)
  have he : ((n + 1 : Nat) : Int) = 1 + (n : Int) := by omega
  rw [he] at hd
  clear hx0 hx1 he
  go_wp2_with fail
  refine (hd _ hc1).mono ?_
  rintro e w2 ⟨u, L, rfl, hL, k0⟩
  have k2 : KR g v xs u L w w2 := ⟨k0.1.low hg1.size, k0.2.1, gtr hg1 k0.2.2.1, hc.1⟩
  clear k0 hd hc1 hg1
  have hL1 : 1 ≤ L.length := by omega
  have hL9 : L.length ≤ 9 := by omega
  clear hL
  go_wp2_with fail
  refine (l1Once_a g v xs 12 _ k2.2.1).mono ?_
  rintro e w3 ⟨b, rfl, hc3, hg3⟩
  have k3 := k2.cur hc3 hg3
  clear k2 hc3 hg3
  cases b
  · go_wp2
    go_ret
    exact ⟨u, L, rfl, by omega, k3⟩
  · rcases k3.1.shape with ⟨rfl, hz⟩ | ⟨gr, cap, rfl, hbg, hlg, hcap⟩
    · rw [hz] at hL1; simp at hL1
    · have hli : (0 : Int) < (L.length : Int) := by omega
      go_simp
      go_wp2_with fail
      refine (l1Below_a g v xs L.length _ k3.2.1).mono ?_
      rintro e w4 ⟨x, rfl, hx0, hx1, _, hc4, hg4⟩
      have hxl := hx1 hli
      obtain ⟨q, rfl⟩ : ∃ k : Nat, x = k := ⟨x.toNat, by omega⟩
      have hql : q < L.length := by omega
      have k4 := k3.cur hc4 hg4
      clear k3 hc4 hg4 hx1
      go_wp2_with fail
      refine (l1Below_a g v xs 4 _ k4.2.1).mono ?_
      rintro e w5 ⟨x, rfl, hy0, hy1, _, hc5, hg5⟩
      have hxl := hy1 (by omega)
      obtain ⟨m, rfl⟩ : ∃ k : Nat, x = k := ⟨x.toNat, by omega⟩
      have hm : m < 4 := by omega
      have k5 := k4.cur hc5 hg5
      clear k4 hc5 hg5 hy1 hy0 hxl
      match m, hm with
      | 0, _ =>
        go_wp2_with fail
        refine (l1From_a g v xs (-1) 4 _ k5.2.1).mono ?_
        rintro e w6 ⟨y, rfl, hc6, hg6⟩
        have k6 := k5.cur hc6 hg6
        clear k5 hc6 hg6
        have hp := k6.1.put1 rfl q hql 6 (by decide) (.int .i64 y) ⟨(atC L q).rune, (atC L q).st, y⟩ rfl
        have k7 := k6.put hp.1 hp.2
        have f6 := k6.1.frozen rfl (q * 7 + 6)
        obtain ⟨c0, c1, c2, c3, c4, c5, c6⟩ := k6.1.at rfl q hql
        clear hp k6
        generalize hL2 : L.set q ⟨(atC L q).rune, (atC L q).st, y⟩ = L2 at *
        have hl2 : L2.length = L.length := by rw [← hL2]; simp
        clear hL2
        go_wp2
        go_ret
        exact ⟨_, L2, rfl, by omega, k7⟩
      | 1, _ =>
        have hlt5 := k5.2.1.1
        have kA := k5.below (bal w5 (Obj.cells #[.int .i64 0, .int .i64 10, .int .i64 19968, .int .i64 (-1)] 2))
        go_wp2_with fail
        refine (l1Below_a g v xs 4 _ kA.2.1).mono ?_
        rintro e w6 ⟨x, rfl, hz0, hz1, _, hc6, hg6⟩
        have hz2 := hz1 (by omega)
        obtain ⟨k, rfl⟩ : ∃ k : Nat, x = k := ⟨x.toNat, by omega⟩
        have hk : k < 4 := by omega
        have hki : (k : Int) < 4 := by omega
        have hcell := lit_pick RZ .i64 2 hg6 hlt5 k hk
        have k6 := kA.cur hc6 hg6
        clear k5 kA hc6 hg6 hz0 hz1 hz2 hlt5
        generalize RZ.getD k 0 = y at *
        have hp := k6.1.put1 rfl q hql 0 (by decide) (.int .i64 y) ⟨y, (atC L q).st, (atC L q).part⟩ rfl
        have k7 := k6.put hp.1 hp.2
        have f0 := k6.1.frozen rfl (q * 7)
        obtain ⟨c0, c1, c2, c3, c4, c5, c6⟩ := k6.1.at rfl q hql
        clear hp k6
        generalize hL2 : L.set q ⟨y, (atC L q).st, (atC L q).part⟩ = L2 at *
        have hl2 : L2.length = L.length := by rw [← hL2]; simp
        have hl3 : L2.length ≤ 100 := by omega
        clear hL2 hl2
        simp only [Nat.add_zero] at k7
        go_wp2
        go_ret
        exact ⟨_, L2, rfl, hl3, k7⟩
      | 2, _ =>
        go_wp2_with fail
        refine (l3DrawAny_a g v xs _ k5.2.1).mono ?_
        rintro e w6 ⟨s, rfl, hc6, hg6⟩
        have k6 := k5.cur hc6 hg6
        clear k5 hc6 hg6
        obtain ⟨L2, hl2, ho2, hg2⟩ := k6.1.putS rfl q hql s
        have k7 := k6.put ho2 hg2
        have f1 := k6.1.frozen rfl (q * 7 + 1)
        have f2 := k6.1.frozen rfl (q * 7 + 2)
        have f3 := k6.1.frozen rfl (q * 7 + 3)
        have f4 := k6.1.frozen rfl (q * 7 + 4)
        have f5 := k6.1.frozen rfl (q * 7 + 5)
        obtain ⟨c0, c1, c2, c3, c4, c5, c6⟩ := k6.1.at rfl q hql
        clear ho2 hg2 k6
        simp only [putCs] at k7
        unfold stV
        go_wp2
        go_ret
        exact ⟨_, L2, rfl, by omega, k7⟩
      | 3, _ =>
        go_wp2_with fail
        refine (l1Below_a g v xs 2 _ k5.2.1).mono ?_
        rintro e w6 ⟨x, rfl, hz0, hz1, _, hc6, hg6⟩
        have hz2 := hz1 (by omega)
        obtain ⟨k, rfl⟩ : ∃ k : Nat, x = k := ⟨x.toNat, by omega⟩
        have hk : k < 2 := by omega
        have k6 := k5.cur hc6 hg6
        have hrow := fun W => l4Row_any (k + 60) St.zero W (by omega)
        have hzl : (rowL (k + 60) St.zero).length ≤ 100 := by rw [bigRow]; omega
        generalize rowL (k + 60) St.zero = Z at *
        have he : ((k + 60 : Nat) : Int) = 60 + (k : Int) := by omega
        rw [he] at hrow
        unfold stV at hrow
        simp only [St.zero] at hrow
        clear k5 hc6 hg6 hz0 hz1 hz2 he
        go_wp2_with fail
        refine (hrow _).mono ?_
        rintro e w7 ⟨u7, rfl, ho7, hb7⟩
        have k7 := k6.new ho7 hb7
        clear k6 ho7 hb7 hrow
        go_wp2
        go_ret
        exact ⟨u7, Z, rfl, hzl, k7⟩
end Go.Proofs.YteimcepkoclpbaaDoor
