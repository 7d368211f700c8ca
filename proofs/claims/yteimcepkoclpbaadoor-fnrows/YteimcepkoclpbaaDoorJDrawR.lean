/- Rows alike; runes and places drawn for rows. Rows drawn. Rows drawn, right or wrong. Any row drawn. A row to clear, drawn. Rows to write into and to push, drawn. -/
import Derived.Test.YteimcepkoclpbaaDoorJKCA
import Derived.Test.YteimcepkoclpbaaDoorJSlDefs
import Derived.Test.YteimcepkoclpbaaDoorJDraw0
import Derived.Test.YteimcepkoclpbaaDoorJRC5
import Derived.Test.YteimcepkoclpbaaDoorJRK0
namespace Go.Proofs.YteimcepkoclpbaaDoor
open Go.ChangeShapes Go.WideShapes Go.ChangeAt Go.RowKit

set_option maxHeartbeats 1000000 in
theorem eq_ce (a : Ce) (W : World) : (Op.equalIn 10000 37 (.agg #[.int .i64 a.rune, .int .i64 a.st.fore, .int .i64 a.st.back, .bool a.st.bold, .bool a.st.under, .bool a.st.turned, .int .i64 a.part]) (.agg #[.int .i64 a.rune, .int .i64 a.st.fore, .int .i64 a.st.back, .bool a.st.bold, .bool a.st.under, .bool a.st.turned, .int .i64 a.part])).run Tryd.prog W = .ok true W := by
  have hu := Tryd.underlying37
  have hs := Tryd.underlying26
  have hi := Tryd.underlying2
  have hb := Tryd.underlying4
  rw [run_equalIn_struct W 9999 _ _ _ (by simp [Program.fieldsOf, hu]) (by kernel_rfl)]
  simp [Program.fieldsOf, hu, hi, hb, hs, Op.eqFields, go_sem, Result.andThen]
section
attribute [local go_sem ↓] eq_ce
set_option maxHeartbeats 1000000 in
theorem likeR_same (va vb : Value) (xs : List Ce) (w : World) (ha : SlC w va xs) (hb : SlC w vb xs) (hl : xs.length ≤ 1073741824) :
    Calls Tryd.prog 15 #[va, vb] w fun e w' => e = .returned (.bool true) ∧ ∃ n, w' = w.drewN n := by
  obtain ⟨a, c, rfl, hc1, hn1, hr1⟩ := ha
  obtain ⟨a', c', rfl, hc2, hn2, hr2⟩ := hb
  rcases hr1 with h | ⟨b, off, rfl, hbb, hs1⟩
  · subst h
    go_enter Tryd.func15, Tryd.ntmps15
    go_wp2
    refine wp_loop_rounds 1 ?_
    rw [rounds_succ]
    go_wp2
    go_ret
    exact ⟨rfl, 0, rfl⟩
  · rcases hr2 with h | ⟨b', off', rfl, hbb', hs2⟩
    · subst h
      go_enter Tryd.func15, Tryd.ntmps15
      go_wp2
      refine wp_loop_rounds 1 ?_
      rw [rounds_succ]
      go_wp2
      go_ret
      exact ⟨rfl, 0, rfl⟩
    · go_enter Tryd.func15, Tryd.ntmps15
      go_wp2
      go_loopw [5] (fun i wr => ∃ j : Nat, i = .int .i64 j ∧ j ≤ xs.length ∧ ∃ m, wr = w.drewN m) (fun i _ => xs.length - (intOf i).toNat)
      case atStart => exact ⟨0, rfl, Nat.zero_le _, 0, rfl⟩
      case round =>
        obtain ⟨j, rfl, hj, m, rfl⟩ := hrel
        by_cases hlt : j < xs.length
        · have hji : (j : Int) < (xs.length : Int) := by omega
          have hj0 : (0 : Int) ≤ (j : Int) := by omega
          obtain ⟨c0, c1, c2, c3, c4, c5, c6⟩ := hs1 j hlt
          obtain ⟨d0, d1, d2, d3, d4, d5, d6⟩ := hs2 j hlt
          clear hs1 hs2
          go_wp2
          go_quiet (fail)
          go_wp2
          go_roundw
          case rel => exact ⟨j + 1, by go_num, by omega, m + nq, by simp⟩
          case measure => simp [intOf]; omega
        · have hji : ¬ (j : Int) < (xs.length : Int) := by omega
          go_wp2
          go_ret
          exact ⟨rfl, m, rfl⟩
end
def RD : List Int := [97, 98, 120, 233, 19968, 19969, 128512, 32]
set_option maxHeartbeats 1000000 in
theorem l4DrawRune_a (g : Nat) (v : Value) (xs : List Int) (w : World) (hc : CurAt w g v xs) :
    Calls Tryd.prog 37 #[.pointer (some ⟨g, 0, none⟩)] w fun e w' => ∃ k, k < 8 ∧ e = .returned (.int .i64 (RD.getD k 0)) ∧ CurAt w' g v xs ∧ w.grownBy w' (some g) := by
  have hlt := hc.1
  go_enter Tryd.func37, Tryd.ntmps37
  go_wp2_with fail
  refine (l1Below_a g v xs 8 _ (hc.below (bal w _))).mono ?_
  rintro e w3 ⟨x, rfl, hx0, hx1, _, hc3, hg3⟩
  obtain ⟨k, rfl⟩ : ∃ k : Nat, x = k := ⟨x.toNat, by omega⟩
  have hk : k < 8 := by have := hx1 (by omega); omega
  have hki : (k : Int) < 8 := by omega
  have hcell := lit_pick RD .i64 2 hg3 hlt k hk
  have hgA := gtr (World.grownBy_alloc w _ (some g)) hg3
  clear hg3 hx1
  generalize hy : RD.getD k 0 = y at *
  go_wp2
  go_ret
  exact ⟨k, hk, by rw [hy]; rfl, hc3, hgA⟩
end Go.Proofs.YteimcepkoclpbaaDoor
namespace Go.Proofs.YteimcepkoclpbaaDoor
open Go.ChangeShapes Go.WideShapes Go.ChangeAt Go.RowKit

theorem RD_width : ∀ r ∈ RD, 1 ≤ widthV r ∧ widthV r ≤ 2 := by decide
theorem OwnC.curK {w w' : World} {base g : Nat} {v : Value} {xs : List Ce} (h : OwnC w base v xs) (hg : w.grownBy w' (some g)) (hlt : g < base) : OwnC w' base v xs := own_grow (show w.ownsRow _ _ _ _ _ _ from h) hg hlt
/-- A row of this call's own beside the cursor. -/
def KR (g : Nat) (v : Value) (xs : List Int) (u : Value) (L : List Ce) (w0 W : World) : Prop := OwnC W w0.heap.size u L ∧ CurAt W g v xs ∧ w0.grownBy W (some g) ∧ g < w0.heap.size
theorem KR.cur {g : Nat} {v : Value} {xs : List Int} {u : Value} {L : List Ce} {w0 W W' : World} (k : KR g v xs u L w0 W) (hc : CurAt W' g v xs) (hg : W.grownBy W' (some g)) : KR g v xs u L w0 W' :=
  ⟨k.1.curK hg k.2.2.2, hc, gtr k.2.2.1 hg, k.2.2.2⟩
theorem KR.new {g : Nat} {v : Value} {xs : List Int} {u u' : Value} {L L' : List Ce} {w0 W W' : World} (k : KR g v xs u L w0 W) (ho : OwnC W' W.heap.size u' L') (hb : Below W.heap.size W W') : KR g v xs u' L' w0 W' :=
  ⟨ho.low k.2.2.1.size, k.2.1.below hb, gtr k.2.2.1 (gbl hb (some g)), k.2.2.2⟩
set_option maxHeartbeats 4000000 in
set_option maxRecDepth 20000 in
theorem l4Draw_a (g : Nat) (v : Value) (xs : List Int) (cols : Nat) (w : World) (hc : CurAt w g v xs) (h1 : 1 ≤ cols) (h2 : cols ≤ 100) :
    Calls Tryd.prog 65 #[.pointer (some ⟨g, 0, none⟩), .int .i64 cols] w fun e w' => ∃ u L, e = .returned u ∧ L.length = cols ∧ KR g v xs u L w w' := by
  have hrow := fun W => l4Row_any cols St.zero W (by omega)
  have hci : (0 : Int) < (cols : Int) := by omega
  have hzl : (rowL cols St.zero).length = cols := bigRow _ _
  generalize rowL cols St.zero = Z at *
  unfold stV at hrow
  simp only [St.zero] at hrow
  go_enter Tryd.func65, Tryd.ntmps65
  go_wp2_with fail
  refine (hrow _).mono ?_
  rintro e w1 ⟨u1, rfl, ho1, hb1⟩
  have k1 : KR g v xs u1 Z w w1 := ⟨ho1, hc.below hb1, gbl hb1 _, hc.1⟩
  clear ho1 hb1 hc hrow
  go_wp2_with fail
  refine (l1Below_a g v xs 7 _ k1.2.1).mono ?_
  rintro e w2 ⟨x, rfl, hx0, hx1, _, hc2, hg2⟩
  obtain ⟨n, rfl⟩ : ∃ k : Nat, x = k := ⟨x.toNat, by omega⟩
  have k2 := k1.cur hc2 hg2
  have hn : n ≤ 7 := by have := hx1 (by omega); omega
  clear k1 hc2 hg2 hx0 hx1
  go_wp2
  go_loopw [5, 6] (fun u i wr => ∃ (m : Nat) (L : List Ce), i = .int .i64 m ∧ m ≤ 7 ∧ L.length = cols ∧ KR g v xs u L w wr) (fun _ i _ => (intOf i).toNat)
  case atStart => exact ⟨n, Z, rfl, hn, hzl, k2⟩
  case round =>
    clear k2 hzl
    obtain ⟨m, L, rfl, hm, hll, k⟩ := hrel
    by_cases h0 : m = 0
    · subst h0
      go_wp2
      go_ret
      exact ⟨_, L, rfl, hll, k⟩
    · obtain ⟨q, rfl⟩ : ∃ q, m = q + 1 := ⟨m - 1, by omega⟩
      have hq0 : (0 : Int) < (q : Int) + 1 := by omega
      go_wp2_with fail
      refine (l4DrawRune_a g v xs _ k.2.1).mono ?_
      rintro e w3 ⟨j, hj, rfl, hc3, hg3⟩
      have hwd := getD_all (p := fun r => 1 ≤ widthV r ∧ widthV r ≤ 2) RD RD_width j hj
      have k3 := k.cur hc3 hg3
      clear k hc3 hg3
      generalize RD.getD j 0 = y at *
      go_wp2_with fail
      refine (l1Below_a g v xs cols _ k3.2.1).mono ?_
      rintro e w4 ⟨x, rfl, hx0, hx1, _, hc4, hg4⟩
      have hxc := hx1 hci
      obtain ⟨p, rfl⟩ : ∃ k : Nat, x = k := ⟨x.toNat, by omega⟩
      have k4 := k3.cur hc4 hg4
      clear k3 hc4 hg4 hx0 hx1
      obtain ⟨hw1, hw2⟩ := hwd
      by_cases hfit : (p : Int) + widthV y ≤ (cols : Int)
      · have hwr := fun s W h => l4Written_any u5 L p y s W h hw1 (by rw [hll]; exact hfit) (by omega)
        have hwi := specWidth_any y
        generalize widthV y = wy at *
        go_wp2_with fail
        refine (hwi _).mono ?_
        rintro e w5 ⟨rfl, hw⟩
        subst hw
        go_wp2_with fail
        refine (l3Draw_a g v xs _ k4.2.1).mono ?_
        rintro e w6 ⟨s, rfl, hc6, hg6⟩
        have k6 := k4.cur hc6 hg6
        clear k4 hc6 hg6 hwi
        go_wp2_with fail
        refine (hwr s _ (SlC.of_own k6.1)).mono ?_
        rintro e w7 ⟨u7, rfl, ho7, hb7⟩
        have k7 := k6.new ho7 hb7
        have hl7 : (writeL L p y s).length = cols := (writeL_len L p y s).trans hll
        generalize writeL L p y s = L7 at *
        clear k6 ho7 hb7 hwr
        go_wp2
        go_roundw
        case rel => exact ⟨q, L7, by go_num, by omega, hl7, k7⟩
        case measure => first | (simp [intOf]; done) | (simp [intOf]; omega)
      · have hwi := specWidth_any y
        generalize widthV y = wy at *
        go_wp2_with fail
        refine (hwi _).mono ?_
        rintro e w5 ⟨rfl, hw⟩
        subst hw
        clear hwi
        go_wp2
        go_roundw
        case rel => exact ⟨q, L, by go_num, by omega, hll, k4⟩
        case measure => first | (simp [intOf]; done) | (simp [intOf]; omega)
end Go.Proofs.YteimcepkoclpbaaDoor
namespace Go.Proofs.YteimcepkoclpbaaDoor
open Go.ChangeShapes Go.WideShapes Go.ChangeAt Go.RowKit

theorem KR.put {g : Nat} {v : Value} {xs : List Int} {u : Value} {L L' : List Ce} {w0 W W' : World} (k : KR g v xs u L w0 W) (ho : OwnC W' w0.heap.size u L') (hg : W.grownBy W' u.ownBlock) : KR g v xs u L' w0 W' :=
  ⟨ho, k.2.1.grown_own hg (fun q e => Nat.lt_of_lt_of_le k.2.2.2 (k.1.lt q e).1), grownBy_own k.2.2.1 hg (fun q e => (k.1.lt q e).1), k.2.2.2⟩
theorem l1From_a (g : Nat) (v : Value) (xs : List Int) (lo hi : Int) (w : World) (hc : CurAt w g v xs) :
    Calls Tryd.prog 66 #[.pointer (some ⟨g, 0, none⟩), .int .i64 lo, .int .i64 hi] w fun e w' => ∃ y : Int, e = .returned (.int .i64 y) ∧ CurAt w' g v xs ∧ w.grownBy w' (some g) := by
  go_enter Tryd.func66, Tryd.ntmps66
  go_wp2_with fail
  refine (l1Below_a g v xs _ _ hc).mono ?_
  rintro e w1 ⟨x, rfl, _, _, _, hc1, hg1⟩
  go_wp2
  go_ret
  exact ⟨_, rfl, hc1, hg1⟩
theorem l1Max_any (a b : Int) (w : World) :
    Calls Tryd.prog 67 #[.int .i64 a, .int .i64 b] w fun e w' => e = .returned (.int .i64 (max a b)) ∧ w' = w := by
  by_cases h : b < a
  · have hm : Hid (max a b = a) := by show _ = _; omega
    go_enter Tryd.func67, Tryd.ntmps67
    go_wp2
    go_ret
    exact ⟨by rw [hm.out]; rfl, rfl⟩
  · have hm : Hid (max a b = b) := by show _ = _; omega
    go_enter Tryd.func67, Tryd.ntmps67
    go_wp2
    go_ret
    exact ⟨by rw [hm.out]; rfl, rfl⟩
set_option maxHeartbeats 1000000 in
theorem l4DrawAt_a (g : Nat) (v : Value) (xs : List Int) (n : Nat) (w : World) (hc : CurAt w g v xs) (hn : n ≤ 1000) :
    Calls Tryd.prog 40 #[.pointer (some ⟨g, 0, none⟩), .int .i64 n] w fun e w' => ∃ y : Int, e = .returned (.int .i64 y) ∧ CurAt w' g v xs ∧ w.grownBy w' (some g) := by
  have hwr : IntKind.i64.wrap ((n : Int) + 1) = (n : Int) + 1 := by simp [IntKind.wrap_i64]; omega
  have hmx := fun W => l1Max_any 1 (n : Int) W
  go_enter Tryd.func40, Tryd.ntmps40
  go_wp2_with fail
  refine (l1Once_a g v xs 12 _ hc).mono ?_
  rintro e w1 ⟨b, rfl, hc1, hg1⟩
  cases b
  · generalize max 1 (n : Int) = mm at *
    go_wp2_with fail
    refine (hmx _).mono ?_
    rintro e w2 ⟨rfl, hw⟩
    subst hw
    go_wp2_with fail
    refine (l1Below_a g v xs _ _ hc1).mono ?_
    rintro e w3 ⟨x, rfl, _, _, _, hc3, hg3⟩
    go_wp2
    go_ret
    exact ⟨x, rfl, hc3, gtr hg1 hg3⟩
  · have hlt := hc1.1
    go_wp2_with fail
    refine (l1Below_a g v xs 5 _ (hc1.below (bal w1 _))).mono ?_
    rintro e w3 ⟨x, rfl, hx0, hx1, _, hc3, hg3⟩
    obtain ⟨k, rfl⟩ : ∃ k : Nat, x = k := ⟨x.toNat, by omega⟩
    have hk : k < 5 := by have := hx1 (by omega); omega
    have hki : (k : Int) < 5 := by omega
    have hcell := lit_pick [-1, (n : Int), (n : Int) + 1, 4611686018427387904, -9223372036854775808] .i64 2 hg3 hlt k hk
    have hgA := gtr (gtr hg1 (World.grownBy_alloc w1 _ (some g))) hg3
    clear hg3 hx1 hmx
    generalize hy : [-1, (n : Int), (n : Int) + 1, 4611686018427387904, -9223372036854775808].getD k 0 = y at *
    clear hy
    go_wp2
    go_ret
    exact ⟨y, rfl, hc3, hgA⟩
end Go.Proofs.YteimcepkoclpbaaDoor
namespace Go.Proofs.YteimcepkoclpbaaDoor
open Go.ChangeShapes Go.WideShapes Go.ChangeAt Go.RowKit

theorem KR.below {g : Nat} {v : Value} {xs : List Int} {u : Value} {L : List Ce} {w0 W W' : World} (k : KR g v xs u L w0 W) (hb : Below W.heap.size W W') : KR g v xs u L w0 W' :=
  ⟨k.1.below hb, k.2.1.below hb, gtr k.2.2.1 (gbl hb (some g)), k.2.2.2⟩
/-- A style is written into one cell. -/
def putCs (w : World) (g o : Nat) (s : St) : World :=
  ((((w.setCell ⟨g, o + 1, none⟩ (.int .i64 s.fore)).setCell ⟨g, o + 2, none⟩ (.int .i64 s.back)).setCell ⟨g, o + 3, none⟩ (.bool s.bold)).setCell ⟨g, o + 4, none⟩ (.bool s.under)).setCell ⟨g, o + 5, none⟩ (.bool s.turned)
theorem OwnC.putS {w : World} {base g n cap : Nat} {xs : List Ce} (h : OwnC w base (.slice (some ⟨g, 0, none⟩) n cap) xs) (hn : xs.length = n) (i : Nat) (hi : i < n) (s : St) :
    ∃ ys, ys.length = n ∧ OwnC (putCs w g (i * 7) s) base (.slice (some ⟨g, 0, none⟩) n cap) ys ∧ w.grownBy (putCs w g (i * 7) s) (some g) := by
  have hi' : i < xs.length := by omega
  have at_set : ∀ (ys : List Ce) (c : Ce), ys.length = n → atC (ys.set i c) i = c := fun ys c hy => by rw [atC_set, if_pos ⟨rfl, by omega⟩]
  obtain ⟨⟨r, ⟨f, b, bo, un, tu⟩, p⟩, hc⟩ : ∃ c, atC xs i = c := ⟨_, rfl⟩
  have h1 := h.put1 hn i hi 1 (by decide) (.int .i64 s.fore) ⟨r, ⟨s.fore, b, bo, un, tu⟩, p⟩ (by rw [hc]; rfl)
  have l1 : (xs.set i ⟨r, ⟨s.fore, b, bo, un, tu⟩, p⟩).length = n := by simpa using hn
  have h2 := h1.1.put1 l1 i hi 2 (by decide) (.int .i64 s.back) ⟨r, ⟨s.fore, s.back, bo, un, tu⟩, p⟩ (by rw [at_set _ _ hn]; rfl)
  have l2 := l1
  rw [← List.length_set (i := i) (a := (⟨r, ⟨s.fore, s.back, bo, un, tu⟩, p⟩ : Ce))] at l2
  have h3 := h2.1.put1 l2 i hi 3 (by decide) (.bool s.bold) ⟨r, ⟨s.fore, s.back, s.bold, un, tu⟩, p⟩ (by rw [at_set _ _ l1]; rfl)
  have l3 := l2
  rw [← List.length_set (i := i) (a := (⟨r, ⟨s.fore, s.back, s.bold, un, tu⟩, p⟩ : Ce))] at l3
  have h4 := h3.1.put1 l3 i hi 4 (by decide) (.bool s.under) ⟨r, ⟨s.fore, s.back, s.bold, s.under, tu⟩, p⟩ (by rw [at_set _ _ l2]; rfl)
  have l4 := l3
  rw [← List.length_set (i := i) (a := (⟨r, ⟨s.fore, s.back, s.bold, s.under, tu⟩, p⟩ : Ce))] at l4
  have h5 := h4.1.put1 l4 i hi 5 (by decide) (.bool s.turned) ⟨r, ⟨s.fore, s.back, s.bold, s.under, s.turned⟩, p⟩ (by rw [at_set _ _ l3]; rfl)
  have l5 := l4
  rw [← List.length_set (i := i) (a := (⟨r, ⟨s.fore, s.back, s.bold, s.under, s.turned⟩, p⟩ : Ce))] at l5
  exact ⟨_, l5, h5.1, grown_tr (grown_tr (grown_tr (grown_tr h1.2 h2.2) h3.2) h4.2) h5.2⟩
def RZ : List Int := [0, 10, 19968, -1]
set_option maxHeartbeats 1000000 in
set_option maxRecDepth 20000 in
theorem l4DrawAny_a (g : Nat) (v : Value) (xs : List Int) (w : World) (hc : CurAt w g v xs) :
    Calls Tryd.prog 36 #[.pointer (some ⟨g, 0, none⟩)] w fun e w' => ∃ u L, e = .returned u ∧ L.length ≤ 100 ∧ KR g v xs u L w w' := by
  go_enter Tryd.func36, Tryd.ntmps36
  go_wp2_with fail
  refine (l1Below_a g v xs 9 _ hc).mono ?_
  rintro e w1 ⟨x, rfl, hx0, hx1, _, hc1, hg1⟩
  obtain ⟨n, rfl⟩ : ∃ k : Nat, x = k := ⟨x.toNat, by omega⟩
  have hn : n < 9 := by have := hx1 (by omega); omega
  have hd := fun W h => l4Draw_a g v xs (n + 1) W h (by omega) (by omega)
  have he : ((n + 1 : Nat) : Int) = 1 + (n : Int) := by omega
  rw [he] at hd
  clear hx0 hx1 he
  go_wp2_with fail
  refine (hd _ hc1).mono ?_
  rintro e w2 ⟨u, L, rfl, hL, k0⟩
  have k2 : KR g v xs u L w w2 := ⟨k0.1.low hg1.size, k0.2.1, gtr hg1 k0.2.2.1, hc.1⟩
  clear k0 hd hc1 hg1
  have hL1 : 1 ≤ L.length := by omega
  have hL9 : L.length ≤ 9 := by omega
  clear hL
  go_wp2_with fail
  refine (l1Once_a g v xs 12 _ k2.2.1).mono ?_
  rintro e w3 ⟨b, rfl, hc3, hg3⟩
  have k3 := k2.cur hc3 hg3
  clear k2 hc3 hg3
  cases b
  · go_wp2
    go_ret
    exact ⟨u, L, rfl, by omega, k3⟩
  · rcases k3.1.shape with ⟨rfl, hz⟩ | ⟨gr, cap, rfl, hbg, hlg, hcap⟩
    · rw [hz] at hL1; simp at hL1
    · have hli : (0 : Int) < (L.length : Int) := by omega
      go_simp
      go_wp2_with fail
      refine (l1Below_a g v xs L.length _ k3.2.1).mono ?_
      rintro e w4 ⟨x, rfl, hx0, hx1, _, hc4, hg4⟩
      have hxl := hx1 hli
      obtain ⟨q, rfl⟩ : ∃ k : Nat, x = k := ⟨x.toNat, by omega⟩
      have hql : q < L.length := by omega
      have k4 := k3.cur hc4 hg4
      clear k3 hc4 hg4 hx1
      go_wp2_with fail
      refine (l1Below_a g v xs 4 _ k4.2.1).mono ?_
      rintro e w5 ⟨x, rfl, hy0, hy1, _, hc5, hg5⟩
      have hxl := hy1 (by omega)
      obtain ⟨m, rfl⟩ : ∃ k : Nat, x = k := ⟨x.toNat, by omega⟩
      have hm : m < 4 := by omega
      have k5 := k4.cur hc5 hg5
      clear k4 hc5 hg5 hy1 hy0 hxl
      match m, hm with
      | 0, _ =>
        go_wp2_with fail
        refine (l1From_a g v xs (-1) 4 _ k5.2.1).mono ?_
        rintro e w6 ⟨y, rfl, hc6, hg6⟩
        have k6 := k5.cur hc6 hg6
        clear k5 hc6 hg6
        have hp := k6.1.put1 rfl q hql 6 (by decide) (.int .i64 y) ⟨(atC L q).rune, (atC L q).st, y⟩ rfl
        have k7 := k6.put hp.1 hp.2
        have f6 := k6.1.frozen rfl (q * 7 + 6)
        obtain ⟨c0, c1, c2, c3, c4, c5, c6⟩ := k6.1.at rfl q hql
        clear hp k6
        generalize hL2 : L.set q ⟨(atC L q).rune, (atC L q).st, y⟩ = L2 at *
        have hl2 : L2.length = L.length := by rw [← hL2]; simp
        clear hL2
        go_wp2
        go_ret
        exact ⟨_, L2, rfl, by omega, k7⟩
      | 1, _ =>
        have hlt5 := k5.2.1.1
        have kA := k5.below (bal w5 (Obj.cells #[.int .i64 0, .int .i64 10, .int .i64 19968, .int .i64 (-1)] 2))
        go_wp2_with fail
        refine (l1Below_a g v xs 4 _ kA.2.1).mono ?_
        rintro e w6 ⟨x, rfl, hz0, hz1, _, hc6, hg6⟩
        have hz2 := hz1 (by omega)
        obtain ⟨k, rfl⟩ : ∃ k : Nat, x = k := ⟨x.toNat, by omega⟩
        have hk : k < 4 := by omega
        have hki : (k : Int) < 4 := by omega
        have hcell := lit_pick RZ .i64 2 hg6 hlt5 k hk
        have k6 := kA.cur hc6 hg6
        clear k5 kA hc6 hg6 hz0 hz1 hz2 hlt5
        generalize RZ.getD k 0 = y at *
        have hp := k6.1.put1 rfl q hql 0 (by decide) (.int .i64 y) ⟨y, (atC L q).st, (atC L q).part⟩ rfl
        have k7 := k6.put hp.1 hp.2
        have f0 := k6.1.frozen rfl (q * 7)
        obtain ⟨c0, c1, c2, c3, c4, c5, c6⟩ := k6.1.at rfl q hql
        clear hp k6
        generalize hL2 : L.set q ⟨y, (atC L q).st, (atC L q).part⟩ = L2 at *
        have hl2 : L2.length = L.length := by rw [← hL2]; simp
        have hl3 : L2.length ≤ 100 := by omega
        clear hL2 hl2
        simp only [Nat.add_zero] at k7
        go_wp2
        go_ret
        exact ⟨_, L2, rfl, hl3, k7⟩
      | 2, _ =>
        go_wp2_with fail
        refine (l3DrawAny_a g v xs _ k5.2.1).mono ?_
        rintro e w6 ⟨s, rfl, hc6, hg6⟩
        have k6 := k5.cur hc6 hg6
        clear k5 hc6 hg6
        obtain ⟨L2, hl2, ho2, hg2⟩ := k6.1.putS rfl q hql s
        have k7 := k6.put ho2 hg2
        have f1 := k6.1.frozen rfl (q * 7 + 1)
        have f2 := k6.1.frozen rfl (q * 7 + 2)
        have f3 := k6.1.frozen rfl (q * 7 + 3)
        have f4 := k6.1.frozen rfl (q * 7 + 4)
        have f5 := k6.1.frozen rfl (q * 7 + 5)
        obtain ⟨c0, c1, c2, c3, c4, c5, c6⟩ := k6.1.at rfl q hql
        clear ho2 hg2 k6
        simp only [putCs] at k7
        unfold stV
        go_wp2
        go_ret
        exact ⟨_, L2, rfl, by omega, k7⟩
      | 3, _ =>
        go_wp2_with fail
        refine (l1Below_a g v xs 2 _ k5.2.1).mono ?_
        rintro e w6 ⟨x, rfl, hz0, hz1, _, hc6, hg6⟩
        have hz2 := hz1 (by omega)
        obtain ⟨k, rfl⟩ : ∃ k : Nat, x = k := ⟨x.toNat, by omega⟩
        have hk : k < 2 := by omega
        have k6 := k5.cur hc6 hg6
        have hrow := fun W => l4Row_any (k + 60) St.zero W (by omega)
        have hzl : (rowL (k + 60) St.zero).length ≤ 100 := by rw [bigRow]; omega
        generalize rowL (k + 60) St.zero = Z at *
        have he : ((k + 60 : Nat) : Int) = 60 + (k : Int) := by omega
        rw [he] at hrow
        unfold stV at hrow
        simp only [St.zero] at hrow
        clear k5 hc6 hg6 hz0 hz1 hz2 he
        go_wp2_with fail
        refine (hrow _).mono ?_
        rintro e w7 ⟨u7, rfl, ho7, hb7⟩
        have k7 := k6.new ho7 hb7
        clear k6 ho7 hb7 hrow
        go_wp2
        go_ret
        exact ⟨u7, Z, rfl, hzl, k7⟩
end Go.Proofs.YteimcepkoclpbaaDoor
namespace Go.Proofs.YteimcepkoclpbaaDoor
open Go.ChangeShapes Go.WideShapes Go.ChangeAt Go.RowKit

/-- The answer's style, a row of this call's own, the cursor. -/
def KD (R g base : Nat) (v : Value) (xs : List Int) (u : Value) (L : List Ce) (w0 W : World) : Prop :=
  StAt W R St.zero ∧ OwnC W base u L ∧ CurAt W g v xs ∧ Below w0.heap.size w0 W ∧ R < g ∧ g < base ∧ w0.heap.size ≤ R
theorem KD.cur {R g base : Nat} {v : Value} {xs : List Int} {u : Value} {L : List Ce} {w0 W W' : World} (k : KD R g base v xs u L w0 W) (hc : CurAt W' g v xs) (hg : W.grownBy W' (some g)) : KD R g base v xs u L w0 W' := by
  obtain ⟨h1, h2, h3, h4, h5, h6, h7⟩ := k
  exact ⟨h1.drawn hg (by omega), h2.curK hg h6, hc, h4.grown hg h4.size (fun q e => by cases e; omega), h5, h6, h7⟩
theorem KD.put {R g base : Nat} {v : Value} {xs : List Int} {u : Value} {L : List Ce} {w0 W : World} (k : KD R g base v xs u L w0 W) (s : St) : StAt (putSt W R s) R s ∧ OwnC (putSt W R s) w0.heap.size u L ∧ Below w0.heap.size w0 (putSt W R s) := by
  obtain ⟨h1, h2, h3, h4, h5, h6, h7⟩ := k
  have hg := putSt_grown W R s
  exact ⟨h1.put s, (h2.curK hg (by omega)).low (by omega), own_lift h4 hg h7⟩
set_option maxHeartbeats 1000000 in
set_option maxRecDepth 20000 in
theorem drawCleared_a (v : Value) (xs : List Int) (w : World) (hv : SlB w v xs) :
    Calls Tryd.prog 11 #[v] w fun e w' => ∃ u L p q s, e = .returned (.tuple #[u, .int .i64 p, .int .i64 q, stV s]) ∧ L.length ≤ 100 ∧ OwnC w' w.heap.size u L ∧ Below w.heap.size w w' := by
  have h0 := StAt.new w St.zero 26
  have hbA := bal w (Obj.cells #[.int .i64 0, .int .i64 0, .bool false, .bool false, .bool false] 26)
  have eA : (w.alloc (Obj.cells #[.int .i64 0, .int .i64 0, .bool false, .bool false, .bool false] 26)).heap.size = w.heap.size + 1 := by simp
  simp only [St.zero] at h0
  go_enter Tryd.func11, Tryd.ntmps11
  go_wp2_with fail
  generalize w.alloc (Obj.cells #[.int .i64 0, .int .i64 0, .bool false, .bool false, .bool false] 26) = W0 at *
  refine (l1New_a v xs _ (hv.below hbA)).mono ?_
  rintro e w1 ⟨rfl, hc1, hb1⟩
  have k1 := h0.below hb1
  have hb1' := hbA.trans (hb1.mono (by omega))
  rw [eA] at hc1 ⊢
  clear h0 hbA hb1 eA
  go_wp2_with fail
  refine (l4DrawAny_a _ v xs _ hc1).mono ?_
  rintro e w2 ⟨u, L, rfl, hl, kr⟩
  have hg2 := kr.2.2.1
  have hgl : w.heap.size + 1 < w1.heap.size := hc1.1
  have kd : KD w.heap.size (w.heap.size + 1) w1.heap.size v xs u L w w2 :=
    ⟨k1.drawn hg2 (by omega), kr.1, kr.2.1, hb1'.grown hg2 hb1'.size (fun k hk => by cases hk; omega), by omega, hgl, Nat.le_refl _⟩
  obtain ⟨a, c, rfl, _⟩ := SlC.of_own kr.1
  clear k1 hb1' hc1 hg2 kr hv
  generalize w1.heap.size = base at *
  go_wp2_with fail
  refine (l4DrawAt_a _ v xs L.length _ kd.2.2.1 (by omega)).mono ?_
  rintro e w3 ⟨y, rfl, hc, hg⟩
  have k3 := kd.cur hc hg
  clear kd hc hg
  go_wp2_with fail
  refine (l1Below_a _ v xs 4 _ k3.2.2.1).mono ?_
  rintro e w4 ⟨z, rfl, _, _, _, hc, hg⟩
  have k4 := k3.cur hc hg
  clear k3 hc hg
  go_wp2_with fail
  refine (l3DrawAny_a _ v xs _ k4.2.2.1).mono ?_
  rintro e w5 ⟨s, rfl, hc, hg⟩
  have k5 := k4.cur hc hg
  clear k4 hc hg
  obtain ⟨kP, ho, hb⟩ := k5.put s
  obtain ⟨_, ⟨d0, d1, d2, d3, d4⟩, ⟨y0, y1, y2, y3, y4⟩⟩ := k5.1
  obtain ⟨_, ⟨e0, e1, e2, e3, e4⟩, _⟩ := kP
  simp only [putSt, St.zero] at ho hb e0 e1 e2 e3 e4 d0 d1 d2 d3 d4
  clear k5
  unfold stV
  go_wp2
  exact bodyPost_ret (v := .tuple #[.slice a L.length c, .int .i64 y, .int .i64 (wrap64 (y + z)), .agg #[.int .i64 s.fore, .int .i64 s.back, .bool s.bold, .bool s.under, .bool s.turned]]) (by simp [results, Tryd.results11, go_sem, e0, e1, e2, e3, e4]) rfl ⟨_, L, y, _, s, rfl, hl, ho, hb⟩
end Go.Proofs.YteimcepkoclpbaaDoor
namespace Go.Proofs.YteimcepkoclpbaaDoor
open Go.ChangeShapes Go.WideShapes Go.ChangeAt Go.RowKit

set_option maxHeartbeats 1000000 in
set_option maxRecDepth 20000 in
theorem drawWritten_a (v : Value) (xs : List Int) (w : World) (hv : SlB w v xs) :
    Calls Tryd.prog 9 #[v] w fun e w' => ∃ u L p q s, e = .returned (.tuple #[u, .int .i64 p, .int .i64 q, stV s]) ∧ L.length ≤ 100 ∧ OwnC w' w.heap.size u L ∧ Below w.heap.size w w' := by
  have h0 := StAt.new w St.zero 26
  have hbA := bal w (Obj.cells #[.int .i64 0, .int .i64 0, .bool false, .bool false, .bool false] 26)
  have eA : (w.alloc (Obj.cells #[.int .i64 0, .int .i64 0, .bool false, .bool false, .bool false] 26)).heap.size = w.heap.size + 1 := by simp
  simp only [St.zero] at h0
  go_enter Tryd.func9, Tryd.ntmps9
  go_wp2_with fail
  generalize w.alloc (Obj.cells #[.int .i64 0, .int .i64 0, .bool false, .bool false, .bool false] 26) = W0 at *
  refine (l1New_a v xs _ (hv.below hbA)).mono ?_
  rintro e w1 ⟨rfl, hc1, hb1⟩
  have k1 := h0.below hb1
  have hb1' := hbA.trans (hb1.mono (by omega))
  rw [eA] at hc1 ⊢
  clear h0 hbA hb1 eA
  go_wp2_with fail
  refine (l4DrawAny_a _ v xs _ hc1).mono ?_
  rintro e w2 ⟨u, L, rfl, hl, kr⟩
  have hg2 := kr.2.2.1
  have hgl : w.heap.size + 1 < w1.heap.size := hc1.1
  have kd : KD w.heap.size (w.heap.size + 1) w1.heap.size v xs u L w w2 :=
    ⟨k1.drawn hg2 (by omega), kr.1, kr.2.1, hb1'.grown hg2 hb1'.size (fun k hk => by cases hk; omega), by omega, hgl, Nat.le_refl _⟩
  obtain ⟨a, c, rfl, _⟩ := SlC.of_own kr.1
  clear k1 hb1' hc1 hg2 kr hv
  generalize w1.heap.size = base at *
  go_wp2_with fail
  refine (l4DrawRune_a _ v xs _ kd.2.2.1).mono ?_
  rintro e w3 ⟨j, hj, rfl, hc, hg⟩
  have k3 := kd.cur hc hg
  generalize RD.getD j 0 = r0 at *
  clear kd hc hg
  go_wp2_with fail
  refine (l1Once_a _ v xs 12 _ k3.2.2.1).mono ?_
  rintro e w6 ⟨bb, rfl, hc, hg⟩
  have k6 := k3.cur hc hg
  clear k3 hc hg
  cases bb
  · go_wp2_with fail
    refine (l4DrawAt_a _ v xs L.length _ k6.2.2.1 (by omega)).mono ?_
    rintro e w7 ⟨y, rfl, hc, hg⟩
    have k4 := k6.cur hc hg
    clear hc hg
    go_wp2_with fail
    refine (l3DrawAny_a _ v xs _ k4.2.2.1).mono ?_
    rintro e w5 ⟨s, rfl, hc, hg⟩
    have k5 := k4.cur hc hg
    clear k4 hc hg
    obtain ⟨kP, ho, hb⟩ := k5.put s
    obtain ⟨_, ⟨d0, d1, d2, d3, d4⟩, ⟨y0, y1, y2, y3, y4⟩⟩ := k5.1
    obtain ⟨_, ⟨e0, e1, e2, e3, e4⟩, _⟩ := kP
    simp only [putSt, St.zero] at ho hb e0 e1 e2 e3 e4 d0 d1 d2 d3 d4
    clear k5
    unfold stV
    go_wp2
    exact bodyPost_ret (v := .tuple #[.slice a L.length c, .int .i64 y, .int .i64 r0, .agg #[.int .i64 s.fore, .int .i64 s.back, .bool s.bold, .bool s.under, .bool s.turned]]) (by simp [results, Tryd.results9, go_sem, e0, e1, e2, e3, e4]) rfl ⟨_, L, y, _, s, rfl, hl, ho, hb⟩
  · go_wp2_with fail
    refine (l1DrawRune_a _ v xs _ k6.2.2.1).mono ?_
    rintro e w8 ⟨r1, rfl, _, hc, hg⟩
    have k8 := k6.cur hc hg
    clear k6 hc hg
    go_wp2_with fail
    refine (l4DrawAt_a _ v xs L.length _ k8.2.2.1 (by omega)).mono ?_
    rintro e w7 ⟨y, rfl, hc, hg⟩
    have k4 := k8.cur hc hg
    clear hc hg
    go_wp2_with fail
    refine (l3DrawAny_a _ v xs _ k4.2.2.1).mono ?_
    rintro e w5 ⟨s, rfl, hc, hg⟩
    have k5 := k4.cur hc hg
    clear k4 hc hg
    obtain ⟨kP, ho, hb⟩ := k5.put s
    obtain ⟨_, ⟨d0, d1, d2, d3, d4⟩, ⟨y0, y1, y2, y3, y4⟩⟩ := k5.1
    obtain ⟨_, ⟨e0, e1, e2, e3, e4⟩, _⟩ := kP
    simp only [putSt, St.zero] at ho hb e0 e1 e2 e3 e4 d0 d1 d2 d3 d4
    clear k5
    unfold stV
    go_wp2
    exact bodyPost_ret (v := .tuple #[.slice a L.length c, .int .i64 y, .int .i64 r1, .agg #[.int .i64 s.fore, .int .i64 s.back, .bool s.bold, .bool s.under, .bool s.turned]]) (by simp [results, Tryd.results9, go_sem, e0, e1, e2, e3, e4]) rfl ⟨_, L, y, _, s, rfl, hl, ho, hb⟩
end Go.Proofs.YteimcepkoclpbaaDoor
