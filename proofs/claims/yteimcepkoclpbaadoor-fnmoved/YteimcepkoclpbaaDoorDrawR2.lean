/- Rows drawn. -/
import Derived.Test.YteimcepkoclpbaaDoorDrawR
import Derived.Test.YteimcepkoclpbaaDoorRC6
namespace Go.Proofs.YteimcepkoclpbaaDoor
open Go.ChangeShapes Go.WideShapes Go.ChangeAt Go.RowKit

theorem RD_width : ∀ r ∈ RD, 1 ≤ widthV r ∧ widthV r ≤ 2 := by decide
theorem OwnC.curK {w w' : World} {base g : Nat} {v : Value} {xs : List Ce} (h : OwnC w base v xs) (hg : w.grownBy w' (some g)) (hlt : g < base) : OwnC w' base v xs := own_grow (show w.ownsRow _ _ _ _ _ _ from h) hg hlt
/-- A row of this call's own beside the cursor. -/
def KR (g : Nat) (v : Value) (xs : List Int) (u : Value) (L : List Ce) (w0 W : World) : Prop := OwnC W w0.heap.size u L ∧ CurAt W g v xs ∧ w0.grownBy W (some g) ∧ g < w0.heap.size
theorem KR.cur {g : Nat} {v : Value} {xs : List Int} {u : Value} {L : List Ce} {w0 W W' : World} (k : KR g v xs u L w0 W) (hc : CurAt W' g v xs) (hg : W.grownBy W' (some g)) : KR g v xs u L w0 W' :=
  ⟨k.1.curK hg k.2.2.2, hc, gtr k.2.2.1 hg, k.2.2.2⟩
theorem KR.new {g : Nat} {v : Value} {xs : List Int} {u u' : Value} {L L' : List Ce} {w0 W W' : World} (k : KR g v xs u L w0 W) (ho : OwnC W' W.heap.size u' L') (hb : Below W.heap.size W W') : KR g v xs u' L' w0 W' :=
  ⟨ho.low k.2.2.1.size, k.2.1.below hb, gtr k.2.2.1 (gbl hb (some g)), k.2.2.2⟩
set_option maxHeartbeats 4000000 in
set_option maxRecDepth 20000 in
theorem l4Draw_a (g : Nat) (v : Value) (xs : List Int) (cols : Nat) (w : World) (hc : CurAt w g v xs) (h1 : 1 ≤ cols) (h2 : cols ≤ 100) :
    Calls Tryd.prog 65 #[.pointer (some ⟨g, 0, none⟩), .int .i64 cols] w fun e w' => ∃ u L, e = .returned u ∧ L.length = cols ∧ KR g v xs u L w w' := by
  have hrow := fun W => l4Row_any cols St.zero W (by omega)
  have hci : (0 : Int) < (cols : Int) := by omega
  have hzl : (rowL cols St.zero).length = cols := bigRow _ _
  generalize rowL cols St.zero = Z at *
  unfold stV at hrow
  simp only [St.zero] at hrow
  go_enter Tryd.func65, Tryd.ntmps65
  go_wp2_with fail
  refine (hrow _).mono ?_
  rintro e w1 ⟨u1, rfl, ho1, hb1⟩
  have k1 : KR g v xs u1 Z w w1 := ⟨ho1, hc.below hb1, gbl hb1 _, hc.1⟩
  clear ho1 hb1 hc hrow
  go_wp2_with fail
  refine (l1Below_a g v xs 7 _ k1.2.1).mono ?_
  rintro e w2 ⟨x, rfl, hx0, hx1, _, hc2, hg2⟩
  obtain ⟨n, rfl⟩ : ∃ k : Nat, x = k := ⟨x.toNat, by omega⟩
  have k2 := k1.cur hc2 hg2
  have hn : n ≤ 7 := by have := hx1 (by omega); omega
  clear k1 hc2 hg2 hx0 hx1
  go_wp2
  go_loopw [5, 6] (fun u i wr => ∃ (m : Nat) (L : List Ce), i = .int .i64 m ∧ m ≤ 7 ∧ L.length = cols ∧ KR g v xs u L w wr) (fun _ i _ => (intOf i).toNat)
  case atStart => exact ⟨n, Z, rfl, hn, hzl, k2⟩
  case round =>
    clear k2 hzl
    obtain ⟨m, L, rfl, hm, hll, k⟩ := hrel
    by_cases h0 : m = 0
    · subst h0
      go_wp2
      go_ret
      exact ⟨_, L, rfl, hll, k⟩
    · obtain ⟨q, rfl⟩ : ∃ q, m = q + 1 := ⟨m - 1, by omega⟩
      have hq0 : (0 : Int) < (q : Int) + 1 := by omega
      go_wp2_with fail
      refine (l4DrawRune_a g v xs _ k.2.1).mono ?_
      rintro e w3 ⟨j, hj, rfl, hc3, hg3⟩
      have hwd := getD_all (p := fun r => 1 ≤ widthV r ∧ widthV r ≤ 2) RD RD_width j hj
      have k3 := k.cur hc3 hg3
      clear k hc3 hg3
      generalize RD.getD j 0 = y at *
      go_wp2_with fail
      refine (l1Below_a g v xs cols _ k3.2.1).mono ?_
      rintro e w4 ⟨x, rfl, hx0, hx1, _, hc4, hg4⟩
      have hxc := hx1 hci
      obtain ⟨p, rfl⟩ : ∃ k : Nat, x = k := ⟨x.toNat, by omega⟩
      have k4 := k3.cur hc4 hg4
      clear k3 hc4 hg4 hx0 hx1
      obtain ⟨hw1, hw2⟩ := hwd
      by_cases hfit : (p : Int) + widthV y ≤ (cols : Int)
      · have hwr := fun s W h => l4Written_any u5 L p y s W h hw1 (by rw [hll]; exact hfit) (by omega)
        have hwi := specWidth_any y
        generalize widthV y = wy at *
        go_wp2_with fail
        refine (hwi _).mono ?_
        rintro e w5 ⟨rfl, hw⟩
        subst hw
        go_wp2_with fail
        refine (l3Draw_a g v xs _ k4.2.1).mono ?_
        rintro e w6 ⟨s, rfl, hc6, hg6⟩
        have k6 := k4.cur hc6 hg6
        clear k4 hc6 hg6 hwi
        go_wp2_with fail
        refine (hwr s _ (SlC.of_own k6.1)).mono ?_
        rintro e w7 ⟨u7, rfl, ho7, hb7⟩
        have k7 := k6.new ho7 hb7
        have hl7 : (writeL L p y s).length = cols := (writeL_len L p y s).trans hll
        generalize writeL L p y s = L7 at *
        clear k6 ho7 hb7 hwr
        go_wp2
        go_roundw
        case rel => exact ⟨q, L7, by go_num, by omega, hl7, k7⟩
        case measure => first | (simp [intOf]; done) | (simp [intOf]; omega)
      · have hwi := specWidth_any y
        generalize widthV y = wy at *
        go_wp2_with fail
        refine (hwi _).mono ?_
        rintro e w5 ⟨rfl, hw⟩
        subst hw
        clear hwi
        go_wp2
        go_roundw
        case rel => exact ⟨q, L, by go_num, by omega, hll, k4⟩
        case measure => first | (simp [intOf]; done) | (simp [intOf]; omega)
end Go.Proofs.YteimcepkoclpbaaDoor
