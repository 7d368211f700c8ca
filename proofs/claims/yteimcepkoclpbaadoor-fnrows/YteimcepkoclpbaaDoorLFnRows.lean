/- The walk of the law of rows. -/
import Derived.Test.YteimcepkoclpbaaDoorJDrawR
import Derived.Test.YteimcepkoclpbaaDoorDrawBl
import Derived.Test.YteimcepkoclpbaaDoorJLENC
import Derived.Test.YteimcepkoclpbaaDoorRT1
import Derived.Test.YteimcepkoclpbaaDoorJRK6
import Derived.Test.YteimcepkoclpbaaDoorBig
import Derived.Deep.RegionHeld3
import Derived.Deep.DrawnRows
namespace Go.Proofs.YteimcepkoclpbaaDoor
open Go.ChangeShapes Go.WideShapes Go.ChangeAt Go.RowKit
attribute [local go_sem ↓] Go.wp_at_zero Go.wp_at_succ
attribute [local go_sem ↓] eq_ce eq_st

/-- A drawn row and its style in a box. -/
def P1 (B : Nat) (s : St) (u : Value) (L : List Ce) (w0 W : World) : Prop := StAt W B s ∧ SlC W u L ∧ SpansAt W ∧ Below w0.heap.size w0 W
theorem P1.below {B : Nat} {s : St} {u : Value} {L : List Ce} {w0 W W' : World} (k : P1 B s u L w0 W) (hb : Below W.heap.size W W') : P1 B s u L w0 W' :=
  ⟨k.1.below hb, k.2.1.below hb, k.2.2.1.below hb k.2.2.1.lt, k.2.2.2.trans (hb.mono k.2.2.2.size)⟩
def K4 (B6 : Nat) (s : St) (u1 x : Value) (L X : List Ce) (w0 W : World) : Prop := P1 B6 s u1 L w0 W ∧ SlC W x X
theorem K4.below {B6 : Nat} {s : St} {u1 x : Value} {L X : List Ce} {w0 W W' : World} (k : K4 B6 s u1 x L X w0 W) (hb : Below W.heap.size W W') : K4 B6 s u1 x L X w0 W' := ⟨k.1.below hb, k.2.below hb⟩
def K3 (B6 B11 : Nat) (s z : St) (u1 x u2 y : Value) (L X M Y : List Ce) (w0 W : World) : Prop := K4 B6 s u1 x L X w0 W ∧ P1 B11 z u2 M w0 W ∧ SlC W y Y
theorem K3.below {B6 B11 : Nat} {s z : St} {u1 x u2 y : Value} {L X M Y : List Ce} {w0 W W' : World} (k : K3 B6 B11 s z u1 x u2 y L X M Y w0 W) (hb : Below W.heap.size W W') : K3 B6 B11 s z u1 x u2 y L X M Y w0 W' := ⟨k.1.below hb, k.2.1.below hb, k.2.2.below hb⟩
def KW (B6 B11 B14 : Nat) (s z t : St) (u1 x u2 y b : Value) (L X M Y V : List Ce) (w0 W : World) : Prop := K3 B6 B11 s z u1 x u2 y L X M Y w0 W ∧ StAt W B14 t ∧ SlC W b V
theorem KW.below {B6 B11 B14 : Nat} {s z t : St} {u1 x u2 y b : Value} {L X M Y V : List Ce} {w0 W W' : World} (k : KW B6 B11 B14 s z t u1 x u2 y b L X M Y V w0 W) (hb : Below W.heap.size W W') : KW B6 B11 B14 s z t u1 x u2 y b L X M Y V w0 W' := ⟨k.1.below hb, k.2.1.below hb, k.2.2.below hb⟩
theorem bdR (W : World) (n : Nat) : Below W.heap.size W (W.drewN n) := ⟨rfl, rfl, rfl, Nat.le_refl _, fun _ _ => rfl⟩
theorem K4.all {B6 : Nat} {s : St} {u1 : Value} {bx offx N cx q : Nat} {r : Int} {L X : List Ce} {w0 W : World} (hN : X.length = N) (hq : q < N) (hr : (atC X q).rune = r) (hs : (atC X q).st = s) (k : K4 B6 s u1 (.slice (some ⟨bx, offx, none⟩) N cx) L X w0 W) : (W.cell? ⟨bx, offx + q * 7, none⟩ = some (.int .i64 r) ∧ W.cell? ⟨bx, offx + q * 7 + 1, none⟩ = some (.int .i64 s.fore) ∧ W.cell? ⟨bx, offx + q * 7 + 2, none⟩ = some (.int .i64 s.back) ∧ W.cell? ⟨bx, offx + q * 7 + 3, none⟩ = some (.bool s.bold) ∧ W.cell? ⟨bx, offx + q * 7 + 4, none⟩ = some (.bool s.under) ∧ W.cell? ⟨bx, offx + q * 7 + 5, none⟩ = some (.bool s.turned) ∧ W.cell? ⟨B6, 0, none⟩ = some (.int .i64 s.fore) ∧ W.cell? ⟨B6, 1, none⟩ = some (.int .i64 s.back) ∧ W.cell? ⟨B6, 2, none⟩ = some (.bool s.bold) ∧ W.cell? ⟨B6, 3, none⟩ = some (.bool s.under) ∧ W.cell? ⟨B6, 4, none⟩ = some (.bool s.turned) ∧ K4 B6 s u1 (.slice (some ⟨bx, offx, none⟩) N cx) L X w0 W) := by
  obtain ⟨b, off, e, hi⟩ := k.2.src (by omega)
  cases e
  have hc := hi q (by omega)
  unfold CeAt at hc
  rw [hr, hs] at hc
  exact ⟨hc.1, hc.2.1, hc.2.2.1, hc.2.2.2.1, hc.2.2.2.2.1, hc.2.2.2.2.2.1, k.1.1.2.1.1, k.1.1.2.1.2.1, k.1.1.2.1.2.2.1, k.1.1.2.1.2.2.2.1, k.1.1.2.1.2.2.2.2, k⟩
theorem rowok_k4 (B6 : Nat) (s : St) (u1 : Value) (bx offx N cx q : Nat) (r : Int) (L X : List Ce) (w0 W : World) (hN : X.length = N) (hq : q < N) (hr : (atC X q).rune = r) (hs : (atC X q).st = s) (hok : rowOkB X = true) (h60 : N ≤ 60) (k : (W.cell? ⟨bx, offx + q * 7, none⟩ = some (.int .i64 r) ∧ W.cell? ⟨bx, offx + q * 7 + 1, none⟩ = some (.int .i64 s.fore) ∧ W.cell? ⟨bx, offx + q * 7 + 2, none⟩ = some (.int .i64 s.back) ∧ W.cell? ⟨bx, offx + q * 7 + 3, none⟩ = some (.bool s.bold) ∧ W.cell? ⟨bx, offx + q * 7 + 4, none⟩ = some (.bool s.under) ∧ W.cell? ⟨bx, offx + q * 7 + 5, none⟩ = some (.bool s.turned) ∧ W.cell? ⟨B6, 0, none⟩ = some (.int .i64 s.fore) ∧ W.cell? ⟨B6, 1, none⟩ = some (.int .i64 s.back) ∧ W.cell? ⟨B6, 2, none⟩ = some (.bool s.bold) ∧ W.cell? ⟨B6, 3, none⟩ = some (.bool s.under) ∧ W.cell? ⟨B6, 4, none⟩ = some (.bool s.turned) ∧ K4 B6 s u1 (.slice (some ⟨bx, offx, none⟩) N cx) L X w0 W)) :
    Calls Tryd.prog 19 #[(.slice (some ⟨bx, offx, none⟩) N cx)] W fun e w' => e = .returned (.bool true) ∧ (w'.cell? ⟨bx, offx + q * 7, none⟩ = some (.int .i64 r) ∧ w'.cell? ⟨bx, offx + q * 7 + 1, none⟩ = some (.int .i64 s.fore) ∧ w'.cell? ⟨bx, offx + q * 7 + 2, none⟩ = some (.int .i64 s.back) ∧ w'.cell? ⟨bx, offx + q * 7 + 3, none⟩ = some (.bool s.bold) ∧ w'.cell? ⟨bx, offx + q * 7 + 4, none⟩ = some (.bool s.under) ∧ w'.cell? ⟨bx, offx + q * 7 + 5, none⟩ = some (.bool s.turned) ∧ w'.cell? ⟨B6, 0, none⟩ = some (.int .i64 s.fore) ∧ w'.cell? ⟨B6, 1, none⟩ = some (.int .i64 s.back) ∧ w'.cell? ⟨B6, 2, none⟩ = some (.bool s.bold) ∧ w'.cell? ⟨B6, 3, none⟩ = some (.bool s.under) ∧ w'.cell? ⟨B6, 4, none⟩ = some (.bool s.turned) ∧ K4 B6 s u1 (.slice (some ⟨bx, offx, none⟩) N cx) L X w0 w') :=
  (implRowOk_any (.slice (some ⟨bx, offx, none⟩) N cx) X W k.2.2.2.2.2.2.2.2.2.2.2.1.2.2.1 k.2.2.2.2.2.2.2.2.2.2.2.2 (by omega)).mono fun _ _ ⟨he, hb⟩ => ⟨by rw [he, hok], (k.2.2.2.2.2.2.2.2.2.2.2.below hb).all hN hq hr hs⟩
theorem written_k4 (B6 : Nat) (s : St) (u1 : Value) (bx offx N cx q : Nat) (r : Int) (L X : List Ce) (w0 W : World) (hN : X.length = N) (hq : q < N) (hr : (atC X q).rune = r) (hs : (atC X q).st = s) (hw : writtenV X q r s = X) (h60 : N ≤ 60) (k : (W.cell? ⟨bx, offx + q * 7, none⟩ = some (.int .i64 r) ∧ W.cell? ⟨bx, offx + q * 7 + 1, none⟩ = some (.int .i64 s.fore) ∧ W.cell? ⟨bx, offx + q * 7 + 2, none⟩ = some (.int .i64 s.back) ∧ W.cell? ⟨bx, offx + q * 7 + 3, none⟩ = some (.bool s.bold) ∧ W.cell? ⟨bx, offx + q * 7 + 4, none⟩ = some (.bool s.under) ∧ W.cell? ⟨bx, offx + q * 7 + 5, none⟩ = some (.bool s.turned) ∧ W.cell? ⟨B6, 0, none⟩ = some (.int .i64 s.fore) ∧ W.cell? ⟨B6, 1, none⟩ = some (.int .i64 s.back) ∧ W.cell? ⟨B6, 2, none⟩ = some (.bool s.bold) ∧ W.cell? ⟨B6, 3, none⟩ = some (.bool s.under) ∧ W.cell? ⟨B6, 4, none⟩ = some (.bool s.turned) ∧ K4 B6 s u1 (.slice (some ⟨bx, offx, none⟩) N cx) L X w0 W)) :
    Calls Tryd.prog 10 #[(.slice (some ⟨bx, offx, none⟩) N cx), .int .i64 q, .int .i64 r, .agg #[.int .i64 s.fore, .int .i64 s.back, .bool s.bold, .bool s.under, .bool s.turned]] W fun e w' => ∃ v, e = .returned v ∧ SlC w' v X ∧ (w'.cell? ⟨bx, offx + q * 7, none⟩ = some (.int .i64 r) ∧ w'.cell? ⟨bx, offx + q * 7 + 1, none⟩ = some (.int .i64 s.fore) ∧ w'.cell? ⟨bx, offx + q * 7 + 2, none⟩ = some (.int .i64 s.back) ∧ w'.cell? ⟨bx, offx + q * 7 + 3, none⟩ = some (.bool s.bold) ∧ w'.cell? ⟨bx, offx + q * 7 + 4, none⟩ = some (.bool s.under) ∧ w'.cell? ⟨bx, offx + q * 7 + 5, none⟩ = some (.bool s.turned) ∧ w'.cell? ⟨B6, 0, none⟩ = some (.int .i64 s.fore) ∧ w'.cell? ⟨B6, 1, none⟩ = some (.int .i64 s.back) ∧ w'.cell? ⟨B6, 2, none⟩ = some (.bool s.bold) ∧ w'.cell? ⟨B6, 3, none⟩ = some (.bool s.under) ∧ w'.cell? ⟨B6, 4, none⟩ = some (.bool s.turned) ∧ K4 B6 s u1 (.slice (some ⟨bx, offx, none⟩) N cx) L X w0 w') :=
  (implWritten_any (.slice (some ⟨bx, offx, none⟩) N cx) X q r s W k.2.2.2.2.2.2.2.2.2.2.2.1.2.2.1 k.2.2.2.2.2.2.2.2.2.2.2.2 (by omega)).mono fun _ _ ⟨v, he, ho, hb⟩ => ⟨v, he, by rw [hw] at ho; exact SlC.of_own ho, (k.2.2.2.2.2.2.2.2.2.2.2.below hb).all hN hq hr hs⟩
theorem like_k4 (B6 : Nat) (s : St) (u1 : Value) (bx offx N cx q : Nat) (r : Int) (L X : List Ce) (w0 W : World) (hN : X.length = N) (hq : q < N) (hr : (atC X q).rune = r) (hs : (atC X q).st = s) (h60 : N ≤ 60) (v : Value) (hv : SlC W v X) (k : (W.cell? ⟨bx, offx + q * 7, none⟩ = some (.int .i64 r) ∧ W.cell? ⟨bx, offx + q * 7 + 1, none⟩ = some (.int .i64 s.fore) ∧ W.cell? ⟨bx, offx + q * 7 + 2, none⟩ = some (.int .i64 s.back) ∧ W.cell? ⟨bx, offx + q * 7 + 3, none⟩ = some (.bool s.bold) ∧ W.cell? ⟨bx, offx + q * 7 + 4, none⟩ = some (.bool s.under) ∧ W.cell? ⟨bx, offx + q * 7 + 5, none⟩ = some (.bool s.turned) ∧ W.cell? ⟨B6, 0, none⟩ = some (.int .i64 s.fore) ∧ W.cell? ⟨B6, 1, none⟩ = some (.int .i64 s.back) ∧ W.cell? ⟨B6, 2, none⟩ = some (.bool s.bold) ∧ W.cell? ⟨B6, 3, none⟩ = some (.bool s.under) ∧ W.cell? ⟨B6, 4, none⟩ = some (.bool s.turned) ∧ K4 B6 s u1 (.slice (some ⟨bx, offx, none⟩) N cx) L X w0 W)) :
    Calls Tryd.prog 15 #[v, (.slice (some ⟨bx, offx, none⟩) N cx)] W fun e w' => e = .returned (.bool true) ∧ (w'.cell? ⟨bx, offx + q * 7, none⟩ = some (.int .i64 r) ∧ w'.cell? ⟨bx, offx + q * 7 + 1, none⟩ = some (.int .i64 s.fore) ∧ w'.cell? ⟨bx, offx + q * 7 + 2, none⟩ = some (.int .i64 s.back) ∧ w'.cell? ⟨bx, offx + q * 7 + 3, none⟩ = some (.bool s.bold) ∧ w'.cell? ⟨bx, offx + q * 7 + 4, none⟩ = some (.bool s.under) ∧ w'.cell? ⟨bx, offx + q * 7 + 5, none⟩ = some (.bool s.turned) ∧ w'.cell? ⟨B6, 0, none⟩ = some (.int .i64 s.fore) ∧ w'.cell? ⟨B6, 1, none⟩ = some (.int .i64 s.back) ∧ w'.cell? ⟨B6, 2, none⟩ = some (.bool s.bold) ∧ w'.cell? ⟨B6, 3, none⟩ = some (.bool s.under) ∧ w'.cell? ⟨B6, 4, none⟩ = some (.bool s.turned) ∧ K4 B6 s u1 (.slice (some ⟨bx, offx, none⟩) N cx) L X w0 w') :=
  (likeR_same v (.slice (some ⟨bx, offx, none⟩) N cx) X W hv k.2.2.2.2.2.2.2.2.2.2.2.2 (by omega)).mono fun _ _ ⟨he, n, hn⟩ => ⟨he, by rw [hn]; exact (k.2.2.2.2.2.2.2.2.2.2.2.below (bdR _ _)).all hN hq hr hs⟩
set_option maxRecDepth 20000 in
set_option maxHeartbeats 8000000 in
theorem walk_FnRows (w : World) (hS : SpansAt w) (va : Option Addr) (len cap : Nat) (zs : List Int) (hr : IsRow .u8 w va len cap zs) :
    Calls Tryd.prog 3 #[.slice va len cap] w fun e w' => e = .returned (.bool true) ∧ Below w.heap.size w w' := by
  by_cases h4 : len ≤ 4096
  · obtain ⟨hv, _⟩ := SlB.of_row hr h4
    have hbig : decide (4096 < (len : Int)) = false := by simp; omega
    clear hr
    go_enter Tryd.func3, Tryd.ntmps3
    go_wp2_with fail
    refine (big_a va len cap _).mono ?_
    rw [hbig]
    rintro e w0 ⟨rfl, hw0⟩
    subst hw0
    go_wp2_with fail
    refine (drawWritten_a _ _ _ hv).mono ?_
    rintro e w1 ⟨u1, L, p, r, s, rfl, hL, ho1, hb1⟩
    have hbx := bal' w1 (Obj.cells #[.int .i64 s.fore, .int .i64 s.back, .bool s.bold, .bool s.under, .bool s.turned] 26)
    have kA : P1 w1.heap.size s u1 L w0 (w1.alloc (Obj.cells #[.int .i64 s.fore, .int .i64 s.back, .bool s.bold, .bool s.under, .bool s.turned] 26)) := ⟨StAt.new w1 s _, (SlC.of_own ho1).below hbx, hS.below (hb1.trans (hbx.mono hb1.size)) hS.lt, hb1.trans (hbx.mono hb1.size)⟩
    have hL20 : L.length ≤ 1048576 := by omega
    have hP := implWritten_any u1 L p r s _ kA.2.2.1 kA.2.1 hL20
    clear hb1 ho1 hbx
    unfold stV at *
    obtain ⟨_, ⟨c0, c1, c2, c3, c4⟩, _⟩ := id kA.1
    go_wp2_with fail
    generalize w1.alloc (Obj.cells #[.int .i64 s.fore, .int .i64 s.back, .bool s.bold, .bool s.under, .bool s.turned] 26) = WA at *
    refine hP.mono ?_
    clear hP
    rintro e w2 ⟨x, rfl, hox, hb⟩
    have k2 : K4 w1.heap.size s u1 x L (writtenV L p r s) w0 w2 := ⟨kA.below hb, SlC.of_own hox⟩
    clear kA hb hox c0 c1 c2 c3 c4
    generalize w1.heap.size = B6 at *
    have hd := drawCleared_a _ _ _ (hv.below k2.1.2.2.2)
    unfold stV at hd
    go_wp2_with fail
    refine hd.mono ?_
    clear hd
    rintro e w3 ⟨u2, M, f, t, z, rfl, hM, ho3, hb3⟩
    have hbx := bal' w3 (Obj.cells #[.int .i64 z.fore, .int .i64 z.back, .bool z.bold, .bool z.under, .bool z.turned] 26)
    have k3 := (k2.below hb3).below hbx
    have kB : P1 w3.heap.size z u2 M w0 (w3.alloc (Obj.cells #[.int .i64 z.fore, .int .i64 z.back, .bool z.bold, .bool z.under, .bool z.turned] 26)) := ⟨StAt.new w3 z _, (SlC.of_own ho3).below hbx, k3.1.2.2.1, k3.1.2.2.2⟩
    have hM20 : M.length ≤ 1048576 := by omega
    have hP := implCleared_any u2 M f t z _ kB.2.2.1 kB.2.1 hM20
    clear k2 ho3 hb3 hbx
    unfold stV at hP
    obtain ⟨_, ⟨c0, c1, c2, c3, c4⟩, _⟩ := id kB.1
    go_wp2_with fail
    generalize w3.alloc (Obj.cells #[.int .i64 z.fore, .int .i64 z.back, .bool z.bold, .bool z.under, .bool z.turned] 26) = WB at *
    refine hP.mono ?_
    clear hP
    rintro e w4 ⟨y, rfl, hoy, hb⟩
    have k4 : K3 B6 w3.heap.size s z u1 x u2 y L (writtenV L p r s) M (clearedV M f t z) w0 w4 := ⟨k3.below hb, kB.below hb, SlC.of_own hoy⟩
    clear k3 kB hb hoy c0 c1 c2 c3 c4
    generalize w3.heap.size = B11 at *
    have hd := drawBlank_a _ _ _ (hv.below k4.1.1.2.2.2)
    unfold stV at hd
    go_wp2_with fail
    refine hd.mono ?_
    clear hd
    rintro e w5 ⟨n, g, rfl, hb5⟩
    have hbx := bal' w5 (Obj.cells #[.int .i64 g.fore, .int .i64 g.back, .bool g.bold, .bool g.under, .bool g.turned] 26)
    have k5 := (k4.below hb5).below hbx
    have sC := StAt.new w5 g 26
    have hP := implBlank_any n g (w5.alloc (Obj.cells #[.int .i64 g.fore, .int .i64 g.back, .bool g.bold, .bool g.under, .bool g.turned] 26))
    clear k4 hb5 hbx hv
    unfold stV at hP
    obtain ⟨_, ⟨c0, c1, c2, c3, c4⟩, _⟩ := id sC
    go_wp2_with fail
    generalize w5.alloc (Obj.cells #[.int .i64 g.fore, .int .i64 g.back, .bool g.bold, .bool g.under, .bool g.turned] 26) = WC at *
    refine hP.mono ?_
    clear hP
    rintro e w6 ⟨b, rfl, hob, hb⟩
    have k6 : KW B6 B11 w5.heap.size s z g u1 x u2 y b L (writtenV L p r s) M (clearedV M f t z) (blankV n g) w0 w6 := ⟨k5.below hb, sC.below hb, SlC.of_own hob⟩
    clear k5 sC hb hob c0 c1 c2 c3 c4
    generalize w5.heap.size = B14 at *
    have hlx := writtenV_len L p r s
    have hly := clearedV_len M f t z
    have hlb : (blankV n g).length ≤ 60 := by rcases blankV_yes n g with h | h; rw [h]; simp; exact h.2.1
    have hP := specWritten_any u1 L p r s w6 k6.1.1.1.2.1 hL20
    unfold stV at hP
    obtain ⟨_, ⟨c0, c1, c2, c3, c4⟩, _⟩ := id k6.1.1.1.1
    go_wp2_with fail
    refine hP.mono ?_
    clear hP
    rintro e w7 ⟨x2, rfl, hox, hb⟩
    have k7 := k6.below hb
    have hx2 := SlC.of_own hox
    clear k6 hb hox c0 c1 c2 c3 c4
    go_wp2_with fail
    refine (likeR_same x x2 _ w7 k7.1.1.2 hx2 (by omega)).mono ?_
    rintro e w8 ⟨rfl, n8, hw⟩
    have k8 := k7.below (bdR w7 n8)
    rw [← hw] at k8
    clear k7 hx2 hw
    have hP := specCleared_any u2 M f t z w8 k8.1.2.1.2.1 hM20
    unfold stV at hP
    obtain ⟨_, ⟨c0, c1, c2, c3, c4⟩, _⟩ := id k8.1.2.1.1
    go_wp2_with fail
    refine hP.mono ?_
    clear hP
    rintro e w9 ⟨y2, rfl, hoy, hb⟩
    have k9 := k8.below hb
    have hy2 := SlC.of_own hoy
    clear k8 hb hoy c0 c1 c2 c3 c4
    go_wp2_with fail
    refine (likeR_same y y2 _ w9 k9.1.2.2 hy2 (by omega)).mono ?_
    rintro e wa ⟨rfl, na, hw⟩
    have ka := k9.below (bdR w9 na)
    rw [← hw] at ka
    clear k9 hy2 hw
    have hP := specBlank_any n g wa
    unfold stV at hP
    obtain ⟨_, ⟨c0, c1, c2, c3, c4⟩, _⟩ := id ka.2.1
    go_wp2_with fail
    refine hP.mono ?_
    clear hP
    rintro e wb ⟨b2, rfl, hob, hb⟩
    have kb := ka.below hb
    have hb2 := SlC.of_own hob
    clear ka hb hob c0 c1 c2 c3 c4
    go_wp2_with fail
    refine (likeR_same b b2 _ wb kb.2.2 hb2 (by omega)).mono ?_
    rintro e wc ⟨rfl, nc, hw⟩
    have kc := kb.below (bdR wb nc)
    rw [← hw] at kc
    clear kb hb2 hw
    go_wp2_with fail
    refine (implRowOk_any u1 L wc kc.1.1.1.2.2.1 kc.1.1.1.2.1 hL20).mono ?_
    rintro e wd ⟨rfl, hb⟩
    have kd := kc.below hb
    clear kc hb
    go_wp2_with fail
    refine (specRowOk_any u1 L wd kd.1.1.1.2.1 hL20).mono ?_
    rintro e we ⟨rfl, hb⟩
    have ke := kd.below hb
    clear kd hb
    have hbb : (rowOkB L != rowOkB L) = false := by simp
    go_wp2_with fail
    refine (implRowText_any u1 L we ke.1.1.1.2.2.1 ke.1.1.1.2.1 hL20).mono ?_
    rintro e wf ⟨rfl, hb⟩
    have kf := ke.below hb
    clear ke hb
    go_wp2_with fail
    refine (specRowText_any u1 L wf kf.1.1.1.2.1 hL20).mono ?_
    rintro e wg ⟨rfl, hb⟩
    have kg := kf.below hb
    clear kf hb hbb
    have hyB := blankV_yes n g
    have hyC := clearedV_yes M f t z
    have hyW := writtenV_yes L p r s
    generalize blankV n g = V at *
    generalize clearedV M f t z = Y at *
    generalize writtenV L p r s = X at *
    generalize rowTextV L = tL at *
    generalize rowOkB L = bL at *
    rcases hyB with hV0 | ⟨hV0, hV60, hVok, hVt⟩
    case' _ =>
      obtain ⟨ab, cb, hbv, _⟩ := id kg.2.2
      rw [hV0] at hbv
      subst hbv
      have k3 := kg.1
      clear kg hlb hV0
    rotate_left
    case' _ =>
      obtain ⟨ab, cb, hbv, _⟩ := id kg.2.2
      subst hbv
      have hVi : (0 : Int) < (V.length : Int) := by omega
      have hR1 := implRowOk_any (.slice ab V.length cb) V wg kg.1.1.1.2.2.1 kg.2.2 (by omega)
      rw [hVok] at hR1
      have hT1 := fun W h h2 => implRowText_any (.slice ab V.length cb) V W h h2 (by omega)
      rw [hVt] at hT1
      have hVl : Hid (V.length ≤ 60) := hV60
      clear hlb hV0 hV60 hVok hVt
      generalize V.length = nb at *
      go_wp2_with fail
      refine hR1.mono ?_
      clear hR1
      rintro e wh ⟨rfl, hb⟩
      have kh := kg.below hb
      clear kg hb
      go_wp2_with fail
      refine (hT1 _ kh.1.1.1.2.2.1 kh.2.2).mono ?_
      clear hT1
      rintro e wi ⟨rfl, hb⟩
      have k3 := kh.1.below hb
      clear kh hb hVl
    all_goals
      rcases hyC with hY0 | ⟨a, c, ef, et, hac, hcM, hM1, hM60, hYl, hYok, hbl, hag⟩
      case' _ =>
        obtain ⟨ay, cy, hyv, _⟩ := id k3.2.2
        rw [hY0] at hyv
        subst hyv
        have k4 := k3.1
        clear k3 hY0 hly hM hM20
      rotate_left
      case' _ =>
        subst ef et
        obtain ⟨ay, cy, hyv, _⟩ := id k3.2.2
        rw [hYl] at hyv
        subst hyv
        obtain ⟨au, cu, huv, _⟩ := id k3.2.1.2.1
        subst huv
        have hRy := fun W h hv => implRowOk_any (.slice ay M.length cy) Y W h hv (by omega)
        rw [hYok] at hRy
        have hCy := fun W h hv => implCleared_any (.slice ay M.length cy) Y a c z W h hv (by omega)
        rw [hag] at hCy
        unfold stV at hCy
        have hYl60 : Hid (Y.length ≤ 1073741824) := (show Y.length ≤ 1073741824 by omega)
        have hYc : Hid (c ≤ Y.length) := (show c ≤ Y.length by omega)
        clear hly hM hM20 hYok hag hYl
        generalize M.length = N2 at *
        have hN2i : (0 : Int) < (N2 : Int) := by omega
        have hcN : (c : Int) ≤ (N2 : Int) := by omega
        have heq : ∀ W, (Op.equalIn 10000 37 (.agg #[.int .i64 32, .int .i64 z.fore, .int .i64 z.back, .bool z.bold, .bool z.under, .bool z.turned, .int .i64 0]) (.agg #[.int .i64 32, .int .i64 z.fore, .int .i64 z.back, .bool z.bold, .bool z.under, .bool z.turned, .int .i64 0])).run Tryd.prog W = .ok true W := fun W => eq_ce (blankC z) W
        go_wp2
        go_loopw [16] (fun i wr => ∃ j : Nat, i = .int .i64 j ∧ a ≤ j ∧ j ≤ c ∧ K3 B6 B11 s z u1 x (.slice au N2 cu) (.slice ay N2 cy) L X M Y w0 wr) (fun i _ => c - (intOf i).toNat)
        case atStart => exact ⟨a, rfl, Nat.le_refl _, hac, k3⟩
        case' round =>
          clear k3
          obtain ⟨j, rfl, haj, hjc, k⟩ := hrel
          have hj0 : (0 : Int) ≤ (j : Int) := by omega
          by_cases hj : j < c
          · have hj1 : (j : Int) < (c : Int) := by omega
            have hj2 : (j : Int) < (N2 : Int) := by omega
            have hcell := hbl j haj hj
            have hjH : Hid (j < c) := hj
            obtain ⟨bb, off, rfl, hbb, hat⟩ := k.2.2.at j (by have := hYc.out; omega)
            rw [hcell] at hat
            obtain ⟨d0, d1, d2, d3, d4, d5, d6⟩ := hat
            simp only [blankC] at d0 d1 d2 d3 d4 d5 d6
            obtain ⟨_, ⟨c0, c1, c2, c3, c4⟩, _⟩ := id k.2.1.1
            have kd := k.below (bdr wr)
            clear hbl hcell hRy hCy hyW k
            go_wp2
            go_region
            go_wp2
            go_roundw
            case rel => exact ⟨j + 1, by go_num, by omega, hjH.out, kd⟩
            case measure => have := hjH.out; simp [intOf]; omega
          have hjn : j = c := Nat.le_antisymm hjc (Nat.le_of_not_lt hj)
          have hj1 : ¬ (j : Int) < (c : Int) := fun h => hj (Int.ofNat_lt.1 h)
          clear hbl heq hYc
          go_wp2_with fail
          refine (hRy _ k.2.1.2.2.1 k.2.2).mono ?_
          clear hRy
          rintro e wj ⟨rfl, hb⟩
          have kj := k.below hb
          clear k hb
          obtain ⟨_, ⟨c0, c1, c2, c3, c4⟩, _⟩ := id kj.2.1.1
          go_wp2_with fail
          refine (hCy _ kj.2.1.2.2.1 kj.2.2).mono ?_
          clear hCy
          rintro e wk ⟨y3, rfl, hoy, hb⟩
          have kk := kj.below hb
          have hy3 := SlC.of_own hoy
          clear kj hb hoy c0 c1 c2 c3 c4
          go_wp2_with fail
          refine (likeR_same y3 (.slice ay N2 cy) Y wk hy3 kk.2.2 hYl60.out).mono ?_
          rintro e wl ⟨rfl, nl, hw⟩
          have k4 := (kk.below (bdR wk nl)).1
          rw [← hw] at k4
          clear kk hy3 hw hYl60 hj1 hjn hN2i hcN hj0 haj hjc hM60
      all_goals
        rcases hyW with hX0 | ⟨q, ep, hw0, hq, hL1, hL60, hXl, hXok, hXr, hXs, hXo, hXw⟩
        · obtain ⟨ax, cx, hxv, _⟩ := id k4.2
          rw [hX0] at hxv
          subst hxv
          have hbz := k4.1.2.2.2
          clear k4 hX0
          go_wp2
          go_ret
          exact ⟨rfl, hbz⟩
        · subst ep
          obtain ⟨ax, cx, hxv, _⟩ := id k4.2
          rw [hXl] at hxv
          subst hxv
          obtain ⟨au1, cu1, hu1, _⟩ := id k4.1.2.1
          subst hu1
          have hwd := fun W => specWidth_any r W
          have hbd := widthV_bd r
          have HXl : Hid (X.length = L.length) := hXl
          clear hXl hlx hL hL20
          generalize hNN : L.length = N at *
          have HN : Hid (L.length = N) := hNN
          clear hNN
          generalize widthV r = W at *
          have hNz : ((N : Int) == 0) = false := beq_eq_false_iff_ne.2 (by omega)
          obtain ⟨bx, offx, hax, _⟩ := k4.2.src (by rw [HXl.out]; omega)
          subst hax
          obtain ⟨bu1, offu1, hau, _⟩ := k4.1.2.1.src (by rw [HN.out]; omega)
          subst hau
          go_wp2_with fail
          refine (hwd _).mono ?_
          clear hwd
          rintro e wm ⟨rfl, hw⟩
          have k5 : K4 B6 s (.slice (some ⟨bu1, offu1, none⟩) N cu1) (.slice (some ⟨bx, offx, none⟩) N cx) L X w0 wm := by rw [hw]; exact k4
          clear k4 hw
          have hq1 : IntKind.i64.wrap ((q : Int) - 1) = (q : Int) - 1 := by simp [IntKind.wrap_i64]; omega
          have hq2 : IntKind.i64.wrap ((q : Int) + W) = (q : Int) + W := by simp [IntKind.wrap_i64]; omega
          have hqW : (q : Int) + W ≤ (N : Int) := by omega
          have hXo2 : Hid (∀ i : Nat, ((i : Int) < (q : Int) - 1 ∨ (q : Int) + W < (i : Int)) → atC X i = atC L i) := (show ∀ i : Nat, ((i : Int) < (q : Int) - 1 ∨ (q : Int) + W < (i : Int)) → atC X i = atC L i from fun i hi => hXo i (by omega))
          clear hXo
          go_wp2
          go_loopw [18] (fun i wr => ∃ j : Nat, i = .int .i64 j ∧ j ≤ N ∧ K4 B6 s (.slice (some ⟨bu1, offu1, none⟩) N cu1) (.slice (some ⟨bx, offx, none⟩) N cx) L X w0 wr) (fun i _ => N - (intOf i).toNat)
          case atStart => exact ⟨0, rfl, Nat.zero_le _, k5⟩
          case round =>
            clear k5
            obtain ⟨j, rfl, hjN, k⟩ := hrel
            have hj0 : (0 : Int) ≤ (j : Int) := by omega
            by_cases hj : j < N
            · have hj1 : (j : Int) < (N : Int) := by omega
              have hjH : Hid (j < N) := hj
              obtain ⟨_, _, e1, hx⟩ := k.2.src (by rw [HXl.out]; omega)
              cases e1
              obtain ⟨_, _, e2, hu⟩ := k.1.2.1.src (by rw [HN.out]; omega)
              cases e2
              have hcx := hx j (by rw [HXl.out]; exact hj)
              have hcu := hu j (by rw [HN.out]; exact hj)
              have kd := k.below (bdr wr)
              have hXoj := hXo2.out j
              clear hx hu hXw hXr hXs hXok hXo2
              by_cases g1 : (j : Int) < (q : Int) - 1
              · rw [hXoj (.inl g1)] at hcx
                clear hXoj
                generalize atC L j = cj at *
                obtain ⟨d0, d1, d2, d3, d4, d5, d6⟩ := hcx
                obtain ⟨e0, e1, e2, e3, e4, e5, e6⟩ := hcu
                clear k
                go_wp2
                go_region
                go_wp2
                go_roundw
                case rel => exact ⟨j + 1, by go_num, hjH.out, kd⟩
                case measure => have := hjH.out; simp [intOf]; omega
              · by_cases g2 : (q : Int) + W < (j : Int)
                · rw [hXoj (.inr g2)] at hcx
                  clear hXoj
                  generalize atC L j = cj at *
                  obtain ⟨d0, d1, d2, d3, d4, d5, d6⟩ := hcx
                  obtain ⟨e0, e1, e2, e3, e4, e5, e6⟩ := hcu
                  clear k
                  go_wp2
                  go_region
                  go_wp2
                  go_roundw
                  case rel => exact ⟨j + 1, by go_num, hjH.out, kd⟩
                  case measure => have := hjH.out; simp [intOf]; omega
                · clear hXoj hcx hcu kd
                  go_wp2
                  go_roundw
                  case rel => exact ⟨j + 1, by go_num, hjH.out, k⟩
                  case measure => have := hjH.out; simp [intOf]; omega
            · have hj1 : ¬ (j : Int) < (N : Int) := by omega
              have hqN : q < N := by omega
              have hqNi : (q : Int) < (N : Int) := by omega
              have hq0 : (0 : Int) ≤ (q : Int) := by omega
              have hS0 := K4.all HXl.out hqN hXr hXs (k.below (bdr wr))
              have hS1 := K4.all HXl.out hqN hXr hXs k
              clear hXo2 k hS1
              go_wp2
              go_region_held3 (fun W => (W.cell? ⟨bx, offx + q * 7, none⟩ = some (.int .i64 r) ∧ W.cell? ⟨bx, offx + q * 7 + 1, none⟩ = some (.int .i64 s.fore) ∧ W.cell? ⟨bx, offx + q * 7 + 2, none⟩ = some (.int .i64 s.back) ∧ W.cell? ⟨bx, offx + q * 7 + 3, none⟩ = some (.bool s.bold) ∧ W.cell? ⟨bx, offx + q * 7 + 4, none⟩ = some (.bool s.under) ∧ W.cell? ⟨bx, offx + q * 7 + 5, none⟩ = some (.bool s.turned) ∧ W.cell? ⟨B6, 0, none⟩ = some (.int .i64 s.fore) ∧ W.cell? ⟨B6, 1, none⟩ = some (.int .i64 s.back) ∧ W.cell? ⟨B6, 2, none⟩ = some (.bool s.bold) ∧ W.cell? ⟨B6, 3, none⟩ = some (.bool s.under) ∧ W.cell? ⟨B6, 4, none⟩ = some (.bool s.turned) ∧ K4 B6 s (.slice (some ⟨bu1, offu1, none⟩) N cu1) (.slice (some ⟨bx, offx, none⟩) N cx) L X w0 W)) (first | with_reducible assumption)
                (first
                  | (go_at_call 15; refine (like_k4 B6 s _ bx offx N cx q r L X w0 _ HXl.out hqN hXr hXs hL60 v5 hv5 (by with_reducible assumption)).mono ?_; rintro e w9 ⟨rfl, hk9⟩)
                  | (go_at_call 10; refine (written_k4 B6 s _ bx offx N cx q r L X w0 _ HXl.out hqN hXr hXs hXw hL60 (by with_reducible assumption)).mono ?_; rintro e w8 ⟨v5, rfl, hv5, hk8⟩)
                  | (go_at_call 19; refine (rowok_k4 B6 s _ bx offx N cx q r L X w0 _ HXl.out hqN hXr hXs hXok hL60 (by with_reducible assumption)).mono ?_; rintro e w7 ⟨rfl, hk7⟩))
              go_wp2
              go_ret
              exact ⟨rfl, hk9.2.2.2.2.2.2.2.2.2.2.2.1.2.2.2⟩
  · have hbig : decide (4096 < (len : Int)) = true := by simp; omega
    clear hr
    go_enter Tryd.func3, Tryd.ntmps3
    go_wp2_with fail
    refine (big_a va len cap _).mono ?_
    rw [hbig]
    rintro e w0 ⟨rfl, hw0⟩
    subst hw0
    go_wp2
    go_ret
    exact ⟨rfl, Below.refl _ _⟩
end Go.Proofs.YteimcepkoclpbaaDoor
