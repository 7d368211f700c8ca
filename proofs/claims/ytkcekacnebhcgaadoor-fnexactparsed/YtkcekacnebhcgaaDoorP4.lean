/- A parser's block with its lists and its actions: one predicate, and what the laws' helpers make of it. The walk of the exact law of ParserOk. The walk of the exact law of Parsed. -/
import Derived.Test.YtkcekacnebhcgaaDoorP3
import Derived.Deep.RegionHeld3
namespace Go.Proofs.YtkcekacnebhcgaaDoor
open Go.ChangeShapes Go.WideShapes Go.ChangeAt Go.RowKit
/-- Sizes of what is answered. -/
def Bd (T : Pa × List Ac) : Prop := T.1.params.length ≤ 16 ∧ T.1.text.length ≤ 40 ∧ T.2.length ≤ 2000 ∧ ∀ a ∈ T.2, a.params.length ≤ 16 ∧ a.text.length ≤ 40
theorem bd_zero : Bd (paZ, []) := ⟨Nat.zero_le _, Nat.zero_le _, Nat.zero_le _, fun _ h => absurd h (List.not_mem_nil)⟩
theorem parsedA_bd (p : Pa) (l : List Int) : Bd (parsedA p l) := by
  unfold parsedA
  split
  · rename_i h
    rw [Bool.and_eq_true, Bool.and_eq_true, decide_eq_true_eq] at h
    have hp := okV_pb h.1.1
    have h1 := parsed_pb p l hp
    have h2 := parsed_told p l hp
    exact ⟨h1.2.1, h1.2.2, by have := h2.1; omega, h2.2⟩
  · exact bd_zero
theorem sumX_bd (X : List Ax) (h : ∀ x ∈ X, x.a.params.length ≤ 16 ∧ x.a.text.length ≤ 40) : sumX X ≤ X.length * 59 := by
  induction X with
  | nil => simp [sumX]
  | cons x X ih =>
    have h1 := h x (List.mem_cons_self)
    have h2 := ih (fun y hy => h y (List.mem_cons_of_mem _ hy))
    simp only [sumX, nX, List.length_cons]
    omega
theorem GrV.of_grown {u : Value} {w w' : World} (h : w.grownBy w' u.ownBlock) : GrV u u w w' := ⟨h.os, h.tape, h.output, h.size, fun k hk h1 _ => h.block k hk (fun e => h1 e.symm)⟩
/-- A parser's block, its lists, and actions with theirs: all of one call's own. -/
def GOk (W : World) (B base : Nat) (s m : Int) (u v av : Value) (ps ts : List Int) (X : List Ax) : Prop :=
  PbB W B s u m v ∧ OwnX W base av X ∧ LiOk W base ((u, ps) :: (v, ts) :: axLs X) ∧ base ≤ B
theorem GOk.below {W W' : World} {B base : Nat} {s m : Int} {u v av : Value} {ps ts : List Int} {X : List Ax} (h : GOk W B base s m u v av ps ts X) (hb : Below W.heap.size W W') : GOk W' B base s m u v av ps ts X :=
  ⟨h.1.below hb, h.2.1.below hb, h.2.2.1.below hb, h.2.2.2⟩
theorem GOk.new {w : World} {base : Nat} {s m : Int} {u v av : Value} {ps ts : List Int} {X : List Ax} (h : OwnX w base av X) (hL : LiOk w base ((u, ps) :: (v, ts) :: axLs X)) (hb : base ≤ w.heap.size) : GOk (w.alloc (.cells #[.int .i64 s, u, .int .i64 m, v] 26)) w.heap.size base s m u v av ps ts X :=
  ⟨PbB.new w s m u v, h.below (bal' w _), hL.below (bal' w _), hb⟩
theorem GOk.new0 {w : World} {base : Nat} {s m : Int} {u v : Value} {ps ts : List Int} (hL : LiOk w base [(u, ps), (v, ts)]) (hb : base ≤ w.heap.size) : GOk (w.alloc (.cells #[.int .i64 s, u, .int .i64 m, v] 26)) w.heap.size base s m u v (.slice none 0 0) ps ts [] :=
  GOk.new (ownX_nil _ _) hL hb
theorem GOk.grv {W W' : World} {B base : Nat} {s m : Int} {u v av a b : Value} {ps ts : List Int} {X : List Ax} (h : GOk W B base s m u v av ps ts X) (hg : GrV a b W W') (ha : ∀ g, a.ownBlock = some g → g < base) (hb : ∀ g, b.ownBlock = some g → g < base) : GOk W' B base s m u v av ps ts X :=
  ⟨h.1.grv hg (fun e => by have := ha _ e; have := h.2.2.2; omega) (fun e => by have := hb _ e; have := h.2.2.2; omega), h.2.1.grv hg ha hb, h.2.2.1.grv hg ha hb, h.2.2.2⟩
theorem GOk.head {W : World} {B base : Nat} {s m : Int} {u v av : Value} {ps ts : List Int} {X : List Ax} (h : GOk W B base s m u v av ps ts X) : OwnI W base u ps := h.2.2.1.head
theorem GOk.snd {W : World} {B base : Nat} {s m : Int} {u v av : Value} {ps ts : List Int} {X : List Ax} (h : GOk W B base s m u v av ps ts X) : OwnI W base v ts := h.2.2.1.tail.head
theorem GOk.eqP {W : World} {B1 b1 B2 b2 : Nat} {s m : Int} {u1 v1 a1 u2 v2 a2 : Value} {ps ts : List Int} {X1 X2 : List Ax} (h1 : GOk W B1 b1 s m u1 v1 a1 ps ts X1) (h2 : GOk W B2 b2 s m u2 v2 a2 ps ts X2) (hp : ps.length ≤ 1073741824) (ht : ts.length ≤ 1073741824) :
    Calls Tryd.prog 21 #[.agg #[.int .i64 s, u1, .int .i64 m, v1], .agg #[.int .i64 s, u2, .int .i64 m, v2]] W fun e w' => e = .returned (.bool true) ∧ Below W.heap.size W w' :=
  eqParser_same ⟨s, ps, m, ts⟩ u1 v1 u2 v2 W h1.head.sl h1.snd.sl h2.head.sl h2.snd.sl hp ht
theorem GOk.eqA {W : World} {B1 b1 B2 b2 : Nat} {s m s2 m2 : Int} {u1 v1 a1 u2 v2 a2 : Value} {ps ts ps2 ts2 : List Int} {X1 X2 : List Ax} (h1 : GOk W B1 b1 s m u1 v1 a1 ps ts X1) (h2 : GOk W B2 b2 s2 m2 u2 v2 a2 ps2 ts2 X2) (he : X1.map (·.a) = X2.map (·.a)) (hl : X1.length ≤ 1073741824) (hb : ∀ x ∈ X1, x.a.params.length ≤ 16 ∧ x.a.text.length ≤ 40) :
    Calls Tryd.prog 22 #[a1, a2] W fun e w' => e = .returned (.bool true) ∧ Below W.heap.size W w' :=
  eqActionS_same b1 b2 a1 a2 X1 X2 [] [] W h1.2.1 h2.2.1 (by rw [List.append_nil]; exact h1.2.2.1.tail.tail) (by rw [List.append_nil]; exact h2.2.2.1.tail.tail) he hl (fun x hx => by have := hb x hx; omega)
theorem GOk.markP {W : World} {B base : Nat} {s m : Int} {u v av : Value} {ps ts : List Int} {X : List Ax} (h : GOk W B base s m u v av ps ts X) (hp : ps.length ≤ 1048576) (ht : ts.length ≤ 1048576) :
    Calls Tryd.prog 23 #[.agg #[.int .i64 s, u, .int .i64 m, v], .int .i64 1] W fun e w' => e = .returned (.int .i64 ((1 + ps.length + ts.length : Nat) : Int)) ∧ GOk w' B base s m u v av (marksI 1 ps.length) (marksI ((1 + ps.length : Nat) : Int) ts.length) X ∧ GrV u v W w' := by
  refine (markParser_own ⟨s, ps, m, ts⟩ u v 1 base (axLs X) W h.2.2.1 (Nat.le_trans h.2.2.2 (Nat.le_of_lt h.1.lt)) (by decide) hp ht).mono ?_
  rintro e w' ⟨he, hL, hG⟩
  exact ⟨he, ⟨h.1.grv hG (h.head.not_block h.1 (by decide)) (h.snd.not_block h.1 (by decide)), h.2.1.grvOwn hG h.head h.snd, hL, h.2.2.2⟩, hG⟩
theorem GOk.markA {W : World} {B base : Nat} {s m : Int} {u v av : Value} {ps ts : List Int} {X : List Ax} (h : GOk W B base s m u v av ps ts X) (k : Nat) (hk : k + sumX X ≤ 1048576) (hl : X.length ≤ 1048576) :
    Calls Tryd.prog 24 #[av, .int .i64 k] W fun e w' => e = .returned (.int .i64 ((k + sumX X : Nat) : Int)) ∧ GOk w' B base s m u v av ps ts (markX k X) ∧ Below base W w' := by
  refine (markActionS_own base av X [(u, ps), (v, ts)] k W h.2.1 (h.2.2.1.perm (by exact (List.perm_append_comm (l₁ := [(u, ps), (v, ts)]) (l₂ := axLs X)))) hk hl).mono ?_
  rintro e w' ⟨he, hO, hL, hB, hP⟩
  exact ⟨he, ⟨hP _ _ _ _ _ h.1, hO, hL.perm (by exact (List.perm_append_comm (l₁ := axLs (markX k X)) (l₂ := [(u, ps), (v, ts)]))), h.2.2.2⟩, hB⟩
theorem GOk.heldP {W : World} {B base : Nat} {s m : Int} {u v av : Value} {n m2 : Nat} {X : List Ax} (h : GOk W B base s m u v av (marksI 1 n) (marksI ((1 + n : Nat) : Int) m2) X) (hn : n ≤ 1048576) (hm : m2 ≤ 1048576) :
    Calls Tryd.prog 25 #[.agg #[.int .i64 s, u, .int .i64 m, v], .int .i64 1] W fun e w' => e = .returned (.int .i64 ((1 + n + m2 : Nat) : Int)) ∧ Below W.heap.size W w' :=
  heldParser_marks ⟨s, marksI 1 n, m, marksI ((1 + n : Nat) : Int) m2⟩ u v 1 n m2 W h.head.sl h.snd.sl rfl rfl (by decide) hn hm
theorem GOk.heldA {W : World} {B base : Nat} {s m : Int} {u v av : Value} {ps ts : List Int} {Y : List Ax} (k : Nat) (h : GOk W B base s m u v av ps ts (markX k Y)) (hk : k + sumX Y ≤ 1048576) (hl : Y.length ≤ 1048576) :
    Calls Tryd.prog 26 #[av, .int .i64 k] W fun e w' => e = .returned (.int .i64 ((k + sumX Y : Nat) : Int)) ∧ Below W.heap.size W w' := by
  refine (heldActionS_marks base av Y [(u, ps), (v, ts)] k W h.2.1 (h.2.2.1.perm (by exact (List.perm_append_comm (l₁ := [(u, ps), (v, ts)]) (l₂ := axLs (markX k Y))))) hk hl).mono ?_
  rintro e w' ⟨he, rfl⟩
  exact ⟨he, Below.refl _ _⟩
end Go.Proofs.YtkcekacnebhcgaaDoor
namespace Go.Proofs.YtkcekacnebhcgaaDoor
open Go.ChangeShapes Go.WideShapes Go.ChangeAt Go.RowKit
theorem szP_neg {n m left : Nat} (h : szP n m left < 0) : szP n m left = -1 := by
  unfold szP at *
  by_cases h1 : left < n
  · rw [if_pos h1]
  · rw [if_neg h1] at h ⊢
    by_cases h2 : left - n < m
    · rw [if_pos h2]
    · rw [if_neg h2] at h; omega
theorem szP_fit {n m left : Nat} (h : ¬ szP n m left < 0) : n ≤ left ∧ m ≤ left := by
  unfold szP at h
  split at h
  · exact absurd (by decide) h
  · split at h
    · exact absurd (by decide) h
    · omega
end Go.Proofs.YtkcekacnebhcgaaDoor
namespace Go.Proofs.YtkcekacnebhcgaaDoor
open Go.ChangeShapes Go.WideShapes Go.ChangeAt Go.RowKit
set_option maxHeartbeats 8000000 in
set_option maxRecDepth 20000 in
theorem walk_FnExactParsed (w : World) (hS : SpansAt w) (p : Pa) (pv tv : Value) (hp : SlN w pv p.params) (ht : SlN w tv p.text) (hpl : p.params.length ≤ maxLen) (htl : p.text.length ≤ maxLen) (a : Option Addr) (len cap : Nat) (zs : List Int) (hr : IsRow .i64 w a len cap zs) :
    Calls Tryd.prog 5 #[paV p pv tv, .slice a len cap] w fun e w' => e = .returned (.bool true) ∧ Below w.heap.size w w' := by
  have hz := fun W h1 h2 => szParser_any p pv tv 1048576 W h1 h2 hpl htl (by decide)
  have hbA := bal' w (Obj.cells #[.int .i64 p.state, pv, .int .i64 p.mark, tv] 40)
  have hGA := PaC.new w p.state p.mark pv tv 40
  have hpA := hp.below hbA
  have htA := ht.below hbA
  obtain ⟨pa, pc, hpv⟩ := hp.shp
  obtain ⟨ta, tc, htv⟩ := ht.shp
  subst hpv; subst htv
  obtain ⟨_, ⟨c0, c1, c2, c3⟩, _⟩ := id hGA
  obtain ⟨hlv, hlen⟩ := SlI.of_row hr
  clear hr
  generalize zs.take len = l at *
  by_cases hLL : (len : Int) ≤ 1048576
  case neg =>
    have hgt : (1048576 : Int) < (len : Int) := by omega
    unfold paV
    clear hz hGA hpA htA hp ht hlv hlen c0 c1 c2 c3
    go_enter Tryd.func5, Tryd.ntmps5
    go_wp2
    go_ret
    exact ⟨rfl, hbA⟩
  have hll : l.length ≤ 1048576 := by omega
  have hngt : ¬ (1048576 : Int) < (len : Int) := by omega
  clear hlen hLL
  by_cases hL : szP p.params.length p.text.length 1048576 < 0
  · have hzv : Hid (szP p.params.length p.text.length 1048576 = -1) := szP_neg hL
    have hz2 := hz _ hpA.l.sl htA.l.sl
    unfold paV at *
    clear hz hGA hpA htA hp ht hlv
    generalize szP p.params.length p.text.length 1048576 = z at *
    go_enter Tryd.func5, Tryd.ntmps5
    go_wp2_with fail
    refine hz2.mono ?_
    rintro e w1 ⟨rfl, hb⟩
    go_wp2
    go_ret
    exact ⟨rfl, hbA.trans (hb.mono hbA.size)⟩
  · obtain ⟨hl1, hl2⟩ := szP_fit hL
    have hz2 := hz _ hpA.l.sl htA.l.sl
    have hto := fun W h1 h2 => toParser_copy p (.slice pa p.params.length pc) (.slice ta p.text.length tc) W h1 h2 (by omega) (by omega)
    obtain ⟨T, hT⟩ : ∃ T, Hid (parsedA p l = T) := ⟨_, rfl⟩
    have hBd : Bd T := hT.out ▸ parsedA_bd p l
    have htl1 := fun W h => toI_copy (.slice a len cap) l W h (by omega)
    have hsp : ∀ a b c W, SlN W a p.params → SlN W b p.text → SlN W c l → Calls Tryd.prog 16 #[paV p a b, c] W fun e w' => Ans W w' e T := fun a b c W h1 h2 h3 => hT.out ▸ specParsed_any p a b c l W h1 h2 h3 (by omega) (by omega) (by omega)
    have him : ∀ a b c W, SpansAt W → SlN W a p.params → SlN W b p.text → SlN W c l → Calls Tryd.prog 10 #[paV p a b, c] W fun e w' => Ans W w' e T := fun a b c W hS h1 h2 h3 => hT.out ▸ implParsed_any p a b c l W h1 h2 h3 (by omega) (by omega) (by omega) hS
    have heP := fun a b a2 b2 W h1 h2 h3 h4 => eqParser_same p a b a2 b2 W h1 h2 h3 h4 (by omega) (by omega)
    clear hT
    obtain ⟨⟨s2, P2, m2, t2⟩, A2⟩ := T
    obtain ⟨hB1, hB2, hB3, hB4⟩ := hBd
    unfold Ans at hsp him
    unfold paV at *
    simp only at hB1 hB2 hB3 hB4 hsp him
    have hpl : p.params.length ≤ 1048576 := hl1
    have htl : p.text.length ≤ 1048576 := hl2
    clear hz hl1 hl2
    generalize szP p.params.length p.text.length 1048576 = z at *
    go_enter Tryd.func5, Tryd.ntmps5
    go_wp2_with fail
    refine hz2.mono ?_
    rintro e w1 ⟨rfl, hb⟩
    have hb1 := hbA.trans (hb.mono hbA.size)
    have hG1 := hGA.below hb
    clear hbA hGA hpA htA hb c0 c1 c2 c3 hz2
    obtain ⟨_, ⟨c0, c1, c2, c3⟩, _⟩ := id hG1
    go_wp2_with fail
    refine (hto _ (hp.below hb1).l.sl (ht.below hb1).l.sl).mono ?_
    rintro e w2 ⟨u, v, rfl, ho, hb⟩
    have hb2 := hb1.trans (hb.mono hb1.size)
    have hG2 := hG1.below hb
    obtain ⟨ua, un, uc, hu⟩ := ho.head.shape
    obtain ⟨va, vn, vc, hv⟩ := ho.tail.head.shape
    simp only at hu hv
    subst hu; subst hv
    clear hb1 hG1 hb c0 c1 c2 c3
    go_wp2_with fail
    refine (htl1 _ (hlv.below hb2)).mono ?_
    rintro e w2b ⟨lc, rfl, hol, hb⟩
    replace hb2 := hb2.trans (hb.mono hb2.size)
    replace hG2 := hG2.below hb
    replace ho := ho.below hb
    obtain ⟨la, ln, lcc, hu⟩ := OwnI.shape hol
    subst hu
    clear hb
    go_wp2_with fail
    refine (hsp _ _ _ _ (SlN.of_own ho.head) (SlN.of_own ho.tail.head) (SlN.of_own hol)).mono ?_
    rintro e w3 ⟨u6, v6, a6, rfl, ⟨X6, hX6, hO6, hL6⟩, hb⟩
    subst hX6
    have hb3 := hb2.trans (hb.mono hb2.size)
    have hG3 := hG2.below hb
    obtain ⟨u6a, u6n, u6c, hu⟩ := hL6.head.shape
    obtain ⟨v6a, v6n, v6c, hv⟩ := hL6.tail.head.shape
    obtain ⟨a6a, a6c, ha⟩ := hO6.shape
    simp only at hu hv
    subst hu; subst hv; subst ha
    have hal := bal' w3 (Obj.cells #[.int .i64 s2, .slice u6a u6n u6c, .int .i64 m2, .slice v6a v6n v6c] 26)
    have g6 := GOk.new (s := s2) (m := m2) hO6 hL6 hb.size
    have kb5 := hb3.trans (hal.mono hb3.size)
    have hG5 := hG3.below hal
    clear hb2 hG2 hb ho hb3 hG3 hal hO6 hL6 hol
    obtain ⟨_, ⟨c0, c1, c2, c3⟩, _⟩ := id hG5
    go_wp2_with fail
    refine (hto _ (hp.below kb5).l.sl (ht.below kb5).l.sl).mono ?_
    rintro e w4 ⟨x, y, rfl, ho, hb⟩
    clear c0 c1 c2 c3
    obtain ⟨W5, hW5⟩ : ∃ W5, W5 = w3.alloc (Obj.cells #[.int .i64 s2, .slice u6a u6n u6c, .int .i64 m2, .slice v6a v6n v6c] 26) := ⟨_, rfl⟩
    rw [← hW5] at g6 kb5 hG5 ho hb
    clear hW5
    obtain ⟨xa, xn, xc, hu⟩ := ho.head.shape
    obtain ⟨ya, yn, yc, hv⟩ := ho.tail.head.shape
    simp only at hu hv
    subst hu; subst hv
    have hal := bal' w4 (Obj.cells #[.int .i64 p.state, .slice xa xn xc, .int .i64 p.mark, .slice ya yn yc] 26)
    have g8 := GOk.new0 (s := p.state) (m := p.mark) ho hb.size
    have k6 := hb.trans (hal.mono hb.size)
    clear ho hb hal
    have hx6 := fun g h => (g8.head.lt g h).2
    have hy6 := fun g h => (g8.snd.lt g h).2
    have hs6 := k6.size
    go_wp2_with fail
    refine (htl1 _ (hlv.below (kb5.trans (k6.mono kb5.size)))).mono ?_
    rintro e w6 ⟨xl, rfl, hol, hb⟩
    obtain ⟨la, ln, lcc, hu⟩ := OwnI.shape hol
    subst hu
    replace k6 := k6.trans (hb.mono k6.size)
    replace g8 := g8.below hb
    obtain ⟨N6, hN6⟩ : ∃ N6, N6 = (w4.alloc (Obj.cells #[.int .i64 p.state, .slice xa xn xc, .int .i64 p.mark, .slice ya yn yc] 26)).heap.size := ⟨_, rfl⟩
    replace hol : OwnI w6 N6 (.slice la ln lcc) l := by rw [hN6]; exact hol
    rw [← hN6] at hx6 hy6 hs6
    have hlW5 : ∀ g, (Value.slice la ln lcc).ownBlock = some g → W5.heap.size ≤ g := fun g h => Nat.le_trans hs6 (hol.lt g h).1
    have hl8 := fun g h => (hol.lt g h).2
    clear hb hN6
    obtain ⟨d0, d1, d2, d3⟩ := g8.1.cells
    have hx8 := fun g h => (g8.head.lt g h).2
    have hy8 := fun g h => (g8.snd.lt g h).2
    go_wp2_with fail
    refine (him _ _ _ _ (hS.below (kb5.trans (k6.mono kb5.size)) hS.lt) (SlN.of_own g8.head) (SlN.of_own g8.snd) (SlN.of_own hol)).mono ?_
    rintro e w7 ⟨u9, v9, a9, rfl, ⟨X9, hX9, hO9, hL9⟩, hb⟩
    replace hX9 := (show Hid _ from hX9)
    clear d0 d1 d2 d3
    have hb9 := k6.size
    have hXl : X9.length ≤ 2000 := by have h := congrArg List.length hX9.out; rw [List.length_map, List.length_map] at h; rw [List.length_map] at hB3; omega
    have hXb : ∀ x ∈ X9, x.a.params.length ≤ 16 ∧ x.a.text.length ≤ 40 := fun x hx => hB4 _ (by rw [← hX9.out]; exact List.mem_map_of_mem hx)
    have hsX : sumX X9 ≤ 118000 := by have := sumX_bd X9 hXb; omega
    clear hB3 hB4
    obtain ⟨u9a, u9n, u9c, hu⟩ := hL9.head.shape
    obtain ⟨v9a, v9n, v9c, hv⟩ := hL9.tail.head.shape
    obtain ⟨a9a, a9c, ha⟩ := hO9.shape
    simp only at hu hv
    subst hu; subst hv; subst ha
    have hal := bal' w7 (Obj.cells #[.int .i64 s2, .slice u9a u9n u9c, .int .i64 m2, .slice v9a v9n v9c] 26)
    have g9 := GOk.new (s := s2) (m := m2) hO9 hL9 hb.size
    have hbb := hb.trans (hal.mono hb.size)
    have k7 := k6.trans (hbb.mono k6.size)
    replace g8 := g8.below hbb
    replace hol := OwnI.below hol hbb
    clear hal hb hbb hO9 hL9 k6
    obtain ⟨d0, d1, d2, d3⟩ := g9.1.cells
    obtain ⟨e0, e1, e2, e3⟩ := (g6.below k7).1.cells
    go_wp2_with fail
    refine (GOk.eqP g9 (g6.below k7) (by omega) (by omega)).mono ?_
    rintro e w8 ⟨rfl, hb⟩
    have k8 := k7.trans (hb.mono k7.size)
    replace g8 := g8.below hb
    replace g9 := g9.below hb
    replace hol := OwnI.below hol hb
    clear hb d0 d1 d2 d3 e0 e1 e2 e3 k7
    go_wp2_with fail
    refine (GOk.eqA g9 (g6.below k8) hX9.out (by omega) hXb).mono ?_
    rintro e w9 ⟨rfl, hb⟩
    have k9 := k8.trans (hb.mono k8.size)
    replace g8 := g8.below hb
    replace g9 := g9.below hb
    replace hol := OwnI.below hol hb
    clear hb k8
    have hG9 := hG5.below k9
    have hall : ∀ W, Below w9.heap.size w9 W → W.cell? ⟨w.heap.size, 0, none⟩ = some (.int .i64 p.state) ∧ W.cell? ⟨w.heap.size, 1, none⟩ = some (.slice pa p.params.length pc) ∧ W.cell? ⟨w.heap.size, 2, none⟩ = some (.int .i64 p.mark) ∧ W.cell? ⟨w.heap.size, 3, none⟩ = some (.slice ta p.text.length tc) ∧ W.cell? ⟨w4.heap.size, 0, none⟩ = some (.int .i64 p.state) ∧ W.cell? ⟨w4.heap.size, 1, none⟩ = some (.slice xa xn xc) ∧ W.cell? ⟨w4.heap.size, 2, none⟩ = some (.int .i64 p.mark) ∧ W.cell? ⟨w4.heap.size, 3, none⟩ = some (.slice ya yn yc) ∧ Below w9.heap.size w9 W :=
      fun W h => ⟨(hG9.below h).2.1.1, (hG9.below h).2.1.2.1, (hG9.below h).2.1.2.2.1, (hG9.below h).2.1.2.2.2, (g8.below h).1.cells.1, (g8.below h).1.cells.2.1, (g8.below h).1.cells.2.2.1, (g8.below h).1.cells.2.2.2, h⟩
    have hkd := hall _ (bdr w9)
    have kw9 := kb5.trans (k9.mono kb5.size)
    go_wp2
    go_region_held3 (fun W => W.cell? ⟨w.heap.size, 0, none⟩ = some (.int .i64 p.state) ∧ W.cell? ⟨w.heap.size, 1, none⟩ = some (.slice pa p.params.length pc) ∧ W.cell? ⟨w.heap.size, 2, none⟩ = some (.int .i64 p.mark) ∧ W.cell? ⟨w.heap.size, 3, none⟩ = some (.slice ta p.text.length tc) ∧ W.cell? ⟨w4.heap.size, 0, none⟩ = some (.int .i64 p.state) ∧ W.cell? ⟨w4.heap.size, 1, none⟩ = some (.slice xa xn xc) ∧ W.cell? ⟨w4.heap.size, 2, none⟩ = some (.int .i64 p.mark) ∧ W.cell? ⟨w4.heap.size, 3, none⟩ = some (.slice ya yn yc) ∧ Below w9.heap.size w9 W) (first | with_reducible assumption)
      (first
        | (go_at_call 20; refine (hto _ (hp.below (kw9.trans ((bdr w9).mono kw9.size))).l.sl (ht.below (kw9.trans ((bdr w9).mono kw9.size))).l.sl).mono ?_; rintro e wa ⟨m1, m2, rfl, ho, hb⟩; have hka := hall _ ((bdr w9).trans (hb.mono (bdr w9).size)); have ho1 := ho.head.sl; have ho2 := ho.tail.head.sl; obtain ⟨ma, mn, mc, hu⟩ := ho.head.shape; obtain ⟨na, nn, nc, hv⟩ := ho.tail.head.shape; simp only at hu hv ho1 ho2; subst hu; subst hv)
        | (go_at_call 21; refine (heP _ _ _ _ _ (g8.below hka.2.2.2.2.2.2.2.2).head.sl (g8.below hka.2.2.2.2.2.2.2.2).snd.sl ho1 ho2).mono ?_; rintro e wb ⟨rfl, hb'⟩; have hkb := hall _ (hka.2.2.2.2.2.2.2.2.trans (hb'.mono hka.2.2.2.2.2.2.2.2.size))))
    have hbb := hkb.2.2.2.2.2.2.2.2
    have k10 := k9.trans (hbb.mono k9.size)
    replace g8 := g8.below hbb
    replace g9 := g9.below hbb
    replace hol := OwnI.below hol hbb
    clear hkb hka hall hkd kw9 hG9 k9 hb hb' ho ho1 ho2 hbb
    go_wp2_with fail
    refine (htl1 _ (hlv.below (kb5.trans (k10.mono kb5.size)))).mono ?_
    rintro e wc ⟨l2, rfl, hol2, hb⟩
    replace k10 := k10.trans (hb.mono k10.size)
    replace g8 := g8.below hb
    replace g9 := g9.below hb
    replace hol := OwnI.below hol hb
    obtain ⟨l2a, l2n, l2c, hu⟩ := OwnI.shape hol2
    subst hu
    clear hb
    go_wp2_with fail
    refine (eqI_same _ _ l _ (OwnI.sl hol) (OwnI.sl hol2) (by omega)).mono ?_
    rintro e wd ⟨rfl, nd, hwd⟩
    have hb : Below wc.heap.size wc wd := hwd ▸ drewN_bel _ nd
    replace k10 := k10.trans (hb.mono k10.size)
    replace g8 := g8.below hb
    replace g9 := g9.below hb
    replace hol := OwnI.below hol hb
    clear hb hwd hol2
    obtain ⟨d0, d1, d2, d3⟩ := g8.1.cells
    have hk := GOk.markP g8 (by omega) (by omega)
    obtain ⟨nk, hnk, hnk2⟩ : ∃ nk : Nat, Hid (1 + p.params.length + p.text.length = nk) ∧ nk ≤ 4194304 := ⟨_, rfl, by omega⟩
    rw [hnk.out] at hk
    go_wp2_with fail
    refine hk.mono ?_
    rintro e w13 ⟨rfl, g8m, hGr⟩
    have k13 := k10.trans (hGr.to_below (B := W5.heap.size) k10.size (fun g h => (g8.head.lt g h).1) (fun g h => (g8.snd.lt g h).1))
    replace g9 := g9.grv hGr hx8 hy8
    replace hol : OwnI w13 N6 (.slice la ln lcc) l := ownsRow_grv hol hGr (fun g h h' => by have := (OwnI.lt hol g h).1; have := hx6 g h'; omega) (fun g h h' => by have := (OwnI.lt hol g h).1; have := hy6 g h'; omega)
    have hnk3 : ¬ ((nk : Int) < 0) := by omega
    clear hk g8 g8m hGr d0 d1 d2 d3 hnk k10
    have hk := markI_own N6 _ (nk : Int) l.length _ w13 hol ⟨by omega, by omega⟩ (by omega)
    obtain ⟨nk', hnk'⟩ : ∃ nk' : Int, Hid ((nk : Int) + (l.length : Int) = nk') := ⟨_, rfl⟩
    have hnk3 : ¬ (nk' < 0) := by rw [← hnk'.out]; omega
    rw [hnk'.out] at hk
    go_wp2_with fail
    refine hk.mono ?_
    rintro e w13b ⟨rfl, _, hgr⟩
    have hGr := GrV.of_grown hgr
    replace k13 := k13.trans (hGr.to_below (B := W5.heap.size) k13.size hlW5 hlW5)
    replace g9 := g9.grv hGr hl8 hl8
    clear hk hGr hgr hol hnk' 
    obtain ⟨d0, d1, d2, d3⟩ := g9.1.cells
    obtain ⟨e0, e1, e2, e3⟩ := (g6.below k13).1.cells
    go_wp2_with fail
    refine (GOk.eqP g9 (g6.below k13) (by omega) (by omega)).mono ?_
    rintro e w14 ⟨rfl, hb⟩
    have k14 := k13.trans (hb.mono k13.size)
    replace g9 := g9.below hb
    clear hb d0 d1 d2 d3 e0 e1 e2 e3 k13
    go_wp2_with fail
    refine (GOk.eqA g9 (g6.below k14) hX9.out (by omega) hXb).mono ?_
    rintro e w15 ⟨rfl, hb⟩
    have k15 := k14.trans (hb.mono k14.size)
    replace g9 := g9.below hb
    clear hb k14
    obtain ⟨d0, d1, d2, d3⟩ := g9.1.cells
    have hm := GOk.markP g9 (by omega) (by omega)
    obtain ⟨n9, hn9, hn92⟩ : ∃ n9 : Nat, Hid (1 + P2.length + t2.length = n9) ∧ n9 ≤ 100 := ⟨_, rfl, by omega⟩
    rw [hn9.out] at hm
    go_wp2_with fail
    refine hm.mono ?_
    rintro e w17 ⟨rfl, g9m, hGr⟩
    have k17 := k15.trans (hGr.to_below (B := W5.heap.size) k15.size (fun g h => Nat.le_trans hb9 (g9.head.lt g h).1) (fun g h => Nat.le_trans hb9 (g9.snd.lt g h).1))
    clear hm g9 hGr d0 d1 d2 d3 k15 hnk3
    have hm := GOk.markA g9m n9 (by omega) (by omega)
    obtain ⟨n10, hn10, hn102⟩ : ∃ n10 : Nat, Hid (n9 + sumX X9 = n10) ∧ n10 ≤ 200000 := ⟨_, rfl, by omega⟩
    rw [hn10.out] at hm
    go_wp2_with fail
    refine hm.mono ?_
    rintro e w18 ⟨rfl, g9a, hbB⟩
    have k18 := k17.trans (hbB.mono hb9)
    clear hm g9m hbB k17
    have hn93 : ¬ ((n9 : Int) < 0) := by omega
    have hn103 : ¬ ((n10 : Int) < 0) := by omega
    have hh1 : ∀ W, Below w18.heap.size w18 W → Calls Tryd.prog 25 #[.agg #[.int .i64 s2, .slice u9a u9n u9c, .int .i64 m2, .slice v9a v9n v9c], .int .i64 1] W fun e w' => e = .returned (.int .i64 (n9 : Int)) ∧ Below W.heap.size W w' := fun W h => hn9.out ▸ GOk.heldP (g9a.below h) (by omega) (by omega)
    have hh2 : ∀ W, Below w18.heap.size w18 W → Calls Tryd.prog 26 #[.slice a9a X9.length a9c, .int .i64 n9] W fun e w' => e = .returned (.int .i64 (n10 : Int)) ∧ Below W.heap.size W w' := fun W h => hn10.out ▸ GOk.heldA n9 (g9a.below h) (by omega) (by omega)
    clear hn9 hn10
    obtain ⟨d0, d1, d2, d3⟩ := g9a.1.cells
    have k0 := Below.refl w18.heap.size w18
    go_wp2_with fail
    refine (hh1 _ k0).mono ?_
    rintro e w20 ⟨rfl, hb⟩
    have k20 := k0.trans (hb.mono k0.size)
    clear hb d0 d1 d2 d3 k0
    go_wp2_with fail
    refine (hh2 _ k20).mono ?_
    rintro e w23 ⟨rfl, hb⟩
    have k23 := k20.trans (hb.mono k20.size)
    clear hb k20
    have q23 := k18.trans (k23.mono k18.size)
    obtain ⟨_, ⟨c0, c1, c2, c3⟩, _⟩ := hG5.below q23
    have r23 := kb5.trans (q23.mono kb5.size)
    go_wp2_with fail
    refine (hto _ (hp.below r23).l.sl (ht.below r23).l.sl).mono ?_
    rintro e w28 ⟨x, y, rfl, ho, hb⟩
    have k28 := k23.trans (hb.mono k23.size)
    have q28 := q23.trans (hb.mono q23.size)
    have r28 := r23.trans (hb.mono r23.size)
    obtain ⟨x2a, x2n, x2c, hu⟩ := ho.head.shape
    obtain ⟨y2a, y2n, y2c, hv⟩ := ho.tail.head.shape
    simp only at hu hv
    subst hu; subst hv
    clear hb c0 c1 c2 c3 k23 q23 r23
    go_wp2_with fail
    refine (htl1 _ (hlv.below r28)).mono ?_
    rintro e w28b ⟨l2, rfl, hol2, hb⟩
    replace k28 := k28.trans (hb.mono k28.size)
    replace q28 := q28.trans (hb.mono q28.size)
    replace r28 := r28.trans (hb.mono r28.size)
    replace ho := ho.below hb
    obtain ⟨l2a, l2n, l2c, hu⟩ := OwnI.shape hol2
    subst hu
    clear hb
    go_wp2_with fail
    refine (him _ _ _ _ (hS.below r28 hS.lt) (SlN.of_own ho.head) (SlN.of_own ho.tail.head) (SlN.of_own hol2)).mono ?_
    rintro e w29 ⟨u14, v14, a14, rfl, ⟨X14, hX14, hO14, hL14⟩, hb⟩
    replace hX14 := (show Hid _ from hX14)
    have hYl : X14.length ≤ 2000 := by have h := congrArg List.length hX14.out; rw [List.length_map, List.length_map] at h; have h2 := congrArg List.length hX9.out; rw [List.length_map, List.length_map] at h2; omega
    have hYb : ∀ x ∈ X14, x.a.params.length ≤ 16 ∧ x.a.text.length ≤ 40 := fun x hx => by
      have h1 : x.a ∈ X9.map (·.a) := by rw [hX9.out, ← hX14.out]; exact List.mem_map_of_mem hx
      obtain ⟨z, hz, hzx⟩ := List.mem_map.1 h1
      rw [← hzx]; exact hXb z hz
    obtain ⟨u14a, u14n, u14c, hu⟩ := hL14.head.shape
    obtain ⟨v14a, v14n, v14c, hv⟩ := hL14.tail.head.shape
    obtain ⟨a14a, a14c, ha⟩ := hO14.shape
    simp only at hu hv
    subst hu; subst hv; subst ha
    have hal := bal' w29 (Obj.cells #[.int .i64 s2, .slice u14a u14n u14c, .int .i64 m2, .slice v14a v14n v14c] 26)
    have g14 := GOk.new (s := s2) (m := m2) hO14 hL14 hb.size
    have hbb := hb.trans (hal.mono hb.size)
    have k29 := k28.trans (hbb.mono k28.size)
    have q29 := q28.trans (hbb.mono q28.size)
    clear hal hb hbb hO14 hL14 k28 q28 r28 ho hol2
    obtain ⟨d0, d1, d2, d3⟩ := g14.1.cells
    obtain ⟨e0, e1, e2, e3⟩ := (g6.below q29).1.cells
    go_wp2_with fail
    refine (GOk.eqP g14 (g6.below q29) (by omega) (by omega)).mono ?_
    rintro e w30 ⟨rfl, hb⟩
    have k30 := k29.trans (hb.mono k29.size)
    have q30 := q29.trans (hb.mono q29.size)
    replace g14 := g14.below hb
    clear hb d0 d1 d2 d3 e0 e1 e2 e3 k29 q29
    go_wp2_with fail
    refine (GOk.eqA g14 (g6.below q30) hX14.out (by omega) hYb).mono ?_
    rintro e w31 ⟨rfl, hb⟩
    have k31 := k30.trans (hb.mono k30.size)
    have q31 := q30.trans (hb.mono q30.size)
    clear hb k30 q30 g14
    obtain ⟨d0, d1, d2, d3⟩ := (g9a.below k31).1.cells
    go_wp2_with fail
    refine (hh1 _ k31).mono ?_
    rintro e w32 ⟨rfl, hb⟩
    have k32 := k31.trans (hb.mono k31.size)
    have q32 := q31.trans (hb.mono q31.size)
    clear hb d0 d1 d2 d3 k31 q31
    go_wp2_with fail
    refine (hh2 _ k32).mono ?_
    rintro e w33 ⟨rfl, hb⟩
    have q33 := q32.trans (hb.mono q32.size)
    clear hb k32 q32
    go_wp2
    go_ret
    exact ⟨rfl, kb5.trans (q33.mono kb5.size)⟩
end Go.Proofs.YtkcekacnebhcgaaDoor
