/- What changes within a set of blocks alone; a screen's lists, all apart. Contracts of the program's scrollOk and of rows copied. A screen's cells, each one cell. Contracts of the specification's new screens. Contracts of the program's screen at work: begun, seen, its last row and column. Contract of the specification's TermOk. The walk of the exact law of ParserOk. The laws' own helpers on screens: size. The laws' own helpers on grids: likeness. The walk of the law of Feed. The laws' own helpers on screens: likeness. The walk of the exact law of TermOk. The specification's drawing: contracts of l8Go and l8Zero; what stands while a screen is drawn. -/
import Derived.Test.YtlmnhlfklbgjdaaGreatDoorP4
import Derived.Deep.RegionHeld3
namespace Go.Proofs.YtlmnhlfklbgjdaaGreatDoor
open Go.ChangeShapes Go.WideShapes Go.ChangeAt Go.RowKit
/-- The blocks of a grid's rows. -/
def RwS (vs : List Value) (k : Nat) : Prop := ∃ i, i < vs.length ∧ (rowV vs i).ownBlock = some k
/-- The blocks of a grid's rows and of the slice of them. -/
def GrS (v : Value) (vs : List Value) (k : Nat) : Prop := v.ownBlock = some k ∨ RwS vs k
/-- Nothing changes but blocks of a set; new ones may come. -/
def GrP (S : Nat → Prop) (w w' : World) : Prop := w'.os = w.os ∧ w'.tape = w.tape ∧ w'.output = w.output ∧ w.heap.size ≤ w'.heap.size ∧ ∀ k, k < w.heap.size → ¬ S k → w'.heap[k]? = w.heap[k]?
theorem GrP.refl (S : Nat → Prop) (w : World) : GrP S w w := ⟨rfl, rfl, rfl, Nat.le_refl _, fun _ _ _ => rfl⟩
theorem GrP.trans {S : Nat → Prop} {a b c : World} (h : GrP S a b) (k : GrP S b c) : GrP S a c :=
  ⟨k.1.trans h.1, k.2.1.trans h.2.1, k.2.2.1.trans h.2.2.1, Nat.le_trans h.2.2.2.1 k.2.2.2.1, fun i hi ho => (k.2.2.2.2 i (Nat.lt_of_lt_of_le hi h.2.2.2.1) ho).trans (h.2.2.2.2 i hi ho)⟩
theorem GrP.size {S : Nat → Prop} {w w' : World} (h : GrP S w w') : w.heap.size ≤ w'.heap.size := h.2.2.2.1
theorem GrP.of_below {S : Nat → Prop} {w w' : World} (h : Below w.heap.size w w') : GrP S w w' := ⟨h.os, h.tape, h.output, h.size, fun k hk _ => h.block k hk⟩
theorem GrP.of_grown {S : Nat → Prop} {w w' : World} {row : Option Nat} (h : w.grownBy w' row) (hr : ∀ g, row = some g → S g) : GrP S w w' :=
  ⟨h.os, h.tape, h.output, h.size, fun k hk ho => h.block k hk (fun e => ho (hr k e.symm))⟩
theorem GrP.mono {S S' : Nat → Prop} {w w' : World} (h : GrP S w w') (hs : ∀ k, k < w.heap.size → S k → S' k) : GrP S' w w' :=
  ⟨h.1, h.2.1, h.2.2.1, h.2.2.2.1, fun k hk ho => h.2.2.2.2 k hk (fun c => ho (hs k hk c))⟩
theorem GrP.to_below {S : Nat → Prop} {B : Nat} {w w' : World} (h : GrP S w w') (hB : ∀ k, S k → B ≤ k) (hs : B ≤ w.heap.size) : Below B w w' :=
  ⟨h.1, h.2.1, h.2.2.1, h.2.2.2.1, fun k hk => h.2.2.2.2 k (by omega) (fun c => by have := hB k c; omega)⟩
theorem _root_.Go.World.ownsRow.grp {S : Nat → Prop} {w w' : World} {base : Nat} {e : TypeId} {size : Nat} {v : Value} {n : Nat} {xs : List Value} (h : w.ownsRow base e size v n xs) (hg : GrP S w w') (hne : ∀ g, v.ownBlock = some g → ¬ S g) : w'.ownsRow base e size v n xs := by
  refine ⟨h.1, ?_⟩
  rcases h.2 with h2 | ⟨g, cap, cur, hv, hbg, hgg, r⟩
  · exact .inl h2
  · exact .inr ⟨g, cap, cur, hv, hbg, by rw [hg.2.2.2.2 g (Array.getElem?_eq_some_iff.1 hgg).1 (hne g (by rw [hv]; rfl))]; exact hgg, r⟩
theorem OwnC.grp {S : Nat → Prop} {w w' : World} {base : Nat} {v : Value} {xs : List Ce} (h : OwnC w base v xs) (hg : GrP S w w') (hne : ∀ g, v.ownBlock = some g → ¬ S g) : OwnC w' base v xs := World.ownsRow.grp (show w.ownsRow _ _ _ _ _ _ from h) hg hne
theorem OwnI.grp {S : Nat → Prop} {w w' : World} {base : Nat} {v : Value} {xs : List Int} (h : OwnI w base v xs) (hg : GrP S w w') (hne : ∀ g, v.ownBlock = some g → ¬ S g) : OwnI w' base v xs := World.ownsRow.grp (show w.ownsRow _ _ _ _ _ _ from h) hg hne
theorem OwnV.grp {S : Nat → Prop} {w w' : World} {base B : Nat} {v : Value} {vs : List Value} {rows : List (List Ce)} (h : OwnV w base B v vs rows) (hg : GrP S w w') (hne : ∀ k, GrS v vs k → ¬ S k) : OwnV w' base B v vs rows :=
  ⟨h.1, World.ownsRow.grp h.2.1 hg (fun g e => hne g (.inl e)), fun i hi => (h.2.2.1 i hi).grp hg (fun g e => hne g (.inr ⟨i, by rw [h.1]; exact hi, e⟩)), h.2.2.2.1, h.2.2.2.2⟩
theorem LiOk.grp {S : Nat → Prop} {base : Nat} {w w' : World} {L : List (Value × List Int)} (h : LiOk w base L) (hg : GrP S w w') (hne : ∀ p ∈ L, ∀ g, p.1.ownBlock = some g → ¬ S g) : LiOk w' base L :=
  ⟨fun p hp => (h.1 p hp).grp hg (hne p hp), h.2⟩
theorem BlkC.grp {S : Nat → Prop} {w w' : World} {B : Nat} {e : TypeId} {cs : List Value} (h : BlkC w B e cs) (hg : GrP S w w') (hne : ¬ S B) : BlkC w' B e cs := by
  unfold BlkC
  rw [hg.2.2.2.2 B h.lt hne]
  exact h
/-- A row's block is a row of cells. -/
theorem OwnC.blk {w : World} {base : Nat} {v : Value} {xs : List Ce} (h : OwnC w base v xs) {g : Nat} (e : v.ownBlock = some g) : ∃ cs, w.heap[g]? = some (.cells cs 75 (0, 0)) := by
  rcases h.2 with ⟨hv, _⟩ | ⟨g', cap, cur, hv, _, hg, _⟩
  · rw [hv] at e; simp [Value.ownBlock] at e
  · rw [hv] at e
    simp only [Value.ownBlock, Option.some.injEq] at e
    subst e
    exact ⟨_, hg⟩
theorem own_blk {w : World} {base : Nat} {T : TypeId} {size : Nat} {v : Value} {n : Nat} {xs : List Value} (h : w.ownsRow base T size v n xs) {g : Nat} (e : v.ownBlock = some g) : ∃ cs, w.heap[g]? = some (.cells cs T (0, 0)) := by
  rcases h.2 with ⟨hv, _⟩ | ⟨g', cap, cur, hv, _, hg, _⟩
  · rw [hv] at e; simp [Value.ownBlock] at e
  · rw [hv] at e
    simp only [Value.ownBlock, Option.some.injEq] at e
    subst e
    exact ⟨_, hg⟩
theorem blk_ne {w : World} {g : Nat} {cs cs' : Array Value} {T T' : TypeId} (h : w.heap[g]? = some (.cells cs T (0, 0))) (h' : w.heap[g]? = some (.cells cs' T' (0, 0))) (hT : T ≠ T') : False := by
  rw [h] at h'
  simp only [Option.some.injEq, Obj.cells.injEq] at h'
  exact hT h'.2.1
/-- A grid's blocks are rows of cells, or of slices of them. -/
theorem GrS.blk {w : World} {base B : Nat} {v : Value} {vs : List Value} {rows : List (List Ce)} (h : OwnV w base B v vs rows) {k : Nat} (hk : GrS v vs k) : ∃ cs T, w.heap[k]? = some (.cells cs T (0, 0)) ∧ (T = 72 ∨ T = 75) := by
  rcases hk with e | ⟨i, hi, e⟩
  · obtain ⟨cs, hc⟩ := own_blk h.2.1 e
    exact ⟨cs, _, hc, .inl rfl⟩
  · obtain ⟨cs, hc⟩ := (h.2.2.1 i (by rw [← h.1]; exact hi)).blk e
    exact ⟨cs, _, hc, .inr rfl⟩
theorem RwS.blk {w : World} {base B : Nat} {v : Value} {vs : List Value} {rows : List (List Ce)} (h : OwnV w base B v vs rows) {k : Nat} (hk : RwS vs k) : ∃ cs, w.heap[k]? = some (.cells cs 75 (0, 0)) := by
  obtain ⟨i, hi, e⟩ := hk
  exact (h.2.2.1 i (by rw [← h.1]; exact hi)).blk e
/-- A block of another type is none of a grid's. -/
theorem grS_not {w : World} {base B : Nat} {v : Value} {vs : List Value} {rows : List (List Ce)} (h : OwnV w base B v vs rows) {k : Nat} {cs : Array Value} {T : TypeId} (hb : w.heap[k]? = some (.cells cs T (0, 0))) (h1 : T ≠ 72) (h2 : T ≠ 75) : ¬ GrS v vs k := fun c => by
  obtain ⟨cs', T', hc, hT⟩ := c.blk h
  rcases hT with rfl | rfl
  · exact blk_ne hb hc h1
  · exact blk_ne hb hc h2
theorem GrS.bd {w : World} {base B : Nat} {v : Value} {vs : List Value} {rows : List (List Ce)} (h : OwnV w base B v vs rows) {k : Nat} (hk : GrS v vs k) : base ≤ k ∧ k < w.heap.size := by
  rcases hk with e | ⟨i, hi, e⟩
  · exact h.g.lt k e
  · exact (h.2.2.1 i (by rw [← h.1]; exact hi)).lt k e
theorem RwS.bd {w : World} {base B : Nat} {v : Value} {vs : List Value} {rows : List (List Ce)} (h : OwnV w base B v vs rows) {k : Nat} (hk : RwS vs k) : base ≤ k ∧ k < w.heap.size := GrS.bd h (.inr hk)
/-- A screen's lists, all of one call's own and all apart. -/
def OwnS (w : World) (base : Nat) (t : Te) (v : Tv) (vg vo : List Value) : Prop :=
  OwnV w base w.heap.size v.g vg t.g ∧ OwnV w base w.heap.size v.o vo t.o ∧ (∀ k, GrS v.g vg k → ¬ GrS v.o vo k) ∧ LiOk w base [(v.ti, t.ti), (v.pp, t.pa.params), (v.pt, t.pa.text)]
theorem OwnS.below {w w' : World} {base : Nat} {t : Te} {v : Tv} {vg vo : List Value} (h : OwnS w base t v vg vo) (hb : Below w.heap.size w w') : OwnS w' base t v vg vo :=
  ⟨(h.1.below hb).up hb.size, (h.2.1.below hb).up hb.size, h.2.2.1, h.2.2.2.below hb⟩
theorem OwnS.sl {w : World} {base : Nat} {t : Te} {v : Tv} {vg vo : List Value} (h : OwnS w base t v vg vo) : SlT w t v :=
  ⟨SlG.of_own h.1.g, SlG.of_own h.2.1.g, SlN.of_own h.2.2.2.head, SlN.of_own h.2.2.2.tail.head, SlN.of_own h.2.2.2.tail.tail.head⟩
theorem ownV_low {w : World} {base base' B : Nat} {v : Value} {vs : List Value} {rows : List (List Ce)} (h : OwnV w base B v vs rows) (hb : base' ≤ base) : OwnV w base' B v vs rows :=
  ⟨h.1, own_low' h.2.1 hb, fun i hi => (h.2.2.1 i hi).low hb, h.2.2.2.1, h.2.2.2.2⟩
theorem OwnS.low {w : World} {base base' : Nat} {t : Te} {v : Tv} {vg vo : List Value} (h : OwnS w base t v vg vo) (hb : base' ≤ base) : OwnS w base' t v vg vo :=
  ⟨ownV_low h.1 hb, ownV_low h.2.1 hb, h.2.2.1, h.2.2.2.low hb⟩
/-- A block of another type changes. -/
theorem OwnS.grown {w w' : World} {base B : Nat} {t : Te} {v : Tv} {vg vo : List Value} {T : TypeId} {cs : Array Value} (h : OwnS w base t v vg vo) (hg : w.grownBy w' (some B)) (hT : w.heap[B]? = some (.cells cs T (0, 0))) (h1 : T ≠ 72) (h2 : T ≠ 75) (h3 : T ≠ 2) : OwnS w' base t v vg vo := by
  have hp : GrP (fun k => k = B) w w' := GrP.of_grown hg (fun g e => by cases e; rfl)
  exact ⟨(h.1.grp hp (fun k hk e => by subst e; exact grS_not h.1 hT h1 h2 hk)).up hg.size, (h.2.1.grp hp (fun k hk e => by subst e; exact grS_not h.2.1 hT h1 h2 hk)).up hg.size, h.2.2.1,
    h.2.2.2.kept hg (fun p hp => .inr ((h.2.2.2.1 p hp).not_block hT h3))⟩
/-- Two grids in ranges of their own are apart. -/
theorem apart_ranges {w : World} {lo hi lo' hi' : Nat} {v v' : Value} {vs vs' : List Value} {rows rows' : List (List Ce)} (h : OwnV w lo hi v vs rows) (h' : OwnV w lo' hi' v' vs' rows') (hv : ∀ g, v.ownBlock = some g → g < hi) (hv' : ∀ g, v'.ownBlock = some g → g < hi') (hd : hi ≤ lo' ∨ hi' ≤ lo) : ∀ k, GrS v vs k → ¬ GrS v' vs' k := fun k hk hk' => by
  have a := GrS.bd h hk
  have b := GrS.bd h' hk'
  have a2 : k < hi := by
    rcases hk with e | ⟨i, hi, e⟩
    · exact hv k e
    · exact h.2.2.2.1 i (by rw [← h.1]; exact hi) k e
  have b2 : k < hi' := by
    rcases hk' with e | ⟨i, hi, e⟩
    · exact hv' k e
    · exact h'.2.2.2.1 i (by rw [← h'.1]; exact hi) k e
  omega
theorem RgT.own {w : World} {base b1 b2 b3 : Nat} {t : Te} {v : Tv} (h : RgT w base b1 b2 b3 t v) : ∃ vg vo, OwnS w base t v vg vo := by
  obtain ⟨⟨h1, h1v, h1s⟩, ⟨h2, h2v, h2s⟩, h3, h4, h5, h6, h7⟩ := h
  obtain ⟨vg, hg⟩ := h1.v
  obtain ⟨vo, ho⟩ := h2.v
  exact ⟨vg, vo, hg.up h1s, (ownV_low ho h4).up h2s, apart_ranges hg ho h1v h2v (.inl (Nat.le_refl _)), h3.low (by omega)⟩
end Go.Proofs.YtlmnhlfklbgjdaaGreatDoor
namespace Go.Proofs.YtlmnhlfklbgjdaaGreatDoor
open Go.ChangeShapes Go.WideShapes Go.ChangeAt Go.RowKit
/-- One row is written anew, its value named. -/
theorem OwnV.setV {w : World} {base B g n cap : Nat} {vs : List Value} {rows : List (List Ce)} (h : OwnV w base B (.slice (some ⟨g, 0, none⟩) n cap) vs rows) (hn : rows.length = n) (i : Nat) (hi : i < n) (r : Value) (xs : List Ce) (hr : OwnC w base r xs) (hB : ∀ q, r.ownBlock = some q → B ≤ q) :
    OwnV (w.setCell ⟨g, i, none⟩ r) base (w.setCell ⟨g, i, none⟩ r).heap.size (.slice (some ⟨g, 0, none⟩) n cap) (vs.set i r) (rows.set i xs) ∧ w.grownBy (w.setCell ⟨g, i, none⟩ r) (some g) := by
  have h' := h
  subst hn
  obtain ⟨hvl, hown, hrs, hlt, hd⟩ := h
  have h0 := World.ownsRow.stored hown i r
  have hap : ∀ {u : Value} {ys : List Ce}, OwnC w base u ys → OwnC (w.setCell ⟨g, i, none⟩ r) base u ys := fun hu => hu.kept h0.2 (outer_apart hown hu)
  refine ⟨h'.mixed (fun k => if k = i then none else some k) _ _ (by simp [hvl]) (by simp) h0.1 (fun p hp => hap (hrs p hp)) (fun k p hk e => ?_) (fun a b p hab hb e1 e2 => ?_) (fun k hk e => ?_) (fun a b hab hb e1 e2 => ?_), h0.2⟩
  · by_cases c : k = i
    · rw [if_pos c] at e; cases e
    · rw [if_neg c] at e; cases e
      exact ⟨hk, by rw [rowV_setV (by omega), if_neg c], by rw [rowX_set hi, if_neg c]⟩
  · by_cases c : a = i
    · rw [if_pos c] at e1; cases e1
    · by_cases d : b = i
      · rw [if_pos d] at e2; cases e2
      · rw [if_neg c] at e1; rw [if_neg d] at e2; cases e1; cases e2; omega
  · by_cases c : k = i
    · rw [rowV_setV (by omega), if_pos c, rowX_set hi, if_pos c]; exact ⟨hap hr, hB⟩
    · rw [if_neg c] at e; cases e
  · by_cases c : a = i
    · by_cases d : b = i
      · omega
      · rw [if_neg d] at e2; cases e2
    · rw [if_neg c] at e1; cases e1
end Go.Proofs.YtlmnhlfklbgjdaaGreatDoor
namespace Go.Proofs.YtlmnhlfklbgjdaaGreatDoor
open Go.ChangeShapes Go.WideShapes Go.ChangeAt Go.RowKit
theorem one_te (t : Te) (v : Tv) (hg : ∃ a n c, v.g = .slice a n c) (ho : ∃ a n c, v.o = .slice a n c) (hti : ∃ a n c, v.ti = .slice a n c) (hpp : ∃ a n c, v.pp = .slice a n c) (hpt : ∃ a n c, v.pt = .slice a n c) : (teCs t v).toList.all (·.oneCell') = true := by
  obtain ⟨vg, vo, vti, vpp, vpt⟩ := v
  obtain ⟨_, _, _, h1⟩ := hg
  obtain ⟨_, _, _, h2⟩ := ho
  obtain ⟨_, _, _, h3⟩ := hti
  obtain ⟨_, _, _, h4⟩ := hpp
  obtain ⟨_, _, _, h5⟩ := hpt
  simp only at h1 h2 h3 h4 h5
  subst h1; subst h2; subst h3; subst h4; subst h5
  rfl
theorem SlT.one {w : World} {t : Te} {v : Tv} (h : SlT w t v) : (teCs t v).toList.all (·.oneCell') = true := by
  obtain ⟨h1, h2, h3, h4, h5⟩ := h
  obtain ⟨_, _, e1⟩ := slG_shp h1
  obtain ⟨_, _, e2⟩ := slG_shp h2
  obtain ⟨_, _, e3⟩ := h3.shp
  obtain ⟨_, _, e4⟩ := h4.shp
  obtain ⟨_, _, e5⟩ := h5.shp
  exact one_te t v ⟨_, _, _, e1⟩ ⟨_, _, _, e2⟩ ⟨_, _, _, e3⟩ ⟨_, _, _, e4⟩ ⟨_, _, _, e5⟩
end Go.Proofs.YtlmnhlfklbgjdaaGreatDoor
namespace Go.Proofs.YtlmnhlfklbgjdaaGreatDoor
open Go.ChangeShapes Go.WideShapes Go.ChangeAt Go.RowKit
theorem OwnT.low {w : World} {base base' : Nat} {t : Te} {v : Tv} (h : OwnT w base t v) (hb : base' ≤ base) : OwnT w base' t v := by
  obtain ⟨b1, b2, b3, h1, h2, h3, h4, h5, h6, h7⟩ := h
  exact ⟨b1, b2, b3, OwnR.low h1 hb, h2, h3, by omega, h5, h6, h7⟩
end Go.Proofs.YtlmnhlfklbgjdaaGreatDoor
namespace Go.Proofs.YtlmnhlfklbgjdaaGreatDoor
open Go.ChangeShapes Go.WideShapes Go.ChangeAt Go.RowKit
/-- What stands while a screen is copied. -/
structure ScI (w0 W : World) (b1 b2 : Nat) (cs : List Value) (xg xo : Value) (G O : List (List Ce)) (L : List (Value × List Int)) : Prop where
  b : TB W w0.heap.size cs
  g : OwnR W (w0.heap.size + 1) b1 xg G
  o : OwnR W b1 b2 xo O
  l : LiOk W b2 L
  k : Below w0.heap.size w0 W
  z : w0.heap.size + 1 ≤ b1 ∧ b1 ≤ b2 ∧ b2 ≤ W.heap.size
theorem ScI.below {w0 W W' : World} {b1 b2 : Nat} {cs : List Value} {xg xo : Value} {G O : List (List Ce)} {L : List (Value × List Int)} (h : ScI w0 W b1 b2 cs xg xo G O L) (hb : Below W.heap.size W W') : ScI w0 W' b1 b2 cs xg xo G O L := by
  obtain ⟨h1, h2, h3, h4, h5, z1, z2, z3⟩ := h
  exact ⟨h1.below hb, h2.below hb, h3.below hb, h4.below hb, h5.trans (hb.mono h5.size), z1, z2, Nat.le_trans z3 hb.size⟩
theorem ScI.new {w0 W W' : World} {b1 b2 : Nat} {cs : List Value} {xg xo : Value} {G O : List (List Ce)} {L : List (Value × List Int)} (h : ScI w0 W b1 b2 cs xg xo G O L) (hb : Below W.heap.size W W') {u : Value} {xs : List Int} (ho : OwnI W' W.heap.size u xs) : ScI w0 W' b1 b2 cs xg xo G O ((u, xs) :: L) := by
  obtain ⟨h1, h2, h3, h4, h5, z1, z2, z3⟩ := h
  exact ⟨h1.below hb, h2.below hb, h3.below hb, h4.new hb (ho.low z3) (fun g e => (ho.lt g e).1), h5.trans (hb.mono h5.size), z1, z2, Nat.le_trans z3 hb.size⟩
theorem ScI.stored {w0 W W' : World} {b1 b2 : Nat} {cs cs' : List Value} {xg xo : Value} {G O : List (List Ce)} {L : List (Value × List Int)} (h : ScI w0 W b1 b2 cs xg xo G O L) (hg : W.grownBy W' (some w0.heap.size)) (hp : BlkC W' w0.heap.size 35 cs') : ScI w0 W' b1 b2 cs' xg xo G O L := by
  obtain ⟨h1, h2, h3, h4, h5, z1, z2, z3⟩ := h
  exact ⟨hp, h2.grown hg (by omega), h3.grown hg (by omega), h4.kept hg (fun p hp => .inr ((h4.1 p hp).not_block h1 (by decide))), h5.grown hg h5.size (fun g e => by cases e; omega), z1, z2, Nat.le_trans z3 hg.size⟩
end Go.Proofs.YtlmnhlfklbgjdaaGreatDoor
namespace Go.Proofs.YtlmnhlfklbgjdaaGreatDoor
open Go.ChangeShapes Go.WideShapes Go.ChangeAt Go.RowKit
theorem l7Cell_any (gc r c : Int) (a : Option Addr) (n cp : Nat) (w : World) (h1 : 1 ≤ gc) (h2 : gc ≤ 60) (hn1 : 1 ≤ n) (hn : n ≤ 30) :
    Calls Tryz.prog 44 #[.agg #[.int .i64 gc, .slice a n cp], .int .i64 r, .int .i64 c] w fun e w' => e = .returned (.bool (cellB gc n r c)) ∧ Below w.heap.size w w' := by
  have hb0 := bal' w (Obj.cells #[.int .i64 gc, .slice a n cp] 26)
  have hi := fun x lo hi W => l1In_any x lo hi W
  obtain ⟨b1, e1⟩ : ∃ b, Hid (decide (0 ≤ r ∧ r ≤ (n : Int) - 1) = b) := ⟨_, rfl⟩
  obtain ⟨b2, e2⟩ : ∃ b, Hid (decide (0 ≤ c ∧ c ≤ gc - 1) = b) := ⟨_, rfl⟩
  have i1 := fun W => hi r 0 ((n : Int) - 1) W
  have i2 := fun W => hi c 0 (gc - 1) W
  rw [e1.out] at i1
  rw [e2.out] at i2
  have hv : Hid (cellB gc n r c = (b1 && b2)) := by show _ = _; unfold cellB; rw [e1.out, e2.out]
  rw [hv.out]
  have hn1i : (1 : Int) ≤ (n : Int) := by omega
  have hni : (n : Int) ≤ 30 := by omega
  clear hi e1 e2 hv hn1 hn
  cases b1
  · go_enter Tryz.func44, Tryz.ntmps44
    go_wp2_with fail
    refine (i1 _).mono ?_
    rintro e w1 ⟨rfl, hw⟩
    subst hw
    go_wp2
    go_ret
    exact ⟨rfl, hb0⟩
  · go_enter Tryz.func44, Tryz.ntmps44
    go_wp2_with fail
    refine (i1 _).mono ?_
    rintro e w1 ⟨rfl, hw⟩
    subst hw
    go_wp2_with fail
    refine (i2 _).mono ?_
    rintro e w2 ⟨rfl, hw⟩
    subst hw
    go_wp2
    go_ret
    exact ⟨rfl, hb0⟩
set_option maxHeartbeats 8000000 in
set_option maxRecDepth 20000 in
theorem specTermOk_any (t : Te) (v : Tv) (w : World) (h : SlT w t v) (hz : SzT 1048576 t) :
    Calls Tryz.prog 15 #[teV t v] w fun e w' => e = .returned (.bool (termOkB t)) ∧ Below w.heap.size w w' := by
  obtain ⟨vg, vo, vti, vpp, vpt⟩ := v
  obtain ⟨hg, ho, hti, hpp, hpt⟩ := h
  simp only at hg ho hti hpp hpt
  obtain ⟨z1, z2, z3, z4, z5, z6, z7⟩ := hz
  obtain ⟨rv, hrv⟩ : ∃ rv, Hid (rv = termOkB t) := ⟨_, rfl⟩
  rw [← hrv.out]
  have hb0 := bal' w (Obj.cells (teCs t ⟨vg, vo, vti, vpp, vpt⟩) 35)
  have hB := TeB.new w 35 t ⟨vg, vo, vti, vpp, vpt⟩
  have cG := fun W hW => specGridOk_any t.gc vg t.g W hW z1 z2
  have cO := fun W hW => specGridOk_any t.oc vo t.o W hW z3 z4
  have cS := fun W => specStyleOk_any t.st W
  have cSs := fun W => specStyleOk_any t.ss W
  have cT := fun W hW => specRunes6_any vti t.ti 40 W hW (by omega) (by decide)
  have cP := fun W h1 h2 => specParserOk_any t.pa vpp vpt W h1 h2 (by omega) (by omega)
  have cF := fun W => specFeederOk_any t.fe W
  obtain ⟨bG, eG⟩ : ∃ b, Hid (gridOkB t.gc t.g = b) := ⟨_, rfl⟩
  obtain ⟨bO, eO⟩ : ∃ b, Hid (gridOkB t.oc t.o = b) := ⟨_, rfl⟩
  obtain ⟨bS, eS⟩ : ∃ b, Hid (t.st.ok = b) := ⟨_, rfl⟩
  obtain ⟨bSs, eSs⟩ : ∃ b, Hid (t.ss.ok = b) := ⟨_, rfl⟩
  obtain ⟨bT, eT⟩ : ∃ b, Hid ((decide (t.ti.length ≤ 40) && runesB t.ti) = b) := ⟨_, rfl⟩
  obtain ⟨bP, eP⟩ : ∃ b, Hid (okV t.pa = b) := ⟨_, rfl⟩
  obtain ⟨bF, eF⟩ : ∃ b, Hid (feedOk t.fe = b) := ⟨_, rfl⟩
  rw [eG.out] at cG
  rw [eO.out] at cO
  rw [eS.out] at cS
  rw [eSs.out] at cSs
  rw [eT.out] at cT
  rw [eP.out] at cP
  rw [eF.out] at cF
  obtain ⟨ga, gp, hq1⟩ := slG_shp hg
  obtain ⟨oa, op, hq2⟩ := slG_shp ho
  obtain ⟨tia, tip, hq3⟩ := hti.shp
  obtain ⟨ppa, ppp, hq4⟩ := hpp.shp
  obtain ⟨pta, ptp, hq5⟩ := hpt.shp
  subst hq1; subst hq2; subst hq3; subst hq4; subst hq5
  unfold teV gridV stV paV at *
  obtain ⟨w1, hw1⟩ : ∃ w1, w1 = w.alloc (Obj.cells (teCs t ⟨.slice ga t.g.length gp, .slice oa t.o.length op, .slice tia t.ti.length tip, .slice ppa t.pa.params.length ppp, .slice pta t.pa.text.length ptp⟩) 35) := ⟨_, rfl⟩
  rw [← hw1] at hB hb0
  replace hw1 := (show Hid _ from hw1)
  clear z1 z2 z3 z4 z5 z6 z7
  go_enter Tryz.func15, Tryz.ntmps15
  refine wp_seq_k (fun K hK => ?_)
  have hH := (show Hid _ from hK)
  clear hK
  go_wp2
  refine hH.out _ _ ?_
  rw [← hw1.out]
  clear hH hw1
  obtain ⟨c0, c1, c2, c3, c4, c5, c6, c7, c8, c9, c10, c11, c12, c13, c14, c15, c16, c17, c18, c19, c20, c21, c22, c23, c24, c25, c26, c27, c28, c29⟩ := hB.cells
  go_wp2_with fail
  refine (cG _ (hg.below hb0)).mono ?_
  rintro e w1 ⟨rfl, hb⟩
  have hb1 := hb0.trans (hb.mono hb0.size)
  replace hB := hB.below hb
  clear c0 c1 c2 c3 c4 c5 c6 c7 c8 c9 c10 c11 c12 c13 c14 c15 c16 c17 c18 c19 c20 c21 c22 c23 c24 c25 c26 c27 c28 c29
  clear hb hb0
  obtain ⟨c0, c1, c2, c3, c4, c5, c6, c7, c8, c9, c10, c11, c12, c13, c14, c15, c16, c17, c18, c19, c20, c21, c22, c23, c24, c25, c26, c27, c28, c29⟩ := hB.cells
  cases bG
  case false =>
    have hv : Hid (rv = false) := by show _ = _; rw [hrv.out]; unfold termOkB; simp [eG.out]
    go_wp2
    go_ret
    exact ⟨by rw [hv.out]; rfl, hb1⟩
  go_wp2_with fail
  refine (cO _ (ho.below hb1)).mono ?_
  rintro e w2 ⟨rfl, hb⟩
  have hb2 := hb1.trans (hb.mono hb1.size)
  replace hB := hB.below hb
  clear c0 c1 c2 c3 c4 c5 c6 c7 c8 c9 c10 c11 c12 c13 c14 c15 c16 c17 c18 c19 c20 c21 c22 c23 c24 c25 c26 c27 c28 c29
  clear hb hb1
  obtain ⟨c0, c1, c2, c3, c4, c5, c6, c7, c8, c9, c10, c11, c12, c13, c14, c15, c16, c17, c18, c19, c20, c21, c22, c23, c24, c25, c26, c27, c28, c29⟩ := hB.cells
  cases bO
  case false =>
    have hv : Hid (rv = false) := by show _ = _; rw [hrv.out]; unfold termOkB; simp [eG.out, eO.out]
    go_wp2
    go_ret
    exact ⟨by rw [hv.out]; rfl, hb2⟩
  obtain ⟨⟨hc1, hc2⟩, ⟨hn1, hn2⟩, _⟩ := (gridOk_iff t.gc t.g).1 eG.out
  have hn1i : (1 : Int) ≤ (t.g.length : Int) := by omega
  have hn2i : (t.g.length : Int) ≤ 30 := by omega
  by_cases q3 : t.gc = t.oc
  case neg =>
    have hv : Hid (rv = false) := by show _ = _; rw [hrv.out]; unfold termOkB; simp [q3]
    have q3b : (t.gc != t.oc) = true := by simp [q3]
    go_wp2
    go_ret
    exact ⟨by rw [hv.out]; rfl, hb2⟩
  have q3b : (t.gc != t.oc) = false := by simp [q3]
  have q3h := (show Hid _ from q3)
  clear q3
  by_cases q4 : t.g.length = t.o.length
  case neg =>
    have hv : Hid (rv = false) := by show _ = _; rw [hrv.out]; unfold termOkB; simp [q4]
    have q4b : ((t.g.length : Int) != (t.o.length : Int)) = true := by simp; omega
    clear q4
    go_wp2
    go_ret
    exact ⟨by rw [hv.out]; rfl, hb2⟩
  have q4b : ((t.g.length : Int) != (t.o.length : Int)) = false := by simp; omega
  have q4h := (show Hid _ from q4)
  clear q4
  have cC := fun W => l7Cell_any t.gc t.row t.col ga t.g.length gp W hc1 hc2 hn1 hn2
  have cD := fun W => l7Cell_any t.gc t.sr t.sc ga t.g.length gp W hc1 hc2 hn1 hn2
  have cI := fun W => l1In_any t.top 0 t.bot W
  obtain ⟨bC, eC⟩ : ∃ b, Hid (cellB t.gc t.g.length t.row t.col = b) := ⟨_, rfl⟩
  obtain ⟨bD, eD⟩ : ∃ b, Hid (cellB t.gc t.g.length t.sr t.sc = b) := ⟨_, rfl⟩
  obtain ⟨bI, eI⟩ : ∃ b, Hid (decide (0 ≤ t.top ∧ t.top ≤ t.bot) = b) := ⟨_, rfl⟩
  rw [eC.out] at cC
  rw [eD.out] at cD
  rw [eI.out] at cI
  go_wp2_with fail
  refine (cC _).mono ?_
  rintro e w3 ⟨rfl, hb⟩
  have hb3 := hb2.trans (hb.mono hb2.size)
  replace hB := hB.below hb
  clear c0 c1 c2 c3 c4 c5 c6 c7 c8 c9 c10 c11 c12 c13 c14 c15 c16 c17 c18 c19 c20 c21 c22 c23 c24 c25 c26 c27 c28 c29
  clear hb hb2
  obtain ⟨c0, c1, c2, c3, c4, c5, c6, c7, c8, c9, c10, c11, c12, c13, c14, c15, c16, c17, c18, c19, c20, c21, c22, c23, c24, c25, c26, c27, c28, c29⟩ := hB.cells
  cases bC
  case false =>
    have hv : Hid (rv = false) := by show _ = _; rw [hrv.out]; unfold termOkB; simp [eC.out]
    go_wp2
    go_ret
    exact ⟨by rw [hv.out]; rfl, hb3⟩
  go_wp2_with fail
  refine (cD _).mono ?_
  rintro e w4 ⟨rfl, hb⟩
  have hb4 := hb3.trans (hb.mono hb3.size)
  replace hB := hB.below hb
  clear c0 c1 c2 c3 c4 c5 c6 c7 c8 c9 c10 c11 c12 c13 c14 c15 c16 c17 c18 c19 c20 c21 c22 c23 c24 c25 c26 c27 c28 c29
  clear hb hb3
  obtain ⟨c0, c1, c2, c3, c4, c5, c6, c7, c8, c9, c10, c11, c12, c13, c14, c15, c16, c17, c18, c19, c20, c21, c22, c23, c24, c25, c26, c27, c28, c29⟩ := hB.cells
  cases bD
  case false =>
    have hv : Hid (rv = false) := by show _ = _; rw [hrv.out]; unfold termOkB; simp [eD.out]
    go_wp2
    go_ret
    exact ⟨by rw [hv.out]; rfl, hb4⟩
  go_wp2_with fail
  refine (cI _).mono ?_
  rintro e w5 ⟨rfl, hw⟩
  subst hw
  cases bI
  case false =>
    have hv : Hid (rv = false) := by
      have := of_decide_eq_false eI.out
      show _ = _; rw [hrv.out]; unfold termOkB
      rw [decide_eq_false (p := 0 ≤ t.top ∧ _) (by omega)]; simp
    go_wp2
    go_ret
    exact ⟨by rw [hv.out]; rfl, hb4⟩
  have q5 := of_decide_eq_true eI.out
  by_cases q6 : (t.g.length : Int) - 1 < t.bot
  case pos =>
    have hv : Hid (rv = false) := by
      show _ = _; rw [hrv.out]; unfold termOkB
      rw [decide_eq_false (p := 0 ≤ t.top ∧ _) (by omega)]; simp
    go_wp2
    go_ret
    exact ⟨by rw [hv.out]; rfl, hb4⟩
  by_cases q7 : t.top = t.bot
  case pos =>
    have q7b : (t.top == t.bot) = true := by simp [q7]
    by_cases q8 : 0 < (t.g.length : Int) - 1
    case pos =>
      have hv : Hid (rv = false) := by
        show _ = _; rw [hrv.out]; unfold termOkB
        rw [decide_eq_false (p := 0 ≤ t.top ∧ _) (by omega)]; simp
      clear q7
      go_wp2
      go_ret
      exact ⟨by rw [hv.out]; rfl, hb4⟩
    have q9 : Hid (0 ≤ t.top ∧ t.top ≤ t.bot ∧ t.bot ≤ (t.g.length : Int) - 1 ∧ ¬ (t.top = t.bot ∧ 0 < (t.g.length : Int) - 1)) := by show _ ∧ _; omega
    clear q7
    by_cases q10 : t.full = true ∧ t.col ≠ t.gc - 1
    case pos =>
      obtain ⟨qa, qb⟩ := q10
      have hv : Hid (rv = false) := by
        show _ = _; rw [hrv.out]; unfold termOkB
        rw [decide_eq_false (p := t.full = true → _) (fun h => qb (h qa))]; simp
      have qbb : (t.col != t.gc - 1) = true := by simp [qb]
      rw [qa] at c13
      clear qb qa
      go_wp2
      go_ret
      exact ⟨by rw [hv.out]; rfl, hb4⟩
    have q11 : Hid (t.full = true → t.col = t.gc - 1) := fun h => by
      by_cases hq : t.col = t.gc - 1
      · exact hq
      · exact absurd ⟨h, hq⟩ q10
    clear q10
    obtain ⟨fu, hfu⟩ : ∃ fu, Hid (t.full = fu) := ⟨_, rfl⟩
    rw [hfu.out] at c13
    cases fu
    case false =>
      go_wp2_with fail
      refine (cS _).mono ?_
      rintro e w6 ⟨rfl, hb⟩
      have hb6 := hb4.trans (hb.mono hb4.size)
      replace hB := hB.below hb
      clear c0 c1 c2 c3 c4 c5 c6 c7 c8 c9 c10 c11 c12 c13 c14 c15 c16 c17 c18 c19 c20 c21 c22 c23 c24 c25 c26 c27 c28 c29
      clear hb hb4
      obtain ⟨c0, c1, c2, c3, c4, c5, c6, c7, c8, c9, c10, c11, c12, c13, c14, c15, c16, c17, c18, c19, c20, c21, c22, c23, c24, c25, c26, c27, c28, c29⟩ := hB.cells
      cases bS
      case false =>
        have hv : Hid (rv = false) := by show _ = _; rw [hrv.out]; unfold termOkB; simp [eS.out]
        go_wp2
        go_ret
        exact ⟨by rw [hv.out]; rfl, hb6⟩
      go_wp2_with fail
      refine (cSs _).mono ?_
      rintro e w7 ⟨rfl, hb⟩
      have hb7 := hb6.trans (hb.mono hb6.size)
      replace hB := hB.below hb
      clear c0 c1 c2 c3 c4 c5 c6 c7 c8 c9 c10 c11 c12 c13 c14 c15 c16 c17 c18 c19 c20 c21 c22 c23 c24 c25 c26 c27 c28 c29
      clear hb hb6
      obtain ⟨c0, c1, c2, c3, c4, c5, c6, c7, c8, c9, c10, c11, c12, c13, c14, c15, c16, c17, c18, c19, c20, c21, c22, c23, c24, c25, c26, c27, c28, c29⟩ := hB.cells
      cases bSs
      case false =>
        have hv : Hid (rv = false) := by show _ = _; rw [hrv.out]; unfold termOkB; simp [eSs.out]
        go_wp2
        go_ret
        exact ⟨by rw [hv.out]; rfl, hb7⟩
      go_wp2_with fail
      refine (cT _ (hti.below hb7).l.sl).mono ?_
      rintro e w8 ⟨rfl, hw⟩
      subst hw
      cases bT
      case false =>
        have hv : Hid (rv = false) := by show _ = _; rw [hrv.out]; unfold termOkB; rw [eT.out]; simp
        go_wp2
        go_ret
        exact ⟨by rw [hv.out]; rfl, hb7⟩
      go_wp2_with fail
      refine (cP _ (hpp.below hb7).l.sl (hpt.below hb7).l.sl).mono ?_
      rintro e w9 ⟨rfl, hb⟩
      have hb9 := hb7.trans (hb.mono hb7.size)
      replace hB := hB.below hb
      clear c0 c1 c2 c3 c4 c5 c6 c7 c8 c9 c10 c11 c12 c13 c14 c15 c16 c17 c18 c19 c20 c21 c22 c23 c24 c25 c26 c27 c28 c29
      clear hb hb7
      obtain ⟨c0, c1, c2, c3, c4, c5, c6, c7, c8, c9, c10, c11, c12, c13, c14, c15, c16, c17, c18, c19, c20, c21, c22, c23, c24, c25, c26, c27, c28, c29⟩ := hB.cells
      cases bP
      case false =>
        have hv : Hid (rv = false) := by show _ = _; rw [hrv.out]; unfold termOkB; simp [eP.out]
        go_wp2
        go_ret
        exact ⟨by rw [hv.out]; rfl, hb9⟩
      go_wp2_with fail
      refine (cF _).mono ?_
      rintro e w10 ⟨rfl, hb⟩
      have hb10 := hb9.trans (hb.mono hb9.size)
      have hv : Hid (rv = bF) := by show _ = _; rw [hrv.out]; unfold termOkB; rw [eG.out, eO.out, decide_eq_true q3h.out, decide_eq_true q4h.out, eC.out, eD.out, decide_eq_true q9.out, decide_eq_true q11.out, eS.out, eSs.out, eT.out, eP.out, eF.out]; simp
      go_wp2
      go_ret
      exact ⟨by rw [hv.out]; rfl, hb10⟩
    case true =>
      have qbb : (t.col != t.gc - 1) = false := by simp [q11.out hfu.out]
      go_wp2_with fail
      refine (cS _).mono ?_
      rintro e w6 ⟨rfl, hb⟩
      have hb6 := hb4.trans (hb.mono hb4.size)
      replace hB := hB.below hb
      clear c0 c1 c2 c3 c4 c5 c6 c7 c8 c9 c10 c11 c12 c13 c14 c15 c16 c17 c18 c19 c20 c21 c22 c23 c24 c25 c26 c27 c28 c29
      clear hb hb4
      obtain ⟨c0, c1, c2, c3, c4, c5, c6, c7, c8, c9, c10, c11, c12, c13, c14, c15, c16, c17, c18, c19, c20, c21, c22, c23, c24, c25, c26, c27, c28, c29⟩ := hB.cells
      cases bS
      case false =>
        have hv : Hid (rv = false) := by show _ = _; rw [hrv.out]; unfold termOkB; simp [eS.out]
        go_wp2
        go_ret
        exact ⟨by rw [hv.out]; rfl, hb6⟩
      go_wp2_with fail
      refine (cSs _).mono ?_
      rintro e w7 ⟨rfl, hb⟩
      have hb7 := hb6.trans (hb.mono hb6.size)
      replace hB := hB.below hb
      clear c0 c1 c2 c3 c4 c5 c6 c7 c8 c9 c10 c11 c12 c13 c14 c15 c16 c17 c18 c19 c20 c21 c22 c23 c24 c25 c26 c27 c28 c29
      clear hb hb6
      obtain ⟨c0, c1, c2, c3, c4, c5, c6, c7, c8, c9, c10, c11, c12, c13, c14, c15, c16, c17, c18, c19, c20, c21, c22, c23, c24, c25, c26, c27, c28, c29⟩ := hB.cells
      cases bSs
      case false =>
        have hv : Hid (rv = false) := by show _ = _; rw [hrv.out]; unfold termOkB; simp [eSs.out]
        go_wp2
        go_ret
        exact ⟨by rw [hv.out]; rfl, hb7⟩
      go_wp2_with fail
      refine (cT _ (hti.below hb7).l.sl).mono ?_
      rintro e w8 ⟨rfl, hw⟩
      subst hw
      cases bT
      case false =>
        have hv : Hid (rv = false) := by show _ = _; rw [hrv.out]; unfold termOkB; rw [eT.out]; simp
        go_wp2
        go_ret
        exact ⟨by rw [hv.out]; rfl, hb7⟩
      go_wp2_with fail
      refine (cP _ (hpp.below hb7).l.sl (hpt.below hb7).l.sl).mono ?_
      rintro e w9 ⟨rfl, hb⟩
      have hb9 := hb7.trans (hb.mono hb7.size)
      replace hB := hB.below hb
      clear c0 c1 c2 c3 c4 c5 c6 c7 c8 c9 c10 c11 c12 c13 c14 c15 c16 c17 c18 c19 c20 c21 c22 c23 c24 c25 c26 c27 c28 c29
      clear hb hb7
      obtain ⟨c0, c1, c2, c3, c4, c5, c6, c7, c8, c9, c10, c11, c12, c13, c14, c15, c16, c17, c18, c19, c20, c21, c22, c23, c24, c25, c26, c27, c28, c29⟩ := hB.cells
      cases bP
      case false =>
        have hv : Hid (rv = false) := by show _ = _; rw [hrv.out]; unfold termOkB; simp [eP.out]
        go_wp2
        go_ret
        exact ⟨by rw [hv.out]; rfl, hb9⟩
      go_wp2_with fail
      refine (cF _).mono ?_
      rintro e w10 ⟨rfl, hb⟩
      have hb10 := hb9.trans (hb.mono hb9.size)
      have hv : Hid (rv = bF) := by show _ = _; rw [hrv.out]; unfold termOkB; rw [eG.out, eO.out, decide_eq_true q3h.out, decide_eq_true q4h.out, eC.out, eD.out, decide_eq_true q9.out, decide_eq_true q11.out, eS.out, eSs.out, eT.out, eP.out, eF.out]; simp
      go_wp2
      go_ret
      exact ⟨by rw [hv.out]; rfl, hb10⟩
  have q7b : (t.top == t.bot) = false := by simp [q7]
  have q9 : Hid (0 ≤ t.top ∧ t.top ≤ t.bot ∧ t.bot ≤ (t.g.length : Int) - 1 ∧ ¬ (t.top = t.bot ∧ 0 < (t.g.length : Int) - 1)) := by show _ ∧ _; omega
  by_cases q10 : t.full = true ∧ t.col ≠ t.gc - 1
  case pos =>
    obtain ⟨qa, qb⟩ := q10
    have hv : Hid (rv = false) := by
      show _ = _; rw [hrv.out]; unfold termOkB
      rw [decide_eq_false (p := t.full = true → _) (fun h => qb (h qa))]; simp
    have qbb : (t.col != t.gc - 1) = true := by simp [qb]
    rw [qa] at c13
    clear qb qa
    go_wp2
    go_ret
    exact ⟨by rw [hv.out]; rfl, hb4⟩
  have q11 : Hid (t.full = true → t.col = t.gc - 1) := fun h => by
    by_cases hq : t.col = t.gc - 1
    · exact hq
    · exact absurd ⟨h, hq⟩ q10
  clear q10
  obtain ⟨fu, hfu⟩ : ∃ fu, Hid (t.full = fu) := ⟨_, rfl⟩
  rw [hfu.out] at c13
  cases fu
  case false =>
    go_wp2_with fail
    refine (cS _).mono ?_
    rintro e w6 ⟨rfl, hb⟩
    have hb6 := hb4.trans (hb.mono hb4.size)
    replace hB := hB.below hb
    clear c0 c1 c2 c3 c4 c5 c6 c7 c8 c9 c10 c11 c12 c13 c14 c15 c16 c17 c18 c19 c20 c21 c22 c23 c24 c25 c26 c27 c28 c29
    clear hb hb4
    obtain ⟨c0, c1, c2, c3, c4, c5, c6, c7, c8, c9, c10, c11, c12, c13, c14, c15, c16, c17, c18, c19, c20, c21, c22, c23, c24, c25, c26, c27, c28, c29⟩ := hB.cells
    cases bS
    case false =>
      have hv : Hid (rv = false) := by show _ = _; rw [hrv.out]; unfold termOkB; simp [eS.out]
      go_wp2
      go_ret
      exact ⟨by rw [hv.out]; rfl, hb6⟩
    go_wp2_with fail
    refine (cSs _).mono ?_
    rintro e w7 ⟨rfl, hb⟩
    have hb7 := hb6.trans (hb.mono hb6.size)
    replace hB := hB.below hb
    clear c0 c1 c2 c3 c4 c5 c6 c7 c8 c9 c10 c11 c12 c13 c14 c15 c16 c17 c18 c19 c20 c21 c22 c23 c24 c25 c26 c27 c28 c29
    clear hb hb6
    obtain ⟨c0, c1, c2, c3, c4, c5, c6, c7, c8, c9, c10, c11, c12, c13, c14, c15, c16, c17, c18, c19, c20, c21, c22, c23, c24, c25, c26, c27, c28, c29⟩ := hB.cells
    cases bSs
    case false =>
      have hv : Hid (rv = false) := by show _ = _; rw [hrv.out]; unfold termOkB; simp [eSs.out]
      go_wp2
      go_ret
      exact ⟨by rw [hv.out]; rfl, hb7⟩
    go_wp2_with fail
    refine (cT _ (hti.below hb7).l.sl).mono ?_
    rintro e w8 ⟨rfl, hw⟩
    subst hw
    cases bT
    case false =>
      have hv : Hid (rv = false) := by show _ = _; rw [hrv.out]; unfold termOkB; rw [eT.out]; simp
      go_wp2
      go_ret
      exact ⟨by rw [hv.out]; rfl, hb7⟩
    go_wp2_with fail
    refine (cP _ (hpp.below hb7).l.sl (hpt.below hb7).l.sl).mono ?_
    rintro e w9 ⟨rfl, hb⟩
    have hb9 := hb7.trans (hb.mono hb7.size)
    replace hB := hB.below hb
    clear c0 c1 c2 c3 c4 c5 c6 c7 c8 c9 c10 c11 c12 c13 c14 c15 c16 c17 c18 c19 c20 c21 c22 c23 c24 c25 c26 c27 c28 c29
    clear hb hb7
    obtain ⟨c0, c1, c2, c3, c4, c5, c6, c7, c8, c9, c10, c11, c12, c13, c14, c15, c16, c17, c18, c19, c20, c21, c22, c23, c24, c25, c26, c27, c28, c29⟩ := hB.cells
    cases bP
    case false =>
      have hv : Hid (rv = false) := by show _ = _; rw [hrv.out]; unfold termOkB; simp [eP.out]
      go_wp2
      go_ret
      exact ⟨by rw [hv.out]; rfl, hb9⟩
    go_wp2_with fail
    refine (cF _).mono ?_
    rintro e w10 ⟨rfl, hb⟩
    have hb10 := hb9.trans (hb.mono hb9.size)
    have hv : Hid (rv = bF) := by show _ = _; rw [hrv.out]; unfold termOkB; rw [eG.out, eO.out, decide_eq_true q3h.out, decide_eq_true q4h.out, eC.out, eD.out, decide_eq_true q9.out, decide_eq_true q11.out, eS.out, eSs.out, eT.out, eP.out, eF.out]; simp
    go_wp2
    go_ret
    exact ⟨by rw [hv.out]; rfl, hb10⟩
  case true =>
    have qbb : (t.col != t.gc - 1) = false := by simp [q11.out hfu.out]
    go_wp2_with fail
    refine (cS _).mono ?_
    rintro e w6 ⟨rfl, hb⟩
    have hb6 := hb4.trans (hb.mono hb4.size)
    replace hB := hB.below hb
    clear c0 c1 c2 c3 c4 c5 c6 c7 c8 c9 c10 c11 c12 c13 c14 c15 c16 c17 c18 c19 c20 c21 c22 c23 c24 c25 c26 c27 c28 c29
    clear hb hb4
    obtain ⟨c0, c1, c2, c3, c4, c5, c6, c7, c8, c9, c10, c11, c12, c13, c14, c15, c16, c17, c18, c19, c20, c21, c22, c23, c24, c25, c26, c27, c28, c29⟩ := hB.cells
    cases bS
    case false =>
      have hv : Hid (rv = false) := by show _ = _; rw [hrv.out]; unfold termOkB; simp [eS.out]
      go_wp2
      go_ret
      exact ⟨by rw [hv.out]; rfl, hb6⟩
    go_wp2_with fail
    refine (cSs _).mono ?_
    rintro e w7 ⟨rfl, hb⟩
    have hb7 := hb6.trans (hb.mono hb6.size)
    replace hB := hB.below hb
    clear c0 c1 c2 c3 c4 c5 c6 c7 c8 c9 c10 c11 c12 c13 c14 c15 c16 c17 c18 c19 c20 c21 c22 c23 c24 c25 c26 c27 c28 c29
    clear hb hb6
    obtain ⟨c0, c1, c2, c3, c4, c5, c6, c7, c8, c9, c10, c11, c12, c13, c14, c15, c16, c17, c18, c19, c20, c21, c22, c23, c24, c25, c26, c27, c28, c29⟩ := hB.cells
    cases bSs
    case false =>
      have hv : Hid (rv = false) := by show _ = _; rw [hrv.out]; unfold termOkB; simp [eSs.out]
      go_wp2
      go_ret
      exact ⟨by rw [hv.out]; rfl, hb7⟩
    go_wp2_with fail
    refine (cT _ (hti.below hb7).l.sl).mono ?_
    rintro e w8 ⟨rfl, hw⟩
    subst hw
    cases bT
    case false =>
      have hv : Hid (rv = false) := by show _ = _; rw [hrv.out]; unfold termOkB; rw [eT.out]; simp
      go_wp2
      go_ret
      exact ⟨by rw [hv.out]; rfl, hb7⟩
    go_wp2_with fail
    refine (cP _ (hpp.below hb7).l.sl (hpt.below hb7).l.sl).mono ?_
    rintro e w9 ⟨rfl, hb⟩
    have hb9 := hb7.trans (hb.mono hb7.size)
    replace hB := hB.below hb
    clear c0 c1 c2 c3 c4 c5 c6 c7 c8 c9 c10 c11 c12 c13 c14 c15 c16 c17 c18 c19 c20 c21 c22 c23 c24 c25 c26 c27 c28 c29
    clear hb hb7
    obtain ⟨c0, c1, c2, c3, c4, c5, c6, c7, c8, c9, c10, c11, c12, c13, c14, c15, c16, c17, c18, c19, c20, c21, c22, c23, c24, c25, c26, c27, c28, c29⟩ := hB.cells
    cases bP
    case false =>
      have hv : Hid (rv = false) := by show _ = _; rw [hrv.out]; unfold termOkB; simp [eP.out]
      go_wp2
      go_ret
      exact ⟨by rw [hv.out]; rfl, hb9⟩
    go_wp2_with fail
    refine (cF _).mono ?_
    rintro e w10 ⟨rfl, hb⟩
    have hb10 := hb9.trans (hb.mono hb9.size)
    have hv : Hid (rv = bF) := by show _ = _; rw [hrv.out]; unfold termOkB; rw [eG.out, eO.out, decide_eq_true q3h.out, decide_eq_true q4h.out, eC.out, eD.out, decide_eq_true q9.out, decide_eq_true q11.out, eS.out, eSs.out, eT.out, eP.out, eF.out]; simp
    go_wp2
    go_ret
    exact ⟨by rw [hv.out]; rfl, hb10⟩
end Go.Proofs.YtlmnhlfklbgjdaaGreatDoor
namespace Go.Proofs.YtlmnhlfklbgjdaaGreatDoor
open Go.ChangeShapes Go.WideShapes Go.ChangeAt Go.RowKit
theorem szP_neg {n m left : Nat} (h : szP n m left < 0) : szP n m left = -1 := by
  unfold szP at *
  by_cases h1 : left < n
  · rw [if_pos h1]
  · rw [if_neg h1] at h ⊢
    by_cases h2 : left - n < m
    · rw [if_pos h2]
    · rw [if_neg h2] at h; omega
end Go.Proofs.YtlmnhlfklbgjdaaGreatDoor
namespace Go.Proofs.YtlmnhlfklbgjdaaGreatDoor
open Go.ChangeShapes Go.WideShapes Go.ChangeAt Go.RowKit
theorem szP_some {n m left : Nat} (h : ¬ szP n m left < 0) : ∃ k : Nat, szP n m left = (k : Int) ∧ k + n + m = left := by
  unfold szP at *
  split at h
  · exact absurd (by decide) h
  · rw [if_neg (by assumption)]
    split at h
    · exact absurd (by decide) h
    · rw [if_neg (by assumption)]
      exact ⟨left - n - m, rfl, by omega⟩
set_option maxHeartbeats 8000000 in
set_option maxRecDepth 20000 in
theorem szTerm_any (t : Te) (v : Tv) (w : World) (h : SlT w t v) (hm : SzT maxLen t) (hf : t.fe.size ≤ maxLen) :
    Calls Tryz.prog 18 #[teV t v, .int .i64 1048576] w fun e w' => ∃ z, e = .returned (.int .i64 z) ∧ (z < 0 ∨ (SzT 1048576 t ∧ sumG t.g t.g.length + sumG t.o t.o.length + t.ti.length + t.pa.params.length + t.pa.text.length ≤ 1048576)) ∧ Below w.heap.size w w' := by
  obtain ⟨vg, vo, vti, vpp, vpt⟩ := v
  obtain ⟨hg, ho, hti, hpp, hpt⟩ := h
  simp only at hg ho hti hpp hpt
  obtain ⟨m1, m2, m3, m4, m5, m6, m7⟩ := hm
  have hb0 := bal' w (Obj.cells (teCs t ⟨vg, vo, vti, vpp, vpt⟩) 54)
  have hB := TeB.new w 54 t ⟨vg, vo, vti, vpp, vpt⟩
  have cG := fun W hW => szGrid_any t.gc vg t.g 1048576 W hW m1 m2 (by decide)
  have cO := fun l W hW (hl : l ≤ 1048576) => szGrid_any t.oc vo t.o l W hW m3 m4 (by omega)
  have cT := fun l W hW (hl : l ≤ 1048576) => szI_any vti t.ti l W hW m5 (by omega)
  have cP := fun l W h1 h2 (hl : l ≤ 1048576) => szParser_any t.pa vpp vpt l W h1 h2 m6 m7 (by omega)
  have cF := fun (l : Nat) W (hl : l ≤ 1048576) => szFeeder_any t.fe (l : Int) W hf (by omega)
  obtain ⟨ga, gp, hq1⟩ := slG_shp hg
  obtain ⟨oa, op, hq2⟩ := slG_shp ho
  obtain ⟨tia, tip, hq3⟩ := hti.shp
  obtain ⟨ppa, ppp, hq4⟩ := hpp.shp
  obtain ⟨pta, ptp, hq5⟩ := hpt.shp
  subst hq1; subst hq2; subst hq3; subst hq4; subst hq5
  unfold teV gridV paV at *
  obtain ⟨w1, hw1⟩ : ∃ w1, w1 = w.alloc (Obj.cells (teCs t ⟨.slice ga t.g.length gp, .slice oa t.o.length op, .slice tia t.ti.length tip, .slice ppa t.pa.params.length ppp, .slice pta t.pa.text.length ptp⟩) 54) := ⟨_, rfl⟩
  rw [← hw1] at hB hb0
  replace hw1 := (show Hid _ from hw1)
  clear m1 m2 m3 m4 m5 m6 m7 hf
  go_enter Tryz.func18, Tryz.ntmps18
  refine wp_seq_k (fun K hK => ?_)
  have hH := (show Hid _ from hK)
  clear hK
  go_wp2
  refine hH.out _ _ ?_
  rw [← hw1.out]
  clear hH hw1
  obtain ⟨c0, c1, c2, c3, c4, c5, c6, c7, c8, c9, c10, c11, c12, c13, c14, c15, c16, c17, c18, c19, c20, c21, c22, c23, c24, c25, c26, c27, c28, c29⟩ := hB.cells
  cases hq1 : leftG t.g 1048576 t.g.length with
  | none =>
    have e1 : szG t.g 1048576 = -1 := by unfold szG; rw [hq1]
    simp only [e1] at cG
    clear e1 hq1
    go_wp2_with fail
    refine (cG _ (hg.below hb0)).mono ?_
    rintro e w2 ⟨rfl, hb⟩
    have hb1 := hb0.trans (hb.mono hb0.size)
    replace hB := hB.below hb
    clear c0 c1 c2 c3 c4 c5 c6 c7 c8 c9 c10 c11 c12 c13 c14 c15 c16 c17 c18 c19 c20 c21 c22 c23 c24 c25 c26 c27 c28 c29
    clear hb hb0
    obtain ⟨c0, c1, c2, c3, c4, c5, c6, c7, c8, c9, c10, c11, c12, c13, c14, c15, c16, c17, c18, c19, c20, c21, c22, c23, c24, c25, c26, c27, c28, c29⟩ := hB.cells
    go_wp2
    go_ret
    exact ⟨_, rfl, .inl (by decide), hb1⟩
  | some r1 =>
    have e1 : szG t.g 1048576 = (r1 : Int) := by unfold szG; rw [hq1]
    simp only [e1] at cG
    have l1 := leftG_le hq1
    have s1 := leftG_sum hq1
    have n1 : ¬ ((r1 : Int) < 0) := by omega
    clear e1 hq1
    go_wp2_with fail
    refine (cG _ (hg.below hb0)).mono ?_
    rintro e w2 ⟨rfl, hb⟩
    have hb1 := hb0.trans (hb.mono hb0.size)
    replace hB := hB.below hb
    clear c0 c1 c2 c3 c4 c5 c6 c7 c8 c9 c10 c11 c12 c13 c14 c15 c16 c17 c18 c19 c20 c21 c22 c23 c24 c25 c26 c27 c28 c29
    clear hb hb0
    obtain ⟨c0, c1, c2, c3, c4, c5, c6, c7, c8, c9, c10, c11, c12, c13, c14, c15, c16, c17, c18, c19, c20, c21, c22, c23, c24, c25, c26, c27, c28, c29⟩ := hB.cells
    cases hq2 : leftG t.o r1 t.o.length with
    | none =>
      have e2 : szG t.o r1 = -1 := by unfold szG; rw [hq2]
      have cO2 := fun W hW => cO r1 W hW l1.1
      simp only [e2] at cO2
      clear e2 hq2
      go_wp2_with fail
      refine (cO2 _ (ho.below hb1)).mono ?_
      rintro e w3 ⟨rfl, hb⟩
      have hb2 := hb1.trans (hb.mono hb1.size)
      replace hB := hB.below hb
      clear c0 c1 c2 c3 c4 c5 c6 c7 c8 c9 c10 c11 c12 c13 c14 c15 c16 c17 c18 c19 c20 c21 c22 c23 c24 c25 c26 c27 c28 c29
      clear hb hb1
      obtain ⟨c0, c1, c2, c3, c4, c5, c6, c7, c8, c9, c10, c11, c12, c13, c14, c15, c16, c17, c18, c19, c20, c21, c22, c23, c24, c25, c26, c27, c28, c29⟩ := hB.cells
      go_wp2
      go_ret
      exact ⟨_, rfl, .inl (by decide), hb2⟩
    | some r2 =>
      have e2 : szG t.o r1 = (r2 : Int) := by unfold szG; rw [hq2]
      have cO2 := fun W hW => cO r1 W hW l1.1
      simp only [e2] at cO2
      have l2 := leftG_le hq2
      have s2 := leftG_sum hq2
      have n2 : ¬ ((r2 : Int) < 0) := by omega
      have u2 : r2 ≤ 1048576 := by omega
      clear e2 hq2 n1 cO
      go_wp2_with fail
      refine (cO2 _ (ho.below hb1)).mono ?_
      rintro e w3 ⟨rfl, hb⟩
      have hb2 := hb1.trans (hb.mono hb1.size)
      replace hB := hB.below hb
      clear c0 c1 c2 c3 c4 c5 c6 c7 c8 c9 c10 c11 c12 c13 c14 c15 c16 c17 c18 c19 c20 c21 c22 c23 c24 c25 c26 c27 c28 c29
      clear hb hb1
      obtain ⟨c0, c1, c2, c3, c4, c5, c6, c7, c8, c9, c10, c11, c12, c13, c14, c15, c16, c17, c18, c19, c20, c21, c22, c23, c24, c25, c26, c27, c28, c29⟩ := hB.cells
      have cT2 := fun W hW => cT r2 W hW u2
      by_cases q3 : r2 < t.ti.length
      case pos =>
        rw [if_pos q3] at cT2
        go_wp2_with fail
        refine (cT2 _ (hti.below hb2).l.sl).mono ?_
        rintro e w4 ⟨rfl, hw⟩
        subst hw
        go_wp2
        go_ret
        exact ⟨_, rfl, .inl (by decide), hb2⟩
      rw [if_neg q3] at cT2
      obtain ⟨r3, hr3⟩ : ∃ r3, Hid (r2 - t.ti.length = r3) := ⟨_, rfl⟩
      rw [hr3.out] at cT2
      have n3 : ¬ ((r3 : Int) < 0) := by omega
      have v3 : Hid (r3 + t.ti.length = r2) := by show _ = _; have := hr3.out; omega
      have u3 : r3 ≤ 1048576 := by have := v3.out; omega
      clear hr3 n2 cT q3
      go_wp2_with fail
      refine (cT2 _ (hti.below hb2).l.sl).mono ?_
      rintro e w4 ⟨rfl, hw⟩
      subst hw
      have cP2 := fun W h1 h2 => cP r3 W h1 h2 u3
      by_cases q4 : szP t.pa.params.length t.pa.text.length r3 < 0
      case pos =>
        have e4 := szP_neg q4
        simp only [e4] at cP2
        clear e4 q4
        go_wp2_with fail
        refine (cP2 _ (hpp.below hb2).l.sl (hpt.below hb2).l.sl).mono ?_
        rintro e w5 ⟨rfl, hb⟩
        have hb3 := hb2.trans (hb.mono hb2.size)
        replace hB := hB.below hb
        clear c0 c1 c2 c3 c4 c5 c6 c7 c8 c9 c10 c11 c12 c13 c14 c15 c16 c17 c18 c19 c20 c21 c22 c23 c24 c25 c26 c27 c28 c29
        clear hb hb2
        obtain ⟨c0, c1, c2, c3, c4, c5, c6, c7, c8, c9, c10, c11, c12, c13, c14, c15, c16, c17, c18, c19, c20, c21, c22, c23, c24, c25, c26, c27, c28, c29⟩ := hB.cells
        go_wp2
        go_ret
        exact ⟨_, rfl, .inl (by decide), hb3⟩
      obtain ⟨r4, e4, s4⟩ := szP_some q4
      simp only [e4] at cP2
      have n4 : ¬ ((r4 : Int) < 0) := by omega
      have u4 : r4 ≤ 1048576 := by omega
      clear e4 q4 n3 cP
      go_wp2_with fail
      refine (cP2 _ (hpp.below hb2).l.sl (hpt.below hb2).l.sl).mono ?_
      rintro e w5 ⟨rfl, hb⟩
      have hb3 := hb2.trans (hb.mono hb2.size)
      replace hB := hB.below hb
      clear c0 c1 c2 c3 c4 c5 c6 c7 c8 c9 c10 c11 c12 c13 c14 c15 c16 c17 c18 c19 c20 c21 c22 c23 c24 c25 c26 c27 c28 c29
      clear hb hb2
      obtain ⟨c0, c1, c2, c3, c4, c5, c6, c7, c8, c9, c10, c11, c12, c13, c14, c15, c16, c17, c18, c19, c20, c21, c22, c23, c24, c25, c26, c27, c28, c29⟩ := hB.cells
      have cF2 := fun W => cF r4 W u4
      have hfin : Hid (SzT 1048576 t ∧ sumG t.g t.g.length + sumG t.o t.o.length + t.ti.length + t.pa.params.length + t.pa.text.length ≤ 1048576) := by
        show _ ∧ _
        have := v3.out
        refine ⟨⟨l1.2.1, l1.2.2, by omega, fun i hi => by have := l2.2.2 i hi; omega, by omega, by omega, by omega⟩, by omega⟩
      obtain ⟨z, hz⟩ : ∃ z, Hid ((if (r4 : Int) - (t.fe.size : Int) < 0 then -1 else (r4 : Int) - (t.fe.size : Int)) = z) := ⟨_, rfl⟩
      simp only [hz.out] at cF2
      clear hz cF n4 l1 l2 s1 s2 s4
      go_wp2_with fail
      refine (cF2 _).mono ?_
      rintro e w6 ⟨rfl, hb⟩
      have hb4 := hb3.trans (hb.mono hb3.size)
      replace hB := hB.below hb
      clear c0 c1 c2 c3 c4 c5 c6 c7 c8 c9 c10 c11 c12 c13 c14 c15 c16 c17 c18 c19 c20 c21 c22 c23 c24 c25 c26 c27 c28 c29
      clear hb hb3
      obtain ⟨c0, c1, c2, c3, c4, c5, c6, c7, c8, c9, c10, c11, c12, c13, c14, c15, c16, c17, c18, c19, c20, c21, c22, c23, c24, c25, c26, c27, c28, c29⟩ := hB.cells
      by_cases q5 : z < 0
      case pos =>
        go_wp2
        go_ret
        exact ⟨_, rfl, .inl (by decide), hb4⟩
      go_wp2
      go_ret
      exact ⟨_, rfl, .inr hfin.out, hb4⟩
end Go.Proofs.YtlmnhlfklbgjdaaGreatDoor
namespace Go.Proofs.YtlmnhlfklbgjdaaGreatDoor
open Go.ChangeShapes Go.WideShapes Go.ChangeAt Go.RowKit
set_option maxHeartbeats 4000000 in
theorem eqCSS_same (va vb : Value) (rows : List (List Ce)) (w : World) (ha : SlG w va rows) (hb : SlG w vb rows) (hl : rows.length ≤ 1073741824) (hx : ∀ i, i < rows.length → (rowX rows i).length ≤ 1073741824) :
    Calls Tryz.prog 101 #[va, vb] w fun e w' => e = .returned (.bool true) ∧ Below w.heap.size w w' := by
  obtain ⟨a, c, vs, rfl, _, _, hr, hs⟩ := id ha
  obtain ⟨a2, c2, vs2, rfl, _, _, hr2, hs2⟩ := id hb
  clear ha hb
  go_enter Tryz.func101, Tryz.ntmps101
  go_wp2
  go_loopw [5] (fun i wr => ∃ j : Nat, i = .int .i64 j ∧ j ≤ rows.length ∧ Below w.heap.size w wr) (fun i _ => rows.length - (intOf i).toNat)
  case atStart => exact ⟨0, rfl, Nat.zero_le _, Below.refl _ _⟩
  case round =>
    obtain ⟨j, rfl, hj, kb⟩ := hrel
    by_cases hlt : j < rows.length
    · have hji : (j : Int) < (rows.length : Int) := by omega
      have hj0 : (0 : Int) ≤ (j : Int) := by omega
      rcases hr with h | ⟨b, off, rfl, hbb, hrc⟩
      · rw [h] at hlt; simp at hlt
      rcases hr2 with h | ⟨b2, off2, rfl, hbb2, hrc2⟩
      · rw [h] at hlt; simp at hlt
      have hsj := (hs j hlt).below kb
      have hsj2 := (hs2 j hlt).below kb
      have hcj := (kb.cell (p := ⟨b, off + j, none⟩) hbb).trans (hrc j hlt)
      have hcj2 := (kb.cell (p := ⟨b2, off2 + j, none⟩) hbb2).trans (hrc2 j hlt)
      obtain ⟨aj, cj, ev, _⟩ := id hsj
      obtain ⟨aj2, cj2, ev2, _⟩ := id hsj2
      rw [ev] at hcj hsj
      rw [ev2] at hcj2 hsj2
      have heq := fun W (hW : Below wr.heap.size wr W) => eqC_same _ _ _ W (hsj.below hW) (hsj2.below hW) (hx j hlt)
      clear hs hs2 hrc hrc2 ev ev2 hsj hsj2
      go_wp2
      go_region_with (go_at_call 133; refine (heq _ (bdr _)).mono ?_; rintro e w2 ⟨rfl, hb2⟩)
      all_goals
        have kb2 := (kb.trans ((bdr wr).mono kb.size)).trans (hb2.mono kb.size)
        clear kb hb2 heq
        go_wp2
        go_roundw
        case rel => exact ⟨j + 1, by go_num, by omega, by first | exact kb2 | exact kb2.drew⟩
        case measure => simp [intOf]; omega
    · have hjn : j = rows.length := by omega
      have hji : ¬ (j : Int) < (rows.length : Int) := by omega
      subst hjn
      clear hs hs2 hr hr2
      go_wp2
      go_ret
      exact ⟨rfl, kb⟩
set_option maxHeartbeats 2000000 in
theorem eqGrid_same (cols : Int) (va vb : Value) (rows : List (List Ce)) (w : World) (ha : SlG w va rows) (hb : SlG w vb rows) (hl : rows.length ≤ 1073741824) (hx : ∀ i, i < rows.length → (rowX rows i).length ≤ 1073741824) :
    Calls Tryz.prog 61 #[gridV cols va, gridV cols vb] w fun e w' => e = .returned (.bool true) ∧ Below w.heap.size w w' := by
  have hb0 := bal' w (Obj.cells #[.int .i64 cols, va] 26)
  have hb1 := bal' (w.alloc (Obj.cells #[.int .i64 cols, va] 26)) (Obj.cells #[.int .i64 cols, vb] 26)
  have hG0 := (GrN.new w cols va 26).below hb1
  have hG1 := GrN.new (w.alloc (Obj.cells #[.int .i64 cols, va] 26)) cols vb 26
  have e0 : (w.alloc (Obj.cells #[.int .i64 cols, va] 26)).heap.size = w.heap.size + 1 := by simp
  rw [e0] at hG1
  have heq := fun W h1 h2 => eqCSS_same va vb rows W h1 h2 hl hx
  have hbb := hb0.trans (hb1.mono hb0.size)
  have ha1 := ha.below hbb
  have hb2 := hb.below hbb
  obtain ⟨a, c, vs, rfl, _⟩ := id ha
  obtain ⟨a2, c2, vs2, rfl, _⟩ := id hb
  unfold gridV
  obtain ⟨_, g0, g1⟩ := id hG0
  obtain ⟨_, f0, f1⟩ := id hG1
  go_enter Tryz.func61, Tryz.ntmps61
  go_wp2_with fail
  refine (heq _ ha1 hb2).mono ?_
  rintro e w2 ⟨rfl, hw⟩
  go_wp2
  go_ret
  exact ⟨rfl, hbb.trans (hw.mono hbb.size)⟩
end Go.Proofs.YtlmnhlfklbgjdaaGreatDoor
namespace Go.Proofs.YtlmnhlfklbgjdaaGreatDoor
open Go.ChangeShapes Go.WideShapes Go.ChangeAt Go.RowKit
theorem eqFeeder_same (h : ByteArray) (w : World) :
    Calls Tryz.prog 65 #[.agg #[.string h], .agg #[.string h]] w fun e w' => e = .returned (.bool true) ∧ Below w.heap.size w w' := by
  go_enter Tryz.func65, Tryz.ntmps65
  go_wp2
  go_ret
  exact ⟨rfl, ((Below.refl _ _).alloc (Nat.le_refl _) _).alloc (by simp) _⟩

end Go.Proofs.YtlmnhlfklbgjdaaGreatDoor
namespace Go.Proofs.YtlmnhlfklbgjdaaGreatDoor
open Go.ChangeShapes Go.WideShapes Go.ChangeAt Go.RowKit
set_option maxHeartbeats 8000000 in
set_option maxRecDepth 20000 in
theorem eqTerm_same (t : Te) (v v2 : Tv) (w : World) (h : SlT w t v) (h2 : SlT w t v2) (hz : SzT 1048576 t) :
    Calls Tryz.prog 20 #[teV t v, teV t v2] w fun e w' => e = .returned (.bool true) ∧ Below w.heap.size w w' := by
  obtain ⟨vg, vo, vti, vpp, vpt⟩ := v
  obtain ⟨hg, ho, hti, hpp, hpt⟩ := h
  obtain ⟨vg2, vo2, vti2, vpp2, vpt2⟩ := v2
  obtain ⟨hg2, ho2, hti2, hpp2, hpt2⟩ := h2
  simp only at hg ho hti hpp hpt hg2 ho2 hti2 hpp2 hpt2
  obtain ⟨z1, z2, z3, z4, z5, z6, z7⟩ := hz
  have cG := fun W h1 h2 => eqGrid_same t.gc vg vg2 t.g W h1 h2 (by omega) (fun i hi => by have := z2 i hi; omega)
  have cO := fun W h1 h2 => eqGrid_same t.oc vo vo2 t.o W h1 h2 (by omega) (fun i hi => by have := z4 i hi; omega)
  have cS := fun W => eqStyle_same t.st W
  have cSs := fun W => eqStyle_same t.ss W
  have cT := fun W h1 h2 => eqI_same vti vti2 t.ti W h1 h2 (by omega)
  have cP := fun W h1 h2 h3 h4 => eqParser_same t.pa vpp vpt vpp2 vpt2 W h1 h2 h3 h4 (by omega) (by omega)
  have cF := fun W => eqFeeder_same t.fe W
  obtain ⟨ga, gp, hq1⟩ := slG_shp hg
  obtain ⟨oa, op, hq2⟩ := slG_shp ho
  obtain ⟨tia, tip, hq3⟩ := hti.shp
  obtain ⟨ppa, ppp, hq4⟩ := hpp.shp
  obtain ⟨pta, ptp, hq5⟩ := hpt.shp
  obtain ⟨ga2, gp2, hq6⟩ := slG_shp hg2
  obtain ⟨oa2, op2, hq7⟩ := slG_shp ho2
  obtain ⟨tia2, tip2, hq8⟩ := hti2.shp
  obtain ⟨ppa2, ppp2, hq9⟩ := hpp2.shp
  obtain ⟨pta2, ptp2, hq10⟩ := hpt2.shp
  subst hq1; subst hq2; subst hq3; subst hq4; subst hq5; subst hq6; subst hq7; subst hq8; subst hq9; subst hq10
  have hb1 := bal' w (Obj.cells (teCs t ⟨.slice ga t.g.length gp, .slice oa t.o.length op, .slice tia t.ti.length tip, .slice ppa t.pa.params.length ppp, .slice pta t.pa.text.length ptp⟩) 35)
  have hb2 := bal' (w.alloc (Obj.cells (teCs t ⟨.slice ga t.g.length gp, .slice oa t.o.length op, .slice tia t.ti.length tip, .slice ppa t.pa.params.length ppp, .slice pta t.pa.text.length ptp⟩) 35)) (Obj.cells (teCs t ⟨.slice ga2 t.g.length gp2, .slice oa2 t.o.length op2, .slice tia2 t.ti.length tip2, .slice ppa2 t.pa.params.length ppp2, .slice pta2 t.pa.text.length ptp2⟩) 35)
  have hX0 := (TeB.new w 35 t ⟨.slice ga t.g.length gp, .slice oa t.o.length op, .slice tia t.ti.length tip, .slice ppa t.pa.params.length ppp, .slice pta t.pa.text.length ptp⟩).below hb2
  have hY0 := TeB.new (w.alloc (Obj.cells (teCs t ⟨.slice ga t.g.length gp, .slice oa t.o.length op, .slice tia t.ti.length tip, .slice ppa t.pa.params.length ppp, .slice pta t.pa.text.length ptp⟩) 35)) 35 t ⟨.slice ga2 t.g.length gp2, .slice oa2 t.o.length op2, .slice tia2 t.ti.length tip2, .slice ppa2 t.pa.params.length ppp2, .slice pta2 t.pa.text.length ptp2⟩
  have kb := hb1.trans (hb2.mono hb1.size)
  rw [show (w.alloc (Obj.cells (teCs t ⟨.slice ga t.g.length gp, .slice oa t.o.length op, .slice tia t.ti.length tip, .slice ppa t.pa.params.length ppp, .slice pta t.pa.text.length ptp⟩) 35)).heap.size = w.heap.size + 1 by simp] at hY0
  obtain ⟨w2, hw2⟩ : ∃ w2, w2 = (w.alloc (Obj.cells (teCs t ⟨.slice ga t.g.length gp, .slice oa t.o.length op, .slice tia t.ti.length tip, .slice ppa t.pa.params.length ppp, .slice pta t.pa.text.length ptp⟩) 35)).alloc (Obj.cells (teCs t ⟨.slice ga2 t.g.length gp2, .slice oa2 t.o.length op2, .slice tia2 t.ti.length tip2, .slice ppa2 t.pa.params.length ppp2, .slice pta2 t.pa.text.length ptp2⟩) 35) := ⟨_, rfl⟩
  rw [← hw2] at hX0 hY0 kb
  replace hw2 := (show Hid _ from hw2)
  have hX := hX0
  have hY := hY0
  clear z1 z2 z3 z4 z5 z6 z7 hb1 hb2 hX0 hY0
  unfold teV gridV stV paV at *
  go_enter Tryz.func20, Tryz.ntmps20
  refine wp_seq_k (fun K hK => ?_)
  have hH := (show Hid _ from hK)
  clear hK
  go_wp2
  refine hH.out _ _ ?_
  rw [← hw2.out]
  clear hH hw2
  obtain ⟨c0, c1, c2, c3, c4, c5, c6, c7, c8, c9, c10, c11, c12, c13, c14, c15, c16, c17, c18, c19, c20, c21, c22, c23, c24, c25, c26, c27, c28, c29⟩ := hX.cells
  obtain ⟨d0, d1, d2, d3, d4, d5, d6, d7, d8, d9, d10, d11, d12, d13, d14, d15, d16, d17, d18, d19, d20, d21, d22, d23, d24, d25, d26, d27, d28, d29⟩ := hY.cells
  go_wp2_with fail
  refine (cG _ (hg.below kb) (hg2.below kb)).mono ?_
  rintro e w3 ⟨rfl, hb⟩
  replace kb := kb.trans (hb.mono kb.size)
  replace hX := hX.below hb
  replace hY := hY.below hb
  clear c0 c1 c2 c3 c4 c5 c6 c7 c8 c9 c10 c11 c12 c13 c14 c15 c16 c17 c18 c19 c20 c21 c22 c23 c24 c25 c26 c27 c28 c29
  clear d0 d1 d2 d3 d4 d5 d6 d7 d8 d9 d10 d11 d12 d13 d14 d15 d16 d17 d18 d19 d20 d21 d22 d23 d24 d25 d26 d27 d28 d29
  clear hb
  obtain ⟨c0, c1, c2, c3, c4, c5, c6, c7, c8, c9, c10, c11, c12, c13, c14, c15, c16, c17, c18, c19, c20, c21, c22, c23, c24, c25, c26, c27, c28, c29⟩ := hX.cells
  obtain ⟨d0, d1, d2, d3, d4, d5, d6, d7, d8, d9, d10, d11, d12, d13, d14, d15, d16, d17, d18, d19, d20, d21, d22, d23, d24, d25, d26, d27, d28, d29⟩ := hY.cells
  go_wp2_with fail
  refine (cO _ (ho.below kb) (ho2.below kb)).mono ?_
  rintro e w4 ⟨rfl, hb⟩
  replace kb := kb.trans (hb.mono kb.size)
  replace hX := hX.below hb
  replace hY := hY.below hb
  clear c0 c1 c2 c3 c4 c5 c6 c7 c8 c9 c10 c11 c12 c13 c14 c15 c16 c17 c18 c19 c20 c21 c22 c23 c24 c25 c26 c27 c28 c29
  clear d0 d1 d2 d3 d4 d5 d6 d7 d8 d9 d10 d11 d12 d13 d14 d15 d16 d17 d18 d19 d20 d21 d22 d23 d24 d25 d26 d27 d28 d29
  clear hb
  obtain ⟨c0, c1, c2, c3, c4, c5, c6, c7, c8, c9, c10, c11, c12, c13, c14, c15, c16, c17, c18, c19, c20, c21, c22, c23, c24, c25, c26, c27, c28, c29⟩ := hX.cells
  obtain ⟨d0, d1, d2, d3, d4, d5, d6, d7, d8, d9, d10, d11, d12, d13, d14, d15, d16, d17, d18, d19, d20, d21, d22, d23, d24, d25, d26, d27, d28, d29⟩ := hY.cells
  go_wp2_with fail
  refine (cS _).mono ?_
  rintro e w5 ⟨rfl, hb⟩
  replace kb := kb.trans (hb.mono kb.size)
  replace hX := hX.below hb
  replace hY := hY.below hb
  clear c0 c1 c2 c3 c4 c5 c6 c7 c8 c9 c10 c11 c12 c13 c14 c15 c16 c17 c18 c19 c20 c21 c22 c23 c24 c25 c26 c27 c28 c29
  clear d0 d1 d2 d3 d4 d5 d6 d7 d8 d9 d10 d11 d12 d13 d14 d15 d16 d17 d18 d19 d20 d21 d22 d23 d24 d25 d26 d27 d28 d29
  clear hb
  obtain ⟨c0, c1, c2, c3, c4, c5, c6, c7, c8, c9, c10, c11, c12, c13, c14, c15, c16, c17, c18, c19, c20, c21, c22, c23, c24, c25, c26, c27, c28, c29⟩ := hX.cells
  obtain ⟨d0, d1, d2, d3, d4, d5, d6, d7, d8, d9, d10, d11, d12, d13, d14, d15, d16, d17, d18, d19, d20, d21, d22, d23, d24, d25, d26, d27, d28, d29⟩ := hY.cells
  go_wp2_with fail
  refine (cSs _).mono ?_
  rintro e w6 ⟨rfl, hb⟩
  replace kb := kb.trans (hb.mono kb.size)
  replace hX := hX.below hb
  replace hY := hY.below hb
  clear c0 c1 c2 c3 c4 c5 c6 c7 c8 c9 c10 c11 c12 c13 c14 c15 c16 c17 c18 c19 c20 c21 c22 c23 c24 c25 c26 c27 c28 c29
  clear d0 d1 d2 d3 d4 d5 d6 d7 d8 d9 d10 d11 d12 d13 d14 d15 d16 d17 d18 d19 d20 d21 d22 d23 d24 d25 d26 d27 d28 d29
  clear hb
  obtain ⟨c0, c1, c2, c3, c4, c5, c6, c7, c8, c9, c10, c11, c12, c13, c14, c15, c16, c17, c18, c19, c20, c21, c22, c23, c24, c25, c26, c27, c28, c29⟩ := hX.cells
  obtain ⟨d0, d1, d2, d3, d4, d5, d6, d7, d8, d9, d10, d11, d12, d13, d14, d15, d16, d17, d18, d19, d20, d21, d22, d23, d24, d25, d26, d27, d28, d29⟩ := hY.cells
  go_wp2_with fail
  refine (cT _ (hti.below kb).l.sl (hti2.below kb).l.sl).mono ?_
  rintro e w7 ⟨rfl, nd, hwd⟩
  have hb : Below _ _ w7 := hwd ▸ drewN_bel _ nd
  clear hwd
  replace kb := kb.trans (hb.mono kb.size)
  replace hX := hX.below hb
  replace hY := hY.below hb
  clear c0 c1 c2 c3 c4 c5 c6 c7 c8 c9 c10 c11 c12 c13 c14 c15 c16 c17 c18 c19 c20 c21 c22 c23 c24 c25 c26 c27 c28 c29
  clear d0 d1 d2 d3 d4 d5 d6 d7 d8 d9 d10 d11 d12 d13 d14 d15 d16 d17 d18 d19 d20 d21 d22 d23 d24 d25 d26 d27 d28 d29
  clear hb
  obtain ⟨c0, c1, c2, c3, c4, c5, c6, c7, c8, c9, c10, c11, c12, c13, c14, c15, c16, c17, c18, c19, c20, c21, c22, c23, c24, c25, c26, c27, c28, c29⟩ := hX.cells
  obtain ⟨d0, d1, d2, d3, d4, d5, d6, d7, d8, d9, d10, d11, d12, d13, d14, d15, d16, d17, d18, d19, d20, d21, d22, d23, d24, d25, d26, d27, d28, d29⟩ := hY.cells
  go_wp2_with fail
  refine (cP _ (hpp.below kb).l.sl (hpt.below kb).l.sl (hpp2.below kb).l.sl (hpt2.below kb).l.sl).mono ?_
  rintro e w8 ⟨rfl, hb⟩
  replace kb := kb.trans (hb.mono kb.size)
  replace hX := hX.below hb
  replace hY := hY.below hb
  clear c0 c1 c2 c3 c4 c5 c6 c7 c8 c9 c10 c11 c12 c13 c14 c15 c16 c17 c18 c19 c20 c21 c22 c23 c24 c25 c26 c27 c28 c29
  clear d0 d1 d2 d3 d4 d5 d6 d7 d8 d9 d10 d11 d12 d13 d14 d15 d16 d17 d18 d19 d20 d21 d22 d23 d24 d25 d26 d27 d28 d29
  clear hb
  obtain ⟨c0, c1, c2, c3, c4, c5, c6, c7, c8, c9, c10, c11, c12, c13, c14, c15, c16, c17, c18, c19, c20, c21, c22, c23, c24, c25, c26, c27, c28, c29⟩ := hX.cells
  obtain ⟨d0, d1, d2, d3, d4, d5, d6, d7, d8, d9, d10, d11, d12, d13, d14, d15, d16, d17, d18, d19, d20, d21, d22, d23, d24, d25, d26, d27, d28, d29⟩ := hY.cells
  go_wp2_with fail
  refine (cF _).mono ?_
  rintro e w9 ⟨rfl, hb⟩
  replace kb := kb.trans (hb.mono kb.size)
  clear c0 c1 c2 c3 c4 c5 c6 c7 c8 c9 c10 c11 c12 c13 c14 c15 c16 c17 c18 c19 c20 c21 c22 c23 c24 c25 c26 c27 c28 c29
  clear d0 d1 d2 d3 d4 d5 d6 d7 d8 d9 d10 d11 d12 d13 d14 d15 d16 d17 d18 d19 d20 d21 d22 d23 d24 d25 d26 d27 d28 d29
  clear hb
  go_wp2
  go_ret
  exact ⟨rfl, kb⟩
end Go.Proofs.YtlmnhlfklbgjdaaGreatDoor
namespace Go.Proofs.YtlmnhlfklbgjdaaGreatDoor
open Go.ChangeShapes Go.WideShapes Go.ChangeAt Go.RowKit
theorem info_tl : (Tryz.prog.info? 54).map (·.size) = some 30 := by kernel_rfl
theorem load_tl {w : World} {ops : Array Oper} {rest : List Oper} {o : Oper} {a : Act} {Q : Exit → Act → World → Prop} {B : Nat} {t : Te} {v : Tv} (hb : TeB w B 54 t v) (hgd : Region.wanted o (yielded ops a.tmps) = true) (x : Operand)
    (ho : o.op = .load 54 x) (hx : a.eval x = .pointer (some ⟨B, 0, none⟩))
    (h : wpList Tryz.prog ops Q rest (a.put o.dst (.agg (teCs t v))) w) : wpList Tryz.prog ops Q (o :: rest) a w :=
  load_T (cs := teCs t v) hgd 54 x ho Tryz.underlying54 rfl info_tl hb hx h
theorem run_load_te {W : World} {B : Nat} {t : Te} {v : Tv} (hb : TeB W B 35 t v) (a : Act) (o : Oper) (x : Operand) (ho : o.op = .load 35 x) (hx : a.eval x = .pointer (some ⟨B, 0, none⟩)) :
    (execOp a.eval o).run Tryz.prog W = .ok (.value (.agg (teCs t v))) W := by
  unfold execOp
  simp only [ho, hx, Instr.loadAt, Instr.sureAddr, Sem.run_bind, Sem.run_pure, Result.andThen_ok, run_loadVar_row W B 35 35 (teCs t v) (0, 0) _ hb Tryz.underlying35 rfl info_te]
theorem run_load_tl {W : World} {B : Nat} {t : Te} {v : Tv} (hb : TeB W B 54 t v) (a : Act) (o : Oper) (x : Operand) (ho : o.op = .load 54 x) (hx : a.eval x = .pointer (some ⟨B, 0, none⟩)) :
    (execOp a.eval o).run Tryz.prog W = .ok (.value (.agg (teCs t v))) W := by
  unfold execOp
  simp only [ho, hx, Instr.loadAt, Instr.sureAddr, Sem.run_bind, Sem.run_pure, Result.andThen_ok, run_loadVar_row W B 54 54 (teCs t v) (0, 0) _ hb Tryz.underlying54 rfl info_tl]
end Go.Proofs.YtlmnhlfklbgjdaaGreatDoor
namespace Go.Proofs.YtlmnhlfklbgjdaaGreatDoor
open Go.ChangeShapes Go.WideShapes Go.ChangeAt Go.RowKit
set_option maxHeartbeats 2000000 in
set_option maxRecDepth 20000 in
theorem l8Go_any (r c : Int) (w : World) (h : 0 ≤ r ∧ r < 99) (h2 : 0 ≤ c ∧ c < 99) :
    Calls Tryz.prog 33 #[.int .i64 r, .int .i64 c] w fun e w' => ∃ t, e = .returned (.string t) ∧ nums t = goL r c ∧ Below w.heap.size w w' := by
  have h1 := fun W => l3Int_any (r + 1) W ⟨by omega, by omega⟩
  have h2 := fun W => l3Int_any (c + 1) W ⟨by omega, by omega⟩
  have hw1 : IntKind.i64.wrap (r + 1) = r + 1 := by simp [IntKind.wrap_i64]; omega
  have hw2 : IntKind.i64.wrap (c + 1) = c + 1 := by simp [IntKind.wrap_i64]; omega
  go_enter Tryz.func33, Tryz.ntmps33
  go_wp2_with fail
  refine (h1 _).mono ?_
  rintro e w2 ⟨t1, rfl, ht1, hb1⟩
  have hz1 : t1.size ≤ 2 := by rw [← nums_len, ht1]; exact digL_len _
  have e1 : (⟨#[27, 91]⟩ : ByteArray).size = 2 := rfl
  have e2 : (⟨#[59]⟩ : ByteArray).size = 1 := rfl
  have hy1 : ((⟨#[27, 91]⟩ : ByteArray) ++ t1).size ≤ 4 := by rw [ByteArray.size_append]; omega
  have hy2 : ((⟨#[27, 91]⟩ : ByteArray) ++ t1 ++ ⟨#[59]⟩).size ≤ 5 := by rw [ByteArray.size_append]; omega
  replace ht1 := (show Hid _ from ht1)
  go_wp2_with fail
  refine (h2 _).mono ?_
  rintro e w3 ⟨t2, rfl, ht2, hb2⟩
  have hz2 : t2.size ≤ 2 := by rw [← nums_len, ht2]; exact digL_len _
  have hy3 : ((⟨#[27, 91]⟩ : ByteArray) ++ t1 ++ ⟨#[59]⟩ ++ t2).size ≤ 7 := by rw [ByteArray.size_append]; omega
  replace ht2 := (show Hid _ from ht2)
  go_wp2
  go_ret
  refine ⟨_, rfl, ?_, hb1.trans (hb2.mono hb1.size)⟩
  rw [nums_app5, nums_app5, nums_app5, nums_app5, ht1.out, ht2.out]
  rfl
set_option maxHeartbeats 2000000 in
set_option maxRecDepth 20000 in
theorem l8Zero_any (c : Ce) (w : World) :
    Calls Tryz.prog 32 #[ceV c] w fun e w' => e = .returned (.bool (decide (c = blankC St.zero))) ∧ Below w.heap.size w w' := by
  have hbl := fun W => l4Blank_any St.zero W
  have heq := fun W => eq_ce2 c (blankC St.zero) W
  have hb1 := bal' w (Obj.cells #[.int .i64 c.rune, .int .i64 c.st.fore, .int .i64 c.st.back, .bool c.st.bold, .bool c.st.under, .bool c.st.turned, .int .i64 c.part] 75)
  have hce := CeF.new w c 75
  generalize decide (c = blankC St.zero) = r at *
  unfold ceV stV at *
  simp only [blankC, St.zero] at heq hbl
  obtain ⟨w1, hw1⟩ : ∃ w1, w1 = w.alloc (Obj.cells #[.int .i64 c.rune, .int .i64 c.st.fore, .int .i64 c.st.back, .bool c.st.bold, .bool c.st.under, .bool c.st.turned, .int .i64 c.part] 75) := ⟨_, rfl⟩
  rw [← hw1] at hb1 hce
  have hci : ∀ W, Below w1.heap.size w1 W → (W.cell? ⟨w.heap.size, 0, none⟩ = some (.int .i64 c.rune) ∧ W.cell? ⟨w.heap.size, 1, none⟩ = some (.int .i64 c.st.fore) ∧ W.cell? ⟨w.heap.size, 2, none⟩ = some (.int .i64 c.st.back) ∧ W.cell? ⟨w.heap.size, 3, none⟩ = some (.bool c.st.bold) ∧ W.cell? ⟨w.heap.size, 4, none⟩ = some (.bool c.st.under) ∧ W.cell? ⟨w.heap.size, 5, none⟩ = some (.bool c.st.turned) ∧ W.cell? ⟨w.heap.size, 6, none⟩ = some (.int .i64 c.part)) := fun W hW => (hce.below hW).2.1
  have hd := hci _ (bdr w1)
  have kd := hb1.trans ((bdr w1).mono hb1.size)
  replace hw1 := (show Hid _ from hw1)
  clear hce
  go_enter Tryz.func32, Tryz.ntmps32
  refine wp_seq_k (fun K hK => ?_)
  have hH := (show Hid _ from hK)
  clear hK
  go_wp2
  refine hH.out _ _ ?_
  rw [← hw1.out]
  clear hH hw1
  go_wp2
  go_region_held3 (fun W => W.cell? ⟨w.heap.size, 0, none⟩ = some (.int .i64 c.rune) ∧ W.cell? ⟨w.heap.size, 1, none⟩ = some (.int .i64 c.st.fore) ∧ W.cell? ⟨w.heap.size, 2, none⟩ = some (.int .i64 c.st.back) ∧ W.cell? ⟨w.heap.size, 3, none⟩ = some (.bool c.st.bold) ∧ W.cell? ⟨w.heap.size, 4, none⟩ = some (.bool c.st.under) ∧ W.cell? ⟨w.heap.size, 5, none⟩ = some (.bool c.st.turned) ∧ W.cell? ⟨w.heap.size, 6, none⟩ = some (.int .i64 c.part)) (with_reducible assumption)
    (first
      | (go_at_call 88; refine (hbl _).mono ?_; rintro e w2 ⟨rfl, hb2⟩; have kd2 := (bdr w1).trans (hb2.mono (bdr w1).size); have hk2 := hci _ kd2))
  go_wp2
  go_ret
  exact ⟨rfl, kd.trans (hb2.mono kd.size)⟩
/-- What stands while a screen is drawn. -/
structure DS (w0 W : World) (v : Value) (L : List Int) (s : St) (t : Te) (tv : Tv) (B : Nat) : Prop where
  row : RowT w0.heap.size v L W
  st : BlkC W B 28 [.int .i64 s.fore, .int .i64 s.back, .bool s.bold, .bool s.under, .bool s.turned]
  tb : TeB W w0.heap.size 35 t tv
  bel : Below w0.heap.size w0 W
  lt : w0.heap.size < B
theorem DS.size {w0 W : World} {v : Value} {L : List Int} {s : St} {t : Te} {tv : Tv} {B : Nat} (h : DS w0 W v L s t tv B) : w0.heap.size ≤ W.heap.size := h.bel.size
theorem DS.below {w0 W W' : World} {v : Value} {L : List Int} {s : St} {t : Te} {tv : Tv} {B : Nat} (h : DS w0 W v L s t tv B) (hb : Below W.heap.size W W') : DS w0 W' v L s t tv B :=
  ⟨h.row.below hb, h.st.below hb, h.tb.below hb, h.bel.trans (hb.mono h.bel.size), h.lt⟩
theorem DS.app {w0 W W' : World} {v v' : Value} {L M : List Int} {s : St} {t : Te} {tv : Tv} {B : Nat} (h : DS w0 W v L s t tv B) (hr : RowT w0.heap.size v' (L ++ M) W') (hg : W.grownBy W' v.ownBlock) : DS w0 W' v' (L ++ M) s t tv B := by
  refine ⟨hr, h.st.kept hg (h.row.not h.st (by decide)), ?_, h.bel.grown hg h.bel.size (fun g e => (h.row.ty e).1), h.lt⟩
  have := h.tb.lt
  unfold TeB
  rw [hg.block _ this (fun e => h.row.not h.tb (by decide) e.symm)]
  exact h.tb
theorem DS.sty {w0 W W' : World} {v : Value} {L : List Int} {s s' : St} {t : Te} {tv : Tv} {B : Nat} (h : DS w0 W v L s t tv B) (hg : W.grownBy W' (some B)) (hs : W'.heap[B]? = some (.cells #[.int .i64 s'.fore, .int .i64 s'.back, .bool s'.bold, .bool s'.under, .bool s'.turned] 28 (0, 0))) : DS w0 W' v L s' t tv B := by
  have hlt := h.lt
  refine ⟨h.row.kept hg (.inr (h.row.not h.st (by decide))), hs, ?_, h.bel.grown hg h.bel.size (fun g e => by cases e; omega), h.lt⟩
  unfold TeB
  rw [hg.block _ h.tb.lt (by intro e; simp at e; omega)]
  exact h.tb
theorem DS.sc {w0 W : World} {v : Value} {L : List Int} {s : St} {t : Te} {tv : Tv} {B : Nat} (h : DS w0 W v L s t tv B) : W.cell? ⟨B, 0, none⟩ = some (.int .i64 s.fore) ∧ W.cell? ⟨B, 1, none⟩ = some (.int .i64 s.back) ∧ W.cell? ⟨B, 2, none⟩ = some (.bool s.bold) ∧ W.cell? ⟨B, 3, none⟩ = some (.bool s.under) ∧ W.cell? ⟨B, 4, none⟩ = some (.bool s.turned) :=
  ⟨cells_all h.st 0, cells_all h.st 1, cells_all h.st 2, cells_all h.st 3, cells_all h.st 4⟩
theorem DS.tc {w0 W : World} {v : Value} {L : List Int} {s : St} {t : Te} {tv : Tv} {B : Nat} (h : DS w0 W v L s t tv B) : W.cell? ⟨w0.heap.size, 1, none⟩ = some tv.g ∧ W.cell? ⟨w0.heap.size, 4, none⟩ = some (.int .i64 t.row) ∧ W.cell? ⟨w0.heap.size, 5, none⟩ = some (.int .i64 t.col) ∧ W.cell? ⟨w0.heap.size, 6, none⟩ = some (.int .i64 t.st.fore) ∧ W.cell? ⟨w0.heap.size, 7, none⟩ = some (.int .i64 t.st.back) ∧ W.cell? ⟨w0.heap.size, 8, none⟩ = some (.bool t.st.bold) ∧ W.cell? ⟨w0.heap.size, 9, none⟩ = some (.bool t.st.under) ∧ W.cell? ⟨w0.heap.size, 10, none⟩ = some (.bool t.st.turned) ∧ W.cell? ⟨w0.heap.size, 11, none⟩ = some (.int .i64 t.top) ∧ W.cell? ⟨w0.heap.size, 12, none⟩ = some (.int .i64 t.bot) ∧ W.cell? ⟨w0.heap.size, 14, none⟩ = some (.bool t.wrap) ∧ W.cell? ⟨w0.heap.size, 16, none⟩ = some (.bool t.hid) :=
  ⟨cells_all h.tb 1, cells_all h.tb 4, cells_all h.tb 5, cells_all h.tb 6, cells_all h.tb 7, cells_all h.tb 8, cells_all h.tb 9, cells_all h.tb 10, cells_all h.tb 11, cells_all h.tb 12, cells_all h.tb 14, cells_all h.tb 16⟩
end Go.Proofs.YtlmnhlfklbgjdaaGreatDoor
