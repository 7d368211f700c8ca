/- Changes of a patch in memory. A style is like itself. The laws' own helpers on rows: two cells alike. The laws' own copy of a style. The laws' own helpers on rows: size, copy. The laws' own helpers on patches: size. What an argument that is a patch is, once it can be read. The laws' own helpers on grids: size, likeness. The laws' own helpers on rows: two rows alike. The laws' own helpers on rows: marked and held. The laws' own helpers on grids: marked and held. Sizes of grids that the laws reckon with; what stays within a range. The laws' own helpers on rows: a row's copy. The laws' own helpers on grids: a grid's copy. Contract of the specification's new grids. The laws' own helpers on grids: a grid's copy whole. The laws' own helpers on grids: likeness. What stays while an exact law of rows runs. The laws' own helpers on patches: marked and held. The laws' own helpers on patches: copy. The laws' own helpers on patches: lists of changes copied, a patch copied. The laws' own helpers on patches: likeness. What a patch makes of rows. Contract of the program's changeWithin. Rows of rows that are moved about. Contract of the specification's copied grid. Contract of the specification's l5Move. Contract of the specification's mended row. Two styles compared. -/
import Derived.Test.YtpijokologkbeaaDoorP1
import Derived.Laws.OwnMore
import Derived.Deep.RegionWith
import Derived.Deep.RegionHeld3
import Derived.Laws.StructEq
namespace Go.Proofs.YtpijokologkbeaaDoor
open Go.ChangeShapes Go.WideShapes Go.ChangeAt Go.RowKit
structure Ch where
  row : Int
  frm : Int
  cells : List Ce
def chZ : Ch := ⟨0, 0, []⟩
def chX (cs : List Ch) (i : Nat) : Ch := cs.getD i chZ
theorem chX_lt {cs : List Ch} {i : Nat} (h : i < cs.length) : chX cs i = cs[i] := by simp [chX, List.getD, h]
theorem chX_set {cs : List Ch} {i : Nat} (hi : i < cs.length) (x : Ch) (k : Nat) : chX (cs.set i x) k = if k = i then x else chX cs k := by
  unfold chX
  by_cases e : k = i
  · subst e; rw [if_pos rfl]; simp [List.getD, hi]
  · rw [if_neg e]; simp [List.getD, Ne.symm e]
theorem ext_chX (a b : List Ch) (hl : a.length = b.length) (h : ∀ i, i < a.length → chX a i = chX b i) : a = b := by
  apply List.ext_getElem hl
  intro i h1 h2
  rw [← chX_lt h1, ← chX_lt h2]
  exact h i h1
/-- A slice of changes that can be read. -/
def SlP (w : World) (v : Value) (cs : List Ch) : Prop :=
  ∃ a c vs, v = .slice a cs.length c ∧ cs.length ≤ c ∧ (cs = [] ∨ ∃ b off, a = some ⟨b, off, none⟩ ∧ b < w.heap.size ∧ ∀ i, i < cs.length → w.cell? ⟨b, off + i * 3, none⟩ = some (.int .i64 (chX cs i).row) ∧ w.cell? ⟨b, off + i * 3 + 1, none⟩ = some (.int .i64 (chX cs i).frm) ∧ w.cell? ⟨b, off + i * 3 + 2, none⟩ = some (rowV vs i)) ∧ ∀ i, i < cs.length → SlC w (rowV vs i) (chX cs i).cells
theorem SlP.below {w w' : World} {v : Value} {cs : List Ch} (h : SlP w v cs) (hb : Below w.heap.size w w') : SlP w' v cs := by
  obtain ⟨a, c, vs, hv, hc, hr, hs⟩ := h
  refine ⟨a, c, vs, hv, hc, ?_, fun i hi => (hs i hi).below hb⟩
  rcases hr with hr | ⟨b, off, ha, hlt, hi⟩
  · exact .inl hr
  · refine .inr ⟨b, off, ha, Nat.lt_of_lt_of_le hlt hb.size, fun i h => ?_⟩
    have e : ∀ q, w'.cell? ⟨b, q, none⟩ = w.cell? ⟨b, q, none⟩ := fun q => hb.cell (p := ⟨b, q, none⟩) hlt
    rw [e, e, e]
    exact hi i h
theorem SlP.shp {w : World} {v : Value} {cs : List Ch} (h : SlP w v cs) : ∃ a n c, v = Value.slice a n c := by
  obtain ⟨a, c, vs, rfl, _⟩ := h
  exact ⟨_, _, _, rfl⟩
/-- The cells of a row of changes. -/
def ChL (L : List Value) (vs : List Value) (cs : List Ch) : Prop := ∀ i, i < cs.length → L[i * 3]? = some (.int .i64 (chX cs i).row) ∧ L[i * 3 + 1]? = some (.int .i64 (chX cs i).frm) ∧ L[i * 3 + 2]? = some (rowV vs i)
/-- A slice of changes of this call's own, the cells of each in a block of its own below B. -/
def OwnP (w : World) (base B : Nat) (v : Value) (vs : List Value) (cs : List Ch) : Prop :=
  vs.length = cs.length ∧ (∃ L, w.ownsRow base 68 3 v cs.length L ∧ ChL L vs cs) ∧ (∀ i, i < cs.length → OwnC w base (rowV vs i) (chX cs i).cells) ∧
    (∀ i, i < cs.length → ∀ g, (rowV vs i).ownBlock = some g → g < B) ∧ (∀ i j, i < j → j < cs.length → ∀ g, (rowV vs i).ownBlock = some g → (rowV vs j).ownBlock ≠ some g)
theorem OwnP.below {w w' : World} {base B : Nat} {v : Value} {vs : List Value} {cs : List Ch} (h : OwnP w base B v vs cs) (hb : Below w.heap.size w w') : OwnP w' base B v vs cs := by
  obtain ⟨hl, ⟨L, ho, hL⟩, hr, hB, hd⟩ := h
  exact ⟨hl, ⟨L, World.ownsRow.below ho hb, hL⟩, fun i hi => (hr i hi).below hb, hB, hd⟩
theorem OwnP.up {w : World} {base B B' : Nat} {v : Value} {vs : List Value} {cs : List Ch} (h : OwnP w base B v vs cs) (hb : B ≤ B') : OwnP w base B' v vs cs :=
  ⟨h.1, h.2.1, h.2.2.1, fun i hi g e => Nat.lt_of_lt_of_le (h.2.2.2.1 i hi g e) hb, h.2.2.2.2⟩
theorem OwnP.low {w : World} {base base' B : Nat} {v : Value} {vs : List Value} {cs : List Ch} (h : OwnP w base B v vs cs) (hb : base' ≤ base) : OwnP w base' B v vs cs := by
  obtain ⟨hl, ⟨L, ho, hL⟩, hr, hB, hd⟩ := h
  refine ⟨hl, ⟨L, ⟨ho.1, ?_⟩, hL⟩, fun i hi => (hr i hi).low hb, hB, hd⟩
  rcases ho.2 with h2 | ⟨g, cap, cur, hv, hbg, r⟩
  · exact .inl h2
  · exact .inr ⟨g, cap, cur, hv, Nat.le_trans hb hbg, r⟩
theorem OwnP.now {w : World} {base B : Nat} {v : Value} {vs : List Value} {cs : List Ch} (h : OwnP w base B v vs cs) : OwnP w base w.heap.size v vs cs :=
  ⟨h.1, h.2.1, h.2.2.1, fun i hi g e => ((h.2.2.1 i hi).lt g e).2, h.2.2.2.2⟩
theorem OwnP.lt {w : World} {base B : Nat} {v : Value} {vs : List Value} {cs : List Ch} (h : OwnP w base B v vs cs) : ∀ g, v.ownBlock = some g → base ≤ g ∧ g < w.heap.size := by
  obtain ⟨_, ⟨L, ho, _⟩, _⟩ := h
  exact fun g e => ho.lt g e
theorem OwnP.shape {w : World} {base B : Nat} {v : Value} {vs : List Value} {cs : List Ch} (h : OwnP w base B v vs cs) : (v = .slice none 0 0 ∧ cs = []) ∨ ∃ g cap, v = .slice (some ⟨g, 0, none⟩) cs.length cap ∧ base ≤ g ∧ g < w.heap.size ∧ cs.length ≤ cap := by
  obtain ⟨hl, ⟨L, ho, hL⟩, _⟩ := h
  rcases ho.2 with ⟨h1, h2⟩ | ⟨g, cap, cur, hv, hb, hg, hn, _⟩
  · exact .inl ⟨h1, List.eq_nil_of_length_eq_zero h2⟩
  · exact .inr ⟨g, cap, hv, hb, (Array.getElem?_eq_some_iff.1 hg).1, hn⟩
theorem OwnP.len {w : World} {base g n cap : Nat} {cs : List Ch} {L : List Value} (ho : w.ownsRow base 68 3 (.slice (some ⟨g, 0, none⟩) n cap) cs.length L) : L.length = cs.length * 3 := ho.1
theorem OwnP.cell {w : World} {base B g n cap : Nat} {vs : List Value} {cs : List Ch} (h : OwnP w base B (.slice (some ⟨g, 0, none⟩) n cap) vs cs) (hn : cs.length = n) (i : Nat) (hi : i < n) : w.cell? ⟨g, i * 3, none⟩ = some (.int .i64 (chX cs i).row) ∧ w.cell? ⟨g, i * 3 + 1, none⟩ = some (.int .i64 (chX cs i).frm) ∧ w.cell? ⟨g, i * 3 + 2, none⟩ = some (rowV vs i) := by
  subst hn
  obtain ⟨hl, ⟨L, ho, hL⟩, _⟩ := h
  have hc := fun q (hq : q < cs.length * 3) => World.ownsRow.cellAt ho q hq
  obtain ⟨a1, a2, a3⟩ := hL i hi
  exact ⟨(hc _ (by omega)).trans a1, (hc _ (by omega)).trans a2, (hc _ (by omega)).trans a3⟩
theorem OwnP.frozen {w : World} {base B g n cap : Nat} {vs : List Value} {cs : List Ch} (h : OwnP w base B (.slice (some ⟨g, 0, none⟩) n cap) vs cs) (hn : cs.length = n) (q : Nat) : w.frozen? ⟨g, q, none⟩ = false := by
  subst hn
  obtain ⟨hl, ⟨L, ho, hL⟩, _⟩ := h
  exact World.ownsRow.frozenAt ho q
theorem SlP.of_own {w : World} {base B : Nat} {v : Value} {vs : List Value} {cs : List Ch} (h : OwnP w base B v vs cs) : SlP w v cs := by
  rcases h.shape with ⟨h1, rfl⟩ | ⟨g, cap, rfl, _, hg, hn⟩
  · exact ⟨none, 0, vs, h1, Nat.le_refl _, .inl rfl, fun i hi => absurd hi (Nat.not_lt_zero i)⟩
  · refine ⟨_, cap, vs, rfl, hn, .inr ⟨g, 0, rfl, hg, fun i hi => ?_⟩, fun i hi => SlC.of_own (h.2.2.1 i hi)⟩
    rw [Nat.zero_add]
    exact h.cell rfl i hi
/-- No list of cells lies in the block of the changes. -/
theorem outer_apartP {w : World} {base base' n : Nat} {v r : Value} {L : List Value} {xs : List Ce} (ho : w.ownsRow base 68 3 v n L) (hr : OwnC w base' r xs) : r.ownBlock = none ∨ r.ownBlock ≠ v.ownBlock := by
  rcases ho.2 with ⟨h1, _⟩ | ⟨g, cap, cur, hv, _, hg, _⟩
  · cases hb : r.ownBlock with
    | none => exact .inl rfl
    | some q => right; rw [h1]; simp [Value.ownBlock]
  · rcases hr.2 with ⟨h1, _⟩ | ⟨g', cap', cur', hv', _, hg', _⟩
    · left; rw [h1]; rfl
    · right
      rw [hv, hv']
      intro e
      simp only [Value.ownBlock, Option.some.injEq] at e
      subst e
      rw [hg] at hg'
      simp only [Option.some.injEq, Obj.cells.injEq] at hg'
      exact absurd hg'.2.1 (by decide)
theorem OwnP.apart {w : World} {base B : Nat} {v : Value} {vs : List Value} {cs : List Ch} (h : OwnP w base B v vs cs) {i j : Nat} (hi : i < cs.length) (hj : j < cs.length) (hij : i ≠ j) : (rowV vs i).ownBlock = none ∨ (rowV vs i).ownBlock ≠ (rowV vs j).ownBlock := by
  cases hv : (rowV vs i).ownBlock with
  | none => exact .inl rfl
  | some g =>
    right
    intro e
    rcases Nat.lt_or_gt_of_ne hij with c | c
    · exact h.2.2.2.2 i j c hj g hv e.symm
    · exact h.2.2.2.2 j i c hi g e.symm hv
theorem OwnP.kept {w w' : World} {base B : Nat} {v : Value} {vs : List Value} {cs : List Ch} {row : Option Nat} (h : OwnP w base B v vs cs) (hg : w.grownBy w' row) (hne : ∀ g, row = some g → g < base) : OwnP w' base B v vs cs := by
  obtain ⟨hl, ⟨L, ho, hL⟩, hr, hB, hd⟩ := h
  refine ⟨hl, ⟨L, World.ownsRow.kept ho hg ?_, hL⟩, fun i hi => (hr i hi).kept hg ?_, hB, hd⟩
  · cases hv : v.ownBlock with
    | none => exact .inl rfl
    | some q => right; intro e; have := hne q e.symm; have := (ho.lt q hv).1; omega
  · cases hv : (rowV vs i).ownBlock with
    | none => exact .inl rfl
    | some q => right; intro e; have := hne q e.symm; have := ((hr i hi).lt q hv).1; omega
theorem OwnP.gr {lo hi base B : Nat} {w w' : World} {v : Value} {vs : List Value} {cs : List Ch} (h : OwnP w base B v vs cs) (hv : ∀ g, v.ownBlock = some g → g < B) (hg : GrB lo hi w w') (hne : B ≤ lo ∨ hi ≤ base) : OwnP w' base B v vs cs := by
  obtain ⟨hl, ⟨L, ho, hL⟩, hr, hB, hd⟩ := h
  refine ⟨hl, ⟨L, World.ownsRow.gr ho hg (fun g e => ?_), hL⟩, fun i hi => (hr i hi).gr hg (fun g e => ?_), hB, hd⟩
  · have := hv g e; have := (ho.lt g e).1; omega
  · have := hB i hi g e; have := ((hr i hi).lt g e).1; omega
/-- The cells of one change are others. -/
theorem OwnP.rowset {w w' : World} {base B : Nat} {v : Value} {vs : List Value} {cs : List Ch} (h : OwnP w base B v vs cs) {j : Nat} (hj : j < cs.length) (ys : List Ce) (ho : OwnC w' base (rowV vs j) ys) (hg : w.grownBy w' (rowV vs j).ownBlock) : OwnP w' base B v vs (cs.set j ⟨(chX cs j).row, (chX cs j).frm, ys⟩) := by
  obtain ⟨hl, ⟨L, ho', hL⟩, hr, hB, hd⟩ := id h
  refine ⟨by rw [List.length_set]; exact hl, ⟨L, ?_, fun i hi => ?_⟩, fun i hi => ?_, fun i hi => ?_, fun a b hab hb => ?_⟩
  · rw [List.length_set]
    exact World.ownsRow.kept ho' hg (apart_comm (outer_apartP ho' (hr j hj)))
  · rw [List.length_set] at hi
    rw [chX_set hj]
    by_cases e : i = j
    · subst e; rw [if_pos rfl]; exact hL i hi
    · rw [if_neg e]; exact hL i hi
  · rw [List.length_set] at hi
    rw [chX_set hj]
    by_cases e : i = j
    · subst e; rw [if_pos rfl]; exact ho
    · rw [if_neg e]; exact (hr i hi).kept hg (h.apart hi hj e)
  · rw [List.length_set] at hi; exact hB i hi
  · rw [List.length_set] at hb; exact hd a b hab hb
theorem ChL.at3 {L vs : List Value} {cs : List Ch} (hL : ChL L vs cs) (hl : L.length = cs.length * 3) {j : Nat} (hj : j < cs.length) (x y : Int) (r : Value) (ys : List Ce) (hv : vs.length = cs.length) :
    ChL (((L.set (j * 3) (.int .i64 x)).set (j * 3 + 1) (.int .i64 y)).set (j * 3 + 2) r) (vs.set j r) (cs.set j ⟨x, y, ys⟩) := fun i hi => by
  rw [List.length_set] at hi
  rw [chX_set hj, rowV_set (by omega)]
  by_cases e : i = j
  · subst e
    rw [if_pos rfl, if_pos rfl]
    refine ⟨?_, ?_, ?_⟩
    · rw [List.getElem?_set_ne (by omega), List.getElem?_set_ne (by omega), List.getElem?_set_self (by omega)]
    · rw [List.getElem?_set_ne (by omega), List.getElem?_set_self (by simp; omega)]
    · rw [List.getElem?_set_self (by simp; omega)]
  · rw [if_neg e, if_neg e]
    obtain ⟨a1, a2, a3⟩ := hL i hi
    refine ⟨?_, ?_, ?_⟩
    all_goals rw [List.getElem?_set_ne (by omega), List.getElem?_set_ne (by omega), List.getElem?_set_ne (by omega)]
    all_goals assumption
/-- One change is written anew. -/
theorem OwnP.set {w : World} {base B g n cap : Nat} {vs : List Value} {cs : List Ch} (h : OwnP w base B (.slice (some ⟨g, 0, none⟩) n cap) vs cs) (hn : cs.length = n) (j : Nat) (hj : j < n) (x y : Int) (r : Value) (ys : List Ce) (hr : OwnC w base r ys) (hB : ∀ q, r.ownBlock = some q → B ≤ q) (w' : World)
    (hw : w' = ((w.setCell ⟨g, j * 3, none⟩ (.int .i64 x)).setCell ⟨g, j * 3 + 1, none⟩ (.int .i64 y)).setCell ⟨g, j * 3 + 2, none⟩ r) :
    OwnP w' base w'.heap.size (.slice (some ⟨g, 0, none⟩) n cap) (vs.set j r) (cs.set j ⟨x, y, ys⟩) ∧ w.grownBy w' (some g) := by
  subst hn
  obtain ⟨hvl, ⟨L, hown, hL⟩, hrs, hlt, hd⟩ := h
  obtain ⟨s1, t1⟩ := World.ownsRow.stored hown (j * 3) (.int .i64 x)
  obtain ⟨s2, t2⟩ := World.ownsRow.stored s1 (j * 3 + 1) (.int .i64 y)
  obtain ⟨s3, t3⟩ := World.ownsRow.stored s2 (j * 3 + 2) r
  have ht : w.grownBy w' (some g) := by rw [hw]; exact grown_tr t1 (grown_tr t2 t3)
  rw [← hw] at s3
  clear hw s1 s2 t1 t2 t3
  have hap : ∀ {u : Value} {zs : List Ce}, OwnC w base u zs → OwnC w' base u zs := fun hu => hu.kept ht (outer_apartP hown hu)
  have hs2 := ht.size
  refine ⟨⟨by simp [hvl], ⟨_, by rw [List.length_set]; exact s3, hL.at3 hown.1 hj x y r ys hvl⟩, fun k hk => ?_, fun k hk q e => ?_, fun a b hab hb q e => ?_⟩, ht⟩
  · rw [List.length_set] at hk
    rw [rowV_set (by omega), chX_set hj]
    by_cases e : k = j
    · rw [if_pos e, if_pos e]; exact hap hr
    · rw [if_neg e, if_neg e]; exact hap (hrs k hk)
  · rw [List.length_set] at hk
    rw [rowV_set (by omega)] at e
    by_cases c : k = j
    · rw [if_pos c] at e; have := (hr.lt q e).2; omega
    · rw [if_neg c] at e; have := ((hrs k hk).lt q e).2; omega
  · rw [List.length_set] at hb
    rw [rowV_set (by omega)] at e
    rw [rowV_set (by omega)]
    by_cases c : a = j
    · rw [if_pos c] at e
      rw [if_neg (by omega)]
      intro e2
      have := hlt b hb q e2
      have := hB q e
      omega
    · rw [if_neg c] at e
      by_cases c2 : b = j
      · rw [if_pos c2]
        intro e2
        have := hlt a (by omega) q e
        have := hB q e2
        omega
      · rw [if_neg c2]; exact hd a b hab hb q e
/-- The two numbers of a change are others. -/
theorem OwnP.nums {w : World} {base B g n cap : Nat} {vs : List Value} {cs : List Ch} (h : OwnP w base B (.slice (some ⟨g, 0, none⟩) n cap) vs cs) (hn : cs.length = n) (j : Nat) (hj : j < n) (x y : Int) (w' : World)
    (hw : w' = (w.setCell ⟨g, j * 3, none⟩ (.int .i64 x)).setCell ⟨g, j * 3 + 1, none⟩ (.int .i64 y)) :
    OwnP w' base B (.slice (some ⟨g, 0, none⟩) n cap) vs (cs.set j ⟨x, y, (chX cs j).cells⟩) ∧ w.grownBy w' (some g) := by
  subst hn
  obtain ⟨hvl, ⟨L, hown, hL⟩, hrs, hlt, hd⟩ := h
  obtain ⟨s1, t1⟩ := World.ownsRow.stored hown (j * 3) (.int .i64 x)
  obtain ⟨s2, t2⟩ := World.ownsRow.stored s1 (j * 3 + 1) (.int .i64 y)
  have ht : w.grownBy w' (some g) := by rw [hw]; exact grown_tr t1 t2
  rw [← hw] at s2
  clear hw s1 t1 t2
  have hap : ∀ {u : Value} {zs : List Ce}, OwnC w base u zs → OwnC w' base u zs := fun hu => hu.kept ht (outer_apartP hown hu)
  have hll : L.length = cs.length * 3 := hown.1
  refine ⟨⟨by simp [hvl], ⟨_, by rw [List.length_set]; exact s2, fun i hi => ?_⟩, fun k hk => ?_, fun k hk q e => ?_, fun a b hab hb q e => ?_⟩, ht⟩
  · rw [List.length_set] at hi
    rw [chX_set hj]
    obtain ⟨a1, a2, a3⟩ := hL i hi
    by_cases e : i = j
    · subst e
      rw [if_pos rfl]
      refine ⟨?_, ?_, ?_⟩
      · rw [List.getElem?_set_ne (by omega), List.getElem?_set_self (by omega)]
      · rw [List.getElem?_set_self (by simp; omega)]
      · rw [List.getElem?_set_ne (by omega), List.getElem?_set_ne (by omega)]; exact a3
    · rw [if_neg e]
      refine ⟨?_, ?_, ?_⟩
      all_goals rw [List.getElem?_set_ne (by omega), List.getElem?_set_ne (by omega)]
      all_goals assumption
  · rw [List.length_set] at hk
    rw [chX_set hj]
    by_cases e : k = j
    · subst e; rw [if_pos rfl]; exact hap (hrs k hk)
    · rw [if_neg e]; exact hap (hrs k hk)
  · rw [List.length_set] at hk; exact hlt k hk q e
  · rw [List.length_set] at hb; exact hd a b hab hb q e
end Go.Proofs.YtpijokologkbeaaDoor
namespace Go.Proofs.YtpijokologkbeaaDoor
open Go.ChangeShapes Go.WideShapes Go.ChangeAt Go.RowKit
theorem eqStyle_same (s : St) (w : World) :
    Calls Tryd.prog 133 #[stV s, stV s] w fun e w' => e = .returned (.bool true) ∧ Below w.heap.size w w' := by
  obtain ⟨f, b, bo, un, tu⟩ := s
  unfold stV
  simp only
  go_enter Tryd.func133, Tryd.ntmps133
  go_wp2
  go_ret
  exact ⟨rfl, ((Below.refl _ _).alloc (Nat.le_refl _) _).alloc (by simp) _⟩
end Go.Proofs.YtpijokologkbeaaDoor
namespace Go.Proofs.YtpijokologkbeaaDoor
open Go.ChangeShapes Go.WideShapes Go.ChangeAt Go.RowKit
def BS (a w : World) : Prop := Below a.heap.size a w ∧ a.heap.size ≤ w.heap.size
theorem BS.out {a w : World} (h : BS a w) : Below a.heap.size a w := h.1
theorem BS.set {a w : World} (h : BS a w) (g k : Nat) (u : Value) (hg : a.heap.size ≤ g) : BS a (w.setCell ⟨g, k, none⟩ u) :=
  ⟨h.1.grown (setCell_gr w g k u) h.2 (fun k hk => by cases hk; exact hg), by simpa using h.2⟩
set_option maxHeartbeats 1000000 in
theorem eqCell_same (c : Ce) (w : World) :
    Calls Tryd.prog 117 #[ceV c, ceV c] w fun e w' => e = .returned (.bool true) ∧ Below w.heap.size w w' := by
  have heq := fun W => eqStyle_same c.st W
  have b1 := bal' w (Obj.cells #[.int .i64 c.rune, .int .i64 c.st.fore, .int .i64 c.st.back, .bool c.st.bold, .bool c.st.under, .bool c.st.turned, .int .i64 c.part] 75)
  have b2 := b1.trans ((bal' _ (Obj.cells #[.int .i64 c.rune, .int .i64 c.st.fore, .int .i64 c.st.back, .bool c.st.bold, .bool c.st.under, .bool c.st.turned, .int .i64 c.part] 75)).mono b1.size)
  have s2 := (CeF.new w c 75).below (bal' _ (Obj.cells #[.int .i64 c.rune, .int .i64 c.st.fore, .int .i64 c.st.back, .bool c.st.bold, .bool c.st.under, .bool c.st.turned, .int .i64 c.part] 75))
  have r2 := CeF.new (w.alloc (Obj.cells #[.int .i64 c.rune, .int .i64 c.st.fore, .int .i64 c.st.back, .bool c.st.bold, .bool c.st.under, .bool c.st.turned, .int .i64 c.part] 75)) c 75
  have z1 : (w.alloc (Obj.cells #[.int .i64 c.rune, .int .i64 c.st.fore, .int .i64 c.st.back, .bool c.st.bold, .bool c.st.under, .bool c.st.turned, .int .i64 c.part] 75)).heap.size = w.heap.size + 1 := by simp
  rw [z1] at r2
  unfold ceV stV at *
  go_enter Tryd.func117, Tryd.ntmps117
  go_wp2_with fail
  refine (heq _).mono ?_
  rintro e w1 ⟨rfl, hb1⟩
  have s3 := s2.below hb1
  have r3 := r2.below hb1
  have b3 := b2.trans (hb1.mono b2.size)
  clear s2 r2 b1 b2 hb1 z1 heq
  obtain ⟨_, ⟨c0, c1, c2, c3, c4, c5, c6⟩, _⟩ := s3
  obtain ⟨_, ⟨d0, d1, d2, d3, d4, d5, d6⟩, _⟩ := r3
  go_wp2
  go_ret
  exact ⟨rfl, b3⟩
end Go.Proofs.YtpijokologkbeaaDoor
namespace Go.Proofs.YtpijokologkbeaaDoor
open Go.ChangeShapes Go.WideShapes Go.ChangeAt Go.RowKit
theorem toStyle_any (s : St) (w : World) :
    Calls Tryd.prog 132 #[stV s] w fun e w' => e = .returned (stV s) ∧ Below w.heap.size w w' := by
  obtain ⟨f, b, bo, un, tu⟩ := s
  unfold stV
  simp only
  go_enter Tryd.func132, Tryd.ntmps132
  go_wp2
  refine bodyPost_ret (v := .agg #[.int .i64 f, .int .i64 b, .bool bo, .bool un, .bool tu]) (by simp [results, Tryd.results132, go_sem]) rfl ⟨rfl, ?_⟩
  exact (((Below.refl _ _).alloc (Nat.le_refl _) _).alloc (by simp) _).alloc (by simp; omega) _
end Go.Proofs.YtpijokologkbeaaDoor
namespace Go.Proofs.YtpijokologkbeaaDoor
open Go.ChangeShapes Go.WideShapes Go.ChangeAt Go.RowKit
theorem szC_any (v : Value) (xs : List Ce) (left : Nat) (w : World) (hv : SlC w v xs) (hl : xs.length ≤ maxLen) (hf : left ≤ 4611686018427387904) :
    Calls Tryd.prog 85 #[v, .int .i64 left] w fun e w' => e = .returned (.int .i64 (if left < xs.length then -1 else ((left - xs.length : Nat) : Int))) ∧ w' = w := by
  unfold maxLen at hl
  obtain ⟨a, c, rfl, _⟩ := hv
  generalize xs.length = n at *
  by_cases h : left < n
  · have h2 : (left : Int) - (n : Int) < 0 := by omega
    rw [if_pos h]
    go_enter Tryd.func85, Tryd.ntmps85
    go_wp2
    go_ret
    exact ⟨rfl, rfl⟩
  · have h2 : ¬ (left : Int) - (n : Int) < 0 := by omega
    have h3 : Hid (((left - n : Nat) : Int) = (left : Int) - (n : Int)) := by show _ = _; omega
    rw [if_neg h]
    go_enter Tryd.func85, Tryd.ntmps85
    go_wp2
    go_ret
    exact ⟨by rw [h3.out]; rfl, rfl⟩
set_option maxHeartbeats 1000000 in
theorem toCell_any (c : Ce) (w : World) :
    Calls Tryd.prog 116 #[ceV c] w fun e w' => e = .returned (ceV c) ∧ Below w.heap.size w w' := by
  have hto := fun W => toStyle_any c.st W
  have b1 := bal' w (Obj.cells #[.int .i64 c.rune, .int .i64 c.st.fore, .int .i64 c.st.back, .bool c.st.bold, .bool c.st.under, .bool c.st.turned, .int .i64 c.part] 155)
  have b2 := b1.trans ((bal' _ (Obj.cells #[.int .i64 0, .int .i64 0, .int .i64 0, .bool false, .bool false, .bool false, .int .i64 0] 75)).mono b1.size)
  have b3 := b2.trans ((bal' _ (Obj.cells #[.int .i64 c.rune, .int .i64 0, .int .i64 0, .bool false, .bool false, .bool false, .int .i64 0] 75)).mono b2.size)
  have s3 := ((CeF.new w c 155).below (bal' _ (Obj.cells #[.int .i64 0, .int .i64 0, .int .i64 0, .bool false, .bool false, .bool false, .int .i64 0] 75))).below (bal' _ (Obj.cells #[.int .i64 c.rune, .int .i64 0, .int .i64 0, .bool false, .bool false, .bool false, .int .i64 0] 75))
  have r3 := (CeF.new (w.alloc (Obj.cells #[.int .i64 c.rune, .int .i64 c.st.fore, .int .i64 c.st.back, .bool c.st.bold, .bool c.st.under, .bool c.st.turned, .int .i64 c.part] 155)) Ce.zero 75).below (bal' _ (Obj.cells #[.int .i64 c.rune, .int .i64 0, .int .i64 0, .bool false, .bool false, .bool false, .int .i64 0] 75))
  have o3 := CeF.new ((w.alloc (Obj.cells #[.int .i64 c.rune, .int .i64 c.st.fore, .int .i64 c.st.back, .bool c.st.bold, .bool c.st.under, .bool c.st.turned, .int .i64 c.part] 155)).alloc (Obj.cells #[.int .i64 0, .int .i64 0, .int .i64 0, .bool false, .bool false, .bool false, .int .i64 0] 75)) ⟨c.rune, St.zero, 0⟩ 75
  have z1 : (w.alloc (Obj.cells #[.int .i64 c.rune, .int .i64 c.st.fore, .int .i64 c.st.back, .bool c.st.bold, .bool c.st.under, .bool c.st.turned, .int .i64 c.part] 155)).heap.size = w.heap.size + 1 := by simp
  have z2 : ((w.alloc (Obj.cells #[.int .i64 c.rune, .int .i64 c.st.fore, .int .i64 c.st.back, .bool c.st.bold, .bool c.st.under, .bool c.st.turned, .int .i64 c.part] 155)).alloc (Obj.cells #[.int .i64 0, .int .i64 0, .int .i64 0, .bool false, .bool false, .bool false, .int .i64 0] 75)).heap.size = w.heap.size + 1 + 1 := by simp
  rw [z1] at r3
  rw [z2] at o3
  simp only [Ce.zero, St.zero] at r3 o3
  unfold ceV stV at *
  go_enter Tryd.func116, Tryd.ntmps116
  go_wp2_with fail
  refine (hto _).mono ?_
  rintro e w1 ⟨rfl, hb1⟩
  have s4 := s3.below hb1
  have r4 := r3.below hb1
  have o4 := o3.below hb1
  have b4 := b3.trans (hb1.mono b3.size)
  clear s3 r3 o3 b1 b2 b3 hb1 z1 z2 hto
  obtain ⟨_, ⟨c0, c1, c2, c3, c4, c5, c6⟩, _⟩ := s4
  obtain ⟨_, ⟨d0, d1, d2, d3, d4, d5, d6⟩, ⟨x0, x1, x2, x3, x4, x5, x6⟩⟩ := r4
  obtain ⟨_, ⟨e0, e1, e2, e3, e4, e5, e6⟩, ⟨y0, y1, y2, y3, y4, y5, y6⟩⟩ := o4
  go_wp2
  refine bodyPost_ret (v := .agg #[.int .i64 c.rune, .int .i64 c.st.fore, .int .i64 c.st.back, .bool c.st.bold, .bool c.st.under, .bool c.st.turned, .int .i64 c.part]) (by simp [results, Tryd.results116, go_sem, setCell_ne', *]) rfl ⟨rfl, ?_⟩
  clear c0 c1 c2 c3 c4 c5 c6 d0 d1 d2 d3 d4 d5 d6 e0 e1 e2 e3 e4 e5 e6 x0 x1 x2 x3 x4 x5 x6 y0 y1 y2 y3 y4 y5 y6
  have bs : BS w w1 := ⟨b4, b4.size⟩
  refine BS.out ?_
  repeat (first | with_reducible exact bs | with_reducible refine BS.set ?_ _ _ _ (by omega))
end Go.Proofs.YtpijokologkbeaaDoor
namespace Go.Proofs.YtpijokologkbeaaDoor
open Go.ChangeShapes Go.WideShapes Go.ChangeAt Go.RowKit
/-- Three cells of a block of their own: two numbers and a value. -/
def P3 (w : World) (B : Nat) (x y : Int) (v : Value) : Prop :=
  B < w.heap.size ∧ (w.cell? ⟨B, 0, none⟩ = some (.int .i64 x) ∧ w.cell? ⟨B, 1, none⟩ = some (.int .i64 y) ∧ w.cell? ⟨B, 2, none⟩ = some v) ∧ (w.frozen? ⟨B, 0, none⟩ = false ∧ w.frozen? ⟨B, 1, none⟩ = false ∧ w.frozen? ⟨B, 2, none⟩ = false)
theorem P3.grown {w w' : World} {B : Nat} {x y : Int} {v : Value} {row : Option Nat} (h : P3 w B x y v) (hg : w.grownBy w' row) (hr : row ≠ some B) : P3 w' B x y v := by
  have hb := hg.block B h.1 (Ne.symm hr)
  have hc : ∀ k, w'.cell? ⟨B, k, none⟩ = w.cell? ⟨B, k, none⟩ := fun k => World.cell?_of_block (w := w) hb
  have hz : ∀ k, w'.frozen? ⟨B, k, none⟩ = w.frozen? ⟨B, k, none⟩ := fun k => World.frozen?_of_block (w := w) hb
  refine ⟨Nat.lt_of_lt_of_le h.1 hg.size, ?_, ?_⟩
  · rw [hc, hc, hc]; exact h.2.1
  · rw [hz, hz, hz]; exact h.2.2
theorem P3.below {w w' : World} {B : Nat} {x y : Int} {v : Value} (h : P3 w B x y v) (hb : Below w.heap.size w w') : P3 w' B x y v := h.grown (gbl hb none) (by simp)
theorem P3.new (w : World) (x y : Int) (v : Value) (t : TypeId) : P3 (w.alloc (.cells #[.int .i64 x, .int .i64 y, v] t)) w.heap.size x y v :=
  ⟨by simp, ⟨by simp [go_sem], by simp [go_sem], by simp [go_sem]⟩, ⟨by simp [go_sem], by simp [go_sem], by simp [go_sem]⟩⟩
def patV (cols rows : Int) (v : Value) : Value := .agg #[.int .i64 cols, .int .i64 rows, v]
/-- What is left of a size behind the first changes. -/
def leftP (cs : List Ch) (left : Nat) : Nat → Option Nat
  | 0 => if left < cs.length then none else some (left - cs.length)
  | j + 1 => match leftP cs left j with
    | none => none
    | some m => if m < (chX cs j).cells.length then none else some (m - (chX cs j).cells.length)
def szPt (cs : List Ch) (left : Nat) : Int := match leftP cs left cs.length with | none => -1 | some m => m
theorem leftP_none {cs : List Ch} {left j : Nat} (h : leftP cs left j = none) : ∀ k, j ≤ k → leftP cs left k = none
  | 0, hk => by
    have : j = 0 := by omega
    subst this; exact h
  | k + 1, hk => by
    by_cases e : j = k + 1
    · subst e; exact h
    · have := leftP_none h k (by omega)
      rw [leftP, this]
theorem leftP_le {cs : List Ch} {left : Nat} : ∀ {j m : Nat}, leftP cs left j = some m → m ≤ left ∧ cs.length ≤ left ∧ ∀ i, i < j → (chX cs i).cells.length ≤ left
  | 0, m, h => by
    rw [leftP] at h
    split at h
    · cases h
    · cases h; exact ⟨by omega, by omega, fun i hi => absurd hi (Nat.not_lt_zero i)⟩
  | j + 1, m, h => by
    rw [leftP] at h
    split at h
    · cases h
    · rename_i q hq
      split at h
      · cases h
      · cases h
        obtain ⟨h1, h2, h3⟩ := leftP_le hq
        refine ⟨by omega, h2, fun i hi => ?_⟩
        by_cases e : i = j
        · subst e; omega
        · exact h3 i (by omega)
set_option maxHeartbeats 1000000 in
theorem szChange_any (x y : Int) (v : Value) (xs : List Ce) (left : Nat) (w : World) (hv : SlC w v xs) (hl : xs.length ≤ maxLen) (hf : left ≤ 4611686018427387904) :
    Calls Tryd.prog 91 #[.agg #[.int .i64 x, .int .i64 y, v], .int .i64 left] w fun e w' => e = .returned (.int .i64 (if left < xs.length then -1 else ((left - xs.length : Nat) : Int))) ∧ Below w.heap.size w w' := by
  have hb0 := bal' w (Obj.cells #[.int .i64 x, .int .i64 y, v] 127)
  have hG0 := P3.new w x y v 127
  have hsz := szC_any v xs left _ (hv.below hb0) hl hf
  obtain ⟨a, c, rfl, _⟩ := id hv
  obtain ⟨_, ⟨g0, g1, g2⟩, _⟩ := id hG0
  clear hG0 hv
  by_cases h : left < xs.length
  · rw [if_pos h] at hsz ⊢
    clear h
    go_enter Tryd.func91, Tryd.ntmps91
    go_wp2_with fail
    refine hsz.mono ?_
    rintro e w2 ⟨rfl, hw⟩
    subst hw
    go_wp2
    go_ret
    exact ⟨rfl, hb0⟩
  · rw [if_neg h] at hsz ⊢
    have hn : ¬ (((left - xs.length : Nat) : Int) < 0) := by omega
    generalize left - xs.length = m at *
    clear h
    go_enter Tryd.func91, Tryd.ntmps91
    go_wp2_with fail
    refine hsz.mono ?_
    rintro e w2 ⟨rfl, hw⟩
    subst hw
    go_wp2
    go_ret
    exact ⟨rfl, hb0⟩
set_option maxHeartbeats 2000000 in
theorem szChS_any (v : Value) (cs : List Ch) (left : Nat) (w : World) (hv : SlP w v cs) (hl : cs.length ≤ maxLen) (hx : ∀ i, i < cs.length → (chX cs i).cells.length ≤ maxLen) (hf : left ≤ 4611686018427387904) :
    Calls Tryd.prog 52 #[v, .int .i64 left] w fun e w' => e = .returned (.int .i64 (szPt cs left)) ∧ Below w.heap.size w w' := by
  unfold maxLen at hl
  obtain ⟨a, c, vs, rfl, hcp, hr, hs⟩ := id hv
  by_cases h : left < cs.length
  · have h2 : (left : Int) - (cs.length : Int) < 0 := by omega
    have hz : Hid (szPt cs left = -1) := by show _ = _; unfold szPt; rw [leftP_none (j := 0) (by rw [leftP, if_pos h]) _ (Nat.zero_le _)]
    clear hs hr
    go_enter Tryd.func52, Tryd.ntmps52
    go_wp2
    go_ret
    exact ⟨by rw [hz.out]; rfl, Below.refl _ _⟩
  · have h2 : ¬ (left : Int) - (cs.length : Int) < 0 := by omega
    have h3 : Hid (leftP cs left 0 = some (left - cs.length)) := by show _ = _; rw [leftP, if_neg h]
    have h4 : Hid ((left : Int) - (cs.length : Int) = ((left - cs.length : Nat) : Int)) := by show _ = _; omega
    go_enter Tryd.func52, Tryd.ntmps52
    go_wp2
    go_loopw [1, 5] (fun u i wr => ∃ j m : Nat, i = .int .i64 j ∧ u = .int .i64 m ∧ j ≤ cs.length ∧ Hid (leftP cs left j = some m) ∧ Below w.heap.size w wr) (fun _ i _ => cs.length - (intOf i).toNat)
    case atStart => exact ⟨0, left - cs.length, rfl, by rw [← h4.out], Nat.zero_le _, h3, Below.refl _ _⟩
    case round =>
      clear h3 h4 h2 h
      obtain ⟨j, m, rfl, rfl, hj, hm, kb⟩ := hrel
      by_cases hlt : j < cs.length
      · have hji : (j : Int) < (cs.length : Int) := by omega
        have hj0 : (0 : Int) ≤ (j : Int) := by omega
        rcases hr with h | ⟨b, off, rfl, hbb, hrc⟩
        · rw [h] at hlt; simp at hlt
        have hsj := (hs j hlt).below kb
        have ec : ∀ q, wr.cell? ⟨b, q, none⟩ = w.cell? ⟨b, q, none⟩ := fun q => kb.cell (p := ⟨b, q, none⟩) hbb
        obtain ⟨c0, c1, c2⟩ := hrc j hlt
        rw [← ec] at c0 c1 c2
        obtain ⟨aj, cj, ev, _⟩ := id hsj
        rw [ev] at c2 hsj
        have hsz := szChange_any (chX cs j).row (chX cs j).frm _ _ m wr hsj (hx j hlt) (by have := (leftP_le hm.out).1; omega)
        clear hs hrc ev hsj hv ec
        by_cases h5 : m < (chX cs j).cells.length
        · have hz : Hid (szPt cs left = -1) := by show _ = _; unfold szPt; rw [leftP_none (j := j + 1) (by rw [leftP, hm.out]; simp [h5]) _ hlt]
          rw [if_pos h5] at hsz
          go_wp2_with fail
          refine hsz.mono ?_
          rintro e w2 ⟨rfl, hw2⟩
          go_wp2
          go_ret
          exact ⟨by rw [hz.out]; rfl, kb.trans (hw2.mono kb.size)⟩
        · have hm2 : Hid (leftP cs left (j + 1) = some (m - (chX cs j).cells.length)) := by show _ = _; rw [leftP, hm.out]; simp [h5]
          have h6 : ¬ (((m - (chX cs j).cells.length : Nat) : Int) < 0) := by omega
          rw [if_neg h5] at hsz
          generalize m - (chX cs j).cells.length = m2 at *
          go_wp2_with fail
          refine hsz.mono ?_
          rintro e w2 ⟨rfl, hw2⟩
          have kb2 := kb.trans (hw2.mono kb.size)
          go_wp2
          go_roundw
          case rel => exact ⟨j + 1, m2, by go_num, rfl, by omega, hm2, kb2⟩
          case measure => simp [intOf]; omega
      · have hjn : j = cs.length := by omega
        have hji : ¬ (j : Int) < (cs.length : Int) := by omega
        subst hjn
        have hz : Hid (szPt cs left = (m : Int)) := by show _ = _; unfold szPt; rw [hm.out]
        clear hs hr hv
        go_wp2
        go_ret
        exact ⟨by rw [hz.out]; rfl, kb⟩
set_option maxHeartbeats 1000000 in
theorem szPatch_any (cols rows : Int) (v : Value) (cs : List Ch) (left : Nat) (w : World) (hv : SlP w v cs) (hl : cs.length ≤ maxLen) (hx : ∀ i, i < cs.length → (chX cs i).cells.length ≤ maxLen) (hf : left ≤ 4611686018427387904) :
    Calls Tryd.prog 25 #[patV cols rows v, .int .i64 left] w fun e w' => e = .returned (.int .i64 (szPt cs left)) ∧ Below w.heap.size w w' := by
  have hb0 := bal' w (Obj.cells #[.int .i64 cols, .int .i64 rows, v] 51)
  have hG0 := P3.new w cols rows v 51
  have hsz := fun W h => szChS_any v cs left W h hl hx hf
  have hv1 := hv.below hb0
  obtain ⟨a, c, vs, rfl, _⟩ := id hv
  unfold patV
  obtain ⟨_, ⟨g0, g1, g2⟩, _⟩ := id hG0
  clear hG0 hv
  go_enter Tryd.func25, Tryd.ntmps25
  go_wp2_with fail
  refine (hsz _ hv1).mono ?_
  rintro e w2 ⟨rfl, hw⟩
  have kb := hb0.trans (hw.mono hb0.size)
  by_cases h : szPt cs left < 0
  · have hz : Hid (szPt cs left = -1) := by
      show _ = _
      unfold szPt at *
      split at h
      · rfl
      · omega
    go_wp2
    go_ret
    exact ⟨by rw [hz.out]; rfl, kb⟩
  · go_wp2
    go_ret
    exact ⟨rfl, kb⟩
end Go.Proofs.YtpijokologkbeaaDoor
namespace Go.Proofs.YtpijokologkbeaaDoor
open Go.ChangeShapes Go.WideShapes Go.ChangeAt Go.RowKit
section
variable {H : Type} {enc : TypeId × Value → H} {w : World} {base : Nat} {spare : Nat → Bool} {held : Bool}
instance : Inhabited Ch := ⟨chZ⟩
set_option maxRecDepth 20000 in
theorem change_cs {fuel : Nat} {cs : List Value} {y : DataW H × List MemPlace} (hf : DataW.trod enc Tryd.prog w base spare held fuel 127 cs = some y) :
    ∃ (c : Ch) (v : Value), cs = [.int .i64 c.row, .int .i64 c.frm, v] ∧ SlC w v c.cells ∧ c.cells.length ≤ maxLen := by
  obtain ⟨xs, n, _, _, hl, hlen, hfs⟩ := DataW.trod_struct Tryd.underlying127 hf
  have e : Tryd.prog.cellsOf 127 = 3 := by kernel_rfl
  have ei : Tryd.prog.cellsOf 2 = 1 := by kernel_rfl
  have er : Tryd.prog.cellsOf 121 = 1 := by kernel_rfl
  match cs, hl.trans e, xs, hlen with
  | [c0, c1, c2], _, [x0, x1, x2], _ =>
    have h0 := hfs 0 _ rfl
    have h1 := hfs 1 _ rfl
    have h2 := hfs 2 _ rfl
    simp [ei, er] at h0 h1 h2
    obtain ⟨k0, q0, _, _⟩ := DataW.trod_int Tryd.underlying2 h0
    obtain ⟨k1, q1, _, _⟩ := DataW.trod_int Tryd.underlying2 h1
    obtain ⟨v, ys, q2, hs, hle⟩ := cells_tr h2
    simp at q0 q1 q2
    subst q0; subst q1; subst q2
    exact ⟨⟨k0, k1, ys⟩, _, rfl, hs, hle⟩
set_option maxRecDepth 20000 in
theorem changes_tr {fuel : Nat} {cs : List Value} {y : DataW H × List MemPlace} (hf : DataW.trod enc Tryd.prog w base spare held fuel 49 cs = some y) :
    ∃ (v : Value) (X : List Ch), cs = [v] ∧ SlP w v X ∧ X.length ≤ maxLen ∧ ∀ i, i < X.length → (chX X i).cells.length ≤ maxLen := by
  have e : Tryd.prog.cellsOf 127 = 3 := by kernel_rfl
  rcases Go.Deep.open_slice Tryd.underlying49 hf with ⟨hcs, _⟩ | ⟨x, len, cap, m, n, D, Pl, hcs, _, hl, hm, hmm, _, hx⟩
  · exact ⟨_, [], hcs, ⟨none, 0, [], rfl, Nat.le_refl _, .inl rfl, fun i h => absurd h (Nat.not_lt_zero i)⟩, by simp, fun i h => absurd h (Nat.not_lt_zero i)⟩
  · have hlm : len ≤ m := by rw [hmm]; split <;> omega
    rw [e] at hx
    obtain ⟨f, hfc⟩ := Go.Deep.choose_lt (α := Ch × Value) (n := len) (p := fun i q => w.cells? base (x.add (i * 3)) 3 = some [.int .i64 q.1.row, .int .i64 q.1.frm, q.2] ∧ SlC w q.2 q.1.cells ∧ q.1.cells.length ≤ maxLen) (fun i hi => by
      obtain ⟨cs', h1, h2⟩ := hx i (by omega)
      obtain ⟨c, v, rfl, hs, hle⟩ := change_cs h2
      exact ⟨(c, v), h1, hs, hle⟩)
    have hlen : ((List.range len).map fun i => (f i).1).length = len := by simp
    have hX : ∀ i, i < len → chX ((List.range len).map fun i => (f i).1) i = (f i).1 := fun i hi => by simp [chX, List.getD, hi]
    have hV : ∀ i, i < len → rowV ((List.range len).map fun i => (f i).2) i = (f i).2 := fun i hi => by simp [rowV, List.getD, hi]
    refine ⟨_, (List.range len).map fun i => (f i).1, hcs, ⟨some x, cap, (List.range len).map fun i => (f i).2, by rw [hlen], by rw [hlen]; exact hl, ?_, fun i hi => ?_⟩, by rw [hlen]; omega, fun i hi => ?_⟩
    · by_cases h0 : len = 0
      · left; subst h0; rfl
      · right
        have hc : ∀ i, i < len → ∀ k, k < 3 → w.cell? ((x.add (i * 3)).add k) = ([.int .i64 (f i).1.row, .int .i64 (f i).1.frm, (f i).2] : List Value)[k]? := fun i hi k hk => by
          obtain ⟨_, hl3, hcell⟩ := World.cells?_some (hfc i hi).1
          exact hcell k hk
        obtain ⟨b, off, spot⟩ := x
        have h1 := hc 0 (by omega) 0 (by decide)
        have h1' : w.cell? ((⟨b, off, spot⟩ : Addr).add 0) = some (.int .i64 (f 0).1.row) := by simpa [Addr.add] using h1
        have hspot : spot = none := by simpa [Addr.add] using World.cell?_spot h1'
        subst hspot
        refine ⟨b, off, rfl, World.block_lt_of_cell? w _ h1', fun i hi => ?_⟩
        rw [hlen] at hi
        rw [hX i hi, hV i hi]
        have g := fun k hk => hc i hi k hk
        have ea : ∀ k, (((⟨b, off, none⟩ : Addr).add (i * 3)).add k) = ⟨b, off + i * 3 + k, none⟩ := fun k => by rw [Addr.add_mid, Addr.add_mid]
        simp only [ea] at g
        exact ⟨by simpa using g 0 (by decide), by simpa using g 1 (by decide), by simpa using g 2 (by decide)⟩
    · rw [hlen] at hi
      rw [hV i hi, hX i hi]
      exact (hfc i hi).2.1
    · rw [hlen] at hi
      rw [hX i hi]
      exact (hfc i hi).2.2
set_option maxRecDepth 20000 in
theorem patch_view {b0 : Nat} {r : Reach} {v : Value} {d : DataW H} {p : List MemPlace} (hv : Value.okWide Tryd.prog w r b0 51 v) (h : DataW.Trod enc Tryd.prog w base spare held 51 v d p) :
    ∃ (x y : Int) (u : Value) (X : List Ch), v = patV x y u ∧ SlP w u X ∧ X.length ≤ maxLen ∧ ∀ i, i < X.length → (chX X i).cells.length ≤ maxLen := by
  obtain ⟨cs, rfl, hsz⟩ := okWide_struct Tryd.underlying51 hv
  obtain ⟨fuel, hf⟩ := h
  obtain ⟨xs, n, _, _, hl, hlen, hfs⟩ := DataW.trod_struct Tryd.underlying51 hf
  have e : Tryd.prog.cellsOf 51 = 3 := by kernel_rfl
  have ei : Tryd.prog.cellsOf 2 = 1 := by kernel_rfl
  have er : Tryd.prog.cellsOf 49 = 1 := by kernel_rfl
  obtain ⟨l⟩ := cs
  match l, hsz.trans e, xs, hlen with
  | [c0, c1, c2], _, [x0, x1, x2], _ =>
    have h0 := hfs 0 _ rfl
    have h1 := hfs 1 _ rfl
    have h2 := hfs 2 _ rfl
    simp [Value.cells, ei, er] at h0 h1 h2
    obtain ⟨k0, q0, _, _⟩ := DataW.trod_int Tryd.underlying2 h0
    obtain ⟨k1, q1, _, _⟩ := DataW.trod_int Tryd.underlying2 h1
    obtain ⟨u, X, q2, hs, hle, hxl⟩ := changes_tr h2
    simp at q0 q1 q2
    subst q0; subst q1; subst q2
    exact ⟨_, _, _, X, rfl, hs, hle, hxl⟩
end
end Go.Proofs.YtpijokologkbeaaDoor
namespace Go.Proofs.YtpijokologkbeaaDoor
open Go.ChangeShapes Go.WideShapes Go.ChangeAt Go.RowKit
/-- What is left of a size behind the first rows. -/
def leftG (rows : List (List Ce)) (left : Nat) : Nat → Option Nat
  | 0 => if left < rows.length then none else some (left - rows.length)
  | j + 1 => match leftG rows left j with
    | none => none
    | some m => if m < (rowX rows j).length then none else some (m - (rowX rows j).length)
def szG (rows : List (List Ce)) (left : Nat) : Int := match leftG rows left rows.length with | none => -1 | some m => m
theorem leftG_none {rows : List (List Ce)} {left j : Nat} (h : leftG rows left j = none) : ∀ k, j ≤ k → leftG rows left k = none
  | 0, hk => by have : j = 0 := by omega
                subst this; exact h
  | k + 1, hk => by
    by_cases e : j = k + 1
    · subst e; exact h
    · have := leftG_none h k (by omega)
      rw [leftG, this]
theorem leftG_le {rows : List (List Ce)} {left : Nat} : ∀ {j m : Nat}, leftG rows left j = some m → m ≤ left ∧ rows.length ≤ left ∧ ∀ i, i < j → (rowX rows i).length ≤ left
  | 0, m, h => by
    rw [leftG] at h
    split at h
    · cases h
    · cases h; exact ⟨by omega, by omega, fun i hi => absurd hi (Nat.not_lt_zero i)⟩
  | j + 1, m, h => by
    rw [leftG] at h
    split at h
    · cases h
    · rename_i q hq
      split at h
      · cases h
      · cases h
        obtain ⟨h1, h2, h3⟩ := leftG_le hq
        refine ⟨by omega, h2, fun i hi => ?_⟩
        by_cases e : i = j
        · subst e; omega
        · exact h3 i (by omega)
set_option maxHeartbeats 2000000 in
theorem szCSS_any (v : Value) (rows : List (List Ce)) (left : Nat) (w : World) (hv : SlG w v rows) (hl : rows.length ≤ maxLen) (hx : ∀ i, i < rows.length → (rowX rows i).length ≤ maxLen) (hf : left ≤ 4611686018427387904) :
    Calls Tryd.prog 45 #[v, .int .i64 left] w fun e w' => e = .returned (.int .i64 (szG rows left)) ∧ w' = w := by
  unfold maxLen at hl
  obtain ⟨a, c, vs, rfl, hcp, _, hr, hs⟩ := id hv
  by_cases h : left < rows.length
  · have h2 : (left : Int) - (rows.length : Int) < 0 := by omega
    have hz : Hid (szG rows left = -1) := by show _ = _; unfold szG; rw [leftG_none (j := 0) (by rw [leftG, if_pos h]) _ (Nat.zero_le _)]
    clear hs hr
    go_enter Tryd.func45, Tryd.ntmps45
    go_wp2
    go_ret
    exact ⟨by rw [hz.out]; rfl, rfl⟩
  · have h2 : ¬ (left : Int) - (rows.length : Int) < 0 := by omega
    have h3 : Hid (leftG rows left 0 = some (left - rows.length)) := by show _ = _; rw [leftG, if_neg h]
    have h4 : Hid ((left : Int) - (rows.length : Int) = ((left - rows.length : Nat) : Int)) := by show _ = _; omega
    go_enter Tryd.func45, Tryd.ntmps45
    go_wp2
    go_loopw [1, 5] (fun u i wr => ∃ j m : Nat, i = .int .i64 j ∧ u = .int .i64 m ∧ j ≤ rows.length ∧ Hid (leftG rows left j = some m) ∧ wr = w) (fun _ i _ => rows.length - (intOf i).toNat)
    case atStart => exact ⟨0, left - rows.length, rfl, by rw [← h4.out], Nat.zero_le _, h3, rfl⟩
    case round =>
      clear h3 h4 h2 h
      obtain ⟨j, m, rfl, rfl, hj, hm, hw⟩ := hrel
      subst hw
      by_cases hlt : j < rows.length
      · have hji : (j : Int) < (rows.length : Int) := by omega
        have hj0 : (0 : Int) ≤ (j : Int) := by omega
        rcases hr with h | ⟨b, off, rfl, hbb, hrc⟩
        · rw [h] at hlt; simp at hlt
        have hsj := hs j hlt
        have hcj := hrc j hlt
        obtain ⟨aj, cj, ev, _⟩ := id hsj
        rw [ev] at hcj hsj
        have hsz := szC_any _ _ m wr hsj (hx j hlt) (by have := (leftG_le hm.out).1; omega)
        clear hs hrc ev hsj hv
        by_cases h5 : m < (rowX rows j).length
        · have hz : Hid (szG rows left = -1) := by show _ = _; unfold szG; rw [leftG_none (j := j + 1) (by rw [leftG, hm.out]; simp [h5]) _ hlt]
          rw [if_pos h5] at hsz
          go_wp2_with fail
          refine hsz.mono ?_
          rintro e w2 ⟨rfl, hw2⟩
          subst hw2
          go_wp2
          go_ret
          exact ⟨by rw [hz.out]; rfl, rfl⟩
        · have hm2 : Hid (leftG rows left (j + 1) = some (m - (rowX rows j).length)) := by show _ = _; rw [leftG, hm.out]; simp [h5]
          have h6 : ¬ (((m - (rowX rows j).length : Nat) : Int) < 0) := by omega
          rw [if_neg h5] at hsz
          generalize m - (rowX rows j).length = m2 at *
          go_wp2_with fail
          refine hsz.mono ?_
          rintro e w2 ⟨rfl, hw2⟩
          subst hw2
          go_wp2
          go_roundw
          case rel => exact ⟨j + 1, m2, by go_num, rfl, by omega, hm2, trivial⟩
          case measure => simp [intOf]; omega
      · have hjn : j = rows.length := by omega
        have hji : ¬ (j : Int) < (rows.length : Int) := by omega
        subst hjn
        have hz : Hid (szG rows left = (m : Int)) := by show _ = _; unfold szG; rw [hm.out]
        clear hs hr hv
        go_wp2
        go_ret
        exact ⟨by rw [hz.out]; rfl, rfl⟩
set_option maxHeartbeats 1000000 in
theorem szGrid_any (cols : Int) (v : Value) (rows : List (List Ce)) (left : Nat) (w : World) (hv : SlG w v rows) (hl : rows.length ≤ maxLen) (hx : ∀ i, i < rows.length → (rowX rows i).length ≤ maxLen) (hf : left ≤ 4611686018427387904) :
    Calls Tryd.prog 18 #[gridV cols v, .int .i64 left] w fun e w' => e = .returned (.int .i64 (szG rows left)) ∧ Below w.heap.size w w' := by
  have hb0 := bal' w (Obj.cells #[.int .i64 cols, v] 43)
  have hG0 := GrN.new w cols v 43
  have hsz := fun W h => szCSS_any v rows left W h hl hx hf
  have hv1 := hv.below hb0
  obtain ⟨a, c, vs, rfl, _⟩ := id hv
  unfold gridV
  obtain ⟨_, g0, g1⟩ := id hG0
  go_enter Tryd.func18, Tryd.ntmps18
  go_wp2_with fail
  refine (hsz _ hv1).mono ?_
  rintro e w2 ⟨rfl, hw⟩
  subst hw
  by_cases h : szG rows left < 0
  · have hz : Hid (szG rows left = -1) := by
      show _ = _
      unfold szG at *
      split at h
      · rfl
      · omega
    go_wp2
    go_ret
    exact ⟨by rw [hz.out]; rfl, hb0⟩
  · go_wp2
    go_ret
    exact ⟨rfl, hb0⟩
end Go.Proofs.YtpijokologkbeaaDoor
namespace Go.Proofs.YtpijokologkbeaaDoor
open Go.ChangeShapes Go.WideShapes Go.ChangeAt Go.RowKit
set_option maxHeartbeats 1000000 in
theorem eqC_same (va vb : Value) (xs : List Ce) (w : World) (ha : SlC w va xs) (hb : SlC w vb xs) (hl : xs.length ≤ 1073741824) :
    Calls Tryd.prog 88 #[va, vb] w fun e w' => e = .returned (.bool true) ∧ Below w.heap.size w w' := by
  have heq := fun c W => eqCell_same c W
  obtain ⟨a, c, rfl, hc1, hn1, hr1⟩ := ha
  obtain ⟨a', c', rfl, hc2, hn2, hr2⟩ := hb
  rcases hr1 with h | ⟨b, off, rfl, hbb, hs1⟩
  · subst h
    go_enter Tryd.func88, Tryd.ntmps88
    go_wp2
    refine wp_loop_rounds 1 ?_
    rw [rounds_succ]
    go_wp2
    go_ret
    exact ⟨rfl, Below.refl _ _⟩
  · rcases hr2 with h | ⟨b', off', rfl, hbb', hs2⟩
    · subst h
      go_enter Tryd.func88, Tryd.ntmps88
      go_wp2
      refine wp_loop_rounds 1 ?_
      rw [rounds_succ]
      go_wp2
      go_ret
      exact ⟨rfl, Below.refl _ _⟩
    · unfold ceV at heq
      go_enter Tryd.func88, Tryd.ntmps88
      go_wp2
      go_loopw [5] (fun i wr => ∃ j : Nat, i = .int .i64 j ∧ j ≤ xs.length ∧ Below w.heap.size w wr) (fun i _ => xs.length - (intOf i).toNat)
      case atStart => exact ⟨0, rfl, Nat.zero_le _, Below.refl _ _⟩
      case round =>
        obtain ⟨j, rfl, hj, kb⟩ := hrel
        by_cases hlt : j < xs.length
        · have hji : (j : Int) < (xs.length : Int) := by omega
          have hj0 : (0 : Int) ≤ (j : Int) := by omega
          have kd : Below w.heap.size w wr.drew := kb.trans ((bdr _).mono kb.size)
          have hat1 := (hs1 j hlt).below kd hbb
          have hat2 := (hs2 j hlt).below kd hbb'
          obtain ⟨c0, c1, c2, c3, c4, c5, c6⟩ := hat1
          obtain ⟨d0, d1, d2, d3, d4, d5, d6⟩ := hat2
          clear hs1 hs2 
          go_wp2
          go_region_with (go_at_call 117; refine (heq (atC xs j) _).mono ?_; rintro e w1 ⟨rfl, hb1⟩)
          all_goals
            have kb1 := kd.trans (hb1.mono kd.size)
            clear c0 c1 c2 c3 c4 c5 c6 d0 d1 d2 d3 d4 d5 d6 kd kb hb1 heq
            go_wp2
            go_roundw
            case rel => exact ⟨j + 1, by go_num, by omega, kb1⟩
            case measure => simp [intOf]; omega
        · have hji : ¬ (j : Int) < (xs.length : Int) := by omega
          go_wp2
          go_ret
          exact ⟨rfl, kb⟩
theorem SlC.at {w : World} {a : Option Addr} {n c : Nat} {xs : List Ce} (h : SlC w (.slice a n c) xs) (j : Nat) (hj : j < xs.length) : ∃ b off, a = some ⟨b, off, none⟩ ∧ b < w.heap.size ∧ CeAt w b (off + j * 7) (atC xs j) := by
  obtain ⟨a', c', e, _, _, hr⟩ := h
  simp only [Value.slice.injEq] at e
  obtain ⟨rfl, rfl, rfl⟩ := e
  rcases hr with h | ⟨b, off, ha, hb, hi⟩
  · rw [h] at hj; simp at hj
  · exact ⟨b, off, ha, hb, hi j hj⟩
end Go.Proofs.YtpijokologkbeaaDoor
namespace Go.Proofs.YtpijokologkbeaaDoor
open Go.ChangeShapes Go.WideShapes Go.ChangeAt Go.RowKit
def mkC (q : Nat) : Ce := ⟨(q : Int), ⟨(q : Int) + 1, (q : Int) + 1 + 1, ((q : Int) + 1 + 1 + 1).tmod 3 == 0, ((q : Int) + 1 + 1 + 1 + 1).tmod 3 == 0, ((q : Int) + 1 + 1 + 1 + 1 + 1).tmod 3 == 0⟩, (q : Int) + 1 + 1 + 1 + 1 + 1 + 1⟩
def marksC (k n : Nat) : List Ce := (List.range n).map fun i => mkC (k + 7 * i)
theorem marksC_len (k n : Nat) : (marksC k n).length = n := by simp [marksC]
theorem marksC_at (k n i : Nat) (h : i < n) : atC (marksC k n) i = mkC (k + 7 * i) := by
  rw [atC_lt (by rw [marksC_len]; exact h)]
  simp [marksC]
set_option maxHeartbeats 4000000 in
set_option maxRecDepth 20000 in
theorem heldC_marks (v : Value) (k n : Nat) (w : World) (hv : SlC w v (marksC k n)) (hk : k ≤ 1073741824) (hl : n ≤ 1073741824) :
    Calls Tryd.prog 90 #[v, .int .i64 k] w fun e w' => e = .returned (.int .i64 ((k + 7 * n : Nat) : Int)) ∧ w' = w := by
  obtain ⟨a, c, rfl, hc0⟩ := id hv
  rw [marksC_len] at hv ⊢
  clear hc0
  go_enter Tryd.func90, Tryd.ntmps90
  go_wp2
  go_loop [1, 5] (fun q i => ∃ j : Nat, j ≤ n ∧ i = .int .i64 j ∧ q = .int .i64 ((k + 7 * j : Nat) : Int)) (fun _ i => n - (intOf i).toNat)
  case atStart => exact ⟨0, Nat.zero_le _, rfl, by simp⟩
  case round =>
    obtain ⟨j, hj, rfl, rfl⟩ := hrel
    by_cases hlt : j < n
    · have hji : (j : Int) < (n : Int) := by omega
      have hj0 : (0 : Int) ≤ (j : Int) := by omega
      obtain ⟨b, off, rfl, hbb, hat⟩ := hv.at j (by rw [marksC_len]; exact hlt)
      rw [marksC_at k n j hlt] at hat
      have hq : k + 7 * j ≤ 8 * 1073741824 := by omega
      have hq7 : Hid (((k + 7 * (j + 1) : Nat) : Int) = ((k + 7 * j : Nat) : Int) + 1 + 1 + 1 + 1 + 1 + 1 + 1) := by show _ = _; omega
      generalize k + 7 * j = q at *
      obtain ⟨c0, c1, c2, c3, c4, c5, c6⟩ := hat
      simp only [mkC] at c0 c1 c2 c3 c4 c5 c6
      clear hv
      go_wp2
      go_round
      case rel => exact ⟨j + 1, by omega, by go_num, by rw [hq7.out]⟩
      case measure => simp [intOf]; omega
    · have hjn : j = n := by omega
      subst hjn
      go_wp2
      go_ret
      exact ⟨rfl, rfl⟩
set_option maxHeartbeats 8000000 in
set_option maxRecDepth 20000 in
theorem markC_own (base : Nat) (v : Value) (k : Nat) (xs : List Ce) (w : World) (hown : OwnC w base v xs) (hk : k ≤ 1073741824) (hl : xs.length ≤ 1073741824) :
    Calls Tryd.prog 89 #[v, .int .i64 k] w fun e w' => e = .returned (.int .i64 ((k + 7 * xs.length : Nat) : Int)) ∧ OwnC w' base v (marksC k xs.length) ∧ w.grownBy w' v.ownBlock := by
  rcases hown.shape with ⟨rfl, rfl⟩ | ⟨g, cap, rfl, hbg, hlg, hcap⟩
  · go_enter Tryd.func89, Tryd.ntmps89
    go_wp2
    refine wp_loop_rounds 1 ?_
    rw [rounds_succ]
    go_wp2
    go_ret
    exact ⟨by simp, by simpa [marksC] using hown, World.grownBy.refl _ _⟩
  · generalize hn : xs.length = n at *
    go_enter Tryd.func89, Tryd.ntmps89
    go_wp2
    go_loopw [1, 5] (fun q i wr => ∃ (j : Nat) (ys : List Ce), j ≤ n ∧ i = .int .i64 j ∧ q = .int .i64 ((k + 7 * j : Nat) : Int) ∧ ys.length = n ∧ (∀ t, t < j → atC ys t = mkC (k + 7 * t)) ∧ OwnC wr base (.slice (some ⟨g, 0, none⟩) n cap) ys ∧ w.grownBy wr (some g)) (fun _ i _ => n - (intOf i).toNat)
    case atStart => exact ⟨0, xs, Nat.zero_le _, rfl, by simp, hn, (fun t h => absurd h (Nat.not_lt_zero t)), hown, World.grownBy.refl _ _⟩
    case round =>
      obtain ⟨j, ys, hj, rfl, rfl, hyl, hys, ho, hgr⟩ := hrel
      by_cases hlt : j < n
      · have hji : (j : Int) < (n : Int) := by omega
        have hj0 : (0 : Int) ≤ (j : Int) := by omega
        have hq : k + 7 * j ≤ 8 * 1073741824 := by omega
        have hq7 : Hid (((k + 7 * (j + 1) : Nat) : Int) = ((k + 7 * j : Nat) : Int) + 1 + 1 + 1 + 1 + 1 + 1 + 1) := by show _ = _; omega
        have hp := ho.put hyl j hlt (mkC (k + 7 * j))
        have hys2 : ∀ t, t < j + 1 → atC (ys.set j (mkC (k + 7 * j))) t = mkC (k + 7 * t) := by
          intro t ht
          rw [atC_set]
          by_cases e : t = j
          · subst e; rw [if_pos ⟨rfl, by omega⟩]
          · rw [if_neg (fun h => e h.1)]; exact hys t (by omega)
        have hyl2 : (ys.set j (mkC (k + 7 * j))).length = n := by simpa using hyl
        obtain ⟨kk, kg⟩ := hp
        have hgr2 := grown_tr hgr kg
        have hat := ho.at hyl j hlt
        have f0 := ho.frozen hyl (j * 7)
        have f1 := ho.frozen hyl (j * 7 + 1)
        have f2 := ho.frozen hyl (j * 7 + 2)
        have f3 := ho.frozen hyl (j * 7 + 3)
        have f4 := ho.frozen hyl (j * 7 + 4)
        have f5 := ho.frozen hyl (j * 7 + 5)
        have f6 := ho.frozen hyl (j * 7 + 6)
        clear hown ho hgr kg hys hyl hbg hlg
        generalize ys.set j (mkC (k + 7 * j)) = ys2 at *
        generalize k + 7 * j = q at *
        obtain ⟨c0, c1, c2, c3, c4, c5, c6⟩ := hat
        simp only [putCe, mkC] at kk hgr2
        go_wp2
        go_roundw
        case rel => exact ⟨j + 1, ys2, by omega, by go_num, by rw [hq7.out], hyl2, hys2, kk, hgr2⟩
        case measure => simp [intOf]; omega
      · have hjn : j = n := by omega
        have hji : ¬ (j : Int) < (n : Int) := by omega
        have hye : ys = marksC k n := ext_atC _ _ (by rw [marksC_len]; exact hyl) (fun i hi => by rw [marksC_at k n i (by omega)]; exact hys i (by omega))
        subst hjn
        clear hys hyl hown
        subst hye
        go_wp2
        go_ret
        exact ⟨rfl, ho, hgr⟩
end Go.Proofs.YtpijokologkbeaaDoor
namespace Go.Proofs.YtpijokologkbeaaDoor
open Go.ChangeShapes Go.WideShapes Go.ChangeAt Go.RowKit
def sumG (rows : List (List Ce)) : Nat → Nat
  | 0 => 0
  | j + 1 => sumG rows j + (rowX rows j).length
theorem sumG_mono (rows : List (List Ce)) {i j : Nat} (h : i ≤ j) : sumG rows i ≤ sumG rows j := by
  induction h with
  | refl => exact Nat.le_refl _
  | step _ ih => exact Nat.le_trans ih (Nat.le_add_right _ _)
theorem sumG_row (rows : List (List Ce)) {i j : Nat} (h : i < j) : (rowX rows i).length ≤ sumG rows j := by
  have := sumG_mono rows (show i + 1 ≤ j from h)
  have e : sumG rows (i + 1) = sumG rows i + (rowX rows i).length := rfl
  omega
/-- The rows marked, the first j of them. -/
def markUpG (k : Nat) (rows : List (List Ce)) (j : Nat) : List (List Ce) := genR rows.length fun i => if i < j then marksC (k + 7 * sumG rows i) (rowX rows i).length else rowX rows i
def marksG (k : Nat) (rows : List (List Ce)) : List (List Ce) := markUpG k rows rows.length
theorem markUpG_len (k : Nat) (rows : List (List Ce)) (j : Nat) : (markUpG k rows j).length = rows.length := genR_len _ _
theorem markUpG_zero (k : Nat) (rows : List (List Ce)) : markUpG k rows 0 = rows := ext_rowX _ _ (markUpG_len _ _ _) fun i hi => by
  rw [markUpG_len] at hi
  unfold markUpG
  rw [genR_at _ _ _ hi, if_neg (Nat.not_lt_zero i)]
theorem markUpG_step (k : Nat) (rows : List (List Ce)) (j : Nat) (hj : j < rows.length) : markUpG k rows (j + 1) = (markUpG k rows j).set j (marksC (k + 7 * sumG rows j) (rowX rows j).length) := ext_rowX _ _ (by rw [List.length_set, markUpG_len, markUpG_len]) fun i hi => by
  rw [markUpG_len] at hi
  rw [rowX_set' (by rw [markUpG_len]; exact hj)]
  unfold markUpG
  rw [genR_at _ _ _ hi, genR_at _ _ _ hi]
  by_cases e : i = j
  · rw [if_pos (by omega), if_pos e, e]
  · rw [if_neg e]
    by_cases c : i < j
    · rw [if_pos c, if_pos (by omega)]
    · rw [if_neg c, if_neg (by omega)]
theorem markUpG_at (k : Nat) (rows : List (List Ce)) (j i : Nat) (hi : i < rows.length) : rowX (markUpG k rows j) i = if i < j then marksC (k + 7 * sumG rows i) (rowX rows i).length else rowX rows i := by
  unfold markUpG; rw [genR_at _ _ _ hi]
set_option maxHeartbeats 2000000 in
theorem markCSS_own (lo hi : Nat) (v : Value) (vs : List Value) (k : Nat) (rows : List (List Ce)) (w : World) (h : OwnV w lo hi v vs rows) (hk : k ≤ 1048576) (hl : sumG rows rows.length ≤ 1048576) (hn : rows.length ≤ 1048576) :
    Calls Tryd.prog 49 #[v, .int .i64 k] w fun e w' => e = .returned (.int .i64 ((k + 7 * sumG rows rows.length : Nat) : Int)) ∧ OwnV w' lo hi v vs (marksG k rows) ∧ GrB lo hi w w' := by
  rcases h.shape with ⟨rfl, rfl⟩ | ⟨g, cap, rfl, hbg, hlg, hcap⟩
  · go_enter Tryd.func49, Tryd.ntmps49
    go_wp2
    refine wp_loop_rounds 1 ?_
    rw [rounds_succ]
    go_wp2
    go_ret
    exact ⟨by simp [sumG], by simpa [marksG, markUpG, genR] using h, GrB.refl _ _ _⟩
  · generalize hN : rows.length = n at *
    go_enter Tryd.func49, Tryd.ntmps49
    go_wp2
    go_loopw [1, 5] (fun q i wr => ∃ (j : Nat), j ≤ n ∧ i = .int .i64 j ∧ q = .int .i64 ((k + 7 * sumG rows j : Nat) : Int) ∧ OwnV wr lo hi (.slice (some ⟨g, 0, none⟩) n cap) vs (markUpG k rows j) ∧ GrB lo hi w wr) (fun _ i _ => n - (intOf i).toNat)
    case atStart => exact ⟨0, Nat.zero_le _, rfl, rfl, by rw [markUpG_zero]; exact h, GrB.refl _ _ _⟩
    case round =>
      clear h
      obtain ⟨j, hj, rfl, rfl, ho, hgr⟩ := hrel
      have hlen : (markUpG k rows j).length = n := by rw [markUpG_len]; exact hN
      by_cases hlt : j < n
      · have hji : (j : Int) < (n : Int) := by omega
        have hj0 : (0 : Int) ≤ (j : Int) := by omega
        have hcj := ho.cell hlen j hlt
        have hx := markUpG_at k rows j j (by omega)
        rw [if_neg (Nat.lt_irrefl j)] at hx
        have hrow := ho.2.2.1 j (by omega)
        rw [hx] at hrow
        have hs1 := sumG_mono rows (show j ≤ n by omega)
        have hs2 := sumG_row rows hlt
        have hm := markC_own lo (rowV vs j) (k + 7 * sumG rows j) (rowX rows j) wr hrow (by omega) (by omega)
        have hst : Hid (markUpG k rows (j + 1) = (markUpG k rows j).set j (marksC (k + 7 * sumG rows j) (rowX rows j).length)) := markUpG_step k rows j (by omega)
        have hsum : Hid ((k + 7 * sumG rows j) + 7 * (rowX rows j).length = k + 7 * sumG rows (j + 1)) := by show _ = _; rw [sumG]; omega
        have hB : ∀ g', (rowV vs j).ownBlock = some g' → lo ≤ g' ∧ g' < hi := fun g' e => ⟨(hrow.lt g' e).1, ho.2.2.2.1 j (by omega) g' e⟩
        rw [hsum.out] at hm
        have hfin := fun W' (h1 : OwnC W' lo (rowV vs j) (marksC (k + 7 * sumG rows j) (rowX rows j).length)) (h2 : wr.grownBy W' (rowV vs j).ownBlock) => (show OwnV W' lo hi (.slice (some ⟨g, 0, none⟩) n cap) vs (markUpG k rows (j + 1)) from by rw [hst.out]; exact ho.rowset (by omega) _ h1 h2)
        have hsh : ∃ a n c, rowV vs j = Value.slice a n c := by rcases hrow.shape with ⟨h, _⟩ | ⟨_, _, h, _⟩ <;> exact ⟨_, _, _, h⟩
        clear hst hsum hrow hx ho hs1 hs2
        generalize rowV vs j = r at *
        obtain ⟨ra, rn, rc, rfl⟩ := hsh
        go_wp2_with fail
        refine hm.mono ?_
        rintro e w2 ⟨rfl, ho2, hg2⟩
        have kk := hfin w2 ho2 hg2
        have gg := hgr.trans (GrB.of_grown hg2 hB)
        clear hfin ho2 hg2 hB hm hgr
        go_wp2
        go_roundw
        case rel => exact ⟨j + 1, by omega, by go_num, rfl, kk, gg⟩
        case measure => simp [intOf]; omega
      · have hjn : j = n := by omega
        have hji : ¬ (j : Int) < (n : Int) := by omega
        subst hjn
        go_wp2
        go_ret
        exact ⟨rfl, by unfold marksG; rw [hN]; exact ho, hgr⟩
theorem marksG_at (k : Nat) (rows : List (List Ce)) (i : Nat) (hi : i < rows.length) : rowX (marksG k rows) i = marksC (k + 7 * sumG rows i) (rowX rows i).length := by
  unfold marksG; rw [markUpG_at _ _ _ _ hi, if_pos hi]
set_option maxHeartbeats 2000000 in
theorem heldCSS_marks (v : Value) (k : Nat) (rows : List (List Ce)) (w : World) (hv : SlG w v (marksG k rows)) (hk : k ≤ 1048576) (hl : sumG rows rows.length ≤ 1048576) (hn : rows.length ≤ 1048576) :
    Calls Tryd.prog 54 #[v, .int .i64 k] w fun e w' => e = .returned (.int .i64 ((k + 7 * sumG rows rows.length : Nat) : Int)) ∧ w' = w := by
  obtain ⟨a, c, vs, rfl, hcp, _, hr, hs⟩ := hv
  have hlen : (marksG k rows).length = rows.length := markUpG_len _ _ _
  rw [hlen] at hr hs hcp ⊢
  generalize hN : rows.length = n at *
  go_enter Tryd.func54, Tryd.ntmps54
  go_wp2
  go_loop [1, 5] (fun q i => ∃ j : Nat, j ≤ n ∧ i = .int .i64 j ∧ q = .int .i64 ((k + 7 * sumG rows j : Nat) : Int)) (fun _ i => n - (intOf i).toNat)
  case atStart => exact ⟨0, Nat.zero_le _, rfl, rfl⟩
  case round =>
    obtain ⟨j, hj, rfl, rfl⟩ := hrel
    by_cases hlt : j < n
    · have hji : (j : Int) < (n : Int) := by omega
      have hj0 : (0 : Int) ≤ (j : Int) := by omega
      rcases hr with h | ⟨b, off, rfl, hbb, hrc⟩
      · rw [h] at hlen; simp at hlen; omega
      have hsj := hs j hlt
      have hcj := hrc j hlt
      rw [marksG_at k rows j (by omega)] at hsj
      obtain ⟨aj, cj, ev, _⟩ := id hsj
      rw [ev] at hcj hsj
      have hs1 := sumG_mono rows (show j ≤ n by omega)
      have hs2 := sumG_row rows hlt
      have hm := heldC_marks _ (k + 7 * sumG rows j) (rowX rows j).length w hsj (by omega) (by omega)
      have hsum : Hid ((k + 7 * sumG rows j) + 7 * (rowX rows j).length = k + 7 * sumG rows (j + 1)) := by show _ = _; rw [sumG]; omega
      rw [hsum.out] at hm
      have hnn : ¬ (((k + 7 * sumG rows (j + 1) : Nat) : Int) < 0) := by omega
      clear hs hrc ev hsj hs1 hs2 hsum hlen
      rw [marksC_len] at hm hcj
      generalize (rowX rows j).length = m at *
      go_wp2_with fail
      refine hm.mono ?_
      rintro e w2 ⟨rfl, hw⟩
      subst hw
      go_wp2
      go_round
      case rel => exact ⟨j + 1, by omega, by go_num, rfl⟩
      case measure => simp [intOf]; omega
    · have hjn : j = n := by omega
      have hji : ¬ (j : Int) < (n : Int) := by omega
      subst hjn
      clear hs hr
      go_wp2
      go_ret
      exact ⟨rfl, rfl⟩
/-- What lies in a range, marked. -/
theorem markGrid_own (lo hi : Nat) (cols : Int) (v : Value) (k : Nat) (rows : List (List Ce)) (w : World) (h : OwnR w lo hi v rows) (hk : k ≤ 1048576) (hl : sumG rows rows.length ≤ 1048576) (hn : rows.length ≤ 1048576) :
    Calls Tryd.prog 22 #[gridV cols v, .int .i64 k] w fun e w' => e = .returned (.int .i64 ((k + 7 * sumG rows rows.length : Nat) : Int)) ∧ OwnR w' lo hi v (marksG k rows) ∧ GrB lo hi w w' := by
  have hb0 := bal' w (Obj.cells #[.int .i64 cols, v] 26)
  obtain ⟨vs, hv⟩ := h.1.v
  have hv1 : OwnV (w.alloc (Obj.cells #[.int .i64 cols, v] 26)) lo hi v vs rows := hv.below hb0
  have hm := markCSS_own lo hi v vs k rows _ hv1 hk hl hn
  have hG0 := GrN.new w cols v 26
  have hin := h.2
  obtain ⟨a, n, c, rfl⟩ : ∃ a n c, v = Value.slice a n c := by rcases hv.shape with ⟨h, _⟩ | ⟨_, _, h, _⟩ <;> exact ⟨_, _, _, h⟩
  unfold gridV
  obtain ⟨_, g0, g1⟩ := id hG0
  clear hv hv1 h
  generalize k + 7 * sumG rows rows.length = q at *
  go_enter Tryd.func22, Tryd.ntmps22
  go_wp2_with fail
  refine hm.mono ?_
  rintro e w2 ⟨rfl, ho2, hg2⟩
  go_wp2
  go_ret
  exact ⟨rfl, ⟨ho2.g, hin.1, Nat.le_trans hin.2 (Nat.le_trans hb0.size hg2.size)⟩, (GrB.of_below hb0).trans hg2⟩
theorem heldGrid_marks (cols : Int) (v : Value) (k : Nat) (rows : List (List Ce)) (w : World) (hv : SlG w v (marksG k rows)) (hk : k ≤ 1048576) (hl : sumG rows rows.length ≤ 1048576) (hn : rows.length ≤ 1048576) :
    Calls Tryd.prog 27 #[gridV cols v, .int .i64 k] w fun e w' => e = .returned (.int .i64 ((k + 7 * sumG rows rows.length : Nat) : Int)) ∧ Below w.heap.size w w' := by
  have hb0 := bal' w (Obj.cells #[.int .i64 cols, v] 26)
  have hG0 := GrN.new w cols v 26
  have hm := heldCSS_marks v k rows _ (hv.below hb0) hk hl hn
  obtain ⟨a, c, vs, rfl, _⟩ := hv
  unfold gridV
  obtain ⟨_, g0, g1⟩ := id hG0
  have hnn : ¬ (((k + 7 * sumG rows rows.length : Nat) : Int) < 0) := by omega
  generalize k + 7 * sumG rows rows.length = q at *
  go_enter Tryd.func27, Tryd.ntmps27
  go_wp2_with fail
  refine hm.mono ?_
  rintro e w2 ⟨rfl, hw⟩
  subst hw
  go_wp2
  go_ret
  exact ⟨rfl, hb0⟩
end Go.Proofs.YtpijokologkbeaaDoor
namespace Go.Proofs.YtpijokologkbeaaDoor
open Go.ChangeShapes Go.WideShapes Go.ChangeAt Go.RowKit
theorem leftG_sum {rows : List (List Ce)} {left : Nat} : ∀ {j m : Nat}, leftG rows left j = some m → m + rows.length + sumG rows j = left
  | 0, m, h => by
    rw [leftG] at h
    split at h
    · cases h
    · cases h; rw [sumG]; omega
  | j + 1, m, h => by
    rw [leftG] at h
    split at h
    · cases h
    · rename_i q hq
      split at h
      · cases h
      · cases h
        have := leftG_sum hq
        rw [sumG]; omega
theorem sumG_bd (rows : List (List Ce)) (m : Nat) (h : ∀ i, i < rows.length → (rowX rows i).length ≤ m) : ∀ j, j ≤ rows.length → sumG rows j ≤ j * m
  | 0, _ => Nat.zero_le _
  | j + 1, hj => by
    have := sumG_bd rows m h j (by omega)
    have := h j (by omega)
    rw [sumG, Nat.add_mul]; omega
theorem StAt.grB {lo hi B : Nat} {w w' : World} {s : St} (h : StAt w B s) (hg : GrB lo hi w w') (hne : B < lo ∨ hi ≤ B) : StAt w' B s := by
  obtain ⟨h0, ⟨c0, c1, c2, c3, c4⟩, z0, z1, z2, z3, z4⟩ := h
  refine ⟨Nat.lt_of_lt_of_le h0 hg.size, ⟨?_, ?_, ?_, ?_, ?_⟩, ?_, ?_, ?_, ?_, ?_⟩
  all_goals first | rw [hg.cell h0 hne] | rw [hg.frozen h0 hne]
  all_goals assumption
theorem own_put {w w' : World} {lo B : Nat} {v : Value} {rows : List (List Ce)} (h : OwnG w lo w.heap.size v rows) (hg : w.grownBy w' (some B)) (hs : B + 1 ≤ lo) : OwnR w' lo w.heap.size v rows ∧ (B < lo ∨ w.heap.size ≤ B) :=
  ⟨(OwnR.of h).gr (GrB.of_grown (lo := B) (hi := B + 1) hg (fun _ e => Option.some.inj e ▸ ⟨Nat.le_refl _, Nat.lt_succ_self _⟩)) (.inr hs), .inl hs⟩
theorem slShp {w : World} {v : Value} {rows : List (List Ce)} (h : SlG w v rows) : ∃ a n c, v = Value.slice a n c := by
  obtain ⟨a, c, vs, rfl, _⟩ := h
  exact ⟨_, _, _, rfl⟩
end Go.Proofs.YtpijokologkbeaaDoor
namespace Go.Proofs.YtpijokologkbeaaDoor
open Go.ChangeShapes Go.WideShapes Go.ChangeAt Go.RowKit
set_option maxHeartbeats 2000000 in
theorem toCS_copy (v : Value) (xs : List Ce) (w : World) (hv : SlC w v xs) (hl : xs.length ≤ 1073741824) :
    Calls Tryd.prog 86 #[v] w fun e w' => ∃ u, e = .returned u ∧ OwnC w' w.heap.size u xs ∧ Below w.heap.size w w' := by
  have hto := fun c W => toCell_any c W
  unfold ceV at hto
  obtain ⟨a, c, rfl, hc0⟩ := id hv
  clear hc0
  go_enter Tryd.func86, Tryd.ntmps86
  go_wp2_with (refine make_oc rfl _ _ rfl xs.length rfl rfl hl ?_; intro w1 ho1 hb1)
  go_wp2
  go_loopw [4] (fun i wr => ∃ (j : Nat) (ys : List Ce), i = .int .i64 j ∧ j ≤ xs.length ∧ ys.length = xs.length ∧ (∀ t, t < j → atC ys t = atC xs t) ∧ OC w.heap.size (.slice (some ⟨w.heap.size, 0, none⟩) xs.length xs.length) ys w wr) (fun i _ => xs.length - (intOf i).toNat)
  case atStart => exact ⟨0, _, rfl, Nat.zero_le _, List.length_replicate, (fun t h => absurd h (Nat.not_lt_zero t)), ho1, hb1, hb1.size, Nat.le_refl _⟩
  case round =>
    clear ho1 hb1
    obtain ⟨j, ys, rfl, hj, hyl, hys, k⟩ := hrel
    by_cases hlt : j < xs.length
    · have hji : (j : Int) < (xs.length : Int) := by omega
      have hj0 : (0 : Int) ≤ (j : Int) := by omega
      obtain ⟨b, off, rfl, hbb, hat⟩ := (hv.below k.2.1).at j hlt
      obtain ⟨c0, c1, c2, c3, c4, c5, c6⟩ := hat
      go_wp2_with fail
      refine (hto (atC xs j) _).mono ?_
      rintro e w2 ⟨rfl, hb2⟩
      have k2 := k.below hb2
      have hp := k2.1.put hyl j hlt (atC xs j)
      have kk : OC w.heap.size (.slice (some ⟨w.heap.size, 0, none⟩) xs.length xs.length) (ys.set j (atC xs j)) w (putCe w2 w.heap.size (j * 7) (atC xs j)) := k2.own hp.1 hp.2
      have hys2 : ∀ t, t < j + 1 → atC (ys.set j (atC xs j)) t = atC xs t := by
        intro t ht
        rw [atC_set]
        by_cases e : t = j
        · subst e; rw [if_pos ⟨rfl, by omega⟩]
        · rw [if_neg (fun h => e h.1)]; exact hys t (by omega)
      have hyl2 : (ys.set j (atC xs j)).length = xs.length := by simpa using hyl
      have hat := k2.1.at hyl j hlt
      have f0 := k2.1.frozen hyl (j * 7)
      have f1 := k2.1.frozen hyl (j * 7 + 1)
      have f2 := k2.1.frozen hyl (j * 7 + 2)
      have f3 := k2.1.frozen hyl (j * 7 + 3)
      have f4 := k2.1.frozen hyl (j * 7 + 4)
      have f5 := k2.1.frozen hyl (j * 7 + 5)
      have f6 := k2.1.frozen hyl (j * 7 + 6)
      clear hp k hb2 hto hys c0 c1 c2 c3 c4 c5 c6 k2 hv hyl
      generalize ys.set j (atC xs j) = ys2 at *
      obtain ⟨c0, c1, c2, c3, c4, c5, c6⟩ := hat
      simp only [putCe] at kk
      go_wp2
      go_roundw
      case rel => exact ⟨j + 1, ys2, by go_num, by omega, hyl2, hys2, kk⟩
      case measure => simp [intOf]; omega
    · have hjn : j = xs.length := by omega
      have hji : ¬ (j : Int) < (xs.length : Int) := by omega
      have hye : ys = xs := ext_atC _ _ hyl (fun i hi => hys i (by omega))
      subst hye
      clear hys hyl hv hto
      go_wp2
      go_ret
      exact ⟨_, rfl, k.1, k.2.1⟩
end Go.Proofs.YtpijokologkbeaaDoor
namespace Go.Proofs.YtpijokologkbeaaDoor
open Go.ChangeShapes Go.WideShapes Go.ChangeAt Go.RowKit
set_option maxHeartbeats 2000000 in
theorem toCSS_copy (v : Value) (rows : List (List Ce)) (w : World) (hv : SlG w v rows) (hl : rows.length ≤ 1073741824) (hx : ∀ i, i < rows.length → (rowX rows i).length ≤ 1073741824) :
    Calls Tryd.prog 46 #[v] w fun e w' => ∃ u, e = .returned u ∧ OwnG w' w.heap.size w'.heap.size u rows ∧ Below w.heap.size w w' := by
  obtain ⟨a, c, vs, rfl, hcp, _, hr, hs⟩ := id hv
  go_enter Tryd.func46, Tryd.ntmps46
  go_wp2_with (refine make_og rfl _ _ rfl rows.length rfl rfl hl ?_; intro w1 ho1 hb1)
  go_wp2
  go_loopw [4] (fun i wr => ∃ (j : Nat) (R : List (List Ce)), i = .int .i64 j ∧ j ≤ rows.length ∧ R.length = rows.length ∧ (∀ t, t < j → rowX R t = rowX rows t) ∧ OwnG wr w.heap.size wr.heap.size (.slice (some ⟨w.heap.size, 0, none⟩) rows.length rows.length) R ∧ Below w.heap.size w wr) (fun i _ => rows.length - (intOf i).toNat)
  case atStart => exact ⟨0, _, rfl, Nat.zero_le _, List.length_replicate, (fun t h => absurd h (Nat.not_lt_zero t)), ho1, hb1⟩
  case round =>
    clear ho1 hb1
    obtain ⟨j, R, rfl, hj, hRl, hR, k, kb⟩ := hrel
    by_cases hlt : j < rows.length
    · have hji : (j : Int) < (rows.length : Int) := by omega
      have hj0 : (0 : Int) ≤ (j : Int) := by omega
      rcases hr with h | ⟨b, off, rfl, hbb, hrc⟩
      · rw [h] at hlt; simp at hlt
      have hsj := (hs j hlt).below kb
      have hcj := (kb.cell (p := ⟨b, off + j, none⟩) hbb).trans (hrc j hlt)
      obtain ⟨aj, cj, ev, _⟩ := id hsj
      rw [ev] at hcj hsj
      have hto := toCS_copy _ _ wr hsj (hx j hlt)
      clear hs hrc ev hsj hv
      go_wp2_with fail
      refine hto.mono ?_
      rintro e w2 ⟨r, rfl, hor, hb2⟩
      have hk2 := (k.below hb2).set hRl j hlt r _ (hor.low kb.size) (fun q e => (hor.lt q e).1)
      have hw0 : ∃ cur, w2.cell? ⟨w.heap.size, j, none⟩ = some cur := by
        obtain ⟨vs2, hvl2, hown2, _⟩ := k.below hb2
        rw [hRl] at hown2
        exact ⟨_, by rw [World.ownsRow.cellAt hown2 j (by omega), rowV_get (by omega)]⟩
      have hfz : w2.frozen? ⟨w.heap.size, j, none⟩ = false := by
        obtain ⟨vs2, hvl2, hown2, _⟩ := k.below hb2
        rw [hRl] at hown2
        exact World.ownsRow.frozenAt hown2 j
      have kb3 := (kb.trans (hb2.mono kb.size)).grown hk2.2 (by have := kb.size; have := hb2.size; omega) (fun g e => by cases e; exact Nat.le_refl _)
      have hR2 : ∀ t, t < j + 1 → rowX (R.set j (rowX rows j)) t = rowX rows t := fun t ht => by
        rw [rowX_set (by omega)]
        by_cases e : t = j
        · rw [if_pos e, e]
        · rw [if_neg e]; exact hR t (by omega)
      have hRl2 : (R.set j (rowX rows j)).length = rows.length := by simpa using hRl
      have kk := hk2.1
      obtain ⟨cur, hcur⟩ := hw0
      obtain ⟨ra, rn, rc, rfl⟩ : ∃ a n c, r = Value.slice a n c := by rcases hor.shape with ⟨h, _⟩ | ⟨_, _, h, _⟩ <;> exact ⟨_, _, _, h⟩
      clear k kb hor hb2 hto hk2 hR hRl hcj
      generalize R.set j (rowX rows j) = R2 at *
      go_wp2
      go_roundw
      case rel => exact ⟨j + 1, R2, by go_num, by omega, hRl2, hR2, kk, kb3⟩
      case measure => simp [intOf]; omega
    · have hjn : j = rows.length := by omega
      have hji : ¬ (j : Int) < (rows.length : Int) := by omega
      have hye : R = rows := by
        apply List.ext_getElem hRl
        intro i h1 h2
        rw [← rowX_lt h1, ← rowX_lt h2]
        exact hR i (by omega)
      subst hye
      clear hs hr hR hv
      go_wp2
      go_ret
      exact ⟨_, rfl, k, kb⟩
end Go.Proofs.YtpijokologkbeaaDoor
namespace Go.Proofs.YtpijokologkbeaaDoor
open Go.ChangeShapes Go.WideShapes Go.ChangeAt Go.RowKit
/-- A new grid that grows beside the result's block. -/
def NG (M B : Nat) (cols : Int) (u : Value) (rows : List (List Ce)) (w0 W : World) : Prop :=
  GrW W M 0 (.slice none 0 0) ∧ GrW W (M + 1) cols u ∧ OwnG W (M + 2) B u rows ∧ M + 2 ≤ W.heap.size ∧ B ≤ W.heap.size ∧ Below M w0 W
theorem NG.below {M B : Nat} {cols : Int} {u : Value} {rows : List (List Ce)} {w0 W W' : World} (k : NG M B cols u rows w0 W) (hb : Below W.heap.size W W') : NG M B cols u rows w0 W' :=
  ⟨k.1.below hb, k.2.1.below hb, k.2.2.1.below hb, Nat.le_trans k.2.2.2.1 hb.size, Nat.le_trans k.2.2.2.2.1 hb.size, k.2.2.2.2.2.trans (hb.mono (by have := k.2.2.2.1; omega))⟩
theorem NG.drew {M B : Nat} {cols : Int} {u : Value} {rows : List (List Ce)} {w0 W : World} (k : NG M B cols u rows w0 W) : NG M B cols u rows w0 W.drew := k.below (bdr W)
theorem NG.more {M B : Nat} {cols : Int} {u v' : Value} {rows rows' : List (List Ce)} {w0 W W' : World} (k : NG M B cols u rows w0 W) (ho : OwnG W' (M + 2) W'.heap.size v' rows') (hg : W.grownBy W' u.ownBlock) :
    GrW W' M 0 (.slice none 0 0) ∧ GrW W' (M + 1) cols u ∧ OwnG W' (M + 2) W'.heap.size v' rows' ∧ M + 2 ≤ W'.heap.size ∧ W'.heap.size ≤ W'.heap.size ∧ Below M w0 W' := by
  have hne : ∀ g, u.ownBlock = some g → M + 2 ≤ g := fun g e => (k.2.2.1.lt g e).1
  refine ⟨k.1.grown hg (fun e => by have := hne _ e; omega), k.2.1.grown hg (fun e => by have := hne _ e; omega), ho, Nat.le_trans k.2.2.2.1 hg.size, Nat.le_refl _, ?_⟩
  exact k.2.2.2.2.2.grown hg (by have := k.2.2.2.1; omega) (fun g e => by have := hne g e; omega)
theorem ng_put {M : Nat} {cols : Int} {u : Value} {rows : List (List Ce)} {w0 W : World} {v' : Value} (k : GrW W M 0 (.slice none 0 0) ∧ GrW W (M + 1) cols u ∧ OwnG W (M + 2) W.heap.size v' rows ∧ M + 2 ≤ W.heap.size ∧ W.heap.size ≤ W.heap.size ∧ Below M w0 W) :
    NG M (putG W (M + 1) v').heap.size cols v' rows w0 (putG W (M + 1) v') := by
  have hg := putG_grown W (M + 1) v'
  refine ⟨k.1.grown hg (fun e => by cases e), k.2.1.put v', ((k.2.2.1).kept hg (fun g e => by cases e; omega)).up hg.size, Nat.le_trans k.2.2.2.1 hg.size, Nat.le_refl _, ?_⟩
  exact k.2.2.2.2.2.grown hg (by have := k.2.2.2.1; omega) (fun g e => by cases e; omega)
/-- What NewGrid gives. -/
def newOk (cols n : Int) : Prop := (1 ≤ cols ∧ cols ≤ 60) ∧ (1 ≤ n ∧ n ≤ 30)
instance (cols n : Int) : Decidable (newOk cols n) := by unfold newOk; exact inferInstance
end Go.Proofs.YtpijokologkbeaaDoor
namespace Go.Proofs.YtpijokologkbeaaDoor
open Go.ChangeShapes Go.WideShapes Go.ChangeAt Go.RowKit
set_option maxHeartbeats 2000000 in
theorem toGrid_copy (cols : Int) (v : Value) (rows : List (List Ce)) (w : World) (hv : SlG w v rows) (hl : rows.length ≤ 1073741824) (hx : ∀ i, i < rows.length → (rowX rows i).length ≤ 1073741824) :
    Calls Tryd.prog 19 #[gridV cols v] w fun e w' => ∃ u, e = .returned (gridV cols u) ∧ OwnG w' w.heap.size w'.heap.size u rows ∧ Below w.heap.size w w' := by
  have hto := fun W h => toCSS_copy v rows W h hl hx
  have hG0 := GrN.new w cols v 43
  have hb0 := bal' w (Obj.cells #[.int .i64 cols, v] 43)
  have e0 : (w.alloc (Obj.cells #[.int .i64 cols, v] 43)).heap.size = w.heap.size + 1 := by simp
  have hvv := hv
  obtain ⟨a, c, vs, rfl, _⟩ := id hv
  have hv1 := hvv.below hb0
  unfold gridV
  generalize hw1 : w.alloc (Obj.cells #[.int .i64 cols, .slice a rows.length c] 43) = w1 at *
  have hR := GrW.new w1 0 (.slice none 0 0) 26
  have hb1 := bal' w1 (Obj.cells #[Value.int IntKind.i64 0, Value.slice none 0 0] 26)
  have e1 : (w1.alloc (Obj.cells #[Value.int IntKind.i64 0, Value.slice none 0 0] 26)).heap.size = w.heap.size + 2 := by simp; omega
  have hO := GrW.new (w1.alloc (Obj.cells #[Value.int IntKind.i64 0, Value.slice none 0 0] 26)) cols (.slice none 0 0) 26
  have hb2 := bal' (w1.alloc (Obj.cells #[Value.int IntKind.i64 0, Value.slice none 0 0] 26)) (Obj.cells #[Value.int IntKind.i64 cols, Value.slice none 0 0] 26)
  rw [e1] at hO
  rw [e0] at hR
  have hR2 := hR.below hb2
  have hbb := hb1.trans (hb2.mono hb1.size)
  have hv2 := hv1.below hbb
  have e3 : ((w1.alloc (Obj.cells #[Value.int IntKind.i64 0, Value.slice none 0 0] 26)).alloc (Obj.cells #[Value.int IntKind.i64 cols, Value.slice none 0 0] 26)).heap.size = w.heap.size + 3 := by simp; omega
  subst hw1
  obtain ⟨_, g0, g1⟩ := id hG0
  go_enter Tryd.func19, Tryd.ntmps19
  go_wp2_with fail
  refine (hto _ hv2).mono ?_
  rintro e w4 ⟨u, rfl, hou, hb4⟩
  have hR4 := hR2.below hb4
  have hO4 := hO.below hb4
  obtain ⟨ua, un, uc, rfl⟩ : ∃ a n c, u = Value.slice a n c := by rcases hou.shape with ⟨h, _⟩ | ⟨_, _, h, _⟩ <;> exact ⟨_, _, _, h⟩
  have hs4 := hb4.size
  rw [e3] at hou hs4
  have hg5 := putG_grown w4 (w.heap.size + 2) (.slice ua un uc)
  have hO5 := hO4.put (.slice ua un uc)
  have hR5 := hR4.grown hg5 (fun e => by simp at e)
  have ho5 := (hou.kept hg5 (fun g e => by cases e; omega)).up hg5.size
  have hbase := hb0.trans ((hbb.trans (hb4.mono hbb.size)).mono hb0.size)
  have hb5 := hbase.grown hg5 (by omega) (fun g e => by cases e; omega)
  have hs5 := hg5.size
  have hg6 := putG2_grown (putG w4 (w.heap.size + 2) (.slice ua un uc)) (w.heap.size + 1) cols (.slice ua un uc)
  have kF := (hR5.put2 cols (.slice ua un uc)).2.1
  have ho6 := (ho5.kept hg6 (fun g e => by cases e; omega)).up hg6.size
  have hb6 := hb5.grown hg6 (by omega) (fun g e => by cases e; omega)
  clear hG0 hb0 e0 hR hb1 e1 hO hb2 hR2 hbb hv1 hv2 hvv hto e3 hbase hb4 hs4 hs5 hg5 hg6 hb5 ho5 hou g0 g1
  obtain ⟨_, ⟨d0, d1⟩, ⟨y0, y1⟩⟩ := hR4
  obtain ⟨_, ⟨c0, c1⟩, ⟨z0, z1⟩⟩ := hO4
  obtain ⟨_, ⟨p0, p1⟩, ⟨q0, q1⟩⟩ := hO5
  obtain ⟨_, ⟨r0, r1⟩, ⟨s0, s1⟩⟩ := hR5
  obtain ⟨f0, f1⟩ := kF
  simp only [putG, putG2] at f0 f1 ho6 hb6 p0 p1 q0 q1 r0 r1 s0 s1
  go_wp2
  exact bodyPost_ret (v := .agg #[.int .i64 cols, .slice ua un uc]) (by simp [results, Tryd.results19, go_sem, f0, f1]) rfl ⟨_, rfl, ho6.low (by omega), hb6⟩
end Go.Proofs.YtpijokologkbeaaDoor
namespace Go.Proofs.YtpijokologkbeaaDoor
open Go.ChangeShapes Go.WideShapes Go.ChangeAt Go.RowKit
set_option maxHeartbeats 4000000 in
theorem eqCSS_same (va vb : Value) (rows : List (List Ce)) (w : World) (ha : SlG w va rows) (hb : SlG w vb rows) (hl : rows.length ≤ 1073741824) (hx : ∀ i, i < rows.length → (rowX rows i).length ≤ 1073741824) :
    Calls Tryd.prog 48 #[va, vb] w fun e w' => e = .returned (.bool true) ∧ Below w.heap.size w w' := by
  obtain ⟨a, c, vs, rfl, _, _, hr, hs⟩ := id ha
  obtain ⟨a2, c2, vs2, rfl, _, _, hr2, hs2⟩ := id hb
  clear ha hb
  go_enter Tryd.func48, Tryd.ntmps48
  go_wp2
  go_loopw [5] (fun i wr => ∃ j : Nat, i = .int .i64 j ∧ j ≤ rows.length ∧ Below w.heap.size w wr) (fun i _ => rows.length - (intOf i).toNat)
  case atStart => exact ⟨0, rfl, Nat.zero_le _, Below.refl _ _⟩
  case round =>
    obtain ⟨j, rfl, hj, kb⟩ := hrel
    by_cases hlt : j < rows.length
    · have hji : (j : Int) < (rows.length : Int) := by omega
      have hj0 : (0 : Int) ≤ (j : Int) := by omega
      rcases hr with h | ⟨b, off, rfl, hbb, hrc⟩
      · rw [h] at hlt; simp at hlt
      rcases hr2 with h | ⟨b2, off2, rfl, hbb2, hrc2⟩
      · rw [h] at hlt; simp at hlt
      have hsj := (hs j hlt).below kb
      have hsj2 := (hs2 j hlt).below kb
      have hcj := (kb.cell (p := ⟨b, off + j, none⟩) hbb).trans (hrc j hlt)
      have hcj2 := (kb.cell (p := ⟨b2, off2 + j, none⟩) hbb2).trans (hrc2 j hlt)
      obtain ⟨aj, cj, ev, _⟩ := id hsj
      obtain ⟨aj2, cj2, ev2, _⟩ := id hsj2
      rw [ev] at hcj hsj
      rw [ev2] at hcj2 hsj2
      have heq := fun W (hW : Below wr.heap.size wr W) => eqC_same _ _ _ W (hsj.below hW) (hsj2.below hW) (hx j hlt)
      clear hs hs2 hrc hrc2 ev ev2 hsj hsj2
      go_wp2
      go_region_with (go_at_call 88; refine (heq _ (bdr _)).mono ?_; rintro e w2 ⟨rfl, hb2⟩)
      all_goals
        have kb2 := (kb.trans ((bdr wr).mono kb.size)).trans (hb2.mono kb.size)
        clear kb hb2 heq
        go_wp2
        go_roundw
        case rel => exact ⟨j + 1, by go_num, by omega, by first | exact kb2 | exact kb2.drew⟩
        case measure => simp [intOf]; omega
    · have hjn : j = rows.length := by omega
      have hji : ¬ (j : Int) < (rows.length : Int) := by omega
      subst hjn
      clear hs hs2 hr hr2
      go_wp2
      go_ret
      exact ⟨rfl, kb⟩
set_option maxHeartbeats 2000000 in
theorem eqGrid_same (cols : Int) (va vb : Value) (rows : List (List Ce)) (w : World) (ha : SlG w va rows) (hb : SlG w vb rows) (hl : rows.length ≤ 1073741824) (hx : ∀ i, i < rows.length → (rowX rows i).length ≤ 1073741824) :
    Calls Tryd.prog 21 #[gridV cols va, gridV cols vb] w fun e w' => e = .returned (.bool true) ∧ Below w.heap.size w w' := by
  have hb0 := bal' w (Obj.cells #[.int .i64 cols, va] 26)
  have hb1 := bal' (w.alloc (Obj.cells #[.int .i64 cols, va] 26)) (Obj.cells #[.int .i64 cols, vb] 26)
  have hG0 := (GrN.new w cols va 26).below hb1
  have hG1 := GrN.new (w.alloc (Obj.cells #[.int .i64 cols, va] 26)) cols vb 26
  have e0 : (w.alloc (Obj.cells #[.int .i64 cols, va] 26)).heap.size = w.heap.size + 1 := by simp
  rw [e0] at hG1
  have heq := fun W h1 h2 => eqCSS_same va vb rows W h1 h2 hl hx
  have hbb := hb0.trans (hb1.mono hb0.size)
  have ha1 := ha.below hbb
  have hb2 := hb.below hbb
  obtain ⟨a, c, vs, rfl, _⟩ := id ha
  obtain ⟨a2, c2, vs2, rfl, _⟩ := id hb
  unfold gridV
  obtain ⟨_, g0, g1⟩ := id hG0
  obtain ⟨_, f0, f1⟩ := id hG1
  go_enter Tryd.func21, Tryd.ntmps21
  go_wp2_with fail
  refine (heq _ ha1 hb2).mono ?_
  rintro e w2 ⟨rfl, hw⟩
  go_wp2
  go_ret
  exact ⟨rfl, hbb.trans (hw.mono hbb.size)⟩
end Go.Proofs.YtpijokologkbeaaDoor
namespace Go.Proofs.YtpijokologkbeaaDoor
open Go.ChangeShapes Go.WideShapes Go.ChangeAt Go.RowKit
/-- A slice of cells whose block lies below B. -/
def SlU (B : Nat) (w : World) (v : Value) (xs : List Ce) : Prop :=
  ∃ a c, v = .slice a xs.length c ∧ xs.length ≤ c ∧ (a = none → c = 0) ∧ (xs = [] ∨ ∃ b off, a = some ⟨b, off, none⟩ ∧ b < B ∧ b < w.heap.size ∧ ∀ i, i < xs.length → CeAt w b (off + i * 7) (atC xs i))
theorem SlU.sl {B : Nat} {w : World} {v : Value} {xs : List Ce} (h : SlU B w v xs) : SlC w v xs := by
  obtain ⟨a, c, hv, hc, hn, h | ⟨b, off, ha, _, hlt, hi⟩⟩ := h
  · exact ⟨a, c, hv, hc, hn, .inl h⟩
  · exact ⟨a, c, hv, hc, hn, .inr ⟨b, off, ha, hlt, hi⟩⟩
theorem SlU.of {w : World} {v : Value} {xs : List Ce} (h : SlC w v xs) : SlU w.heap.size w v xs := by
  obtain ⟨a, c, hv, hc, hn, h | ⟨b, off, ha, hlt, hi⟩⟩ := h
  · exact ⟨a, c, hv, hc, hn, .inl h⟩
  · exact ⟨a, c, hv, hc, hn, .inr ⟨b, off, ha, hlt, hlt, hi⟩⟩
theorem SlU.up {B B' : Nat} {w : World} {v : Value} {xs : List Ce} (h : SlU B w v xs) (hb : B ≤ B') : SlU B' w v xs := by
  obtain ⟨a, c, hv, hc, hn, h | ⟨b, off, ha, h1, hlt, hi⟩⟩ := h
  · exact ⟨a, c, hv, hc, hn, .inl h⟩
  · exact ⟨a, c, hv, hc, hn, .inr ⟨b, off, ha, Nat.lt_of_lt_of_le h1 hb, hlt, hi⟩⟩
theorem SlU.below {B : Nat} {w w' : World} {v : Value} {xs : List Ce} (h : SlU B w v xs) (hb : Below B w w') : SlU B w' v xs := by
  obtain ⟨a, c, hv, hc, hn, h | ⟨b, off, ha, h1, hlt, hi⟩⟩ := h
  · exact ⟨a, c, hv, hc, hn, .inl h⟩
  · refine ⟨a, c, hv, hc, hn, .inr ⟨b, off, ha, h1, Nat.lt_of_lt_of_le hlt hb.size, fun i h => ?_⟩⟩
    have e : ∀ k, w'.cell? ⟨b, k, none⟩ = w.cell? ⟨b, k, none⟩ := fun k => hb.cell (p := ⟨b, k, none⟩) h1
    have := hi i h
    unfold CeAt at *
    rw [e, e, e, e, e, e, e]
    exact this
/-- An argument's row, and a style in a box of this call's own. -/
def KE (B : Nat) (s : St) (v : Value) (xs : List Ce) (w0 W : World) : Prop := StAt W B s ∧ SlU (B + 1) W v xs ∧ Below w0.heap.size w0 W
theorem KE.below {B : Nat} {s : St} {v : Value} {xs : List Ce} {w0 W W' : World} (k : KE B s v xs w0 W) (hb : Below W.heap.size W W') : KE B s v xs w0 W' :=
  ⟨k.1.below hb, k.2.1.below (hb.mono k.1.1), k.2.2.trans (hb.mono k.2.2.size)⟩
/-- A row of this call's own changes. -/
theorem KE.own {B : Nat} {s : St} {v : Value} {xs : List Ce} {w0 W W' : World} {base : Nat} {u : Value} {L : List Ce} (k : KE B s v xs w0 W) (ho : OwnC W base u L) (hB : B < base) (h0 : w0.heap.size ≤ B) (hg : W.grownBy W' u.ownBlock) : KE B s v xs w0 W' := by
  have hb : Below (B + 1) W W' := (Below.refl _ _).grown hg k.1.1 (fun g e => Nat.lt_of_lt_of_le hB (ho.lt g e).1)
  exact ⟨k.1.own ho hB hg, k.2.1.below hb, k.2.2.trans (hb.mono (by omega))⟩
theorem KE.all {B : Nat} {s : St} {v : Value} {xs : List Ce} {w0 W : World} (k : KE B s v xs w0 W) : W.cell? ⟨B, 0, none⟩ = some (.int .i64 s.fore) ∧ W.cell? ⟨B, 1, none⟩ = some (.int .i64 s.back) ∧ W.cell? ⟨B, 2, none⟩ = some (.bool s.bold) ∧ W.cell? ⟨B, 3, none⟩ = some (.bool s.under) ∧ W.cell? ⟨B, 4, none⟩ = some (.bool s.turned) ∧ KE B s v xs w0 W :=
  ⟨k.1.2.1.1, k.1.2.1.2.1, k.1.2.1.2.2.1, k.1.2.1.2.2.2.1, k.1.2.1.2.2.2.2, k⟩
theorem KE.drew {B : Nat} {s : St} {v : Value} {xs : List Ce} {w0 W : World} (k : KE B s v xs w0 W) : W.drew.cell? ⟨B, 0, none⟩ = some (.int .i64 s.fore) ∧ W.drew.cell? ⟨B, 1, none⟩ = some (.int .i64 s.back) ∧ W.drew.cell? ⟨B, 2, none⟩ = some (.bool s.bold) ∧ W.drew.cell? ⟨B, 3, none⟩ = some (.bool s.under) ∧ W.drew.cell? ⟨B, 4, none⟩ = some (.bool s.turned) ∧ KE B s v xs w0 W.drew := (k.below (bdr W)).all
theorem OwnC.apart {w w' : World} {base base' : Nat} {v u : Value} {xs ys : List Ce} (h : OwnC w base v xs) (_hu : OwnC w base' u ys) (hB : ∀ g, u.ownBlock = some g → g < base) (hg : w.grownBy w' u.ownBlock) : OwnC w' base v xs := by
  refine World.ownsRow.kept h hg ?_
  cases hv : v.ownBlock with
  | none => exact .inl rfl
  | some g =>
    right
    intro e
    have h1 := (h.lt g hv).1
    have h2 := hB g e.symm
    omega
/-- A row that lies below another's base stays while that one changes. -/
theorem SlU.own {B base : Nat} {w w' : World} {v u : Value} {xs L : List Ce} (h : SlU B w v xs) (ho : OwnC w base u L) (hB : B ≤ base) (hs : B ≤ w.heap.size) (hg : w.grownBy w' u.ownBlock) : SlU B w' v xs :=
  h.below ((Below.refl _ _).grown hg hs (fun g e => Nat.le_trans hB (ho.lt g e).1))
end Go.Proofs.YtpijokologkbeaaDoor
namespace Go.Proofs.YtpijokologkbeaaDoor
open Go.ChangeShapes Go.WideShapes Go.ChangeAt Go.RowKit
def sumP (cs : List Ch) : Nat → Nat
  | 0 => 0
  | j + 1 => sumP cs j + (2 + 7 * (chX cs j).cells.length)
theorem sumP_mono (cs : List Ch) {i j : Nat} (h : i ≤ j) : sumP cs i ≤ sumP cs j := by
  induction h with
  | refl => exact Nat.le_refl _
  | step _ ih => exact Nat.le_trans ih (Nat.le_add_right _ _)
theorem sumP_row (cs : List Ch) {i j : Nat} (h : i < j) : sumP cs i + (2 + 7 * (chX cs i).cells.length) ≤ sumP cs j := sumP_mono cs (show i + 1 ≤ j from h)
def mkCh (q n : Nat) : Ch := ⟨(q : Int), (q : Int) + 1, marksC (q + 2) n⟩
/-- The changes marked, the first j of them. -/
def markUpP (k : Nat) (cs : List Ch) (j : Nat) : List Ch := (List.range cs.length).map fun i => if i < j then mkCh (k + sumP cs i) (chX cs i).cells.length else chX cs i
def marksP (k : Nat) (cs : List Ch) : List Ch := markUpP k cs cs.length
theorem markUpP_len (k : Nat) (cs : List Ch) (j : Nat) : (markUpP k cs j).length = cs.length := by simp [markUpP]
theorem markUpP_at (k : Nat) (cs : List Ch) (j i : Nat) (hi : i < cs.length) : chX (markUpP k cs j) i = if i < j then mkCh (k + sumP cs i) (chX cs i).cells.length else chX cs i := by
  rw [chX_lt (by rw [markUpP_len]; exact hi)]
  simp [markUpP]
theorem markUpP_zero (k : Nat) (cs : List Ch) : markUpP k cs 0 = cs := ext_chX _ _ (markUpP_len _ _ _) fun i hi => by
  rw [markUpP_len] at hi
  rw [markUpP_at _ _ _ _ hi, if_neg (Nat.not_lt_zero i)]
theorem markUpP_step (k : Nat) (cs : List Ch) (j : Nat) (hj : j < cs.length) : markUpP k cs (j + 1) = (markUpP k cs j).set j (mkCh (k + sumP cs j) (chX cs j).cells.length) := ext_chX _ _ (by rw [List.length_set, markUpP_len, markUpP_len]) fun i hi => by
  rw [markUpP_len] at hi
  rw [chX_set (by rw [markUpP_len]; exact hj), markUpP_at _ _ _ _ hi, markUpP_at _ _ _ _ hi]
  by_cases e : i = j
  · rw [if_pos (by omega), if_pos e, e]
  · rw [if_neg e]
    by_cases c : i < j
    · rw [if_pos c, if_pos (by omega)]
    · rw [if_neg c, if_neg (by omega)]
set_option maxHeartbeats 4000000 in
theorem markChS_own (lo hi : Nat) (v : Value) (vs : List Value) (k : Nat) (cs : List Ch) (w : World) (h : OwnP w lo hi v vs cs) (hv : ∀ g, v.ownBlock = some g → g < hi) (hk : k ≤ 16777216) (hl : sumP cs cs.length ≤ 16777216) (hn : cs.length ≤ 1048576) :
    Calls Tryd.prog 50 #[v, .int .i64 k] w fun e w' => e = .returned (.int .i64 ((k + sumP cs cs.length : Nat) : Int)) ∧ OwnP w' lo hi v vs (marksP k cs) ∧ GrB lo hi w w' := by
  rcases h.shape with ⟨rfl, rfl⟩ | ⟨g, cap, rfl, hbg, hlg, hcap⟩
  · go_enter Tryd.func50, Tryd.ntmps50
    go_wp2
    refine wp_loop_rounds 1 ?_
    rw [rounds_succ]
    go_wp2
    go_ret
    exact ⟨by simp [sumP], by simpa [marksP, markUpP] using h, GrB.refl _ _ _⟩
  · have hgi : g < hi := hv g rfl
    generalize hN : cs.length = n at *
    go_enter Tryd.func50, Tryd.ntmps50
    go_wp2
    go_loopw [1, 5] (fun q i wr => ∃ (j : Nat), j ≤ n ∧ i = .int .i64 j ∧ q = .int .i64 ((k + sumP cs j : Nat) : Int) ∧ OwnP wr lo hi (.slice (some ⟨g, 0, none⟩) n cap) vs (markUpP k cs j) ∧ GrB lo hi w wr) (fun _ i _ => n - (intOf i).toNat)
    case atStart => exact ⟨0, Nat.zero_le _, rfl, rfl, by rw [markUpP_zero]; exact h, GrB.refl _ _ _⟩
    case round =>
      clear h hv
      obtain ⟨j, hj, rfl, rfl, ho, hgr⟩ := hrel
      have hlen : (markUpP k cs j).length = n := by rw [markUpP_len]; exact hN
      by_cases hlt : j < n
      · have hji : (j : Int) < (n : Int) := by omega
        have hj0 : (0 : Int) ≤ (j : Int) := by omega
        obtain ⟨c0, c1, c2⟩ := ho.cell hlen j hlt
        have f0 := ho.frozen hlen (j * 3)
        have f1 := ho.frozen hlen (j * 3 + 1)
        have hx := markUpP_at k cs j j (by omega)
        rw [if_neg (Nat.lt_irrefl j)] at hx
        have hs1 := sumP_mono cs (show j ≤ n by omega)
        have hs2 := sumP_row cs hlt
        have hst : Hid (markUpP k cs (j + 1) = (markUpP k cs j).set j (mkCh (k + sumP cs j) (chX cs j).cells.length)) := markUpP_step k cs j (by omega)
        have hsum : Hid ((k + sumP cs j + 2) + 7 * (chX cs j).cells.length = k + sumP cs (j + 1)) := by show _ = _; rw [sumP]; omega
        have hqb : k + sumP cs j ≤ 33554432 := by omega
        have hB0 : ∀ g', (rowV vs j).ownBlock = some g' → lo ≤ g' ∧ g' < hi := fun g' e => ⟨((ho.2.2.1 j (by omega)).lt g' e).1, ho.2.2.2.1 j (by omega) g' e⟩
        obtain ⟨q, hq⟩ : ∃ q, Hid (q = k + sumP cs j) := ⟨_, rfl⟩
        rw [← hq.out] at hst hsum hqb ⊢
        have hnums := ho.nums hlen j hlt (q : Int) ((q : Int) + 1) _ rfl
        rw [hx] at hnums c0 c1
        obtain ⟨ho2, hg2⟩ := hnums
        have hrow := ho2.2.2.1 j (by simp; omega)
        have hcx : (chX ((markUpP k cs j).set j ⟨(q : Int), (q : Int) + 1, (chX cs j).cells⟩) j) = ⟨(q : Int), (q : Int) + 1, (chX cs j).cells⟩ := by rw [chX_set (by omega), if_pos rfl]
        rw [hcx] at hrow
        have hm := markC_own lo (rowV vs j) (q + 2) (chX cs j).cells _ hrow (by omega) (by omega)
        rw [hsum.out, show ((q + 2 : Nat) : Int) = (q : Int) + 1 + 1 by omega] at hm
        have hfin := fun W' (h1 : OwnC W' lo (rowV vs j) (marksC (q + 2) (chX cs j).cells.length)) h2 => (show OwnP W' lo hi (.slice (some ⟨g, 0, none⟩) n cap) vs (markUpP k cs (j + 1)) from by
          have := ho2.rowset (w' := W') (j := j) (by simp; omega) _ h1 h2
          rw [hcx, List.set_set] at this
          rw [hst.out]
          exact this)
        have hc2' := (ho2.cell (by simp; omega) j hlt).2.2
        have gg2 := hgr.trans (GrB.of_grown hg2 (fun g' e => by cases e; exact ⟨hbg, hgi⟩))
        have hsh : ∃ a n c, rowV vs j = Value.slice a n c := by rcases hrow.shape with ⟨h, _⟩ | ⟨_, _, h, _⟩ <;> exact ⟨_, _, _, h⟩
        clear hst hsum hrow hx ho hs1 hs2 ho2 hcx hg2 hgr hq
        replace gg2 := (show Hid (GrB _ _ _ _) from gg2)
        replace hfin := (show Hid _ from hfin)
        generalize rowV vs j = r at *
        obtain ⟨ra, rn, rc, rfl⟩ := hsh
        obtain ⟨q2, hq2⟩ : ∃ q2, Hid (q2 = k + sumP cs (j + 1)) := ⟨_, rfl⟩
        rw [← hq2.out] at hm
        go_wp2_with fail
        refine hm.mono ?_
        rintro e w2 ⟨rfl, ho2, hg2⟩
        have kk := hfin.out w2 ho2 hg2
        have gg := gg2.out.trans (GrB.of_grown hg2 hB0)
        clear hfin ho2 hg2 hB0 hm gg2 hc2'
        go_wp2
        go_roundw
        case rel => exact ⟨j + 1, by omega, by go_num, by rw [hq2.out], kk, gg⟩
        case measure => simp [intOf]; omega
      · have hjn : j = n := by omega
        have hji : ¬ (j : Int) < (n : Int) := by omega
        subst hjn
        go_wp2
        go_ret
        exact ⟨rfl, by unfold marksP; rw [hN]; exact ho, hgr⟩
theorem markPatch_own (lo hi : Nat) (x y : Int) (v : Value) (vs : List Value) (k : Nat) (cs : List Ch) (w : World) (h : OwnP w lo hi v vs cs) (hv : ∀ g, v.ownBlock = some g → g < hi) (hk : k ≤ 16777216) (hl : sumP cs cs.length ≤ 16777216) (hn : cs.length ≤ 1048576) :
    Calls Tryd.prog 23 #[patV x y v, .int .i64 k] w fun e w' => e = .returned (.int .i64 ((k + sumP cs cs.length : Nat) : Int)) ∧ OwnP w' lo hi v vs (marksP k cs) ∧ GrB lo hi w w' := by
  have hb0 := bal' w (Obj.cells #[.int .i64 x, .int .i64 y, v] 31)
  have hm := markChS_own lo hi v vs k cs _ (h.below hb0) hv hk hl hn
  have hG0 := P3.new w x y v 31
  obtain ⟨a, n, c, rfl⟩ : ∃ a n c, v = Value.slice a n c := by rcases h.shape with ⟨h, _⟩ | ⟨_, _, h, _⟩ <;> exact ⟨_, _, _, h⟩
  unfold patV
  obtain ⟨_, ⟨g0, g1, g2⟩, _⟩ := id hG0
  clear h hG0 hv
  generalize k + sumP cs cs.length = q at *
  go_enter Tryd.func23, Tryd.ntmps23
  go_wp2_with fail
  refine hm.mono ?_
  rintro e w2 ⟨rfl, ho2, hg2⟩
  go_wp2
  go_ret
  exact ⟨rfl, ho2, (GrB.of_below hb0).trans hg2⟩
end Go.Proofs.YtpijokologkbeaaDoor
namespace Go.Proofs.YtpijokologkbeaaDoor
open Go.ChangeShapes Go.WideShapes Go.ChangeAt Go.RowKit
theorem P3.put {w : World} {B : Nat} {x y : Int} {v : Value} (h : P3 w B x y v) (v' : Value) : P3 (w.setCell ⟨B, 2, none⟩ v') B x y v' := by
  obtain ⟨hlt, ⟨c0, c1, c2⟩, ⟨z0, z1, z2⟩⟩ := h
  refine ⟨by simpa using hlt, ⟨?_, ?_, ?_⟩, ⟨?_, ?_, ?_⟩⟩
  · rw [setCell_ne' _ _ _ _ _ (by decide)]; exact c0
  · rw [setCell_ne' _ _ _ _ _ (by decide)]; exact c1
  · simp [go_sem, c2]
  · simp [go_sem, z0]
  · simp [go_sem, z1]
  · simp [go_sem, z2]
/-- All three are written. -/
def put3 (w : World) (B : Nat) (x y : Int) (v : Value) : World := ((w.setCell ⟨B, 0, none⟩ (.int .i64 x)).setCell ⟨B, 1, none⟩ (.int .i64 y)).setCell ⟨B, 2, none⟩ v
theorem put3_grown (w : World) (B : Nat) (x y : Int) (v : Value) : w.grownBy (put3 w B x y v) (some B) := grown_tr (grown_tr (setCell_gr w B 0 _) (setCell_gr _ B 1 _)) (setCell_gr _ B 2 _)
theorem P3.puts {w : World} {B : Nat} {x y : Int} {v : Value} (h : P3 w B x y v) (x' y' : Int) (v' : Value) : P3 (put3 w B x' y' v') B x' y' v' := by
  obtain ⟨hlt, ⟨c0, c1, c2⟩, ⟨z0, z1, z2⟩⟩ := h
  refine ⟨by simpa [put3] using hlt, ⟨?_, ?_, ?_⟩, ⟨?_, ?_, ?_⟩⟩
  all_goals simp only [put3]
  · rw [setCell_ne' _ _ _ _ _ (by decide), setCell_ne' _ _ _ _ _ (by decide)]; simp [go_sem, c0]
  · rw [setCell_ne' _ _ _ _ _ (by decide)]; simp [go_sem, c1]
  · simp [go_sem, c2]
  · simp [go_sem, z0]
  · simp [go_sem, z1]
  · simp [go_sem, z2]
theorem OwnC.away {w w' : World} {base : Nat} {v : Value} {xs : List Ce} {g : Nat} (h : OwnC w base v xs) (hg : w.grownBy w' (some g)) (hb : g < base) : OwnC w' base v xs :=
  h.kept hg (by
    cases hv : v.ownBlock with
    | none => exact .inl rfl
    | some q => right; intro e; have := Option.some.inj e; have := (h.lt q hv).1; omega)
set_option maxHeartbeats 2000000 in
theorem toChange_copy (x y : Int) (v : Value) (xs : List Ce) (w : World) (hv : SlC w v xs) (hl : xs.length ≤ 1073741824) :
    Calls Tryd.prog 92 #[.agg #[.int .i64 x, .int .i64 y, v]] w fun e w' => ∃ u, e = .returned (.agg #[.int .i64 x, .int .i64 y, u]) ∧ OwnC w' w.heap.size u xs ∧ Below w.heap.size w w' := by
  have hto := fun W h => toCS_copy v xs W h hl
  have hG0 := P3.new w x y v 127
  have hb0 := bal' w (Obj.cells #[.int .i64 x, .int .i64 y, v] 127)
  have e0 : (w.alloc (Obj.cells #[.int .i64 x, .int .i64 y, v] 127)).heap.size = w.heap.size + 1 := by simp
  have hvv := hv
  obtain ⟨a, c, rfl, _⟩ := id hv
  have hv1 := hvv.below hb0
  generalize hw1 : w.alloc (Obj.cells #[.int .i64 x, .int .i64 y, .slice a xs.length c] 127) = w1 at *
  have hR := P3.new w1 0 0 (.slice none 0 0) 68
  have hb1 := bal' w1 (Obj.cells #[Value.int IntKind.i64 0, Value.int IntKind.i64 0, Value.slice none 0 0] 68)
  have e1 : (w1.alloc (Obj.cells #[Value.int IntKind.i64 0, Value.int IntKind.i64 0, Value.slice none 0 0] 68)).heap.size = w.heap.size + 2 := by simp; omega
  have hO := P3.new (w1.alloc (Obj.cells #[Value.int IntKind.i64 0, Value.int IntKind.i64 0, Value.slice none 0 0] 68)) x y (.slice none 0 0) 68
  have hb2 := bal' (w1.alloc (Obj.cells #[Value.int IntKind.i64 0, Value.int IntKind.i64 0, Value.slice none 0 0] 68)) (Obj.cells #[Value.int IntKind.i64 x, Value.int IntKind.i64 y, Value.slice none 0 0] 68)
  rw [e1] at hO
  rw [e0] at hR
  have hR2 := hR.below hb2
  have hbb := hb1.trans (hb2.mono hb1.size)
  have hv2 := hv1.below hbb
  have e3 : ((w1.alloc (Obj.cells #[Value.int IntKind.i64 0, Value.int IntKind.i64 0, Value.slice none 0 0] 68)).alloc (Obj.cells #[Value.int IntKind.i64 x, Value.int IntKind.i64 y, Value.slice none 0 0] 68)).heap.size = w.heap.size + 3 := by simp; omega
  subst hw1
  obtain ⟨_, ⟨g0, g1, g2⟩, _⟩ := id hG0
  go_enter Tryd.func92, Tryd.ntmps92
  go_wp2_with fail
  refine (hto _ hv2).mono ?_
  rintro e w4 ⟨u, rfl, hou, hb4⟩
  have hR4 := hR2.below hb4
  have hO4 := hO.below hb4
  obtain ⟨ua, un, uc, rfl⟩ : ∃ a n c, u = Value.slice a n c := by rcases hou.shape with ⟨h, _⟩ | ⟨_, _, h, _⟩ <;> exact ⟨_, _, _, h⟩
  have hs4 := hb4.size
  rw [e3] at hou hs4
  have hg5 := setCell_gr w4 (w.heap.size + 2) 2 (.slice ua un uc)
  have hO5 := hO4.put (.slice ua un uc)
  have hR5 := hR4.grown hg5 (fun e => by simp at e)
  have ho5 := hou.away hg5 (by omega)
  have hbase := hb0.trans ((hbb.trans (hb4.mono hbb.size)).mono hb0.size)
  have hb5 := hbase.grown hg5 (by omega) (fun g e => by cases e; omega)
  have hs5 := hg5.size
  have hg6 := put3_grown (w4.setCell ⟨w.heap.size + 2, 2, none⟩ (.slice ua un uc)) (w.heap.size + 1) x y (.slice ua un uc)
  have kF := (hR5.puts x y (.slice ua un uc)).2.1
  have ho6 := ho5.away hg6 (by omega)
  have hb6 := hb5.grown hg6 (by omega) (fun g e => by cases e; omega)
  clear hG0 hb0 e0 hR hb1 e1 hO hb2 hR2 hbb hv1 hv2 hvv hto e3 hbase hb4 hs4 hs5 hg5 hg6 hb5 ho5 hou g0 g1 g2
  obtain ⟨_, ⟨d0, d1, d2⟩, ⟨y0, y1, y2⟩⟩ := hR4
  obtain ⟨_, ⟨c0, c1, c2⟩, ⟨z0, z1, z2⟩⟩ := hO4
  obtain ⟨_, ⟨p0, p1, p2⟩, ⟨q0, q1, q2⟩⟩ := hO5
  obtain ⟨_, ⟨r0, r1, r2⟩, ⟨s0, s1, s2⟩⟩ := hR5
  obtain ⟨f0, f1, f2⟩ := kF
  simp only [put3] at f0 f1 f2 ho6 hb6
  go_wp2
  exact bodyPost_ret (v := .agg #[.int .i64 x, .int .i64 y, .slice ua un uc]) (by simp [results, Tryd.results92, go_sem, f0, f1, f2]) rfl ⟨_, rfl, ho6.low (by omega), hb6⟩
end Go.Proofs.YtpijokologkbeaaDoor
namespace Go.Proofs.YtpijokologkbeaaDoor
open Go.ChangeShapes Go.WideShapes Go.ChangeAt Go.RowKit
theorem info_ch : (Tryd.prog.info? 68).map (fun i => (i.zero, i.size, i.bytes)) = some (some (.agg #[.int .i64 0, .int .i64 0, .slice none 0 0]), 3, 40) := by kernel_rfl
theorem under_chs : Tryd.prog.underlying 29 = some (.slice 68) := by kernel_rfl
theorem made_ch (n : Nat) : ChL (madeCells (Value.agg #[.int .i64 0, .int .i64 0, .slice none 0 0]).cells (n * 3)).toList (List.replicate n (.slice none 0 0)) (List.replicate n chZ) := fun i hi => by
  rw [List.length_replicate] at hi
  have h0 : i * 3 < n * 3 := by omega
  have h1 : i * 3 + 1 < n * 3 := by omega
  have h2 : i * 3 + 2 < n * 3 := by omega
  have m0 : i * 3 % 3 = 0 := by omega
  have m1 : (i * 3 + 1) % 3 = 1 := by omega
  have m2 : (i * 3 + 2) % 3 = 2 := by omega
  refine ⟨?_, ?_, ?_⟩
  · simp [madeCells, Value.cells, hi, m0, chX, chZ, List.getD]
  · simp [madeCells, Value.cells, h1, m1, hi, chX, chZ, List.getD]
  · simp [madeCells, Value.cells, h2, m2, hi, rowV, List.getD]
theorem make_op {w : World} {ops : Array Oper} {rest : List Oper} {o : Oper} {ac : Act} {Q : Exit → Act → World → Prop} (hgd : o.guard = none) (x y : Operand)
    (ho : o.op = Op.makeSlice 29 x y) (n : Nat) (hx : ac.eval x = .int .i64 (n : Int)) (hy : ac.eval y = .int .i64 (n : Int)) (hn : n ≤ 1073741824)
    (h : ∀ w', OwnP w' w.heap.size w'.heap.size (.slice (some ⟨w.heap.size, 0, none⟩) n n) (List.replicate n (.slice none 0 0)) (List.replicate n chZ) → Below w.heap.size w w' → wpList Tryd.prog ops Q rest (ac.put o.dst (.slice (some ⟨w.heap.size, 0, none⟩) n n)) w') :
    wpList Tryd.prog ops Q (o :: rest) ac w := by
  obtain ⟨i0, hi, hz0, hz1, hz2⟩ := info_parts info_ch
  refine wpList_make_full _ hgd x y 29 ho w.heap.size 68 i0 (.agg #[.int .i64 0, .int .i64 0, .slice none 0 0]) 3 under_chs hi hz0 hz1 .i64 .i64 (n : Int) (n : Int) n hx hy rfl rfl (by rw [hz2]; omega) (by unfold maxLen; omega) (Nat.le_refl _) (fun w' ho' hg => ?_)
  have hv : ∀ i, rowV (List.replicate n (Value.slice none 0 0)) i = .slice none 0 0 := fun i => by
    unfold rowV; by_cases hi : i < n <;> simp [List.getD, hi]
  have hr : ∀ i, (chX (List.replicate n chZ) i).cells = [] := fun i => by
    unfold chX; by_cases hi : i < n <;> simp [List.getD, hi, chZ]
  refine h w' ⟨by simp, ⟨_, by rw [List.length_replicate]; exact ho', made_ch n⟩, fun i _ => by rw [hv, hr]; exact ownC_none _ _, (fun i _ g e => by rw [hv] at e; cases e), (fun i j _ _ g e => by rw [hv] at e; cases e)⟩ ((Below.refl _ _).grown hg (Nat.le_refl _) (fun k hk => by cases hk))
set_option maxHeartbeats 4000000 in
theorem toChS_copy (v : Value) (cs : List Ch) (w : World) (hv : SlP w v cs) (hl : cs.length ≤ 1073741824) (hx : ∀ i, i < cs.length → (chX cs i).cells.length ≤ 1073741824) :
    Calls Tryd.prog 53 #[v] w fun e w' => ∃ u vs, e = .returned u ∧ OwnP w' w.heap.size w'.heap.size u vs cs ∧ Below w.heap.size w w' := by
  obtain ⟨a, c, vs, rfl, hcp, hr, hs⟩ := id hv
  go_enter Tryd.func53, Tryd.ntmps53
  go_wp2_with (refine make_op rfl _ _ rfl cs.length rfl rfl hl ?_; intro w1 ho1 hb1)
  go_wp2
  go_loopw [4] (fun i wr => ∃ (j : Nat) (us : List Value) (R : List Ch), i = .int .i64 j ∧ j ≤ cs.length ∧ R.length = cs.length ∧ (∀ t, t < j → chX R t = chX cs t) ∧ OwnP wr w.heap.size wr.heap.size (.slice (some ⟨w.heap.size, 0, none⟩) cs.length cs.length) us R ∧ Below w.heap.size w wr) (fun i _ => cs.length - (intOf i).toNat)
  case atStart => exact ⟨0, _, _, rfl, Nat.zero_le _, List.length_replicate, (fun t h => absurd h (Nat.not_lt_zero t)), ho1, hb1⟩
  case round =>
    clear ho1 hb1
    obtain ⟨j, us, R, rfl, hj, hRl, hR, k, kb⟩ := hrel
    by_cases hlt : j < cs.length
    · have hji : (j : Int) < (cs.length : Int) := by omega
      have hj0 : (0 : Int) ≤ (j : Int) := by omega
      rcases hr with h | ⟨b, off, rfl, hbb, hrc⟩
      · rw [h] at hlt; simp at hlt
      have hsj := (hs j hlt).below kb
      have ec : ∀ q, wr.cell? ⟨b, q, none⟩ = w.cell? ⟨b, q, none⟩ := fun q => kb.cell (p := ⟨b, q, none⟩) hbb
      obtain ⟨c0, c1, c2⟩ := hrc j hlt
      rw [← ec] at c0 c1 c2
      obtain ⟨aj, cj, ev, _⟩ := id hsj
      rw [ev] at c2 hsj
      have hto := toChange_copy (chX cs j).row (chX cs j).frm _ _ wr hsj (hx j hlt)
      clear hs hrc ev hsj hv ec
      go_wp2_with fail
      refine hto.mono ?_
      rintro e w2 ⟨r, rfl, hor, hb2⟩
      obtain ⟨ra, rn, rc, rfl⟩ : ∃ a n c, r = Value.slice a n c := by rcases hor.shape with ⟨h, _⟩ | ⟨_, _, h, _⟩ <;> exact ⟨_, _, _, h⟩
      have k2 := k.below hb2
      obtain ⟨q0, q1, q2⟩ := k2.cell hRl j hlt
      have f0 := k2.frozen hRl (j * 3)
      have f1 := k2.frozen hRl (j * 3 + 1)
      have f2 := k2.frozen hRl (j * 3 + 2)
      have hk2 := k2.set hRl j hlt (chX cs j).row (chX cs j).frm _ (chX cs j).cells (hor.low kb.size) (fun q e => (hor.lt q e).1) _ rfl
      have kb3 := (kb.trans (hb2.mono kb.size)).grown hk2.2 (by have := kb.size; have := hb2.size; omega) (fun g e => by cases e; exact Nat.le_refl _)
      have hR2 : Hid (∀ t, t < j + 1 → chX (R.set j ⟨(chX cs j).row, (chX cs j).frm, (chX cs j).cells⟩) t = chX cs t) := fun t ht => by
        rw [chX_set (by omega)]
        by_cases e : t = j
        · rw [if_pos e, e]
        · rw [if_neg e]; exact hR t (by omega)
      have hRl2 : (R.set j ⟨(chX cs j).row, (chX cs j).frm, (chX cs j).cells⟩).length = cs.length := by simpa using hRl
      have kk := (show Hid (OwnP _ _ _ _ _ _) from hk2.1)
      replace kb3 := (show Hid (Below _ _ _) from kb3)
      clear k kb hor hb2 hto hk2 hR hRl c0 c1 c2 k2
      generalize R.set j ⟨(chX cs j).row, (chX cs j).frm, (chX cs j).cells⟩ = R2 at *
      go_wp2
      go_roundw
      case rel => exact ⟨j + 1, _, R2, by go_num, by omega, hRl2, hR2.out, kk.out, kb3.out⟩
      case measure => simp [intOf]; omega
    · have hjn : j = cs.length := by omega
      have hji : ¬ (j : Int) < (cs.length : Int) := by omega
      have hye : R = cs := ext_chX _ _ hRl (fun i hi => hR i (by omega))
      subst hye
      clear hs hr hR hv
      go_wp2
      go_ret
      exact ⟨_, rfl, ⟨_, k⟩, kb⟩
set_option maxHeartbeats 2000000 in
theorem toPatch_copy (x y : Int) (v : Value) (cs : List Ch) (w : World) (hv : SlP w v cs) (hl : cs.length ≤ 1073741824) (hx : ∀ i, i < cs.length → (chX cs i).cells.length ≤ 1073741824) :
    Calls Tryd.prog 26 #[patV x y v] w fun e w' => ∃ u vs, e = .returned (patV x y u) ∧ OwnP w' w.heap.size w'.heap.size u vs cs ∧ (∀ g, u.ownBlock = some g → g < w'.heap.size) ∧ Below w.heap.size w w' := by
  have hto := fun W h => toChS_copy v cs W h hl hx
  have hG0 := P3.new w x y v 51
  have hb0 := bal' w (Obj.cells #[.int .i64 x, .int .i64 y, v] 51)
  have e0 : (w.alloc (Obj.cells #[.int .i64 x, .int .i64 y, v] 51)).heap.size = w.heap.size + 1 := by simp
  have hvv := hv
  obtain ⟨a, n, c, rfl⟩ := hv.shp
  have hv1 := hvv.below hb0
  unfold patV
  generalize hw1 : w.alloc (Obj.cells #[.int .i64 x, .int .i64 y, .slice a n c] 51) = w1 at *
  have hR := P3.new w1 0 0 (.slice none 0 0) 31
  have hb1 := bal' w1 (Obj.cells #[Value.int IntKind.i64 0, Value.int IntKind.i64 0, Value.slice none 0 0] 31)
  have e1 : (w1.alloc (Obj.cells #[Value.int IntKind.i64 0, Value.int IntKind.i64 0, Value.slice none 0 0] 31)).heap.size = w.heap.size + 2 := by simp; omega
  have hO := P3.new (w1.alloc (Obj.cells #[Value.int IntKind.i64 0, Value.int IntKind.i64 0, Value.slice none 0 0] 31)) x y (.slice none 0 0) 31
  have hb2 := bal' (w1.alloc (Obj.cells #[Value.int IntKind.i64 0, Value.int IntKind.i64 0, Value.slice none 0 0] 31)) (Obj.cells #[Value.int IntKind.i64 x, Value.int IntKind.i64 y, Value.slice none 0 0] 31)
  rw [e1] at hO
  rw [e0] at hR
  have hR2 := hR.below hb2
  have hbb := hb1.trans (hb2.mono hb1.size)
  have hv2 := hv1.below hbb
  have e3 : ((w1.alloc (Obj.cells #[Value.int IntKind.i64 0, Value.int IntKind.i64 0, Value.slice none 0 0] 31)).alloc (Obj.cells #[Value.int IntKind.i64 x, Value.int IntKind.i64 y, Value.slice none 0 0] 31)).heap.size = w.heap.size + 3 := by simp; omega
  subst hw1
  obtain ⟨_, ⟨g0, g1, g2⟩, _⟩ := id hG0
  go_enter Tryd.func26, Tryd.ntmps26
  go_wp2_with fail
  refine (hto _ hv2).mono ?_
  rintro e w4 ⟨u, us, rfl, hou, hb4⟩
  have hR4 := hR2.below hb4
  have hO4 := hO.below hb4
  obtain ⟨ua, un, uc, rfl⟩ : ∃ a n c, u = Value.slice a n c := by rcases hou.shape with ⟨h, _⟩ | ⟨_, _, h, _⟩ <;> exact ⟨_, _, _, h⟩
  have hs4 := hb4.size
  rw [e3] at hou hs4
  have hg5 := setCell_gr w4 (w.heap.size + 2) 2 (.slice ua un uc)
  have hO5 := hO4.put (.slice ua un uc)
  have hR5 := hR4.grown hg5 (fun e => by simp at e)
  have ho5 := (hou.kept hg5 (fun g e => by cases e; omega)).up hg5.size
  have hbase := hb0.trans ((hbb.trans (hb4.mono hbb.size)).mono hb0.size)
  have hb5 := hbase.grown hg5 (by omega) (fun g e => by cases e; omega)
  have hs5 := hg5.size
  have hg6 := put3_grown (w4.setCell ⟨w.heap.size + 2, 2, none⟩ (.slice ua un uc)) (w.heap.size + 1) x y (.slice ua un uc)
  have kF := (hR5.puts x y (.slice ua un uc)).2.1
  have ho6 := (ho5.kept hg6 (fun g e => by cases e; omega)).up hg6.size
  have hb6 := hb5.grown hg6 (by omega) (fun g e => by cases e; omega)
  clear hG0 hb0 e0 hR hb1 e1 hO hb2 hR2 hbb hv1 hv2 hvv hto e3 hbase hb4 hs4 hs5 hg5 hg6 hb5 ho5 hou g0 g1 g2
  obtain ⟨_, ⟨d0, d1, d2⟩, ⟨y0, y1, y2⟩⟩ := hR4
  obtain ⟨_, ⟨c0, c1, c2⟩, ⟨z0, z1, z2⟩⟩ := hO4
  obtain ⟨_, ⟨p0, p1, p2⟩, ⟨q0, q1, q2⟩⟩ := hO5
  obtain ⟨_, ⟨r0, r1, r2⟩, ⟨s0, s1, s2⟩⟩ := hR5
  obtain ⟨f0, f1, f2⟩ := kF
  simp only [put3] at f0 f1 f2 ho6 hb6
  go_wp2
  exact bodyPost_ret (v := .agg #[.int .i64 x, .int .i64 y, .slice ua un uc]) (by simp [results, Tryd.results26, go_sem, f0, f1, f2]) rfl ⟨_, _, rfl, ho6.low (by omega), (fun g e => (ho6.lt g e).2), hb6⟩
end Go.Proofs.YtpijokologkbeaaDoor
namespace Go.Proofs.YtpijokologkbeaaDoor
open Go.ChangeShapes Go.WideShapes Go.ChangeAt Go.RowKit
set_option maxHeartbeats 2000000 in
theorem eqChange_same (x y : Int) (va vb : Value) (xs : List Ce) (w : World) (ha : SlC w va xs) (hb : SlC w vb xs) (hl : xs.length ≤ 1073741824) :
    Calls Tryd.prog 87 #[.agg #[.int .i64 x, .int .i64 y, va], .agg #[.int .i64 x, .int .i64 y, vb]] w fun e w' => e = .returned (.bool true) ∧ Below w.heap.size w w' := by
  have hb0 := bal' w (Obj.cells #[.int .i64 x, .int .i64 y, va] 68)
  have hb1 := bal' (w.alloc (Obj.cells #[.int .i64 x, .int .i64 y, va] 68)) (Obj.cells #[.int .i64 x, .int .i64 y, vb] 68)
  have hG0 := (P3.new w x y va 68).below hb1
  have hG1 := P3.new (w.alloc (Obj.cells #[.int .i64 x, .int .i64 y, va] 68)) x y vb 68
  have e0 : (w.alloc (Obj.cells #[.int .i64 x, .int .i64 y, va] 68)).heap.size = w.heap.size + 1 := by simp
  rw [e0] at hG1
  have heq := fun W h1 h2 => eqC_same va vb xs W h1 h2 hl
  have hbb := hb0.trans (hb1.mono hb0.size)
  have ha1 := ha.below hbb
  have hb2 := hb.below hbb
  obtain ⟨a, c, rfl, _⟩ := id ha
  obtain ⟨a2, c2, rfl, _⟩ := id hb
  obtain ⟨_, ⟨g0, g1, g2⟩, _⟩ := id hG0
  obtain ⟨_, ⟨f0, f1, f2⟩, _⟩ := id hG1
  clear hG0 hG1 e0 ha hb
  go_enter Tryd.func87, Tryd.ntmps87
  go_wp2_with fail
  refine (heq _ ha1 hb2).mono ?_
  rintro e w2 ⟨rfl, hw⟩
  go_wp2
  go_ret
  exact ⟨rfl, hbb.trans (hw.mono hbb.size)⟩
set_option maxHeartbeats 4000000 in
theorem eqChS_same (va vb : Value) (cs : List Ch) (w : World) (ha : SlP w va cs) (hb : SlP w vb cs) (hl : cs.length ≤ 1073741824) (hx : ∀ i, i < cs.length → (chX cs i).cells.length ≤ 1073741824) :
    Calls Tryd.prog 47 #[va, vb] w fun e w' => e = .returned (.bool true) ∧ Below w.heap.size w w' := by
  obtain ⟨a, c, vs, rfl, _, hr, hs⟩ := id ha
  obtain ⟨a2, c2, vs2, rfl, _, hr2, hs2⟩ := id hb
  clear ha hb
  go_enter Tryd.func47, Tryd.ntmps47
  go_wp2
  go_loopw [5] (fun i wr => ∃ j : Nat, i = .int .i64 j ∧ j ≤ cs.length ∧ Below w.heap.size w wr) (fun i _ => cs.length - (intOf i).toNat)
  case atStart => exact ⟨0, rfl, Nat.zero_le _, Below.refl _ _⟩
  case round =>
    obtain ⟨j, rfl, hj, kb⟩ := hrel
    by_cases hlt : j < cs.length
    · have hji : (j : Int) < (cs.length : Int) := by omega
      have hj0 : (0 : Int) ≤ (j : Int) := by omega
      rcases hr with h | ⟨b, off, rfl, hbb, hrc⟩
      · rw [h] at hlt; simp at hlt
      rcases hr2 with h | ⟨b2, off2, rfl, hbb2, hrc2⟩
      · rw [h] at hlt; simp at hlt
      have hsj := (hs j hlt).below kb
      have hsj2 := (hs2 j hlt).below kb
      have ec : ∀ q, wr.cell? ⟨b, q, none⟩ = w.cell? ⟨b, q, none⟩ := fun q => kb.cell (p := ⟨b, q, none⟩) hbb
      have ec2 : ∀ q, wr.cell? ⟨b2, q, none⟩ = w.cell? ⟨b2, q, none⟩ := fun q => kb.cell (p := ⟨b2, q, none⟩) hbb2
      obtain ⟨c0, c1, d0⟩ := hrc j hlt
      obtain ⟨f0, f1, f2⟩ := hrc2 j hlt
      rw [← ec] at c0 c1 d0
      rw [← ec2] at f0 f1 f2
      obtain ⟨aj, cj, ev, _⟩ := id hsj
      obtain ⟨aj2, cj2, ev2, _⟩ := id hsj2
      rw [ev] at d0 hsj
      rw [ev2] at f2 hsj2
      have heq := fun W (hW : Below wr.heap.size wr W) => eqChange_same (chX cs j).row (chX cs j).frm _ _ _ W (hsj.below hW) (hsj2.below hW) (hx j hlt)
      clear hs hs2 hrc hrc2 ev ev2 hsj hsj2 ec ec2
      go_wp2
      go_region_with (go_at_call 87; refine (heq _ (bdr _)).mono ?_; rintro e w2 ⟨rfl, hb2⟩)
      all_goals
        have kb2 := (kb.trans ((bdr wr).mono kb.size)).trans (hb2.mono kb.size)
        clear kb hb2 heq
        go_wp2
        go_roundw
        case rel => exact ⟨j + 1, by go_num, by omega, by first | exact kb2 | exact kb2.drew⟩
        case measure => simp [intOf]; omega
    · have hjn : j = cs.length := by omega
      have hji : ¬ (j : Int) < (cs.length : Int) := by omega
      subst hjn
      clear hs hs2 hr hr2
      go_wp2
      go_ret
      exact ⟨rfl, kb⟩
set_option maxHeartbeats 2000000 in
theorem eqPatch_same (cols rows : Int) (va vb : Value) (cs : List Ch) (w : World) (ha : SlP w va cs) (hb : SlP w vb cs) (hl : cs.length ≤ 1073741824) (hx : ∀ i, i < cs.length → (chX cs i).cells.length ≤ 1073741824) :
    Calls Tryd.prog 20 #[patV cols rows va, patV cols rows vb] w fun e w' => e = .returned (.bool true) ∧ Below w.heap.size w w' := by
  have hb0 := bal' w (Obj.cells #[.int .i64 cols, .int .i64 rows, va] 31)
  have hb1 := bal' (w.alloc (Obj.cells #[.int .i64 cols, .int .i64 rows, va] 31)) (Obj.cells #[.int .i64 cols, .int .i64 rows, vb] 31)
  have hG0 := (P3.new w cols rows va 31).below hb1
  have hG1 := P3.new (w.alloc (Obj.cells #[.int .i64 cols, .int .i64 rows, va] 31)) cols rows vb 31
  have e0 : (w.alloc (Obj.cells #[.int .i64 cols, .int .i64 rows, va] 31)).heap.size = w.heap.size + 1 := by simp
  rw [e0] at hG1
  have heq := fun W h1 h2 => eqChS_same va vb cs W h1 h2 hl hx
  have hbb := hb0.trans (hb1.mono hb0.size)
  have ha1 := ha.below hbb
  have hb2 := hb.below hbb
  obtain ⟨a, c, vs, rfl, _⟩ := id ha
  obtain ⟨a2, c2, vs2, rfl, _⟩ := id hb
  unfold patV
  obtain ⟨_, ⟨g0, g1, g2⟩, _⟩ := id hG0
  obtain ⟨_, ⟨f0, f1, f2⟩, _⟩ := id hG1
  clear hG0 hG1 e0 ha hb
  go_enter Tryd.func20, Tryd.ntmps20
  go_wp2_with fail
  refine (heq _ ha1 hb2).mono ?_
  rintro e w2 ⟨rfl, hw⟩
  go_wp2
  go_ret
  exact ⟨rfl, hbb.trans (hw.mono hbb.size)⟩
end Go.Proofs.YtpijokologkbeaaDoor
namespace Go.Proofs.YtpijokologkbeaaDoor
open Go.ChangeShapes Go.WideShapes Go.ChangeAt Go.RowKit
/-- A change has cells, and its places lie in n rows of C cells. -/
def inP (C : Int) (n : Nat) (c : Ch) : Prop := 0 ≤ c.row ∧ c.row < n ∧ 0 < c.cells.length ∧ 0 ≤ c.frm ∧ c.frm ≤ C - c.cells.length
instance (C : Int) (n : Nat) (c : Ch) : Decidable (inP C n c) := by unfold inP; infer_instance
def onP (R : List (List Ce)) (c : Ch) : List (List Ce) := R.set c.row.toNat (windL (rowX R c.row.toNat) c.frm.toNat c.cells)
/-- The rows behind the first changes; none where one of them does not fit. -/
def patJ (C : Int) (R0 : List (List Ce)) (cs : List Ch) : Nat → Option (List (List Ce))
  | 0 => some R0
  | j + 1 => match patJ C R0 cs j with
    | none => none
    | some R => if inP C R.length (chX cs j) then some (onP R (chX cs j)) else none
def patA (C : Int) (R : List (List Ce)) (cs : List Ch) : Int × List (List Ce) × Bool :=
  if 400 < cs.length then (0, [], false) else match patJ C R cs cs.length with
    | none => (0, [], false)
    | some R' => if gridOkB C R' then (C, R', true) else (0, [], false)
theorem patJ_none {C : Int} {R0 : List (List Ce)} {cs : List Ch} {j : Nat} (h : patJ C R0 cs j = none) : ∀ k, j ≤ k → patJ C R0 cs k = none
  | 0, hk => by
    have : j = 0 := by omega
    subst this; exact h
  | k + 1, hk => by
    by_cases e : j = k + 1
    · subst e; exact h
    · have := patJ_none h k (by omega)
      rw [patJ, this]
theorem patJ_step {C : Int} {R0 R : List (List Ce)} {cs : List Ch} {j : Nat} (h : patJ C R0 cs j = some R) (hi : inP C R.length (chX cs j)) : patJ C R0 cs (j + 1) = some (onP R (chX cs j)) := by
  rw [patJ, h]; simp only [if_pos hi]
theorem patJ_out {C : Int} {R0 R : List (List Ce)} {cs : List Ch} {j : Nat} (h : patJ C R0 cs j = some R) (hi : ¬ inP C R.length (chX cs j)) : patJ C R0 cs (j + 1) = none := by
  rw [patJ, h]; simp only [if_neg hi]
theorem patA_many {C : Int} {R : List (List Ce)} {cs : List Ch} (h : 400 < cs.length) : patA C R cs = (0, [], false) := by rw [patA, if_pos h]
theorem patA_none {C : Int} {R : List (List Ce)} {cs : List Ch} {j : Nat} (h : patJ C R cs j = none) (hj : j ≤ cs.length) : patA C R cs = (0, [], false) := by
  unfold patA
  split
  · rfl
  · rw [patJ_none h _ hj]
theorem patA_some {C : Int} {R R' : List (List Ce)} {cs : List Ch} (hn : ¬ 400 < cs.length) (h : patJ C R cs cs.length = some R') : patA C R cs = if gridOkB C R' then (C, R', true) else (0, [], false) := by
  rw [patA, if_neg hn, h]
/-- All rows are C cells long. -/
def evenR (C : Int) (R : List (List Ce)) : Prop := ∀ i, i < R.length → ((rowX R i).length : Int) = C
theorem onP_len (R : List (List Ce)) (c : Ch) : (onP R c).length = R.length := by simp [onP]
theorem onP_even {C : Int} {R : List (List Ce)} {c : Ch} (h : evenR C R) (hi : inP C R.length c) : evenR C (onP R c) := fun i hl => by
  rw [onP_len] at hl
  obtain ⟨h1, h2, h3, h4, h5⟩ := hi
  have hr : c.row.toNat < R.length := by omega
  unfold onP
  rw [rowX_set' hr]
  by_cases e : i = c.row.toNat
  · rw [if_pos e]
    have := h _ hr
    rw [windL_len _ _ _ (by omega)]
    exact this
  · rw [if_neg e]; exact h i hl
theorem patJ_even {C : Int} {R0 : List (List Ce)} {cs : List Ch} (h : evenR C R0) : ∀ {j : Nat} {R : List (List Ce)}, patJ C R0 cs j = some R → R.length = R0.length ∧ evenR C R
  | 0, R, e => by
    rw [patJ] at e
    cases e
    exact ⟨rfl, h⟩
  | j + 1, R, e => by
    rw [patJ] at e
    split at e
    · cases e
    · rename_i R1 h1
      obtain ⟨l1, e1⟩ := patJ_even h h1
      split at e
      · rename_i hin
        cases e
        exact ⟨by rw [onP_len]; exact l1, onP_even e1 hin⟩
      · cases e
/-- One change of a slice of changes. -/
theorem SlP.at {w : World} {a : Option Addr} {n c : Nat} {cs : List Ch} (h : SlP w (.slice a n c) cs) {j : Nat} (hj : j < cs.length) : ∃ b off r, a = some ⟨b, off, none⟩ ∧ b < w.heap.size ∧ (w.cell? ⟨b, off + j * 3, none⟩ = some (.int .i64 (chX cs j).row) ∧ w.cell? ⟨b, off + j * 3 + 1, none⟩ = some (.int .i64 (chX cs j).frm) ∧ w.cell? ⟨b, off + j * 3 + 2, none⟩ = some r) ∧ SlC w r (chX cs j).cells := by
  obtain ⟨a', c', vs, hv, hc, hr, hs⟩ := h
  cases hv
  rcases hr with hr | ⟨b, off, ha, hlt, hi⟩
  · rw [hr] at hj; simp at hj
  · exact ⟨b, off, _, ha, hlt, hi j hj, hs j hj⟩
theorem slC_shp {w : World} {v : Value} {xs : List Ce} (h : SlC w v xs) : ∃ a c, v = .slice a xs.length c := by
  obtain ⟨a, c, h, _⟩ := h
  exact ⟨a, c, h⟩
end Go.Proofs.YtpijokologkbeaaDoor
namespace Go.Proofs.YtpijokologkbeaaDoor
open Go.ChangeShapes Go.WideShapes Go.ChangeAt Go.RowKit
set_option maxHeartbeats 4000000 in
theorem changeWithin_any (c : Ch) (v : Value) (C : Int) (u : Value) (R : List (List Ce)) (w : World) (hv : SlC w v c.cells) (hu : SlG w u R) (hl : c.cells.length ≤ 1073741824) (_hR : R.length ≤ 1073741824) (hC : 0 ≤ C ∧ C ≤ 1073741824) :
    Calls Tryd.prog 38 #[.agg #[.int .i64 c.row, .int .i64 c.frm, v], gridV C u] w fun e w' => e = .returned (.bool (decide (inP C R.length c))) ∧ Below w.heap.size w w' := by
  have hb0 := bal' w (Obj.cells #[.int .i64 c.row, .int .i64 c.frm, v] 68)
  have hb1 := bal' (w.alloc (Obj.cells #[.int .i64 c.row, .int .i64 c.frm, v] 68)) (Obj.cells #[.int .i64 C, u] 26)
  have hG0 := (P3.new w c.row c.frm v 68).below hb1
  have hG1 := GrN.new (w.alloc (Obj.cells #[.int .i64 c.row, .int .i64 c.frm, v] 68)) C u 26
  have e0 : (w.alloc (Obj.cells #[.int .i64 c.row, .int .i64 c.frm, v] 68)).heap.size = w.heap.size + 1 := by simp
  rw [e0] at hG1
  have hbb := hb0.trans (hb1.mono hb0.size)
  obtain ⟨a, cc, rfl, _⟩ := id hv
  obtain ⟨a2, c2, vs, rfl, _⟩ := id hu
  obtain ⟨_, ⟨g0, g1, g2⟩, _⟩ := id hG0
  obtain ⟨_, f0, f1⟩ := id hG1
  have hw : IntKind.i64.wrap (C - (c.cells.length : Int)) = C - (c.cells.length : Int) := by simp [IntKind.wrap_i64]; omega
  obtain ⟨b, hb⟩ : ∃ b, Hid (b = decide (inP C R.length c)) := ⟨_, rfl⟩
  rw [← hb.out]
  have hin := (show Hid (inP C R.length c ↔ 0 ≤ c.row ∧ c.row < R.length ∧ 0 < c.cells.length ∧ 0 ≤ c.frm ∧ c.frm ≤ C - c.cells.length) from Iff.rfl)
  unfold gridV
  obtain ⟨row, frm, cells⟩ := c
  simp only at hin hw g0 g1 g2 hl hbb ⊢
  generalize cells.length = n at *
  generalize R.length = m at *
  clear hb0 hb1 hG0 hG1 e0 hv hu
  by_cases h1 : 0 ≤ row
  · by_cases h2 : row < (m : Int)
    · by_cases h3 : 0 < (n : Int)
      · by_cases h4 : 0 ≤ frm
        · by_cases h5 : frm ≤ C - (n : Int)
          · have hbt : b = true := by rw [hb.out]; exact decide_eq_true (hin.out.2 ⟨h1, h2, by omega, h4, h5⟩)
            subst hbt
            go_enter Tryd.func38, Tryd.ntmps38
            go_wp2
            go_ret
            exact ⟨rfl, hbb⟩
          · have hbt : b = false := by rw [hb.out]; exact decide_eq_false (fun h => h5 (hin.out.1 h).2.2.2.2)
            subst hbt
            go_enter Tryd.func38, Tryd.ntmps38
            go_wp2
            go_ret
            exact ⟨rfl, hbb⟩
        · have hbt : b = false := by rw [hb.out]; exact decide_eq_false (fun h => h4 (hin.out.1 h).2.2.2.1)
          subst hbt
          go_enter Tryd.func38, Tryd.ntmps38
          go_wp2
          go_ret
          exact ⟨rfl, hbb⟩
      · have hbt : b = false := by rw [hb.out]; exact decide_eq_false (fun h => h3 (by have := (hin.out.1 h).2.2.1; omega))
        subst hbt
        go_enter Tryd.func38, Tryd.ntmps38
        go_wp2
        go_ret
        exact ⟨rfl, hbb⟩
    · have hbt : b = false := by rw [hb.out]; exact decide_eq_false (fun h => h2 (hin.out.1 h).2.1)
      subst hbt
      go_enter Tryd.func38, Tryd.ntmps38
      go_wp2
      go_ret
      exact ⟨rfl, hbb⟩
  · have hbt : b = false := by rw [hb.out]; exact decide_eq_false (fun h => h1 (hin.out.1 h).1)
    subst hbt
    go_enter Tryd.func38, Tryd.ntmps38
    go_wp2
    go_ret
    exact ⟨rfl, hbb⟩
end Go.Proofs.YtpijokologkbeaaDoor
namespace Go.Proofs.YtpijokologkbeaaDoor
open Go.ChangeShapes Go.WideShapes Go.ChangeAt Go.RowKit
def genV (n : Nat) (f : Nat → Value) : List Value := (List.range n).map f
theorem genV_len (n : Nat) (f : Nat → Value) : (genV n f).length = n := by simp [genV]
theorem genV_at (n : Nat) (f : Nat → Value) (i : Nat) (h : i < n) : rowV (genV n f) i = f i := by
  rw [rowV_lt (by rw [genV_len]; exact h)]
  simp [genV]
theorem rowV_setV {vs : List Value} {j : Nat} (hj : j < vs.length) (r : Value) (i : Nat) : rowV (vs.set j r) i = if i = j then r else rowV vs i := by
  unfold rowV
  by_cases e : i = j
  · subst e; rw [if_pos rfl]; simp [List.getD, hj]
  · rw [if_neg e]; simp [List.getD, Ne.symm e]
/-- The values are moved about: each is one of before or a new one. -/
theorem OwnV.mixed {w w' : World} {base B : Nat} {v : Value} {vs : List Value} {rows : List (List Ce)} (h : OwnV w base B v vs rows) (σ : Nat → Option Nat) (vs' : List Value) (rows' : List (List Ce))
    (hl : vs'.length = rows'.length) (hn : rows'.length = rows.length) (ho : w'.ownsRow base 66 1 v rows.length vs')
    (hkeep : ∀ p, p < rows.length → OwnC w' base (rowV vs p) (rowX rows p))
    (hold : ∀ i p, i < rows.length → σ i = some p → p < rows.length ∧ rowV vs' i = rowV vs p ∧ rowX rows' i = rowX rows p)
    (hinj : ∀ i j p, i < j → j < rows.length → σ i = some p → σ j = some p → False)
    (hnew : ∀ i, i < rows.length → σ i = none → OwnC w' base (rowV vs' i) (rowX rows' i) ∧ ∀ g, (rowV vs' i).ownBlock = some g → B ≤ g)
    (hnd : ∀ i j, i < j → j < rows.length → σ i = none → σ j = none → ∀ g, (rowV vs' i).ownBlock = some g → (rowV vs' j).ownBlock ≠ some g) :
    OwnV w' base w'.heap.size v vs' rows' := by
  have hrow : ∀ i, i < rows.length → OwnC w' base (rowV vs' i) (rowX rows' i) := fun i hi => by
    cases e : σ i with
    | none => exact (hnew i hi e).1
    | some p => obtain ⟨hp, e1, e2⟩ := hold i p hi e; rw [e1, e2]; exact hkeep p hp
  refine ⟨hl, by rw [hn]; exact ho, fun i hi => hrow i (by omega), fun i hi g e => ((hrow i (by omega)).lt g e).2, fun i j hij hj g e1 e2 => ?_⟩
  rw [hn] at hj
  cases ei : σ i with
  | none =>
    cases ej : σ j with
    | none => exact hnd i j hij hj ei ej g e1 e2
    | some q =>
      obtain ⟨hq, eq1, _⟩ := hold j q hj ej
      rw [eq1] at e2
      have := h.2.2.2.1 q hq g e2
      have := (hnew i (by omega) ei).2 g e1
      omega
  | some p =>
    obtain ⟨hp, ep1, _⟩ := hold i p (by omega) ei
    rw [ep1] at e1
    cases ej : σ j with
    | none =>
      have := h.2.2.2.1 p hp g e1
      have := (hnew j hj ej).2 g e2
      omega
    | some q =>
      obtain ⟨hq, eq1, _⟩ := hold j q hj ej
      rw [eq1] at e2
      rcases Nat.lt_trichotomy p q with c | c | c
      · exact h.2.2.2.2 p q c hq g e1 e2
      · subst c; exact hinj i j p hij hj ei ej
      · exact h.2.2.2.2 q p c hp g e2 e1
/-- Values gathered, each one of before or a new row. -/
def Gat (w : World) (base : Nat) (vs : List Value) (X : List Ce) (σ : Nat → Option Nat) (us : List Value) : Prop :=
  (∀ k p, k < us.length → σ k = some p → rowV us k = rowV vs p) ∧ (∀ k, k < us.length → σ k = none → OwnC w base (rowV us k) X) ∧
  (∀ k l, k < l → l < us.length → σ k = none → σ l = none → ∀ g, (rowV us k).ownBlock = some g → (rowV us l).ownBlock ≠ some g)
theorem Gat.nil (w : World) (base : Nat) (vs : List Value) (X : List Ce) (σ : Nat → Option Nat) : Gat w base vs X σ [] :=
  ⟨fun k _ h => absurd h (Nat.not_lt_zero k), fun k h => absurd h (Nat.not_lt_zero k), fun _ l _ h => absurd h (Nat.not_lt_zero l)⟩
theorem Gat.below {w w' : World} {base : Nat} {vs : List Value} {X : List Ce} {σ : Nat → Option Nat} {us : List Value} (h : Gat w base vs X σ us) (hb : Below w.heap.size w w') : Gat w' base vs X σ us :=
  ⟨h.1, fun k hk e => (h.2.1 k hk e).below hb, h.2.2⟩
theorem Gat.kept {w w' : World} {base base2 n : Nat} {v : Value} {ys vs : List Value} {X : List Ce} {σ : Nat → Option Nat} {us : List Value} (h : Gat w base vs X σ us) (ho : w.ownsRow base2 66 1 v n ys) (hg : w.grownBy w' v.ownBlock) : Gat w' base vs X σ us :=
  ⟨h.1, fun k hk e => (h.2.1 k hk e).kept hg (outer_apart ho (h.2.1 k hk e)), h.2.2⟩
theorem Gat.new {w w' : World} {base : Nat} {vs : List Value} {X : List Ce} {σ : Nat → Option Nat} {us : List Value} (h : Gat w base vs X σ us) (e : σ us.length = none) (hb : Below w.heap.size w w') (r : Value) (hr : OwnC w' w.heap.size r X) (hbase : base ≤ w.heap.size) : Gat w' base vs X σ (us ++ [r]) := by
  have h2 := h.below hb
  refine ⟨fun k q hk e2 => ?_, fun k hk e2 => ?_, fun k l hkl hl e1 e2 => ?_⟩
  · rw [List.length_append, List.length_singleton] at hk
    rw [rowV_snoc]
    by_cases c : k < us.length
    · rw [if_pos c]; exact h.1 k q c e2
    · have : k = us.length := by omega
      subst this
      rw [e] at e2; cases e2
  · rw [List.length_append, List.length_singleton] at hk
    rw [rowV_snoc]
    by_cases c : k < us.length
    · rw [if_pos c]; exact h2.2.1 k c e2
    · rw [if_neg c, if_pos (by omega)]
      exact hr.low hbase
  · rw [List.length_append, List.length_singleton] at hl
    rw [rowV_snoc, rowV_snoc, if_pos (show k < us.length by omega)]
    by_cases c : l < us.length
    · rw [if_pos c]; exact h.2.2 k l hkl c e1 e2
    · rw [if_neg c, if_pos (by omega)]
      intro g g1 g2
      have := ((h.2.1 k (by omega) e1).lt g g1).2
      have := (hr.lt g g2).1
      omega
theorem OwnC.isSl {w : World} {base : Nat} {v : Value} {xs : List Ce} (h : OwnC w base v xs) : ∃ a n c, v = Value.slice a n c := by
  rcases h.shape with ⟨h, _⟩ | ⟨_, _, h, _⟩ <;> exact ⟨_, _, _, h⟩
end Go.Proofs.YtpijokologkbeaaDoor
namespace Go.Proofs.YtpijokologkbeaaDoor
open Go.ChangeShapes Go.WideShapes Go.ChangeAt Go.RowKit
/-- A row of this call's own that stands apart grows. -/
theorem OwnG.kept2 {w w' : World} {base B : Nat} {v : Value} {rows : List (List Ce)} {row : Option Nat} (h : OwnG w base B v rows) (hg : w.grownBy w' row) (hne : ∀ g, row = some g → B ≤ g) (hu : ∀ g, v.ownBlock = some g → g < B) : OwnG w' base B v rows := by
  obtain ⟨vs, hl, ho, hr, hB, hd⟩ := h
  refine ⟨vs, hl, World.ownsRow.kept ho hg ?_, fun i hi => (hr i hi).kept hg ?_, hB, hd⟩
  · cases hv : v.ownBlock with
    | none => exact .inl rfl
    | some q => right; intro e; have := hne q e.symm; have := hu q hv; omega
  · cases hv : (rowV vs i).ownBlock with
    | none => exact .inl rfl
    | some q => right; intro e; have := hne q e.symm; have := hB i hi q hv; omega
theorem NG.kept2 {M B : Nat} {cols : Int} {u : Value} {rows : List (List Ce)} {w0 W W' : World} {row : Option Nat} (k : NG M B cols u rows w0 W) (hg : W.grownBy W' row) (hne : ∀ g, row = some g → B ≤ g ∧ M + 2 ≤ g) (hu : ∀ g, u.ownBlock = some g → g < B) : NG M B cols u rows w0 W' := by
  have h3 := k.2.2.2.1
  refine ⟨k.1.grown hg (fun e => by have := (hne _ e).2; omega), k.2.1.grown hg (fun e => by have := (hne _ e).2; omega), k.2.2.1.kept2 hg (fun g e => (hne g e).1) hu, Nat.le_trans h3 hg.size, Nat.le_trans k.2.2.2.2.1 hg.size, ?_⟩
  exact k.2.2.2.2.2.grown hg (by omega) (fun g e => by have := (hne g e).2; omega)
end Go.Proofs.YtpijokologkbeaaDoor
namespace Go.Proofs.YtpijokologkbeaaDoor
open Go.ChangeShapes Go.WideShapes Go.ChangeAt Go.RowKit
/-- The state of the first loop. -/
def MvK (M : Nat) (u : Value) (vs us : List Value) (X : List Ce) (σ : Nat → Option Nat) (s : St) (w0 W : World) : Prop :=
  StAt W M s ∧ W.ownsRow (M + 1) 66 1 u us.length us ∧ Gat W M vs X σ us ∧ Below M w0 W
theorem MvK.below {M : Nat} {u : Value} {vs us : List Value} {X : List Ce} {σ : Nat → Option Nat} {s : St} {w0 W W' : World} (k : MvK M u vs us X σ s w0 W) (hb : Below W.heap.size W W') : MvK M u vs us X σ s w0 W' :=
  ⟨k.1.below hb, World.ownsRow.below k.2.1 hb, k.2.2.1.below hb, k.2.2.2.trans (hb.mono (by have := k.1.1; omega))⟩
theorem MvK.drew {M : Nat} {u : Value} {vs us : List Value} {X : List Ce} {σ : Nat → Option Nat} {s : St} {w0 W : World} (k : MvK M u vs us X σ s w0 W) : MvK M u vs us X σ s w0 W.drew := k.below (bdr W)
theorem MvK.alloc {M : Nat} {u : Value} {vs us : List Value} {X : List Ce} {σ : Nat → Option Nat} {s : St} {w0 W : World} (k : MvK M u vs us X σ s w0 W) (o : Obj) : MvK M u vs us X σ s w0 (W.alloc o) := k.below (bal' W o)
theorem MvK.more {M : Nat} {u v' : Value} {vs us : List Value} {X : List Ce} {σ : Nat → Option Nat} {s : St} {w0 W W' : World} {r : Value} (k : MvK M u vs us X σ s w0 W) (hG : Gat W M vs X σ (us ++ [r])) (ho : W'.ownsRow (M + 1) 66 1 v' (us.length + 1) (us ++ [r])) (hg : (W.alloc (.cells #[r] 66)).grownBy W' u.ownBlock) : MvK M v' vs (us ++ [r]) X σ s w0 W' := by
  have hba := bal' W (Obj.cells #[r] 66)
  have h1 := hba.size
  have h2 := k.1.1
  have h3 := fun g e => (k.2.1.lt g e).1
  refine ⟨(k.1.below hba).grown hg (fun e => by have := h3 M e; omega), by rw [List.length_append]; exact ho, (hG.below hba).kept (World.ownsRow.below k.2.1 hba) hg, ?_⟩
  exact (k.2.2.2.trans (hba.mono (by omega))).grown hg (by omega) (fun g e => by have := h3 g e; omega)
end Go.Proofs.YtpijokologkbeaaDoor
namespace Go.Proofs.YtpijokologkbeaaDoor
open Go.ChangeShapes Go.WideShapes Go.ChangeAt Go.RowKit
set_option maxHeartbeats 4000000 in
set_option maxRecDepth 20000 in
theorem l4Mended_any (v : Value) (xs : List Ce) (w : World) (hv : SlC w v xs) (hl : xs.length ≤ 1000000) :
    Calls Tryd.prog 81 #[v] w fun e w' => ∃ u, e = .returned u ∧ OwnC w' w.heap.size u (mendV xs) ∧ Below w.heap.size w w' := by
  have hbl := fun s W => l4Blank_any s W
  obtain ⟨a, c, rfl, hr⟩ := id hv
  have k00 := ownC_nil w w.heap.size (Nat.le_refl _)
  have hv0 := hv.below (bal' w (Obj.cells #[] 75))
  go_enter Tryd.func81, Tryd.ntmps81
  go_wp2_with (at_builtin; refine append_os rfl _ _ rfl w.heap.size _ [] rfl (by exact k00) (by simp) _ xs hv0 rfl (by simp; omega) ?_; intro u w1 ho1 hg1)
  have k1 : OC w.heap.size u xs w w1 := by
    have k : OC w.heap.size (.slice (some ⟨w.heap.size, 0, none⟩) 0 0) [] w (w.alloc (Obj.cells #[] 75)) := ⟨k00, bal' _ _, by simp, Nat.le_refl _⟩
    exact k.own (by simpa using ho1) hg1
  clear k00 hv0 ho1 hg1
  rcases k1.1.shape with ⟨rfl, rfl⟩ | ⟨g, cap, rfl, hbg, hlg, hcap⟩
  · clear hr
    go_wp2
    refine wp_loop_rounds 1 ?_
    rw [rounds_succ]
    go_wp2
    go_ret
    exact ⟨_, rfl, k1.1, k1.2.1⟩
  · go_wp2
    go_loopw [4] (fun i wr => ∃ j : Nat, i = .int .i64 j ∧ j ≤ xs.length ∧ OC w.heap.size (.slice (some ⟨g, 0, none⟩) xs.length cap) (mendUp xs j) w wr) (fun i _ => xs.length - (intOf i).toNat)
    case atStart => exact ⟨0, rfl, Nat.zero_le _, by rw [mendUp_zero]; exact k1⟩
    case round =>
      clear k1
      obtain ⟨j, rfl, hj, k⟩ := hrel
      by_cases hlt : j < xs.length
      · have hji : (j : Int) < (xs.length : Int) := by omega
        have hj0 : (0 : Int) ≤ (j : Int) := by omega
        have hat := k.1.at (mendUp_len xs j) j hlt
        rw [mendUp_at xs j j hlt, if_neg (Nat.lt_irrefl j)] at hat
        have hsz : (mendUp xs j).length = xs.length := mendUp_len xs j
        have hsrc : ∀ i, i < xs.length → ∃ b off, a = some ⟨b, off, none⟩ ∧ CeAt wr b (off + i * 7) (atC xs i) := by
          intro i hi
          rcases hr.2.2 with h | ⟨b, off, ha, hlt, hc⟩
          · rw [h] at hi; simp at hi
          · exact ⟨b, off, ha, (hc i hi).below k.2.1 hlt⟩
        have hkeep : aloneB xs j = false → OC w.heap.size (.slice (some ⟨g, 0, none⟩) xs.length cap) (mendUp xs (j + 1)) w wr := fun h => by rw [mendUp_keep xs j hlt h]; exact k
        have hstep : aloneB xs j = true → mendUp xs (j + 1) = (mendUp xs j).set j (blankC (atC xs j).st) := fun h => by rw [mendUp_step xs j hlt, mendC, if_pos h]
        have hal : aloneB xs j = (((atC xs j).part == 1 && (decide (j + 1 = xs.length) || (atC xs (j + 1)).part != 2)) || ((atC xs j).part == 2 && (decide (j = 0) || (atC xs (j - 1)).part != 1))) := rfl
        have hnext : j + 1 < xs.length → CeAt wr g ((j + 1) * 7) (atC xs (j + 1)) := fun h => by
          have := k.1.at (mendUp_len xs j) (j + 1) h
          rwa [mendUp_at xs j (j + 1) h, if_neg (by omega)] at this
        obtain ⟨p0, p1, p2, p3, p4, p5, p6⟩ := id hat
        by_cases e1 : (atC xs j).part = 1
        · have b1 : ((atC xs j).part == 1) = true := by simp [e1]
          by_cases e2 : j + 1 = xs.length
          · have e2i : ((j : Int) + 1 == (xs.length : Int)) = true := by simp; omega
            have ha : aloneB xs j = true := by rw [hal]; simp [e1, e2]
            have hst := hstep ha
            clear hkeep hstep hal ha hsrc hnext hv hr
            obtain ⟨c0, c1, c2, c3, c4, c5, c6⟩ := id hat
            have hb1 := hbl (atC xs j).st
            unfold stV ceV blankC at hb1
            simp only at hb1
            go_wp2_with fail
            refine (hb1 _).mono ?_
            rintro e w2 ⟨rfl, hb2⟩
            have k2 := k.below hb2
            have hat2 := hat.below hb2 (by have := k.1.lt g rfl; exact this.2)
            have hp := k2.1.put hsz j hlt ⟨32, (atC xs j).st, 0⟩
            have kk : OC w.heap.size (.slice (some ⟨g, 0, none⟩) xs.length cap) (mendUp xs (j + 1)) w (putCe w2 g (j * 7) ⟨32, (atC xs j).st, 0⟩) := by rw [hst]; exact k2.own hp.1 hp.2
            have f0 := k2.1.frozen hsz (j * 7)
            have f1 := k2.1.frozen hsz (j * 7 + 1)
            have f2 := k2.1.frozen hsz (j * 7 + 2)
            have f3 := k2.1.frozen hsz (j * 7 + 3)
            have f4 := k2.1.frozen hsz (j * 7 + 4)
            have f5 := k2.1.frozen hsz (j * 7 + 5)
            have f6 := k2.1.frozen hsz (j * 7 + 6)
            clear hp hat k hb1 hb2 hbl hst c0 c1 c2 c3 c4 c5 c6
            obtain ⟨c0, c1, c2, c3, c4, c5, c6⟩ := hat2
            clear k2
            simp only [putCe] at kk
            go_wp2
            go_roundw
            case rel => exact ⟨j + 1, by go_num, by omega, kk⟩
            case measure => simp [intOf]; omega
          · have e2i : ((j : Int) + 1 == (xs.length : Int)) = false := by simp; omega
            have hj1 : j + 1 < xs.length := by omega
            have hj1i : (j : Int) + 1 < (xs.length : Int) := by omega
            obtain ⟨q0, q1, q2, q3, q4, q5, q6⟩ := hnext hj1
            by_cases e3 : (atC xs (j + 1)).part = 2
            · have b3 : ((atC xs (j + 1)).part != 2) = false := by simp [e3]
              have b4 : ((atC xs j).part == 2) = false := by simp [e1]
              have ha : aloneB xs j = false := by rw [hal]; simp [e1, e2, e3]
              have kk := hkeep ha
              clear hkeep hstep hal ha hsrc hnext hbl k hv hr
              go_wp2
              go_roundw
              case rel => exact ⟨j + 1, by go_num, by omega, kk⟩
              case measure => simp [intOf]; omega
            · have b3 : ((atC xs (j + 1)).part != 2) = true := by simp [e3]
              have ha : aloneB xs j = true := by rw [hal]; simp [e1, e3]
              have hst := hstep ha
              clear hkeep hstep hal ha hsrc hnext hv hr
              obtain ⟨c0, c1, c2, c3, c4, c5, c6⟩ := id hat
              have hb1 := hbl (atC xs j).st
              unfold stV ceV blankC at hb1
              simp only at hb1
              go_wp2_with fail
              refine (hb1 _).mono ?_
              rintro e w2 ⟨rfl, hb2⟩
              have k2 := k.below hb2
              have hat2 := hat.below hb2 (by have := k.1.lt g rfl; exact this.2)
              have hp := k2.1.put hsz j hlt ⟨32, (atC xs j).st, 0⟩
              have kk : OC w.heap.size (.slice (some ⟨g, 0, none⟩) xs.length cap) (mendUp xs (j + 1)) w (putCe w2 g (j * 7) ⟨32, (atC xs j).st, 0⟩) := by rw [hst]; exact k2.own hp.1 hp.2
              have f0 := k2.1.frozen hsz (j * 7)
              have f1 := k2.1.frozen hsz (j * 7 + 1)
              have f2 := k2.1.frozen hsz (j * 7 + 2)
              have f3 := k2.1.frozen hsz (j * 7 + 3)
              have f4 := k2.1.frozen hsz (j * 7 + 4)
              have f5 := k2.1.frozen hsz (j * 7 + 5)
              have f6 := k2.1.frozen hsz (j * 7 + 6)
              clear hp hat k hb1 hb2 hbl hst c0 c1 c2 c3 c4 c5 c6
              obtain ⟨c0, c1, c2, c3, c4, c5, c6⟩ := hat2
              clear k2
              simp only [putCe] at kk
              go_wp2
              go_roundw
              case rel => exact ⟨j + 1, by go_num, by omega, kk⟩
              case measure => simp [intOf]; omega
        · have b1 : ((atC xs j).part == 1) = false := by simp [e1]
          by_cases e2 : (atC xs j).part = 2
          · have b2 : ((atC xs j).part == 2) = true := by simp [e2]
            by_cases e3 : j = 0
            · have e3i : ((j : Int) == 0) = true := by simp [e3]
              have ha : aloneB xs j = true := by rw [hal]; rw [show decide (j = 0) = true from decide_eq_true e3]; simp [e2]
              clear e3
              have hst := hstep ha
              clear hkeep hstep hal ha hsrc hnext hv hr
              obtain ⟨c0, c1, c2, c3, c4, c5, c6⟩ := id hat
              have hb1 := hbl (atC xs j).st
              unfold stV ceV blankC at hb1
              simp only at hb1
              go_wp2_with fail
              refine (hb1 _).mono ?_
              rintro e w2 ⟨rfl, hb2⟩
              have k2 := k.below hb2
              have hat2 := hat.below hb2 (by have := k.1.lt g rfl; exact this.2)
              have hp := k2.1.put hsz j hlt ⟨32, (atC xs j).st, 0⟩
              have kk : OC w.heap.size (.slice (some ⟨g, 0, none⟩) xs.length cap) (mendUp xs (j + 1)) w (putCe w2 g (j * 7) ⟨32, (atC xs j).st, 0⟩) := by rw [hst]; exact k2.own hp.1 hp.2
              have f0 := k2.1.frozen hsz (j * 7)
              have f1 := k2.1.frozen hsz (j * 7 + 1)
              have f2 := k2.1.frozen hsz (j * 7 + 2)
              have f3 := k2.1.frozen hsz (j * 7 + 3)
              have f4 := k2.1.frozen hsz (j * 7 + 4)
              have f5 := k2.1.frozen hsz (j * 7 + 5)
              have f6 := k2.1.frozen hsz (j * 7 + 6)
              clear hp hat k hb1 hb2 hbl hst c0 c1 c2 c3 c4 c5 c6
              obtain ⟨c0, c1, c2, c3, c4, c5, c6⟩ := hat2
              clear k2
              simp only [putCe] at kk
              go_wp2
              go_roundw
              case rel => exact ⟨j + 1, by go_num, by omega, kk⟩
              case measure => simp [intOf]; omega
            · obtain ⟨m, rfl⟩ : ∃ m, j = m + 1 := ⟨j - 1, by omega⟩
              obtain ⟨b, off, rfl, q0, q1, q2, q3, q4, q5, q6⟩ := hsrc m (by omega)
              have e3i : ((m : Int) + 1 == 0) = false := by simp; omega
              have hmi : (m : Int) < (xs.length : Int) := by omega
              by_cases e4 : (atC xs m).part = 1
              · have b4 : ((atC xs m).part != 1) = false := by simp [e4]
                have ha : aloneB xs (m + 1) = false := by rw [hal]; simp [e2, e4]
                have kk := hkeep ha
                clear hkeep hstep hal ha hsrc hnext hbl k hv hr
                go_wp2
                go_roundw
                case rel => exact ⟨m + 1 + 1, by go_num, by omega, kk⟩
                case measure => simp [intOf]; omega
              · have b4 : ((atC xs m).part != 1) = true := by simp [e4]
                have ha : aloneB xs (m + 1) = true := by rw [hal]; simp [e2, e4]
                have hst := hstep ha
                clear hkeep hstep hal ha hsrc hnext hv hr
                obtain ⟨c0, c1, c2, c3, c4, c5, c6⟩ := id hat
                have hb1 := hbl (atC xs (m + 1)).st
                unfold stV ceV blankC at hb1
                simp only at hb1
                go_wp2_with fail
                refine (hb1 _).mono ?_
                rintro e w2 ⟨rfl, hb2⟩
                have k2 := k.below hb2
                have hat2 := hat.below hb2 (by have := k.1.lt g rfl; exact this.2)
                have hp := k2.1.put hsz (m + 1) hlt ⟨32, (atC xs (m + 1)).st, 0⟩
                have kk : OC w.heap.size (.slice (some ⟨g, 0, none⟩) xs.length cap) (mendUp xs ((m + 1) + 1)) w (putCe w2 g ((m + 1) * 7) ⟨32, (atC xs (m + 1)).st, 0⟩) := by rw [hst]; exact k2.own hp.1 hp.2
                have f0 := k2.1.frozen hsz ((m + 1) * 7)
                have f1 := k2.1.frozen hsz ((m + 1) * 7 + 1)
                have f2 := k2.1.frozen hsz ((m + 1) * 7 + 2)
                have f3 := k2.1.frozen hsz ((m + 1) * 7 + 3)
                have f4 := k2.1.frozen hsz ((m + 1) * 7 + 4)
                have f5 := k2.1.frozen hsz ((m + 1) * 7 + 5)
                have f6 := k2.1.frozen hsz ((m + 1) * 7 + 6)
                clear hp hat k hb1 hb2 hbl hst c0 c1 c2 c3 c4 c5 c6
                obtain ⟨c0, c1, c2, c3, c4, c5, c6⟩ := hat2
                clear k2
                simp only [putCe] at kk
                go_wp2
                go_roundw
                case rel => exact ⟨m + 1 + 1, by go_num, by omega, kk⟩
                case measure => simp [intOf]; omega
          · have b2 : ((atC xs j).part == 2) = false := by simp [e2]
            have ha : aloneB xs j = false := by rw [hal]; simp [e1, e2]
            have kk := hkeep ha
            clear hkeep hstep hal ha hsrc hnext hbl k hv hr
            go_wp2
            go_roundw
            case rel => exact ⟨j + 1, by go_num, by omega, kk⟩
            case measure => simp [intOf]; omega
      · have hjn : j = xs.length := by omega
        have hji : ¬ (j : Int) < (xs.length : Int) := by omega
        subst hjn
        clear hbl hv hr
        go_wp2
        go_ret
        exact ⟨_, rfl, k.1, k.2.1⟩
end Go.Proofs.YtpijokologkbeaaDoor
namespace Go.Proofs.YtpijokologkbeaaDoor
open Go.ChangeShapes Go.WideShapes Go.ChangeAt Go.RowKit
theorem st_iff (f b : Int) (bo un tu : Bool) (f' b' : Int) (bo' un' tu' : Bool) : (St.mk f b bo un tu = St.mk f' b' bo' un' tu') ↔ (f = f' ∧ b = b' ∧ bo = bo' ∧ un = un' ∧ tu = tu') := by
  constructor
  · intro e; cases e; simp
  · rintro ⟨rfl, rfl, rfl, rfl, rfl⟩; rfl
set_option maxHeartbeats 1000000 in
theorem eq_st (a b : St) (W : World) : (Op.equalIn 10000 73 (.agg #[.int .i64 a.fore, .int .i64 a.back, .bool a.bold, .bool a.under, .bool a.turned]) (.agg #[.int .i64 b.fore, .int .i64 b.back, .bool b.bold, .bool b.under, .bool b.turned])).run Tryd.prog W = .ok (decide (a = b)) W := by
  have hu := Tryd.underlying73
  have hi := Tryd.underlying2
  have hb := Tryd.underlying4
  obtain ⟨f, g, bo, un, tu⟩ := a
  obtain ⟨f', g', bo', un', tu'⟩ := b
  simp only [st_iff]
  rw [run_equalIn_struct W 9999 _ _ _ (by simp [Program.fieldsOf, hu]) (by kernel_rfl)]
  by_cases h1 : f = f' <;> by_cases h2 : g = g' <;> by_cases h3 : bo = bo' <;> by_cases h4 : un = un' <;> by_cases h5 : tu = tu' <;> simp [Program.fieldsOf, hu, hi, hb, Op.eqFields, go_sem, h1, h2, h3, h4, h5, Result.andThen]
end Go.Proofs.YtpijokologkbeaaDoor
