/- What changes within a range of blocks alone; a grid's rows within a range. Rows of rows that are moved about. A style is like itself. A cell whole in a block of its own. The laws' own helpers on rows: two cells alike. The laws' own copy of a style. The laws' own helpers on rows: size, copy. The laws' own helpers on rows: two rows alike. Right rows: what keeps them right. Plain mathematics. The program's way with rows: cleared, pushed, pulled. Plain mathematics. A window of a row of this call's own: cleared, copied into, made anew. The laws' own helpers on rows: a row's copy. One row written anew; rows made. The laws' own helpers on grids: a grid's copy. Contract of the specification's new grids. The laws' own helpers on grids: a grid's copy whole. The laws' own helpers on grids: size, likeness. The laws' own helpers on rows: marked and held. The laws' own helpers on grids: marked and held. Sizes of grids that the laws reckon with; what stays within a range. A parser's block in memory, whole. The laws' own helpers on lists of int64: like, marked, held. The laws' own helpers on parsers: size, copy, likeness. The laws' own helpers on a Feeder. -/
import Derived.Test.YtdbpjfdlibodcaaGreatDoorP2
import Derived.Deep.RegionWith
import Derived.Laws.CopyOwn
import Derived.OwnWalk
namespace Go.Proofs.YtdbpjfdlibodcaaGreatDoor
open Go.ChangeShapes Go.WideShapes Go.ChangeAt Go.RowKit
/-- Nothing changes but the blocks from lo to below hi; new ones may come. -/
def GrB (lo hi : Nat) (w w' : World) : Prop := w'.os = w.os ∧ w'.tape = w.tape ∧ w'.output = w.output ∧ w.heap.size ≤ w'.heap.size ∧ ∀ k, k < w.heap.size → (k < lo ∨ hi ≤ k) → w'.heap[k]? = w.heap[k]?
theorem GrB.refl (lo hi : Nat) (w : World) : GrB lo hi w w := ⟨rfl, rfl, rfl, Nat.le_refl _, fun _ _ _ => rfl⟩
theorem GrB.trans {lo hi : Nat} {a b c : World} (h : GrB lo hi a b) (k : GrB lo hi b c) : GrB lo hi a c :=
  ⟨k.1.trans h.1, k.2.1.trans h.2.1, k.2.2.1.trans h.2.2.1, Nat.le_trans h.2.2.2.1 k.2.2.2.1, fun i hi ho => (k.2.2.2.2 i (Nat.lt_of_lt_of_le hi h.2.2.2.1) ho).trans (h.2.2.2.2 i hi ho)⟩
theorem GrB.size {lo hi : Nat} {w w' : World} (h : GrB lo hi w w') : w.heap.size ≤ w'.heap.size := h.2.2.2.1
theorem GrB.of_below {lo hi : Nat} {w w' : World} (h : Below w.heap.size w w') : GrB lo hi w w' := ⟨h.os, h.tape, h.output, h.size, fun k hk _ => h.block k hk⟩
theorem GrB.of_grown {lo hi : Nat} {w w' : World} {row : Option Nat} (h : w.grownBy w' row) (hr : ∀ g, row = some g → lo ≤ g ∧ g < hi) : GrB lo hi w w' :=
  ⟨h.os, h.tape, h.output, h.size, fun k hk ho => h.block k hk (fun e => by have := hr k e.symm; omega)⟩
theorem GrB.mono {lo hi lo' hi' : Nat} {w w' : World} (h : GrB lo hi w w') (h1 : lo' ≤ lo) (h2 : hi ≤ hi') : GrB lo' hi' w w' :=
  ⟨h.1, h.2.1, h.2.2.1, h.2.2.2.1, fun k hk ho => h.2.2.2.2 k hk (by omega)⟩
theorem GrB.to_below {lo hi B : Nat} {w w' : World} (h : GrB lo hi w w') (hB : B ≤ lo) (hs : B ≤ w.heap.size) : Below B w w' :=
  ⟨h.1, h.2.1, h.2.2.1, h.2.2.2.1, fun k hk => h.2.2.2.2 k (by omega) (by omega)⟩
theorem GrB.cell {lo hi k o : Nat} {w w' : World} (h : GrB lo hi w w') (hk : k < w.heap.size) (ho : k < lo ∨ hi ≤ k) : w'.cell? ⟨k, o, none⟩ = w.cell? ⟨k, o, none⟩ := World.cell?_of_block (w := w) (h.2.2.2.2 k hk ho)
theorem GrB.frozen {lo hi k o : Nat} {w w' : World} (h : GrB lo hi w w') (hk : k < w.heap.size) (ho : k < lo ∨ hi ≤ k) : w'.frozen? ⟨k, o, none⟩ = w.frozen? ⟨k, o, none⟩ := World.frozen?_of_block (w := w) (h.2.2.2.2 k hk ho)
/-- What is owned stays while the world changes elsewhere. -/
theorem _root_.Go.World.ownsRow.gr {lo hi : Nat} {w w' : World} {base : Nat} {e : TypeId} {size : Nat} {v : Value} {n : Nat} {xs : List Value} (h : w.ownsRow base e size v n xs) (hg : GrB lo hi w w') (hne : ∀ g, v.ownBlock = some g → g < lo ∨ hi ≤ g) : w'.ownsRow base e size v n xs := by
  refine ⟨h.1, ?_⟩
  rcases h.2 with h2 | ⟨g, cap, cur, hv, hbg, hgg, r⟩
  · exact .inl h2
  · exact .inr ⟨g, cap, cur, hv, hbg, by rw [hg.2.2.2.2 g (Array.getElem?_eq_some_iff.1 hgg).1 (hne g (by rw [hv]; rfl))]; exact hgg, r⟩
theorem OwnC.gr {lo hi : Nat} {w w' : World} {base : Nat} {v : Value} {xs : List Ce} (h : OwnC w base v xs) (hg : GrB lo hi w w') (hne : ∀ g, v.ownBlock = some g → g < lo ∨ hi ≤ g) : OwnC w' base v xs := World.ownsRow.gr (show w.ownsRow _ _ _ _ _ _ from h) hg hne
/-- A slice of rows of this call's own, its values named. -/
def OwnV (w : World) (base B : Nat) (v : Value) (vs : List Value) (rows : List (List Ce)) : Prop :=
  vs.length = rows.length ∧ w.ownsRow base 129 1 v rows.length vs ∧ (∀ i, i < rows.length → OwnC w base (rowV vs i) (rowX rows i)) ∧
    (∀ i, i < rows.length → ∀ g, (rowV vs i).ownBlock = some g → g < B) ∧ (∀ i j, i < j → j < rows.length → ∀ g, (rowV vs i).ownBlock = some g → (rowV vs j).ownBlock ≠ some g)
theorem OwnG.v {w : World} {base B : Nat} {v : Value} {rows : List (List Ce)} (h : OwnG w base B v rows) : ∃ vs, OwnV w base B v vs rows := h
theorem OwnV.g {w : World} {base B : Nat} {v : Value} {vs : List Value} {rows : List (List Ce)} (h : OwnV w base B v vs rows) : OwnG w base B v rows := ⟨vs, h⟩
theorem OwnV.apart {w : World} {base B : Nat} {v : Value} {vs : List Value} {rows : List (List Ce)} (h : OwnV w base B v vs rows) {i j : Nat} (hi : i < rows.length) (hj : j < rows.length) (hij : i ≠ j) : (rowV vs i).ownBlock = none ∨ (rowV vs i).ownBlock ≠ (rowV vs j).ownBlock := by
  cases hv : (rowV vs i).ownBlock with
  | none => exact .inl rfl
  | some g =>
    right
    intro e
    rcases Nat.lt_or_gt_of_ne hij with c | c
    · exact h.2.2.2.2 i j c hj g hv e.symm
    · exact h.2.2.2.2 j i c hi g e.symm hv
theorem apart_comm {a b : Option Nat} (h : a = none ∨ a ≠ b) : b = none ∨ b ≠ a := by
  cases b with
  | none => exact .inl rfl
  | some g => right; intro e; rcases h with h | h <;> rw [← e] at h <;> simp at h
theorem OwnV.below {w w' : World} {base B : Nat} {v : Value} {vs : List Value} {rows : List (List Ce)} (h : OwnV w base B v vs rows) (hb : Below w.heap.size w w') : OwnV w' base B v vs rows :=
  ⟨h.1, World.ownsRow.below h.2.1 hb, fun i hi => (h.2.2.1 i hi).below hb, h.2.2.2.1, h.2.2.2.2⟩
theorem OwnV.up {w : World} {base B B' : Nat} {v : Value} {vs : List Value} {rows : List (List Ce)} (h : OwnV w base B v vs rows) (hb : B ≤ B') : OwnV w base B' v vs rows :=
  ⟨h.1, h.2.1, h.2.2.1, fun i hi g e => Nat.lt_of_lt_of_le (h.2.2.2.1 i hi g e) hb, h.2.2.2.2⟩
/-- One row's cells change. -/
theorem OwnV.rowset {w w' : World} {base B : Nat} {v : Value} {vs : List Value} {rows : List (List Ce)} (h : OwnV w base B v vs rows) {j : Nat} (hj : j < rows.length) (ys : List Ce) (ho : OwnC w' base (rowV vs j) ys) (hg : w.grownBy w' (rowV vs j).ownBlock) : OwnV w' base B v vs (rows.set j ys) := by
  have hx : ∀ i, i < rows.length → rowX (rows.set j ys) i = if i = j then ys else rowX rows i := fun i hi => by
    unfold rowX
    by_cases e : i = j
    · subst e; rw [if_pos rfl]; simp [List.getD, hi]
    · rw [if_neg e]; simp [List.getD, Ne.symm e]
  refine ⟨by rw [List.length_set]; exact h.1, ?_, fun i hi => ?_, fun i hi => ?_, fun a b hab hb => ?_⟩
  · rw [List.length_set]
    exact World.ownsRow.kept h.2.1 hg (apart_comm (outer_apart h.2.1 (h.2.2.1 j hj)))
  · rw [List.length_set] at hi
    rw [hx i hi]
    by_cases e : i = j
    · subst e; rw [if_pos rfl]; exact ho
    · rw [if_neg e]; exact (h.2.2.1 i hi).kept hg (h.apart hi hj e)
  · rw [List.length_set] at hi; exact h.2.2.2.1 i hi
  · rw [List.length_set] at hb; exact h.2.2.2.2 a b hab hb
theorem OwnV.shape {w : World} {base B : Nat} {v : Value} {vs : List Value} {rows : List (List Ce)} (h : OwnV w base B v vs rows) : (v = .slice none 0 0 ∧ rows = []) ∨ ∃ g cap, v = .slice (some ⟨g, 0, none⟩) rows.length cap ∧ base ≤ g ∧ g < w.heap.size ∧ rows.length ≤ cap := h.g.shape
theorem OwnV.cell {w : World} {base B g n cap : Nat} {vs : List Value} {rows : List (List Ce)} (h : OwnV w base B (.slice (some ⟨g, 0, none⟩) n cap) vs rows) (hn : rows.length = n) (i : Nat) (hi : i < n) : w.cell? ⟨g, i, none⟩ = some (rowV vs i) := by
  subst hn
  rw [World.ownsRow.cellAt h.2.1 i (by have := h.1; omega), rowV_get (by have := h.1; omega)]
theorem OwnV.frozen {w : World} {base B g n cap : Nat} {vs : List Value} {rows : List (List Ce)} (h : OwnV w base B (.slice (some ⟨g, 0, none⟩) n cap) vs rows) (hn : rows.length = n) (i : Nat) : w.frozen? ⟨g, i, none⟩ = false := by
  subst hn
  exact World.ownsRow.frozenAt h.2.1 i
/-- All of it lies from lo to below hi. -/
def OwnR (w : World) (lo hi : Nat) (v : Value) (rows : List (List Ce)) : Prop := OwnG w lo hi v rows ∧ (∀ g, v.ownBlock = some g → g < hi) ∧ hi ≤ w.heap.size
theorem OwnR.of {w : World} {lo : Nat} {v : Value} {rows : List (List Ce)} (h : OwnG w lo w.heap.size v rows) : OwnR w lo w.heap.size v rows := ⟨h, fun g e => (h.lt g e).2, Nat.le_refl _⟩
theorem OwnG.gr {lo hi base B : Nat} {w w' : World} {v : Value} {rows : List (List Ce)} (h : OwnG w base B v rows) (hv : ∀ g, v.ownBlock = some g → g < B) (hg : GrB lo hi w w') (hne : B ≤ lo ∨ hi ≤ base) : OwnG w' base B v rows := by
  obtain ⟨vs, hl, ho, hr, hB, hd⟩ := h
  refine ⟨vs, hl, World.ownsRow.gr ho hg (fun g e => ?_), fun i hi => (hr i hi).gr hg (fun g e => ?_), hB, hd⟩
  · have := hv g e; have := (ho.lt g e).1; omega
  · have := hB i hi g e; have := ((hr i hi).lt g e).1; omega
theorem OwnR.gr {lo hi base B : Nat} {w w' : World} {v : Value} {rows : List (List Ce)} (h : OwnR w base B v rows) (hg : GrB lo hi w w') (hne : B ≤ lo ∨ hi ≤ base) : OwnR w' base B v rows :=
  ⟨h.1.gr h.2.1 hg hne, h.2.1, Nat.le_trans h.2.2 hg.size⟩
theorem OwnR.below {base B : Nat} {w w' : World} {v : Value} {rows : List (List Ce)} (h : OwnR w base B v rows) (hb : Below w.heap.size w w') : OwnR w' base B v rows := ⟨h.1.below hb, h.2.1, Nat.le_trans h.2.2 hb.size⟩
theorem OwnR.sl {base B : Nat} {w : World} {v : Value} {rows : List (List Ce)} (h : OwnR w base B v rows) : SlG w v rows := SlG.of_own h.1
theorem GrN.gr {lo hi B : Nat} {w w' : World} {cols : Int} {v : Value} (h : GrN w B cols v) (hg : GrB lo hi w w') (hne : B < lo ∨ hi ≤ B) : GrN w' B cols v :=
  ⟨Nat.lt_of_lt_of_le h.1 hg.size, by rw [hg.cell h.1 hne]; exact h.2.1, by rw [hg.cell h.1 hne]; exact h.2.2⟩
/-- Rows that are reckoned one by one. -/
def genR (n : Nat) (f : Nat → List Ce) : List (List Ce) := (List.range n).map f
theorem genR_len (n : Nat) (f : Nat → List Ce) : (genR n f).length = n := by simp [genR]
theorem genR_at (n : Nat) (f : Nat → List Ce) (i : Nat) (h : i < n) : rowX (genR n f) i = f i := by
  rw [rowX_lt (by rw [genR_len]; exact h)]
  simp [genR]
theorem ext_rowX (a b : List (List Ce)) (hl : a.length = b.length) (h : ∀ i, i < a.length → rowX a i = rowX b i) : a = b := by
  apply List.ext_getElem hl
  intro i h1 h2
  rw [← rowX_lt h1, ← rowX_lt h2]
  exact h i h1
theorem rowX_set' {rows : List (List Ce)} {j : Nat} (hj : j < rows.length) (ys : List Ce) (i : Nat) : rowX (rows.set j ys) i = if i = j then ys else rowX rows i := by
  unfold rowX
  by_cases e : i = j
  · subst e; rw [if_pos rfl]; simp [List.getD, hj]
  · rw [if_neg e]; simp [List.getD, Ne.symm e]
end Go.Proofs.YtdbpjfdlibodcaaGreatDoor
namespace Go.Proofs.YtdbpjfdlibodcaaGreatDoor
open Go.ChangeShapes Go.WideShapes Go.ChangeAt Go.RowKit
def genV (n : Nat) (f : Nat → Value) : List Value := (List.range n).map f
theorem genV_len (n : Nat) (f : Nat → Value) : (genV n f).length = n := by simp [genV]
theorem genV_at (n : Nat) (f : Nat → Value) (i : Nat) (h : i < n) : rowV (genV n f) i = f i := by
  rw [rowV_lt (by rw [genV_len]; exact h)]
  simp [genV]
theorem rowV_setV {vs : List Value} {j : Nat} (hj : j < vs.length) (r : Value) (i : Nat) : rowV (vs.set j r) i = if i = j then r else rowV vs i := by
  unfold rowV
  by_cases e : i = j
  · subst e; rw [if_pos rfl]; simp [List.getD, hj]
  · rw [if_neg e]; simp [List.getD, Ne.symm e]
/-- The values are moved about: each is one of before or a new one. -/
theorem OwnV.mixed {w w' : World} {base B : Nat} {v : Value} {vs : List Value} {rows : List (List Ce)} (h : OwnV w base B v vs rows) (σ : Nat → Option Nat) (vs' : List Value) (rows' : List (List Ce))
    (hl : vs'.length = rows'.length) (hn : rows'.length = rows.length) (ho : w'.ownsRow base 129 1 v rows.length vs')
    (hkeep : ∀ p, p < rows.length → OwnC w' base (rowV vs p) (rowX rows p))
    (hold : ∀ i p, i < rows.length → σ i = some p → p < rows.length ∧ rowV vs' i = rowV vs p ∧ rowX rows' i = rowX rows p)
    (hinj : ∀ i j p, i < j → j < rows.length → σ i = some p → σ j = some p → False)
    (hnew : ∀ i, i < rows.length → σ i = none → OwnC w' base (rowV vs' i) (rowX rows' i) ∧ ∀ g, (rowV vs' i).ownBlock = some g → B ≤ g)
    (hnd : ∀ i j, i < j → j < rows.length → σ i = none → σ j = none → ∀ g, (rowV vs' i).ownBlock = some g → (rowV vs' j).ownBlock ≠ some g) :
    OwnV w' base w'.heap.size v vs' rows' := by
  have hrow : ∀ i, i < rows.length → OwnC w' base (rowV vs' i) (rowX rows' i) := fun i hi => by
    cases e : σ i with
    | none => exact (hnew i hi e).1
    | some p => obtain ⟨hp, e1, e2⟩ := hold i p hi e; rw [e1, e2]; exact hkeep p hp
  refine ⟨hl, by rw [hn]; exact ho, fun i hi => hrow i (by omega), fun i hi g e => ((hrow i (by omega)).lt g e).2, fun i j hij hj g e1 e2 => ?_⟩
  rw [hn] at hj
  cases ei : σ i with
  | none =>
    cases ej : σ j with
    | none => exact hnd i j hij hj ei ej g e1 e2
    | some q =>
      obtain ⟨hq, eq1, _⟩ := hold j q hj ej
      rw [eq1] at e2
      have := h.2.2.2.1 q hq g e2
      have := (hnew i (by omega) ei).2 g e1
      omega
  | some p =>
    obtain ⟨hp, ep1, _⟩ := hold i p (by omega) ei
    rw [ep1] at e1
    cases ej : σ j with
    | none =>
      have := h.2.2.2.1 p hp g e1
      have := (hnew j hj ej).2 g e2
      omega
    | some q =>
      obtain ⟨hq, eq1, _⟩ := hold j q hj ej
      rw [eq1] at e2
      rcases Nat.lt_trichotomy p q with c | c | c
      · exact h.2.2.2.2 p q c hq g e1 e2
      · subst c; exact hinj i j p hij hj ei ej
      · exact h.2.2.2.2 q p c hp g e2 e1
/-- Values gathered, each one of before or a new row. -/
def Gat (w : World) (base : Nat) (vs : List Value) (X : List Ce) (σ : Nat → Option Nat) (us : List Value) : Prop :=
  (∀ k p, k < us.length → σ k = some p → rowV us k = rowV vs p) ∧ (∀ k, k < us.length → σ k = none → OwnC w base (rowV us k) X) ∧
  (∀ k l, k < l → l < us.length → σ k = none → σ l = none → ∀ g, (rowV us k).ownBlock = some g → (rowV us l).ownBlock ≠ some g)
theorem Gat.nil (w : World) (base : Nat) (vs : List Value) (X : List Ce) (σ : Nat → Option Nat) : Gat w base vs X σ [] :=
  ⟨fun k _ h => absurd h (Nat.not_lt_zero k), fun k h => absurd h (Nat.not_lt_zero k), fun _ l _ h => absurd h (Nat.not_lt_zero l)⟩
theorem Gat.below {w w' : World} {base : Nat} {vs : List Value} {X : List Ce} {σ : Nat → Option Nat} {us : List Value} (h : Gat w base vs X σ us) (hb : Below w.heap.size w w') : Gat w' base vs X σ us :=
  ⟨h.1, fun k hk e => (h.2.1 k hk e).below hb, h.2.2⟩
theorem Gat.kept {w w' : World} {base base2 n : Nat} {v : Value} {ys vs : List Value} {X : List Ce} {σ : Nat → Option Nat} {us : List Value} (h : Gat w base vs X σ us) (ho : w.ownsRow base2 129 1 v n ys) (hg : w.grownBy w' v.ownBlock) : Gat w' base vs X σ us :=
  ⟨h.1, fun k hk e => (h.2.1 k hk e).kept hg (outer_apart ho (h.2.1 k hk e)), h.2.2⟩
theorem Gat.old {w : World} {base : Nat} {vs : List Value} {X : List Ce} {σ : Nat → Option Nat} {us : List Value} (h : Gat w base vs X σ us) (p : Nat) (e : σ us.length = some p) : Gat w base vs X σ (us ++ [rowV vs p]) := by
  refine ⟨fun k q hk e2 => ?_, fun k hk e2 => ?_, fun k l hkl hl e1 e2 => ?_⟩
  · rw [List.length_append, List.length_singleton] at hk
    rw [rowV_snoc]
    by_cases c : k < us.length
    · rw [if_pos c]; exact h.1 k q c e2
    · have : k = us.length := by omega
      subst this
      rw [if_neg c, if_pos rfl]
      rw [e] at e2; cases e2; rfl
  · rw [List.length_append, List.length_singleton] at hk
    rw [rowV_snoc]
    by_cases c : k < us.length
    · rw [if_pos c]; exact h.2.1 k c e2
    · have : k = us.length := by omega
      subst this
      rw [e] at e2; cases e2
  · rw [List.length_append, List.length_singleton] at hl
    have c : l < us.length := by
      apply Nat.lt_of_not_le; intro c
      have : l = us.length := by omega
      subst this
      rw [e] at e2; cases e2
    rw [rowV_snoc, rowV_snoc, if_pos c, if_pos (by omega)]
    exact h.2.2 k l hkl c e1 e2
theorem Gat.new {w w' : World} {base : Nat} {vs : List Value} {X : List Ce} {σ : Nat → Option Nat} {us : List Value} (h : Gat w base vs X σ us) (e : σ us.length = none) (hb : Below w.heap.size w w') (r : Value) (hr : OwnC w' w.heap.size r X) (hbase : base ≤ w.heap.size) : Gat w' base vs X σ (us ++ [r]) := by
  have h2 := h.below hb
  refine ⟨fun k q hk e2 => ?_, fun k hk e2 => ?_, fun k l hkl hl e1 e2 => ?_⟩
  · rw [List.length_append, List.length_singleton] at hk
    rw [rowV_snoc]
    by_cases c : k < us.length
    · rw [if_pos c]; exact h.1 k q c e2
    · have : k = us.length := by omega
      subst this
      rw [e] at e2; cases e2
  · rw [List.length_append, List.length_singleton] at hk
    rw [rowV_snoc]
    by_cases c : k < us.length
    · rw [if_pos c]; exact h2.2.1 k c e2
    · rw [if_neg c, if_pos (by omega)]
      exact hr.low hbase
  · rw [List.length_append, List.length_singleton] at hl
    rw [rowV_snoc, rowV_snoc, if_pos (show k < us.length by omega)]
    by_cases c : l < us.length
    · rw [if_pos c]; exact h.2.2 k l hkl c e1 e2
    · rw [if_neg c, if_pos (by omega)]
      intro g g1 g2
      have := ((h.2.1 k (by omega) e1).lt g g1).2
      have := (hr.lt g g2).1
      omega
theorem OwnC.isSl {w : World} {base : Nat} {v : Value} {xs : List Ce} (h : OwnC w base v xs) : ∃ a n c, v = Value.slice a n c := by
  rcases h.shape with ⟨h, _⟩ | ⟨_, _, h, _⟩ <;> exact ⟨_, _, _, h⟩
end Go.Proofs.YtdbpjfdlibodcaaGreatDoor
namespace Go.Proofs.YtdbpjfdlibodcaaGreatDoor
open Go.ChangeShapes Go.WideShapes Go.ChangeAt Go.RowKit
theorem eqStyle_same (s : St) (w : World) :
    Calls Tryz.prog 40 #[stV s, stV s] w fun e w' => e = .returned (.bool true) ∧ Below w.heap.size w w' := by
  obtain ⟨f, b, bo, un, tu⟩ := s
  unfold stV
  simp only
  go_enter Tryz.func40, Tryz.ntmps40
  go_wp2
  go_ret
  exact ⟨rfl, ((Below.refl _ _).alloc (Nat.le_refl _) _).alloc (by simp) _⟩
end Go.Proofs.YtdbpjfdlibodcaaGreatDoor
namespace Go.Proofs.YtdbpjfdlibodcaaGreatDoor
open Go.ChangeShapes Go.WideShapes Go.ChangeAt Go.RowKit
/-- A cell whole in block B, writable. -/
def CeF (w : World) (B : Nat) (c : Ce) : Prop :=
  B < w.heap.size ∧ (w.cell? ⟨B, 0, none⟩ = some (.int .i64 c.rune) ∧ w.cell? ⟨B, 1, none⟩ = some (.int .i64 c.st.fore) ∧ w.cell? ⟨B, 2, none⟩ = some (.int .i64 c.st.back) ∧ w.cell? ⟨B, 3, none⟩ = some (.bool c.st.bold) ∧ w.cell? ⟨B, 4, none⟩ = some (.bool c.st.under) ∧ w.cell? ⟨B, 5, none⟩ = some (.bool c.st.turned) ∧ w.cell? ⟨B, 6, none⟩ = some (.int .i64 c.part)) ∧
    (w.frozen? ⟨B, 0, none⟩ = false ∧ w.frozen? ⟨B, 1, none⟩ = false ∧ w.frozen? ⟨B, 2, none⟩ = false ∧ w.frozen? ⟨B, 3, none⟩ = false ∧ w.frozen? ⟨B, 4, none⟩ = false ∧ w.frozen? ⟨B, 5, none⟩ = false ∧ w.frozen? ⟨B, 6, none⟩ = false)
theorem CeF.new (w : World) (c : Ce) (t : TypeId) : CeF (w.alloc (.cells #[.int .i64 c.rune, .int .i64 c.st.fore, .int .i64 c.st.back, .bool c.st.bold, .bool c.st.under, .bool c.st.turned, .int .i64 c.part] t)) w.heap.size c :=
  ⟨by simp, ⟨by simp [go_sem], by simp [go_sem], by simp [go_sem], by simp [go_sem], by simp [go_sem], by simp [go_sem], by simp [go_sem]⟩, ⟨by simp [go_sem], by simp [go_sem], by simp [go_sem], by simp [go_sem], by simp [go_sem], by simp [go_sem], by simp [go_sem]⟩⟩
theorem CeF.grown {w w' : World} {B : Nat} {c : Ce} {row : Option Nat} (h : CeF w B c) (hg : w.grownBy w' row) (hr : row ≠ some B) : CeF w' B c := by
  have hb := hg.block B h.1 (Ne.symm hr)
  have hc : ∀ k, w'.cell? ⟨B, k, none⟩ = w.cell? ⟨B, k, none⟩ := fun k => World.cell?_of_block (w := w) hb
  have hz : ∀ k, w'.frozen? ⟨B, k, none⟩ = w.frozen? ⟨B, k, none⟩ := fun k => World.frozen?_of_block (w := w) hb
  refine ⟨Nat.lt_of_lt_of_le h.1 hg.size, ?_, ?_⟩
  · rw [hc, hc, hc, hc, hc, hc, hc]; exact h.2.1
  · rw [hz, hz, hz, hz, hz, hz, hz]; exact h.2.2
theorem CeF.below {w w' : World} {B : Nat} {c : Ce} (h : CeF w B c) (hb : Below w.heap.size w w') : CeF w' B c := h.grown (gbl hb none) (by simp)
/-- Another cell is written there whole. -/
def putF (w : World) (B : Nat) (c : Ce) : World := (((((((w.setCell ⟨B, 0, none⟩ (.int .i64 c.rune)).setCell ⟨B, 1, none⟩ (.int .i64 c.st.fore)).setCell ⟨B, 2, none⟩ (.int .i64 c.st.back)).setCell ⟨B, 3, none⟩ (.bool c.st.bold)).setCell ⟨B, 4, none⟩ (.bool c.st.under)).setCell ⟨B, 5, none⟩ (.bool c.st.turned)).setCell ⟨B, 6, none⟩ (.int .i64 c.part))
theorem putF_grown (w : World) (B : Nat) (c : Ce) : w.grownBy (putF w B c) (some B) :=
  grown_tr (grown_tr (grown_tr (grown_tr (grown_tr (grown_tr (setCell_gr w B 0 _) (setCell_gr _ B 1 _)) (setCell_gr _ B 2 _)) (setCell_gr _ B 3 _)) (setCell_gr _ B 4 _)) (setCell_gr _ B 5 _)) (setCell_gr _ B 6 _)
theorem CeF.put {w : World} {B : Nat} {c : Ce} (h : CeF w B c) (c' : Ce) : CeF (putF w B c') B c' := by
  obtain ⟨hlt, ⟨c0, c1, c2, c3, c4, c5, c6⟩, ⟨z0, z1, z2, z3, z4, z5, z6⟩⟩ := h
  refine ⟨by simpa [putF] using hlt, ⟨?_, ?_, ?_, ?_, ?_, ?_, ?_⟩, ⟨?_, ?_, ?_, ?_, ?_, ?_, ?_⟩⟩
  all_goals simp only [putF]
  · rw [setCell_ne' _ _ _ _ _ (by decide), setCell_ne' _ _ _ _ _ (by decide), setCell_ne' _ _ _ _ _ (by decide), setCell_ne' _ _ _ _ _ (by decide), setCell_ne' _ _ _ _ _ (by decide), setCell_ne' _ _ _ _ _ (by decide)]; simp [go_sem, c0]
  · rw [setCell_ne' _ _ _ _ _ (by decide), setCell_ne' _ _ _ _ _ (by decide), setCell_ne' _ _ _ _ _ (by decide), setCell_ne' _ _ _ _ _ (by decide), setCell_ne' _ _ _ _ _ (by decide)]; simp [go_sem, c1]
  · rw [setCell_ne' _ _ _ _ _ (by decide), setCell_ne' _ _ _ _ _ (by decide), setCell_ne' _ _ _ _ _ (by decide), setCell_ne' _ _ _ _ _ (by decide)]; simp [go_sem, c2]
  · rw [setCell_ne' _ _ _ _ _ (by decide), setCell_ne' _ _ _ _ _ (by decide), setCell_ne' _ _ _ _ _ (by decide)]; simp [go_sem, c3]
  · rw [setCell_ne' _ _ _ _ _ (by decide), setCell_ne' _ _ _ _ _ (by decide)]; simp [go_sem, c4]
  · rw [setCell_ne' _ _ _ _ _ (by decide)]; simp [go_sem, c5]
  · simp [go_sem, c6]
  · simp [go_sem, z0]
  · simp [go_sem, z1]
  · simp [go_sem, z2]
  · simp [go_sem, z3]
  · simp [go_sem, z4]
  · simp [go_sem, z5]
  · simp [go_sem, z6]
theorem SlC.src {w : World} {a : Option Addr} {n c : Nat} {xs : List Ce} (h : SlC w (.slice a n c) xs) (h0 : 0 < xs.length) : ∃ b off, a = some ⟨b, off, none⟩ ∧ ∀ i, i < xs.length → CeAt w b (off + i * 7) (atC xs i) := by
  obtain ⟨a', c', e, _, _, hr⟩ := h
  simp only [Value.slice.injEq] at e
  obtain ⟨rfl, _, rfl⟩ := e
  rcases hr with h | ⟨b, off, ha, _, hi⟩
  · rw [h] at h0; simp at h0
  · exact ⟨b, off, ha, hi⟩
end Go.Proofs.YtdbpjfdlibodcaaGreatDoor
namespace Go.Proofs.YtdbpjfdlibodcaaGreatDoor
open Go.ChangeShapes Go.WideShapes Go.ChangeAt Go.RowKit
def BS (a w : World) : Prop := Below a.heap.size a w ∧ a.heap.size ≤ w.heap.size
theorem BS.out {a w : World} (h : BS a w) : Below a.heap.size a w := h.1
theorem BS.set {a w : World} (h : BS a w) (g k : Nat) (u : Value) (hg : a.heap.size ≤ g) : BS a (w.setCell ⟨g, k, none⟩ u) :=
  ⟨h.1.grown (setCell_gr w g k u) h.2 (fun k hk => by cases hk; exact hg), by simpa using h.2⟩
set_option maxHeartbeats 1000000 in
theorem eqCell_same (c : Ce) (w : World) :
    Calls Tryz.prog 198 #[ceV c, ceV c] w fun e w' => e = .returned (.bool true) ∧ Below w.heap.size w w' := by
  have heq := fun W => eqStyle_same c.st W
  have b1 := bal' w (Obj.cells #[.int .i64 c.rune, .int .i64 c.st.fore, .int .i64 c.st.back, .bool c.st.bold, .bool c.st.under, .bool c.st.turned, .int .i64 c.part] 114)
  have b2 := b1.trans ((bal' _ (Obj.cells #[.int .i64 c.rune, .int .i64 c.st.fore, .int .i64 c.st.back, .bool c.st.bold, .bool c.st.under, .bool c.st.turned, .int .i64 c.part] 114)).mono b1.size)
  have s2 := (CeF.new w c 114).below (bal' _ (Obj.cells #[.int .i64 c.rune, .int .i64 c.st.fore, .int .i64 c.st.back, .bool c.st.bold, .bool c.st.under, .bool c.st.turned, .int .i64 c.part] 114))
  have r2 := CeF.new (w.alloc (Obj.cells #[.int .i64 c.rune, .int .i64 c.st.fore, .int .i64 c.st.back, .bool c.st.bold, .bool c.st.under, .bool c.st.turned, .int .i64 c.part] 114)) c 114
  have z1 : (w.alloc (Obj.cells #[.int .i64 c.rune, .int .i64 c.st.fore, .int .i64 c.st.back, .bool c.st.bold, .bool c.st.under, .bool c.st.turned, .int .i64 c.part] 114)).heap.size = w.heap.size + 1 := by simp
  rw [z1] at r2
  unfold ceV stV at *
  go_enter Tryz.func198, Tryz.ntmps198
  go_wp2_with fail
  refine (heq _).mono ?_
  rintro e w1 ⟨rfl, hb1⟩
  have s3 := s2.below hb1
  have r3 := r2.below hb1
  have b3 := b2.trans (hb1.mono b2.size)
  clear s2 r2 b1 b2 hb1 z1 heq
  obtain ⟨_, ⟨c0, c1, c2, c3, c4, c5, c6⟩, _⟩ := s3
  obtain ⟨_, ⟨d0, d1, d2, d3, d4, d5, d6⟩, _⟩ := r3
  go_wp2
  go_ret
  exact ⟨rfl, b3⟩
end Go.Proofs.YtdbpjfdlibodcaaGreatDoor
namespace Go.Proofs.YtdbpjfdlibodcaaGreatDoor
open Go.ChangeShapes Go.WideShapes Go.ChangeAt Go.RowKit
theorem toStyle_any (s : St) (w : World) :
    Calls Tryz.prog 30 #[stV s] w fun e w' => e = .returned (stV s) ∧ Below w.heap.size w w' := by
  obtain ⟨f, b, bo, un, tu⟩ := s
  unfold stV
  simp only
  go_enter Tryz.func30, Tryz.ntmps30
  go_wp2
  refine bodyPost_ret (v := .agg #[.int .i64 f, .int .i64 b, .bool bo, .bool un, .bool tu]) (by simp [results, Tryz.results30, go_sem]) rfl ⟨rfl, ?_⟩
  exact (((Below.refl _ _).alloc (Nat.le_refl _) _).alloc (by simp) _).alloc (by simp; omega) _
end Go.Proofs.YtdbpjfdlibodcaaGreatDoor
namespace Go.Proofs.YtdbpjfdlibodcaaGreatDoor
open Go.ChangeShapes Go.WideShapes Go.ChangeAt Go.RowKit
theorem szC_any (v : Value) (xs : List Ce) (left : Nat) (w : World) (hv : SlC w v xs) (hl : xs.length ≤ maxLen) (hf : left ≤ 4611686018427387904) :
    Calls Tryz.prog 115 #[v, .int .i64 left] w fun e w' => e = .returned (.int .i64 (if left < xs.length then -1 else ((left - xs.length : Nat) : Int))) ∧ w' = w := by
  unfold maxLen at hl
  obtain ⟨a, c, rfl, _⟩ := hv
  generalize xs.length = n at *
  by_cases h : left < n
  · have h2 : (left : Int) - (n : Int) < 0 := by omega
    rw [if_pos h]
    go_enter Tryz.func115, Tryz.ntmps115
    go_wp2
    go_ret
    exact ⟨rfl, rfl⟩
  · have h2 : ¬ (left : Int) - (n : Int) < 0 := by omega
    have h3 : Hid (((left - n : Nat) : Int) = (left : Int) - (n : Int)) := by show _ = _; omega
    rw [if_neg h]
    go_enter Tryz.func115, Tryz.ntmps115
    go_wp2
    go_ret
    exact ⟨by rw [h3.out]; rfl, rfl⟩
set_option maxHeartbeats 1000000 in
theorem toCell_any (c : Ce) (w : World) :
    Calls Tryz.prog 183 #[ceV c] w fun e w' => e = .returned (ceV c) ∧ Below w.heap.size w w' := by
  have hto := fun W => toStyle_any c.st W
  have b1 := bal' w (Obj.cells #[.int .i64 c.rune, .int .i64 c.st.fore, .int .i64 c.st.back, .bool c.st.bold, .bool c.st.under, .bool c.st.turned, .int .i64 c.part] 169)
  have b2 := b1.trans ((bal' _ (Obj.cells #[.int .i64 0, .int .i64 0, .int .i64 0, .bool false, .bool false, .bool false, .int .i64 0] 114)).mono b1.size)
  have b3 := b2.trans ((bal' _ (Obj.cells #[.int .i64 c.rune, .int .i64 0, .int .i64 0, .bool false, .bool false, .bool false, .int .i64 0] 114)).mono b2.size)
  have s3 := ((CeF.new w c 169).below (bal' _ (Obj.cells #[.int .i64 0, .int .i64 0, .int .i64 0, .bool false, .bool false, .bool false, .int .i64 0] 114))).below (bal' _ (Obj.cells #[.int .i64 c.rune, .int .i64 0, .int .i64 0, .bool false, .bool false, .bool false, .int .i64 0] 114))
  have r3 := (CeF.new (w.alloc (Obj.cells #[.int .i64 c.rune, .int .i64 c.st.fore, .int .i64 c.st.back, .bool c.st.bold, .bool c.st.under, .bool c.st.turned, .int .i64 c.part] 169)) Ce.zero 114).below (bal' _ (Obj.cells #[.int .i64 c.rune, .int .i64 0, .int .i64 0, .bool false, .bool false, .bool false, .int .i64 0] 114))
  have o3 := CeF.new ((w.alloc (Obj.cells #[.int .i64 c.rune, .int .i64 c.st.fore, .int .i64 c.st.back, .bool c.st.bold, .bool c.st.under, .bool c.st.turned, .int .i64 c.part] 169)).alloc (Obj.cells #[.int .i64 0, .int .i64 0, .int .i64 0, .bool false, .bool false, .bool false, .int .i64 0] 114)) ⟨c.rune, St.zero, 0⟩ 114
  have z1 : (w.alloc (Obj.cells #[.int .i64 c.rune, .int .i64 c.st.fore, .int .i64 c.st.back, .bool c.st.bold, .bool c.st.under, .bool c.st.turned, .int .i64 c.part] 169)).heap.size = w.heap.size + 1 := by simp
  have z2 : ((w.alloc (Obj.cells #[.int .i64 c.rune, .int .i64 c.st.fore, .int .i64 c.st.back, .bool c.st.bold, .bool c.st.under, .bool c.st.turned, .int .i64 c.part] 169)).alloc (Obj.cells #[.int .i64 0, .int .i64 0, .int .i64 0, .bool false, .bool false, .bool false, .int .i64 0] 114)).heap.size = w.heap.size + 1 + 1 := by simp
  rw [z1] at r3
  rw [z2] at o3
  simp only [Ce.zero, St.zero] at r3 o3
  unfold ceV stV at *
  go_enter Tryz.func183, Tryz.ntmps183
  go_wp2_with fail
  refine (hto _).mono ?_
  rintro e w1 ⟨rfl, hb1⟩
  have s4 := s3.below hb1
  have r4 := r3.below hb1
  have o4 := o3.below hb1
  have b4 := b3.trans (hb1.mono b3.size)
  clear s3 r3 o3 b1 b2 b3 hb1 z1 z2 hto
  obtain ⟨_, ⟨c0, c1, c2, c3, c4, c5, c6⟩, _⟩ := s4
  obtain ⟨_, ⟨d0, d1, d2, d3, d4, d5, d6⟩, ⟨x0, x1, x2, x3, x4, x5, x6⟩⟩ := r4
  obtain ⟨_, ⟨e0, e1, e2, e3, e4, e5, e6⟩, ⟨y0, y1, y2, y3, y4, y5, y6⟩⟩ := o4
  go_wp2
  refine bodyPost_ret (v := .agg #[.int .i64 c.rune, .int .i64 c.st.fore, .int .i64 c.st.back, .bool c.st.bold, .bool c.st.under, .bool c.st.turned, .int .i64 c.part]) (by simp [results, Tryz.results183, go_sem, setCell_ne', *]) rfl ⟨rfl, ?_⟩
  clear c0 c1 c2 c3 c4 c5 c6 d0 d1 d2 d3 d4 d5 d6 e0 e1 e2 e3 e4 e5 e6 x0 x1 x2 x3 x4 x5 x6 y0 y1 y2 y3 y4 y5 y6
  have bs : BS w w1 := ⟨b4, b4.size⟩
  refine BS.out ?_
  repeat (first | with_reducible exact bs | with_reducible refine BS.set ?_ _ _ _ (by omega))
end Go.Proofs.YtdbpjfdlibodcaaGreatDoor
namespace Go.Proofs.YtdbpjfdlibodcaaGreatDoor
open Go.ChangeShapes Go.WideShapes Go.ChangeAt Go.RowKit
set_option maxHeartbeats 1000000 in
theorem eqC_same (va vb : Value) (xs : List Ce) (w : World) (ha : SlC w va xs) (hb : SlC w vb xs) (hl : xs.length ≤ 1073741824) :
    Calls Tryz.prog 163 #[va, vb] w fun e w' => e = .returned (.bool true) ∧ Below w.heap.size w w' := by
  have heq := fun c W => eqCell_same c W
  obtain ⟨a, c, rfl, hc1, hn1, hr1⟩ := ha
  obtain ⟨a', c', rfl, hc2, hn2, hr2⟩ := hb
  rcases hr1 with h | ⟨b, off, rfl, hbb, hs1⟩
  · subst h
    go_enter Tryz.func163, Tryz.ntmps163
    go_wp2
    refine wp_loop_rounds 1 ?_
    rw [rounds_succ]
    go_wp2
    go_ret
    exact ⟨rfl, Below.refl _ _⟩
  · rcases hr2 with h | ⟨b', off', rfl, hbb', hs2⟩
    · subst h
      go_enter Tryz.func163, Tryz.ntmps163
      go_wp2
      refine wp_loop_rounds 1 ?_
      rw [rounds_succ]
      go_wp2
      go_ret
      exact ⟨rfl, Below.refl _ _⟩
    · unfold ceV at heq
      go_enter Tryz.func163, Tryz.ntmps163
      go_wp2
      go_loopw [5] (fun i wr => ∃ j : Nat, i = .int .i64 j ∧ j ≤ xs.length ∧ Below w.heap.size w wr) (fun i _ => xs.length - (intOf i).toNat)
      case atStart => exact ⟨0, rfl, Nat.zero_le _, Below.refl _ _⟩
      case round =>
        obtain ⟨j, rfl, hj, kb⟩ := hrel
        by_cases hlt : j < xs.length
        · have hji : (j : Int) < (xs.length : Int) := by omega
          have hj0 : (0 : Int) ≤ (j : Int) := by omega
          have kd : Below w.heap.size w wr.drew := kb.trans ((bdr _).mono kb.size)
          have hat1 := (hs1 j hlt).below kd hbb
          have hat2 := (hs2 j hlt).below kd hbb'
          obtain ⟨c0, c1, c2, c3, c4, c5, c6⟩ := hat1
          obtain ⟨d0, d1, d2, d3, d4, d5, d6⟩ := hat2
          clear hs1 hs2 
          go_wp2
          go_region_with (go_at_call 198; refine (heq (atC xs j) _).mono ?_; rintro e w1 ⟨rfl, hb1⟩)
          all_goals
            have kb1 := kd.trans (hb1.mono kd.size)
            clear c0 c1 c2 c3 c4 c5 c6 d0 d1 d2 d3 d4 d5 d6 kd kb hb1 heq
            go_wp2
            go_roundw
            case rel => exact ⟨j + 1, by go_num, by omega, kb1⟩
            case measure => simp [intOf]; omega
        · have hji : ¬ (j : Int) < (xs.length : Int) := by omega
          go_wp2
          go_ret
          exact ⟨rfl, kb⟩
theorem SlC.at {w : World} {a : Option Addr} {n c : Nat} {xs : List Ce} (h : SlC w (.slice a n c) xs) (j : Nat) (hj : j < xs.length) : ∃ b off, a = some ⟨b, off, none⟩ ∧ b < w.heap.size ∧ CeAt w b (off + j * 7) (atC xs j) := by
  obtain ⟨a', c', e, _, _, hr⟩ := h
  simp only [Value.slice.injEq] at e
  obtain ⟨rfl, rfl, rfl⟩ := e
  rcases hr with h | ⟨b, off, ha, hb, hi⟩
  · rw [h] at hj; simp at hj
  · exact ⟨b, off, ha, hb, hi j hj⟩
end Go.Proofs.YtdbpjfdlibodcaaGreatDoor
namespace Go.Proofs.YtdbpjfdlibodcaaGreatDoor
theorem atC_ge {l : List Ce} {i : Nat} (h : l.length ≤ i) : atC l i = Ce.zero := by simp [atC, List.getD, List.getElem?_eq_none h]
def genL (n : Nat) (f : Nat → Ce) : List Ce := (List.range n).map f
theorem genL_len (n : Nat) (f : Nat → Ce) : (genL n f).length = n := by simp [genL]
theorem genL_at (n : Nat) (f : Nat → Ce) (i : Nat) (h : i < n) : atC (genL n f) i = f i := by
  rw [atC_lt (by rw [genL_len]; exact h)]; simp [genL]
theorem alone_iff (l : List Ce) (i : Nat) : aloneB l i = true ↔ ((atC l i).part = 1 ∧ (atC l (i + 1)).part ≠ 2) ∨ ((atC l i).part = 2 ∧ (i = 0 ∨ (atC l (i - 1)).part ≠ 1)) := by
  unfold aloneB
  by_cases h : i + 1 = l.length
  · rw [atC_ge (l := l) (i := i + 1) (by omega)]
    simp [Ce.zero, h]
  · simp [h]
theorem mendV_all (l : List Ce) (i : Nat) : atC (mendV l) i = mendC l i := by
  by_cases h : i < l.length
  · exact mendV_at l i h
  · rw [atC_ge (by rw [mendV_len]; omega), mendC, atC_ge (by omega)]
    have : ¬ aloneB l i = true := by rw [alone_iff, atC_ge (l := l) (i := i) (by omega)]; simp [Ce.zero]
    rw [if_neg this]
/-- A cell that is right by itself. -/
def c1 (c : Ce) : Prop := c.st.ok = true ∧ ((c.part = 0 ∧ widthV c.rune = 1) ∨ (c.part = 1 ∧ widthV c.rune = 2) ∨ (c.part = 2 ∧ c.rune = 0))
def Right (l : List Ce) : Prop :=
  (∀ i, i < l.length → c1 (atC l i)) ∧ (∀ i, (atC l i).part = 1 → (atC l (i + 1)).part = 2 ∧ (atC l (i + 1)).st = (atC l i).st) ∧ (∀ i, (atC l i).part = 2 → 0 < i ∧ (atC l (i - 1)).part = 1)
def Semi (l : List Ce) : Prop :=
  (∀ i, i < l.length → c1 (atC l i)) ∧ (∀ i, (atC l i).part = 1 → (atC l (i + 1)).part = 2 → (atC l (i + 1)).st = (atC l i).st)
theorem Right.semi {l : List Ce} (h : Right l) : Semi l := ⟨h.1, fun i h1 _ => (h.2.1 i h1).2⟩
theorem part_lt {l : List Ce} {i : Nat} (h : (atC l i).part ≠ 0) : i < l.length := by
  rcases Nat.lt_or_ge i l.length with h1 | h1
  · exact h1
  · rw [atC_ge h1] at h; exact absurd rfl h
theorem right_iff (l : List Ce) : rowOkB l = true ↔ (1 ≤ l.length ∧ l.length ≤ 60) ∧ Right l := by
  rw [rowOkB_iff]
  constructor
  · rintro ⟨hl, h⟩
    refine ⟨hl, ?_, ?_, ?_⟩
    · intro i hi
      have := h i hi
      unfold cellOkB at this
      rw [Bool.and_eq_true] at this
      refine ⟨this.1, ?_⟩
      have h2 := this.2
      by_cases h0 : (atC l i).part = 0
      · rw [if_pos h0] at h2; exact .inl ⟨h0, by simpa using h2⟩
      · rw [if_neg h0] at h2
        by_cases h1 : (atC l i).part = 1
        · rw [if_pos h1] at h2; simp at h2; exact .inr (.inl ⟨h1, h2.1⟩)
        · rw [if_neg h1] at h2
          by_cases h3 : (atC l i).part = 2
          · rw [if_pos h3] at h2; simp at h2; exact .inr (.inr ⟨h3, h2.1⟩)
          · rw [if_neg h3] at h2; cases h2
    · intro i h1
      have hi : i < l.length := part_lt (by rw [h1]; decide)
      have := h i hi
      unfold cellOkB at this
      rw [Bool.and_eq_true, if_neg (by rw [h1]; decide), if_pos h1] at this
      have h2 := this.2; simp at h2
      exact ⟨h2.2.2.1, h2.2.2.2⟩
    · intro i h1
      have hi : i < l.length := part_lt (by rw [h1]; decide)
      have := h i hi
      unfold cellOkB at this
      rw [Bool.and_eq_true, if_neg (by rw [h1]; decide), if_neg (by rw [h1]; decide), if_pos h1] at this
      have h2 := this.2; simp at h2
      exact h2.2
  · rintro ⟨hl, h1, h2, h3⟩
    refine ⟨hl, fun i hi => ?_⟩
    have hc := h1 i hi
    unfold cellOkB
    rw [hc.1, Bool.true_and]
    rcases hc.2 with ⟨e, ew⟩ | ⟨e, ew⟩ | ⟨e, ew⟩
    · rw [if_pos e, ew]; rfl
    · have := h2 i e
      have hlt : i + 1 < l.length := part_lt (by rw [this.1]; decide)
      rw [if_neg (by rw [e]; decide), if_pos e, ew]
      simp [hlt, this.1, this.2]
    · have := h3 i e
      rw [if_neg (by rw [e]; decide), if_neg (by rw [e]; decide), if_pos e, ew]
      simp [this.1, this.2]
theorem c1_blank {s : St} (h : s.ok = true) : c1 (blankC s) := ⟨h, .inl ⟨rfl, by show widthV 32 = 1; decide⟩⟩
theorem Semi.mend {l : List Ce} (h : Semi l) : Right (mendV l) := by
  have hp : ∀ i, (atC (mendV l) i).part ≠ 0 → aloneB l i = false ∧ atC (mendV l) i = atC l i := by
    intro i hi
    rw [mendV_all, mendC] at hi ⊢
    by_cases ha : aloneB l i = true
    · rw [if_pos ha] at hi; exact absurd rfl hi
    · rw [if_neg ha]; exact ⟨by simpa using ha, rfl⟩
  refine ⟨fun i hi => ?_, fun i h1 => ?_, fun i h2 => ?_⟩
  · rw [mendV_len] at hi
    rw [mendV_all, mendC]
    split
    · exact c1_blank (h.1 i hi).1
    · exact h.1 i hi
  · obtain ⟨ha, e⟩ := hp i (by rw [h1]; decide)
    rw [e] at h1
    have hn : (atC l (i + 1)).part = 2 := by
      apply Classical.byContradiction
      intro hc
      have := (alone_iff l i).2 (.inl ⟨h1, hc⟩)
      rw [ha] at this; cases this
    have hb : aloneB l (i + 1) = false := by
      apply Classical.byContradiction
      intro hc
      rcases (alone_iff l (i + 1)).1 (by simpa using hc) with ⟨q, _⟩ | ⟨_, q⟩
      · rw [hn] at q; exact absurd q (by decide)
      · rcases q with q | q
        · omega
        · rw [Nat.add_sub_cancel] at q; exact q h1
    have e2 : atC (mendV l) (i + 1) = atC l (i + 1) := by rw [mendV_all, mendC, if_neg (by rw [hb]; decide)]
    rw [e2, e]
    exact ⟨hn, h.2 i h1 hn⟩
  · obtain ⟨ha, e⟩ := hp i (by rw [h2]; decide)
    rw [e] at h2
    have hn : ¬ (i = 0 ∨ (atC l (i - 1)).part ≠ 1) := by
      intro hc
      have := (alone_iff l i).2 (.inr ⟨h2, hc⟩)
      rw [ha] at this; cases this
    have h0 : 0 < i := by omega
    have h1 : (atC l (i - 1)).part = 1 := by
      apply Classical.byContradiction
      intro hc; exact hn (.inr hc)
    have hb : aloneB l (i - 1) = false := by
      apply Classical.byContradiction
      intro hc
      rcases (alone_iff l (i - 1)).1 (by simpa using hc) with ⟨_, q⟩ | ⟨q, _⟩
      · have : i - 1 + 1 = i := by omega
        rw [this] at q; exact q h2
      · rw [h1] at q; exact absurd q (by decide)
    have e2 : atC (mendV l) (i - 1) = atC l (i - 1) := by rw [mendV_all, mendC, if_neg (by rw [hb]; decide)]
    rw [e2]; exact ⟨h0, h1⟩
theorem Right.alone {l : List Ce} (h : Right l) (i : Nat) : aloneB l i = false := by
  apply Classical.byContradiction
  intro hc
  rcases (alone_iff l i).1 (by simpa using hc) with ⟨p, q⟩ | ⟨p, q⟩
  · exact q (h.2.1 i p).1
  · have := h.2.2 i p
    rcases q with q | q
    · omega
    · exact q this.2
theorem Right.mend {l : List Ce} (h : Right l) : mendV l = l := ext_atC _ _ (mendV_len l) fun i _ => by
  rw [mendV_all, mendC, if_neg (by rw [h.alone]; decide)]
theorem Right.c1 {l : List Ce} (h : Right l) {i : Nat} (hi : i < l.length) : c1 (atC l i) := h.1 i hi
theorem fill_at (l : List Ce) (a b : Nat) (s : St) (i : Nat) (hb : b ≤ l.length) : atC (fillUp l a b s) i = if a ≤ i ∧ i < b then blankC s else atC l i := by
  by_cases h : i < l.length
  · exact fillUp_at l a b s i h
  · rw [atC_ge (by rw [fillUp_len]; omega), if_neg (by omega), atC_ge (by omega)]
theorem Semi.take {l : List Ce} (h : Semi l) (n : Nat) : Semi (l.take n) := by
  have e : ∀ i, atC (l.take n) i = if i < n then atC l i else Ce.zero := fun i => by
    by_cases hi : i < n
    · rw [if_pos hi, atC_take l n i hi]
    · rw [if_neg hi, atC_ge (by rw [List.length_take]; omega)]
  refine ⟨fun i hi => ?_, fun i h1 h2 => ?_⟩
  · rw [List.length_take] at hi
    rw [e, if_pos (by omega)]
    exact h.1 i (by omega)
  · rw [e] at h1 h2 ⊢
    rw [e]
    split at h1
    · split at h2
      · rename_i q1 q2
        rw [if_pos q2, if_pos q1]
        exact h.2 i h1 h2
      · exact absurd h2 (by decide)
    · exact absurd h1 (by decide)
theorem Semi.drop {l : List Ce} (h : Semi l) (n : Nat) : Semi (l.drop n) := by
  refine ⟨fun i hi => ?_, fun i h1 h2 => ?_⟩
  · rw [List.length_drop] at hi
    rw [atC_drop]; exact h.1 (n + i) (by omega)
  · rw [atC_drop] at h1 h2 ⊢
    rw [atC_drop]
    have := h.2 (n + i) h1 (by rw [Nat.add_assoc]; exact h2)
    rwa [Nat.add_assoc] at this
theorem app_at (l m : List Ce) (i : Nat) : atC (l ++ m) i = if i < l.length then atC l i else atC m (i - l.length) := by
  by_cases h : i < l.length
  · rw [if_pos h, atC_append_left l m i h]
  · rw [if_neg h]
    have := atC_append_right l m (i - l.length)
    rwa [show l.length + (i - l.length) = i by omega] at this
theorem Right.append {l m : List Ce} (h : Right l) (k : Right m) : Right (l ++ m) := by
  refine ⟨fun i hi => ?_, fun i h1 => ?_, fun i h2 => ?_⟩
  · rw [List.length_append] at hi
    rw [app_at]
    split
    · rename_i q; exact h.1 i q
    · exact k.1 _ (by omega)
  · rw [app_at] at h1
    split at h1
    · have := h.2.1 i h1
      have hlt : i + 1 < l.length := part_lt (by rw [this.1]; decide)
      rename_i q
      rw [app_at, app_at, if_pos hlt, if_pos q]; exact this
    · rename_i q
      have := k.2.1 _ h1
      rw [app_at, app_at, if_neg (by omega), if_neg q]
      rwa [show i + 1 - l.length = i - l.length + 1 by omega]
  · rw [app_at] at h2
    split at h2
    · rename_i q
      have := h.2.2 i h2
      rw [app_at, if_pos (by omega)]; exact this
    · rename_i q
      have := k.2.2 _ h2
      rw [app_at, if_neg (by omega)]
      refine ⟨by omega, ?_⟩
      rw [show i - 1 - l.length = i - l.length - 1 by omega]; exact this.2
theorem rowL_at (n : Nat) (s : St) (i : Nat) (h : i < n) : atC (rowL n s) i = blankC s := by
  rw [atC_lt (by simp [rowL]; exact h)]; simp [rowL]
theorem rowL_right (n : Nat) (s : St) (hs : s.ok = true) : Right (rowL n s) := by
  have e : ∀ i, (atC (rowL n s) i).part = 0 := fun i => by
    by_cases h : i < n
    · rw [rowL_at n s i h]; rfl
    · rw [atC_ge (by simp [rowL]; omega)]; rfl
  refine ⟨fun i hi => ?_, fun i h1 => ?_, fun i h1 => ?_⟩
  · rw [rowL_at n s i (by simpa [rowL] using hi)]; exact c1_blank hs
  · rw [e] at h1; exact absurd h1 (by decide)
  · rw [e] at h1; exact absurd h1 (by decide)
end Go.Proofs.YtdbpjfdlibodcaaGreatDoor
namespace Go.Proofs.YtdbpjfdlibodcaaGreatDoor
/-- A wide rune that lies on both sides of a place is blank. -/
def partW (l : List Ce) (p : Nat) : List Ce := if (atC l p).part = 2 then fillUp l (p - 1) (p + 1) (atC l p).st else l
theorem partW_len (l : List Ce) (p : Nat) : (partW l p).length = l.length := by unfold partW; split; exact fillUp_len _ _ _ _; rfl
theorem Right.two {l : List Ce} (h : Right l) {p : Nat} (h2 : (atC l p).part = 2) : 0 < p ∧ p < l.length ∧ (atC l (p - 1)).part = 1 ∧ (atC l p).st = (atC l (p - 1)).st := by
  have := h.2.2 p h2
  have h3 := (h.2.1 (p - 1) this.2).2
  rw [show p - 1 + 1 = p by omega] at h3
  exact ⟨this.1, part_lt (by rw [h2]; decide), this.2, h3⟩
theorem partW_at {l : List Ce} (h : Right l) (p i : Nat) : atC (partW l p) i = if (atC l p).part = 2 ∧ (i + 1 = p ∨ i = p) then blankC (atC l i).st else atC l i := by
  unfold partW
  by_cases h2 : (atC l p).part = 2
  · obtain ⟨h0, hl, h1, hst⟩ := h.two h2
    rw [if_pos h2, fill_at _ _ _ _ _ (by omega)]
    by_cases e : i + 1 = p ∨ i = p
    · rw [if_pos (by omega), if_pos ⟨h2, e⟩]
      rcases e with e | e
      · rw [hst, show p - 1 = i by omega]
      · rw [e]
    · rw [if_neg (by omega), if_neg (fun q => e q.2)]
  · rw [if_neg h2, if_neg (fun q => h2 q.1)]
theorem mendT {l : List Ce} (h : Right l) (p i : Nat) (hi : i < p) : atC (mendV (l.take p)) i = if (atC l p).part = 2 ∧ i + 1 = p then blankC (atC l i).st else atC l i := by
  have ht : ∀ j, atC (l.take p) j = if j < p then atC l j else Ce.zero := fun j => by
    by_cases hj : j < p
    · rw [if_pos hj, atC_take l p j hj]
    · rw [if_neg hj, atC_ge (by rw [List.length_take]; omega)]
  rw [mendV_all, mendC, ht i, if_pos hi]
  have hal : aloneB (l.take p) i = true ↔ (atC l p).part = 2 ∧ i + 1 = p := by
    rw [alone_iff, ht i, if_pos hi]
    constructor
    · rintro (⟨q1, q2⟩ | ⟨q1, q2⟩)
      · have := h.2.1 i q1
        rw [ht] at q2
        by_cases c : i + 1 < p
        · rw [if_pos c] at q2; exact absurd this.1 q2
        · have e : i + 1 = p := by omega
          rw [← e]; exact ⟨this.1, rfl⟩
      · have := h.2.2 i q1
        rcases q2 with q2 | q2
        · omega
        · rw [ht, if_pos (by omega)] at q2; exact absurd this.2 q2
    · rintro ⟨q1, q2⟩
      left
      have := h.two q1
      rw [show p - 1 = i by omega] at this
      refine ⟨this.2.2.1, ?_⟩
      rw [ht, if_neg (by omega)]; decide
  by_cases c : (atC l p).part = 2 ∧ i + 1 = p
  · rw [if_pos c, if_pos (hal.2 c)]
  · rw [if_neg c, if_neg (fun x => c (hal.1 x))]
theorem rowL_len (n : Nat) (s : St) : (rowL n s).length = n := by simp [rowL]
end Go.Proofs.YtdbpjfdlibodcaaGreatDoor
namespace Go.Proofs.YtdbpjfdlibodcaaGreatDoor
open Go.ChangeShapes Go.WideShapes Go.ChangeAt Go.RowKit
theorem flat_take (xs : List Ce) : ∀ k, (xs.flatMap ceL).take (k * 7) = (xs.take k).flatMap ceL := by
  induction xs with
  | nil => intro k; simp
  | cons c xs ih =>
    intro k
    cases k with
    | zero => simp
    | succ k =>
      rw [List.flatMap_cons, List.take_succ_cons, List.flatMap_cons, List.take_append, ← ih k]
      have hl : (ceL c).length = 7 := rfl
      rw [List.take_of_length_le (by rw [hl]; omega), hl, show (k + 1) * 7 - 7 = k * 7 by omega]
theorem flat_drop (xs : List Ce) : ∀ k, (xs.flatMap ceL).drop (k * 7) = (xs.drop k).flatMap ceL := by
  induction xs with
  | nil => intro k; simp
  | cons c xs ih =>
    intro k
    cases k with
    | zero => simp
    | succ k =>
      have hl : (ceL c).length = 7 := rfl
      rw [List.flatMap_cons, List.drop_succ_cons, ← ih k, List.drop_append, hl, List.drop_of_length_le (by rw [hl]; omega), List.nil_append, show (k + 1) * 7 - 7 = k * 7 by omega]
def windL (L : List Ce) (q : Nat) (M : List Ce) : List Ce := L.take q ++ M ++ L.drop (q + M.length)
theorem windL_len (L : List Ce) (q : Nat) (M : List Ce) (h : q + M.length ≤ L.length) : (windL L q M).length = L.length := by unfold windL; simp; omega
theorem windL_at (L : List Ce) (q : Nat) (M : List Ce) (h : q + M.length ≤ L.length) (i : Nat) : atC (windL L q M) i = if q ≤ i ∧ i < q + M.length then atC M (i - q) else atC L i := by
  have h1 : (L.take q).length = q := by rw [List.length_take]; omega
  unfold windL
  rw [app_at, app_at, List.length_append, h1]
  by_cases c1 : i < q
  · rw [if_pos (by omega), if_pos c1, if_neg (by omega), atC_take L q i c1]
  · by_cases c2 : i < q + M.length
    · rw [if_pos c2, if_neg c1, if_pos (by omega)]
    · rw [if_neg c2, if_neg (by omega), atC_drop, show q + M.length + (i - (q + M.length)) = i by omega]
theorem OwnC.cur {w : World} {base g n cap : Nat} {L : List Ce} (h : OwnC w base (.slice (some ⟨g, 0, none⟩) n cap) L) (hn : L.length = n) :
    ∃ cur : Array Value, w.heap[g]? = some (.cells cur 114 (0, 0)) ∧ base ≤ g ∧ n ≤ cap ∧ cap ≤ maxLen ∧ cur.size = cap * 7 ∧ cur.toList.take (n * 7) = L.flatMap ceL := by
  subst hn
  rcases h.2 with ⟨h1, _⟩ | ⟨g', cap', cur, hv, hb, hg, hc, hm, hs, ht⟩
  · cases h1
  · simp only [Value.slice.injEq, Option.some.injEq, Addr.mk.injEq, and_true, true_and] at hv
    obtain ⟨rfl, rfl⟩ := hv
    exact ⟨cur, hg, hb, hc, hm, hs, ht⟩
theorem OwnC.relaid {w : World} {base g n cap : Nat} {L : List Ce} (h : OwnC w base (.slice (some ⟨g, 0, none⟩) n cap) L) (hn : L.length = n) (cur : Array Value) (hg : w.heap[g]? = some (.cells cur 114 (0, 0)))
    (q : Nat) (M : List Ce) (hq : q + M.length ≤ n) :
    OwnC (w.setRow g (cur.toList.take (q * 7) ++ M.flatMap ceL ++ cur.toList.drop (q * 7 + (M.flatMap ceL).length)).toArray) base (.slice (some ⟨g, 0, none⟩) n cap) (windL L q M) ∧
      w.grownBy (w.setRow g (cur.toList.take (q * 7) ++ M.flatMap ceL ++ cur.toList.drop (q * 7 + (M.flatMap ceL).length)).toArray) (some g) := by
  obtain ⟨cur', hg', hb, hc, hm, hs, ht⟩ := h.cur hn
  rw [hg] at hg'
  simp only [Option.some.injEq, Obj.cells.injEq, and_true] at hg'
  subst hg'
  have hl := windL_len L q M (by omega)
  refine ⟨⟨by rw [flat_len, hl], .inr ⟨g, cap, _, by rw [hl, hn], hb, setRow_heap w g cur _ 114 _ hg, by omega, hm, ?_, ?_⟩⟩, ⟨rfl, rfl, rfl, by simp [World.setRow], fun k _ hk => setRow_other w g k _ (fun e => hk (by simp [e]))⟩⟩
  · have : M.length * 7 ≤ n * 7 - q * 7 := by omega
    have : n * 7 ≤ cap * 7 := by omega
    rw [List.size_toArray, List.length_append, List.length_append, List.length_take, List.length_drop, flat_len, Array.length_toList, hs]; omega
  · rw [hl, hn]
    have e1 : cur.toList.take (q * 7) = (L.take q).flatMap ceL := by
      rw [← flat_take, ← ht, List.take_take, Nat.min_eq_left (by omega)]
    have e2 : (cur.toList.drop (q * 7 + (M.flatMap ceL).length)).take (n * 7 - (q + M.length) * 7) = (L.drop (q + M.length)).flatMap ceL := by
      rw [← flat_drop, ← ht, flat_len, ← Nat.add_mul, List.drop_take]
    unfold windL
    rw [List.flatMap_append, List.flatMap_append, ← e1, ← e2]
    have hl1 : (cur.toList.take (q * 7) ++ M.flatMap ceL).length = (q + M.length) * 7 := by
      rw [List.length_append, List.length_take, flat_len, Array.length_toList, hs]; omega
    rw [List.take_append, List.take_of_length_le (by rw [hl1]; omega), hl1]
theorem replC_flat (z : Ce) (k : Nat) : (Builtin.zeroCells (ceL z).toArray k).toList = (List.replicate k z).flatMap ceL := by
  apply List.ext_getElem?
  intro j
  have hl : (ceL z).length = 7 := rfl
  by_cases hj : j < k * 7
  · have h2 : j % 7 < 7 := Nat.mod_lt _ (by decide)
    have e := flat_get (List.replicate k z) (j / 7) (j % 7) (by simp; omega) h2
    rw [show j / 7 * 7 + j % 7 = j by omega] at e
    rw [e]
    have ea : atC (List.replicate k z) (j / 7) = z := by rw [atC_lt (by simp; omega)]; simp
    rw [ea]
    simp only [Builtin.zeroCells, List.size_toArray, hl]
    rw [Array.getElem?_toList, Array.getElem?_map, Array.getElem?_range]
    rw [if_pos hj]
    simp only [Option.map_some]
    rw [getElem!_pos _ _ (by simpa [hl] using h2)]
    simp
  · have h1 : ((Builtin.zeroCells (ceL z).toArray k).toList)[j]? = none := by
      apply List.getElem?_eq_none; simp [Builtin.zeroCells, hl]; omega
    have h2 : ((List.replicate k z).flatMap ceL)[j]? = none := by
      apply List.getElem?_eq_none; rw [flat_len]; simp; omega
    rw [h1, h2]
theorem under_cells : Tryz.prog.underlying 129 = some (.slice 114) := by kernel_rfl
theorem zero_cell (w : World) : (zeroValue 114).run Tryz.prog w = .ok (ceV Ce.zero) w := by
  obtain ⟨i, hi, hz, _⟩ := info_parts info_cell
  simp [zeroValue, typeInfo, hi, hz]
/-- 'clear' of a window. -/
theorem clear_oc {w : World} {ops : Array Oper} {rest : List Oper} {o : Oper} {ac : Act} {Q : Exit → Act → World → Prop} (hgd : o.guard = none) (s : Operand)
    (ho : o.op = .call { callee := .builtin .clear, args := #[s], argTypes := #[129] })
    (base g n cap q k c off : Nat) (L : List Ce) (h : OwnC w base (.slice (some ⟨g, 0, none⟩) n cap) L) (hn : L.length = n) (hq : q + k ≤ n) (hoff : off = q * 7) (hs : ac.eval s = .slice (some ⟨g, off, none⟩) k c)
    (hK : ∀ w', OwnC w' base (.slice (some ⟨g, 0, none⟩) n cap) (windL L q (List.replicate k Ce.zero)) → w.grownBy w' (some g) → wpList Tryz.prog ops Q rest (ac.put o.dst (.tuple #[])) w') :
    wpList Tryz.prog ops Q (o :: rest) ac w := by
  subst hoff
  refine wpList_plain hgd fun K hK' => ?_
  obtain ⟨cur, hg, hb, hc, hm, hsz, ht⟩ := h.cur hn
  have hwin := h.relaid hn cur hg q (List.replicate k Ce.zero) (by simpa using hq)
  by_cases h0 : k = 0
  · subst h0
    have hrun : ∀ ty, (Builtin.clear_ #[129] ty #[.slice (some ⟨g, q * 7, none⟩) 0 c]).run Tryz.prog w = .ok (.tuple #[]) w := fun ty => by
      simp [Builtin.clear_, run_underlying under_cells]
    unfold Oper.wp
    simp [execOp, ho, resolve, invoke, builtin, hs, hrun, Result.andThen]
    refine hK' _ _ (hK w ?_ ⟨rfl, rfl, rfl, Nat.le_refl _, fun _ _ _ => rfl⟩)
    have e : windL L q (List.replicate 0 Ce.zero) = L := by simp [windL]
    rw [e]; exact h
  · have hfl := flat_len (List.replicate k Ce.zero)
    rw [List.length_replicate] at hfl
    have hz : (ceV Ce.zero).cells = (ceL Ce.zero).toArray := rfl
    have hst := run_storeCells_at Tryz.prog g (q * 7) 114 ((List.replicate k Ce.zero).flatMap ceL) 0 cur w hg (by rw [hfl, hsz]; omega) (flat_one _)
    rw [Nat.add_zero] at hst
    obtain ⟨m, rfl⟩ : ∃ m, k = m + 1 := ⟨k - 1, by omega⟩
    have hrun : ∀ ty, (Builtin.clear_ #[129] ty #[.slice (some ⟨g, q * 7, none⟩) (m + 1) c]).run Tryz.prog w = .ok (.tuple #[]) (w.setRow g (cur.toList.take (q * 7) ++ (List.replicate (m + 1) Ce.zero).flatMap ceL ++ cur.toList.drop (q * 7 + ((List.replicate (m + 1) Ce.zero).flatMap ceL).length)).toArray) := fun ty => by
      simp only [Builtin.clear_]
      simp only [Sem.run_bind, run_underlying under_cells, Result.andThen_ok, zero_cell, hz, replC_flat, hst, List.getElem?_toArray, List.getElem?_cons_zero]
      simp
    unfold Oper.wp
    simp [execOp, ho, resolve, invoke, builtin, hs, hrun, Result.andThen]
    have := hK _ hwin.1 hwin.2
    simp at this
    exact hK' _ _ this
/-- 'make([]Cell, n)'. -/
theorem made_zero (n : Nat) : (madeCells (ceV Ce.zero).cells (n * 7)).toList = (List.replicate n Ce.zero).flatMap ceL := by
  apply List.ext_getElem?
  intro i
  by_cases hi : i < n * 7
  · have h1 : i / 7 < n := by omega
    have h2 : i % 7 < 7 := Nat.mod_lt _ (by decide)
    have e : i = i / 7 * 7 + i % 7 := by omega
    have hr : ((List.replicate n Ce.zero).flatMap ceL)[i]? = (ceL Ce.zero)[i % 7]? := by
      conv => lhs; rw [e]
      rw [flat_get _ (i / 7) (i % 7) (by simpa using h1) h2]
      simp [atC, h1]
    rw [hr]
    simp only [madeCells, Array.toList_map, List.getElem?_map, Array.toList_range]
    rw [List.getElem?_range hi]
    generalize he : i % 7 = k at *
    have hz : (ceV Ce.zero).cells.size = 7 := rfl
    simp only [Option.map_some, hz, he]
    match k, h2 with
    | 0, _ => rfl
    | 1, _ => rfl
    | 2, _ => rfl
    | 3, _ => rfl
    | 4, _ => rfl
    | 5, _ => rfl
    | 6, _ => rfl
  · rw [List.getElem?_eq_none (by simp [size_madeCells]; omega), List.getElem?_eq_none (by rw [flat_len]; simp; omega)]
theorem make_oc {w : World} {ops : Array Oper} {rest : List Oper} {o : Oper} {ac : Act} {Q : Exit → Act → World → Prop} (hgd : o.guard = none) (x y : Operand)
    (ho : o.op = Op.makeSlice 129 x y) (n : Nat) (hx : ac.eval x = .int .i64 (n : Int)) (hy : ac.eval y = .int .i64 (n : Int)) (hn : n ≤ 1073741824)
    (h : ∀ w', OwnC w' w.heap.size (.slice (some ⟨w.heap.size, 0, none⟩) n n) (List.replicate n Ce.zero) → Below w.heap.size w w' → wpList Tryz.prog ops Q rest (ac.put o.dst (.slice (some ⟨w.heap.size, 0, none⟩) n n)) w') :
    wpList Tryz.prog ops Q (o :: rest) ac w := by
  obtain ⟨i0, hi, hz0, hz1, hz2⟩ := info_parts info_cell
  refine wpList_make_full _ hgd x y 129 ho w.heap.size 114 i0 (ceV Ce.zero) 7 Tryz.underlying129 hi hz0 hz1 .i64 .i64 (n : Int) (n : Int) n hx hy rfl rfl (by rw [hz2]; omega) (by unfold maxLen; omega) (Nat.le_refl _) (fun w' ho' hg => ?_)
  refine h w' ?_ ((Below.refl _ _).grown hg (Nat.le_refl _) (fun k hk => by cases hk))
  rw [made_zero] at ho'
  unfold OwnC
  rw [List.length_replicate]
  exact ho'
/-- 'copy' into a window. -/
theorem run_copy_oc {w : World} (ty : TypeId) (base g n cap q : Nat) (L M : List Ce) (h : OwnC w base (.slice (some ⟨g, 0, none⟩) n cap) L) (hn : L.length = n) (dp sp : Option Addr) (dLen dCap sLen sCap : Nat) (hM : M.length = Nat.min sLen dLen) (hq : q + M.length ≤ n)
    (hpos : 0 < M.length → dp = some ⟨g, q * 7, none⟩ ∧ ∃ b off, sp = some ⟨b, off, none⟩ ∧ ∀ i, i < M.length → CeAt w b (off + i * 7) (atC M i)) :
    ∃ w', (Builtin.copy_ #[129, 129] ty #[.slice dp dLen dCap, .slice sp sLen sCap]).run Tryz.prog w = .ok (goInt M.length) w' ∧ OwnC w' base (.slice (some ⟨g, 0, none⟩) n cap) (windL L q M) ∧ w.grownBy w' (some g) := by
  obtain ⟨i0, hi, hz0, hz1, hz2⟩ := info_parts info_cell
  obtain ⟨cur, hg, hb, hc, hm, hsz, ht⟩ := h.cur hn
  have hwin := h.relaid hn cur hg q M hq
  by_cases h0 : M.length = 0
  · have hM0 : M = [] := List.eq_nil_of_length_eq_zero h0
    subst hM0
    have e : windL L q [] = L := by simp [windL]
    refine ⟨w, ?_, by rw [e]; exact h, ⟨rfl, rfl, rfl, Nat.le_refl _, fun _ _ _ => rfl⟩⟩
    have hm0 : Nat.min sLen dLen = 0 := by simpa using hM.symm
    cases sp <;> cases dp <;> simp [Builtin.copy_, run_underlying under_cells, Builtin.lenOf, Builtin.firstCells, sizeOf, typeInfo, hi, hm0, loadCells, loadCellsFrom, storeCells]
  · obtain ⟨rfl, b, off, rfl, hsrc⟩ := hpos (by omega)
    refine ⟨_, ?_, hwin.1, hwin.2⟩
    have hl := run_loadCells_list (P := Tryz.prog) w ⟨b, off, none⟩ (M.flatMap ceL) (fun j v hj => by rw [Addr.add_mid]; exact flat_cells hsrc j v hj)
    rw [flat_len] at hl
    have hst := run_storeCells_at Tryz.prog g (q * 7) 114 (M.flatMap ceL) 0 cur w hg (by rw [flat_len, hsz]; omega) (flat_one _)
    rw [Nat.add_zero] at hst
    simp [Builtin.copy_, run_underlying under_cells, Builtin.lenOf, Builtin.firstCells, sizeOf, typeInfo, hi, hz1, ← hM, hl, hst]
theorem copy_oc {w : World} {ops : Array Oper} {rest : List Oper} {o : Oper} {ac : Act} {Q : Exit → Act → World → Prop} (hgd : o.guard = none) (d s : Operand)
    (ho : o.op = .call { callee := .builtin .copy, args := #[d, s], argTypes := #[129, 129] })
    (base g n cap q : Nat) (L M : List Ce) (h : OwnC w base (.slice (some ⟨g, 0, none⟩) n cap) L) (hn : L.length = n) (dp sp : Option Addr) (dLen dCap sLen sCap : Nat) (hd : ac.eval d = .slice dp dLen dCap) (hs : ac.eval s = .slice sp sLen sCap) (hM : M.length = Nat.min sLen dLen) (hq : q + M.length ≤ n)
    (hpos : 0 < M.length → dp = some ⟨g, q * 7, none⟩ ∧ ∃ b off, sp = some ⟨b, off, none⟩ ∧ ∀ i, i < M.length → CeAt w b (off + i * 7) (atC M i))
    (hK : ∀ w', OwnC w' base (.slice (some ⟨g, 0, none⟩) n cap) (windL L q M) → w.grownBy w' (some g) → wpList Tryz.prog ops Q rest (ac.put o.dst (goInt M.length)) w') :
    wpList Tryz.prog ops Q (o :: rest) ac w := by
  refine wpList_plain hgd fun K hK' => ?_
  obtain ⟨w', hrun, h1, h2⟩ := run_copy_oc (w := w) o.type base g n cap q L M h hn dp sp dLen dCap sLen sCap hM hq hpos
  unfold Oper.wp
  simp [execOp, ho, resolve, invoke, builtin, hd, hs, hrun, Result.andThen]
  exact hK' _ _ (hK w' h1 h2)
/-- Rune and style of one cell are written, its part stays. -/
def putRS (w : World) (g o : Nat) (r : Int) (s : St) : World :=
  (((((w.setCell ⟨g, o, none⟩ (.int .i64 r)).setCell ⟨g, o + 1, none⟩ (.int .i64 s.fore)).setCell ⟨g, o + 2, none⟩ (.int .i64 s.back)).setCell ⟨g, o + 3, none⟩ (.bool s.bold)).setCell ⟨g, o + 4, none⟩ (.bool s.under)).setCell ⟨g, o + 5, none⟩ (.bool s.turned)
theorem flat_set6 (xs : List Ce) (r : Int) (s : St) : ∀ i, i < xs.length → (((((((xs.flatMap ceL).set (i * 7) (.int .i64 r)).set (i * 7 + 1) (.int .i64 s.fore)).set (i * 7 + 2) (.int .i64 s.back)).set (i * 7 + 3) (.bool s.bold)).set (i * 7 + 4) (.bool s.under)).set (i * 7 + 5) (.bool s.turned)) = (xs.set i ⟨r, s, (atC xs i).part⟩).flatMap ceL := by
  induction xs with
  | nil => intro i h; simp at h
  | cons d xs ih =>
    intro i h
    cases i with
    | zero => simp [ceL, atC]
    | succ i =>
      have e : ∀ k, (i + 1) * 7 + k = (i * 7 + k) + 7 := fun k => by omega
      have e0 : (i + 1) * 7 = (i * 7) + 7 := by omega
      rw [e 1, e 2, e 3, e 4, e 5, e0]
      have hs : ∀ (m : Nat) (u : Value) (l : List Value), ((ceL d ++ l).set (m + 7) u) = ceL d ++ l.set m u := fun m u l => by
        rw [List.set_append, if_neg (by simp [ceL])]
        simp [ceL]
      have e1 : atC (d :: xs) (i + 1) = atC xs i := by simp [atC]
      rw [List.flatMap_cons, hs, hs, hs, hs, hs, hs, ih i (by simpa using h), List.set_cons_succ, List.flatMap_cons, e1]
theorem OwnC.putRS {w : World} {base g n cap : Nat} {xs : List Ce} (h : OwnC w base (.slice (some ⟨g, 0, none⟩) n cap) xs) (hn : xs.length = n) (i : Nat) (hi : i < n) (r : Int) (s : St) :
    OwnC (putRS w g (i * 7) r s) base (.slice (some ⟨g, 0, none⟩) n cap) (xs.set i ⟨r, s, (atC xs i).part⟩) ∧ w.grownBy (Proofs.YtdbpjfdlibodcaaGreatDoor.putRS w g (i * 7) r s) (some g) := by
  subst hn
  have h0 := World.ownsRow.stored h (i * 7) (.int .i64 r)
  have h1 := World.ownsRow.stored h0.1 (i * 7 + 1) (.int .i64 s.fore)
  have h2 := World.ownsRow.stored h1.1 (i * 7 + 2) (.int .i64 s.back)
  have h3 := World.ownsRow.stored h2.1 (i * 7 + 3) (.bool s.bold)
  have h4 := World.ownsRow.stored h3.1 (i * 7 + 4) (.bool s.under)
  have h5 := World.ownsRow.stored h4.1 (i * 7 + 5) (.bool s.turned)
  refine ⟨?_, grown_tr (grown_tr (grown_tr (grown_tr (grown_tr h0.2 h1.2) h2.2) h3.2) h4.2) h5.2⟩
  have := h5.1
  rw [flat_set6 xs r s i hi] at this
  unfold OwnC Proofs.YtdbpjfdlibodcaaGreatDoor.putRS
  rw [List.length_set]
  exact this
theorem ownC_none (w : World) (base : Nat) : OwnC w base (.slice none 0 0) [] := ⟨rfl, .inl ⟨rfl, rfl⟩⟩
end Go.Proofs.YtdbpjfdlibodcaaGreatDoor
namespace Go.Proofs.YtdbpjfdlibodcaaGreatDoor
open Go.ChangeShapes Go.WideShapes Go.ChangeAt Go.RowKit
set_option maxHeartbeats 2000000 in
theorem toCS_copy (v : Value) (xs : List Ce) (w : World) (hv : SlC w v xs) (hl : xs.length ≤ 1073741824) :
    Calls Tryz.prog 132 #[v] w fun e w' => ∃ u, e = .returned u ∧ OwnC w' w.heap.size u xs ∧ Below w.heap.size w w' := by
  have hto := fun c W => toCell_any c W
  unfold ceV at hto
  obtain ⟨a, c, rfl, hc0⟩ := id hv
  clear hc0
  go_enter Tryz.func132, Tryz.ntmps132
  go_wp2_with (refine make_oc rfl _ _ rfl xs.length rfl rfl hl ?_; intro w1 ho1 hb1)
  go_wp2
  go_loopw [4] (fun i wr => ∃ (j : Nat) (ys : List Ce), i = .int .i64 j ∧ j ≤ xs.length ∧ ys.length = xs.length ∧ (∀ t, t < j → atC ys t = atC xs t) ∧ OC w.heap.size (.slice (some ⟨w.heap.size, 0, none⟩) xs.length xs.length) ys w wr) (fun i _ => xs.length - (intOf i).toNat)
  case atStart => exact ⟨0, _, rfl, Nat.zero_le _, List.length_replicate, (fun t h => absurd h (Nat.not_lt_zero t)), ho1, hb1, hb1.size, Nat.le_refl _⟩
  case round =>
    clear ho1 hb1
    obtain ⟨j, ys, rfl, hj, hyl, hys, k⟩ := hrel
    by_cases hlt : j < xs.length
    · have hji : (j : Int) < (xs.length : Int) := by omega
      have hj0 : (0 : Int) ≤ (j : Int) := by omega
      obtain ⟨b, off, rfl, hbb, hat⟩ := (hv.below k.2.1).at j hlt
      obtain ⟨c0, c1, c2, c3, c4, c5, c6⟩ := hat
      go_wp2_with fail
      refine (hto (atC xs j) _).mono ?_
      rintro e w2 ⟨rfl, hb2⟩
      have k2 := k.below hb2
      have hp := k2.1.put hyl j hlt (atC xs j)
      have kk : OC w.heap.size (.slice (some ⟨w.heap.size, 0, none⟩) xs.length xs.length) (ys.set j (atC xs j)) w (putCe w2 w.heap.size (j * 7) (atC xs j)) := k2.own hp.1 hp.2
      have hys2 : ∀ t, t < j + 1 → atC (ys.set j (atC xs j)) t = atC xs t := by
        intro t ht
        rw [atC_set]
        by_cases e : t = j
        · subst e; rw [if_pos ⟨rfl, by omega⟩]
        · rw [if_neg (fun h => e h.1)]; exact hys t (by omega)
      have hyl2 : (ys.set j (atC xs j)).length = xs.length := by simpa using hyl
      have hat := k2.1.at hyl j hlt
      have f0 := k2.1.frozen hyl (j * 7)
      have f1 := k2.1.frozen hyl (j * 7 + 1)
      have f2 := k2.1.frozen hyl (j * 7 + 2)
      have f3 := k2.1.frozen hyl (j * 7 + 3)
      have f4 := k2.1.frozen hyl (j * 7 + 4)
      have f5 := k2.1.frozen hyl (j * 7 + 5)
      have f6 := k2.1.frozen hyl (j * 7 + 6)
      clear hp k hb2 hto hys c0 c1 c2 c3 c4 c5 c6 k2 hv hyl
      generalize ys.set j (atC xs j) = ys2 at *
      obtain ⟨c0, c1, c2, c3, c4, c5, c6⟩ := hat
      simp only [putCe] at kk
      go_wp2
      go_roundw
      case rel => exact ⟨j + 1, ys2, by go_num, by omega, hyl2, hys2, kk⟩
      case measure => simp [intOf]; omega
    · have hjn : j = xs.length := by omega
      have hji : ¬ (j : Int) < (xs.length : Int) := by omega
      have hye : ys = xs := ext_atC _ _ hyl (fun i hi => hys i (by omega))
      subst hye
      clear hys hyl hv hto
      go_wp2
      go_ret
      exact ⟨_, rfl, k.1, k.2.1⟩
end Go.Proofs.YtdbpjfdlibodcaaGreatDoor
namespace Go.Proofs.YtdbpjfdlibodcaaGreatDoor
open Go.ChangeShapes Go.WideShapes Go.ChangeAt Go.RowKit
theorem rowV_set {vs : List Value} {i : Nat} (hi : i < vs.length) (r : Value) (k : Nat) : rowV (vs.set i r) k = if k = i then r else rowV vs k := by
  unfold rowV
  by_cases e : k = i
  · subst e; rw [if_pos rfl]; simp [List.getD, hi]
  · rw [if_neg e]; simp [List.getD, Ne.symm e]
theorem rowX_set {rows : List (List Ce)} {i : Nat} (hi : i < rows.length) (x : List Ce) (k : Nat) : rowX (rows.set i x) k = if k = i then x else rowX rows k := by
  unfold rowX
  by_cases e : k = i
  · subst e; rw [if_pos rfl]; simp [List.getD, hi]
  · rw [if_neg e]; simp [List.getD, Ne.symm e]
/-- One row is written anew. -/
theorem OwnG.set {w : World} {base B g n cap : Nat} {rows : List (List Ce)} (h : OwnG w base B (.slice (some ⟨g, 0, none⟩) n cap) rows) (hn : rows.length = n) (i : Nat) (hi : i < n) (r : Value) (xs : List Ce) (hr : OwnC w base r xs) (hB : ∀ q, r.ownBlock = some q → B ≤ q) :
    OwnG (w.setCell ⟨g, i, none⟩ r) base (w.setCell ⟨g, i, none⟩ r).heap.size (.slice (some ⟨g, 0, none⟩) n cap) (rows.set i xs) ∧ w.grownBy (w.setCell ⟨g, i, none⟩ r) (some g) := by
  subst hn
  obtain ⟨vs, hvl, hown, hrs, hlt, hd⟩ := h
  have h0 := World.ownsRow.stored hown i r
  have hap : ∀ {u : Value} {ys : List Ce}, OwnC w base u ys → OwnC (w.setCell ⟨g, i, none⟩ r) base u ys := fun hu => hu.kept h0.2 (outer_apart hown hu)
  have hs2 := h0.2.size
  refine ⟨⟨vs.set i r, by simp [hvl], by rw [List.length_set]; exact h0.1, fun k hk => ?_, fun k hk q e => ?_, fun a b hab hb q e => ?_⟩, h0.2⟩
  · rw [List.length_set] at hk
    rw [rowV_set (by omega), rowX_set hi]
    by_cases e : k = i
    · rw [if_pos e, if_pos e]; exact hap hr
    · rw [if_neg e, if_neg e]; exact hap (hrs k hk)
  · rw [List.length_set] at hk
    rw [rowV_set (by omega)] at e
    by_cases c : k = i
    · rw [if_pos c] at e; have := (hr.lt q e).2; omega
    · rw [if_neg c] at e; have := ((hrs k hk).lt q e).2; omega
  · rw [List.length_set] at hb
    rw [rowV_set (by omega)] at e
    rw [rowV_set (by omega)]
    by_cases c : a = i
    · rw [if_pos c] at e
      rw [if_neg (by omega)]
      intro e2
      have := hlt b hb q e2
      have := hB q e
      omega
    · rw [if_neg c] at e
      by_cases c2 : b = i
      · rw [if_pos c2]
        intro e2
        have := hlt a (by omega) q e
        have := hB q e2
        omega
      · rw [if_neg c2]; exact hd a b hab hb q e
theorem made_none (n : Nat) : (madeCells (Value.slice none 0 0).cells (n * 1)).toList = List.replicate n (Value.slice none 0 0) := by
  apply List.ext_getElem?
  intro i
  by_cases hi : i < n
  · simp [madeCells, Value.cells, hi, Nat.mod_one]
  · simp [madeCells, Value.cells, hi]
theorem make_og {w : World} {ops : Array Oper} {rest : List Oper} {o : Oper} {ac : Act} {Q : Exit → Act → World → Prop} (hgd : o.guard = none) (x y : Operand)
    (ho : o.op = Op.makeSlice 38 x y) (n : Nat) (hx : ac.eval x = .int .i64 (n : Int)) (hy : ac.eval y = .int .i64 (n : Int)) (hn : n ≤ 1073741824)
    (h : ∀ w', OwnG w' w.heap.size w'.heap.size (.slice (some ⟨w.heap.size, 0, none⟩) n n) (List.replicate n []) → Below w.heap.size w w' → wpList Tryz.prog ops Q rest (ac.put o.dst (.slice (some ⟨w.heap.size, 0, none⟩) n n)) w') :
    wpList Tryz.prog ops Q (o :: rest) ac w := by
  obtain ⟨i0, hi, hz0, hz1, hz2⟩ := info_parts info_row
  refine wpList_make_full _ hgd x y 38 ho w.heap.size 129 i0 (.slice none 0 0) 1 under_rows hi hz0 hz1 .i64 .i64 (n : Int) (n : Int) n hx hy rfl rfl (by rw [hz2]; omega) (by unfold maxLen; omega) (Nat.le_refl _) (fun w' ho' hg => ?_)
  rw [made_none] at ho'
  have hv : ∀ i, rowV (List.replicate n (Value.slice none 0 0)) i = .slice none 0 0 := fun i => by
    unfold rowV; by_cases hi : i < n <;> simp [List.getD, hi]
  have hr : ∀ i, rowX (List.replicate n ([] : List Ce)) i = [] := fun i => by
    unfold rowX; by_cases hi : i < n <;> simp [List.getD, hi]
  have hG : OwnG w' w.heap.size w'.heap.size (.slice (some ⟨w.heap.size, 0, none⟩) n n) (List.replicate n []) :=
    ⟨List.replicate n (.slice none 0 0), by simp, by rw [List.length_replicate]; exact ho', fun i _ => by rw [hv, hr]; exact ownC_none _ _, (fun i _ g e => by rw [hv] at e; cases e), (fun i j _ _ g e => by rw [hv] at e; cases e)⟩
  exact h w' hG ((Below.refl _ _).grown hg (Nat.le_refl _) (fun k hk => by cases hk))
end Go.Proofs.YtdbpjfdlibodcaaGreatDoor
namespace Go.Proofs.YtdbpjfdlibodcaaGreatDoor
open Go.ChangeShapes Go.WideShapes Go.ChangeAt Go.RowKit
set_option maxHeartbeats 2000000 in
theorem toCSS_copy (v : Value) (rows : List (List Ce)) (w : World) (hv : SlG w v rows) (hl : rows.length ≤ 1073741824) (hx : ∀ i, i < rows.length → (rowX rows i).length ≤ 1073741824) :
    Calls Tryz.prog 75 #[v] w fun e w' => ∃ u, e = .returned u ∧ OwnG w' w.heap.size w'.heap.size u rows ∧ Below w.heap.size w w' := by
  obtain ⟨a, c, vs, rfl, hcp, _, hr, hs⟩ := id hv
  go_enter Tryz.func75, Tryz.ntmps75
  go_wp2_with (refine make_og rfl _ _ rfl rows.length rfl rfl hl ?_; intro w1 ho1 hb1)
  go_wp2
  go_loopw [4] (fun i wr => ∃ (j : Nat) (R : List (List Ce)), i = .int .i64 j ∧ j ≤ rows.length ∧ R.length = rows.length ∧ (∀ t, t < j → rowX R t = rowX rows t) ∧ OwnG wr w.heap.size wr.heap.size (.slice (some ⟨w.heap.size, 0, none⟩) rows.length rows.length) R ∧ Below w.heap.size w wr) (fun i _ => rows.length - (intOf i).toNat)
  case atStart => exact ⟨0, _, rfl, Nat.zero_le _, List.length_replicate, (fun t h => absurd h (Nat.not_lt_zero t)), ho1, hb1⟩
  case round =>
    clear ho1 hb1
    obtain ⟨j, R, rfl, hj, hRl, hR, k, kb⟩ := hrel
    by_cases hlt : j < rows.length
    · have hji : (j : Int) < (rows.length : Int) := by omega
      have hj0 : (0 : Int) ≤ (j : Int) := by omega
      rcases hr with h | ⟨b, off, rfl, hbb, hrc⟩
      · rw [h] at hlt; simp at hlt
      have hsj := (hs j hlt).below kb
      have hcj := (kb.cell (p := ⟨b, off + j, none⟩) hbb).trans (hrc j hlt)
      obtain ⟨aj, cj, ev, _⟩ := id hsj
      rw [ev] at hcj hsj
      have hto := toCS_copy _ _ wr hsj (hx j hlt)
      clear hs hrc ev hsj hv
      go_wp2_with fail
      refine hto.mono ?_
      rintro e w2 ⟨r, rfl, hor, hb2⟩
      have hk2 := (k.below hb2).set hRl j hlt r _ (hor.low kb.size) (fun q e => (hor.lt q e).1)
      have hw0 : ∃ cur, w2.cell? ⟨w.heap.size, j, none⟩ = some cur := by
        obtain ⟨vs2, hvl2, hown2, _⟩ := k.below hb2
        rw [hRl] at hown2
        exact ⟨_, by rw [World.ownsRow.cellAt hown2 j (by omega), rowV_get (by omega)]⟩
      have hfz : w2.frozen? ⟨w.heap.size, j, none⟩ = false := by
        obtain ⟨vs2, hvl2, hown2, _⟩ := k.below hb2
        rw [hRl] at hown2
        exact World.ownsRow.frozenAt hown2 j
      have kb3 := (kb.trans (hb2.mono kb.size)).grown hk2.2 (by have := kb.size; have := hb2.size; omega) (fun g e => by cases e; exact Nat.le_refl _)
      have hR2 : ∀ t, t < j + 1 → rowX (R.set j (rowX rows j)) t = rowX rows t := fun t ht => by
        rw [rowX_set (by omega)]
        by_cases e : t = j
        · rw [if_pos e, e]
        · rw [if_neg e]; exact hR t (by omega)
      have hRl2 : (R.set j (rowX rows j)).length = rows.length := by simpa using hRl
      have kk := hk2.1
      obtain ⟨cur, hcur⟩ := hw0
      obtain ⟨ra, rn, rc, rfl⟩ : ∃ a n c, r = Value.slice a n c := by rcases hor.shape with ⟨h, _⟩ | ⟨_, _, h, _⟩ <;> exact ⟨_, _, _, h⟩
      clear k kb hor hb2 hto hk2 hR hRl hcj
      generalize R.set j (rowX rows j) = R2 at *
      go_wp2
      go_roundw
      case rel => exact ⟨j + 1, R2, by go_num, by omega, hRl2, hR2, kk, kb3⟩
      case measure => simp [intOf]; omega
    · have hjn : j = rows.length := by omega
      have hji : ¬ (j : Int) < (rows.length : Int) := by omega
      have hye : R = rows := by
        apply List.ext_getElem hRl
        intro i h1 h2
        rw [← rowX_lt h1, ← rowX_lt h2]
        exact hR i (by omega)
      subst hye
      clear hs hr hR hv
      go_wp2
      go_ret
      exact ⟨_, rfl, k, kb⟩
end Go.Proofs.YtdbpjfdlibodcaaGreatDoor
namespace Go.Proofs.YtdbpjfdlibodcaaGreatDoor
open Go.ChangeShapes Go.WideShapes Go.ChangeAt Go.RowKit
/-- A new grid that grows beside the result's block. -/
def NG (M B : Nat) (cols : Int) (u : Value) (rows : List (List Ce)) (w0 W : World) : Prop :=
  GrW W M 0 (.slice none 0 0) ∧ GrW W (M + 1) cols u ∧ OwnG W (M + 2) B u rows ∧ M + 2 ≤ W.heap.size ∧ B ≤ W.heap.size ∧ Below M w0 W
theorem NG.below {M B : Nat} {cols : Int} {u : Value} {rows : List (List Ce)} {w0 W W' : World} (k : NG M B cols u rows w0 W) (hb : Below W.heap.size W W') : NG M B cols u rows w0 W' :=
  ⟨k.1.below hb, k.2.1.below hb, k.2.2.1.below hb, Nat.le_trans k.2.2.2.1 hb.size, Nat.le_trans k.2.2.2.2.1 hb.size, k.2.2.2.2.2.trans (hb.mono (by have := k.2.2.2.1; omega))⟩
theorem NG.drew {M B : Nat} {cols : Int} {u : Value} {rows : List (List Ce)} {w0 W : World} (k : NG M B cols u rows w0 W) : NG M B cols u rows w0 W.drew := k.below (bdr W)
theorem NG.more {M B : Nat} {cols : Int} {u v' : Value} {rows rows' : List (List Ce)} {w0 W W' : World} (k : NG M B cols u rows w0 W) (ho : OwnG W' (M + 2) W'.heap.size v' rows') (hg : W.grownBy W' u.ownBlock) :
    GrW W' M 0 (.slice none 0 0) ∧ GrW W' (M + 1) cols u ∧ OwnG W' (M + 2) W'.heap.size v' rows' ∧ M + 2 ≤ W'.heap.size ∧ W'.heap.size ≤ W'.heap.size ∧ Below M w0 W' := by
  have hne : ∀ g, u.ownBlock = some g → M + 2 ≤ g := fun g e => (k.2.2.1.lt g e).1
  refine ⟨k.1.grown hg (fun e => by have := hne _ e; omega), k.2.1.grown hg (fun e => by have := hne _ e; omega), ho, Nat.le_trans k.2.2.2.1 hg.size, Nat.le_refl _, ?_⟩
  exact k.2.2.2.2.2.grown hg (by have := k.2.2.2.1; omega) (fun g e => by have := hne g e; omega)
theorem ng_put {M : Nat} {cols : Int} {u : Value} {rows : List (List Ce)} {w0 W : World} {v' : Value} (k : GrW W M 0 (.slice none 0 0) ∧ GrW W (M + 1) cols u ∧ OwnG W (M + 2) W.heap.size v' rows ∧ M + 2 ≤ W.heap.size ∧ W.heap.size ≤ W.heap.size ∧ Below M w0 W) :
    NG M (putG W (M + 1) v').heap.size cols v' rows w0 (putG W (M + 1) v') := by
  have hg := putG_grown W (M + 1) v'
  refine ⟨k.1.grown hg (fun e => by cases e), k.2.1.put v', ((k.2.2.1).kept hg (fun g e => by cases e; omega)).up hg.size, Nat.le_trans k.2.2.2.1 hg.size, Nat.le_refl _, ?_⟩
  exact k.2.2.2.2.2.grown hg (by have := k.2.2.2.1; omega) (fun g e => by cases e; omega)
set_option maxHeartbeats 4000000 in
theorem l5New_any (cols n : Nat) (w : World) (hc : cols ≤ 1000) (hn : n ≤ 1000) :
    Calls Tryz.prog 107 #[.int .i64 cols, .int .i64 n] w fun e w' => ∃ u, e = .returned (gridV cols u) ∧ OwnG w' w.heap.size w'.heap.size u (newR cols n) ∧ Below w.heap.size w w' := by
  have hrow := fun W => l4Row_any cols St.zero W hc
  unfold stV at hrow
  simp only [St.zero] at hrow
  have k0 : NG w.heap.size ((w.alloc (Obj.cells #[Value.int IntKind.i64 0, Value.slice none 0 0] 40)).alloc (Obj.cells #[Value.int IntKind.i64 cols, Value.slice none 0 0] 40)).heap.size cols (.slice none 0 0) [] w ((w.alloc (Obj.cells #[Value.int IntKind.i64 0, Value.slice none 0 0] 40)).alloc (Obj.cells #[Value.int IntKind.i64 cols, Value.slice none 0 0] 40)) := by
    have h1 := GrW.new w 0 (.slice none 0 0) 40
    have h2 := GrW.new (w.alloc (Obj.cells #[Value.int IntKind.i64 0, Value.slice none 0 0] 40)) cols (.slice none 0 0) 40
    have hb1 := bal' w (Obj.cells #[Value.int IntKind.i64 0, Value.slice none 0 0] 40)
    have e : (w.alloc (Obj.cells #[Value.int IntKind.i64 0, Value.slice none 0 0] 40)).heap.size = w.heap.size + 1 := by simp
    rw [e] at h2
    exact ⟨h1.below (bal' _ _), h2, ownG_none _ _ _, by simp, Nat.le_refl _, hb1.trans ((bal' _ _).mono (by simp))⟩
  go_enter Tryz.func107, Tryz.ntmps107
  go_wp2
  go_loopw [6] (fun i wr => ∃ j : Nat, i = .int .i64 j ∧ j ≤ n ∧ ∃ u, NG w.heap.size wr.heap.size cols u (newR cols j) w wr) (fun i _ => n - (intOf i).toNat)
  case atStart => exact ⟨0, rfl, Nat.zero_le _, _, k0⟩
  case round =>
    clear k0
    obtain ⟨j, rfl, hj, u, k⟩ := hrel
    by_cases hlt : j < n
    · have hji : (j : Int) < (n : Int) := by omega
      have hsn : Hid (newR cols (j + 1) = newR cols j ++ [rowL cols St.zero]) := newR_snoc cols j
      have hlr : (newR cols j).length < 2000000 := by simp [newR]; omega
      generalize hBB : wr.heap.size = B at k
      generalize newR cols j = rows at *
      obtain ⟨⟨_, ⟨d0, d1⟩, ⟨y0, y1⟩⟩, ⟨_, ⟨c0, c1⟩, ⟨z0, z1⟩⟩, _⟩ := id k
      go_wp2
      refine wp_region_noPanic ?_
      refine wp_region_held_drew (S := fun _ => True) (by kernel_rfl) trivial (fun hHeld => ?_)
      refine' wpAnyH_take (i := 0) (v := _) rfl (by kernel_rfl) (by kernel_rfl) (by kernel_rfl) (fun _ _ _ h => h) (Or.inl ⟨by rfl, ?hy1⟩) hHeld ?hr1
      case hy1 => (intro w hSw; (try dsimp only at hSw); go_simp; (try with_reducible rfl))
      simp only [Act.put, List.setIfInBounds_toArray, List.set_cons_zero, List.set_cons_succ, List.getElem_toArray, List.getElem_cons_zero]
      refine' wpAnyH_take (i := 2) (v := _) rfl (by kernel_rfl) (by kernel_rfl) (by kernel_rfl) (fun _ _ _ h => h) (Or.inl ⟨by rfl, ?hy2⟩) hHeld ?hr2
      case hy2 => (intro w hSw; (try dsimp only at hSw); go_simp; (try with_reducible rfl))
      simp only [Act.put, List.setIfInBounds_toArray, List.set_cons_zero, List.set_cons_succ, List.getElem_toArray, List.getElem_cons_zero, List.getElem_cons_succ]
      refine' wpAnyH_take (i := 3) (v := _) rfl (by kernel_rfl) (by kernel_rfl) (by kernel_rfl) (fun _ _ _ h => h) (Or.inl ⟨by rfl, ?hy3⟩) hHeld ?hr3
      case hy3 => (intro w hSw; (try dsimp only at hSw); go_simp; (try with_reducible rfl))
      simp only [Act.put, List.setIfInBounds_toArray, List.set_cons_zero, List.set_cons_succ, List.getElem_toArray, List.getElem_cons_zero, List.getElem_cons_succ]
      refine wpAnyH_ready (rs := [1, 4]) (by kernel_rfl) (by simp) (AllReadyH.cons rfl (fun K hK => ?_) (AllReadyH.cons rfl (fun K hK => ?_) AllReadyH.nil))
      · go_simp
        refine hK.out _ _ trivial (fun hHeld => ?_)
        clear hK K
        (try simp only [Act.put, List.setIfInBounds_toArray, List.set_cons_zero, List.set_cons_succ, List.getElem_toArray, List.getElem_cons_zero, List.getElem_cons_succ])
        refine wpAnyH_ready (rs := [4]) (by kernel_rfl) (by simp) (AllReadyH.cons rfl (fun K hK => ?_) AllReadyH.nil)
        go_simp
        refine (hrow _).mono ?_
        rintro e w2 ⟨r, rfl, hor, hb2⟩
        have k2 := k.drew.below hb2
        have hB2 : ∀ g, r.ownBlock = some g → B ≤ g := fun g e => Nat.le_trans k.2.2.2.2.1 ((hor.lt g e).1)
        have hor2 := hor.low k.2.2.2.1
        clear hor hb2 k hrow
        obtain ⟨⟨_, ⟨d0, d1⟩, ⟨y0, y1⟩⟩, ⟨_, ⟨c0, c1⟩, ⟨z0, z1⟩⟩, _⟩ := id k2
        obtain ⟨ra, rn, rc, rfl⟩ : ∃ a n c, r = Value.slice a n c := by rcases hor2.shape with ⟨h, _⟩ | ⟨_, _, h, _⟩ <;> exact ⟨_, _, _, h⟩
        go_wp2_with fail
        refine hK.out _ _ trivial (fun hHeld => ?_)
        clear hK K
        (try simp only [Act.put, List.setIfInBounds_toArray, List.set_cons_zero, List.set_cons_succ, List.getElem_toArray, List.getElem_cons_zero, List.getElem_cons_succ])
        refine wpAnyH_ready (rs := [5]) (by kernel_rfl) (by simp) (AllReadyH.cons rfl (fun K hK => ?_) AllReadyH.nil)
        go_simp
        refine hK.out _ _ trivial (fun hHeld => ?_)
        clear hK K
        (try simp only [Act.put, List.setIfInBounds_toArray, List.set_cons_zero, List.set_cons_succ, List.getElem_toArray, List.getElem_cons_zero, List.getElem_cons_succ])
        refine wpAnyH_ready (rs := [6]) (by kernel_rfl) (by simp) (AllReadyH.cons rfl (fun K hK => ?_) AllReadyH.nil)
        refine step_append_og (by rfl) _ _ (by rfl) (w.heap.size + 2) B _ _ _ _ (by rfl) k2.2.2.1 hor2 hB2 k2.2.2.2.1 hlr _ rfl (by rfl) ?_
        intro v' w' ho' hg'
        have k4 := (k2.below (bal' _ _)).more ho' hg'
        clear k2 ho' hg' hor2 hB2 d0 d1 y0 y1 c0 c1 z0 z1
        obtain ⟨⟨_, ⟨d0, d1⟩, ⟨y0, y1⟩⟩, ⟨_, ⟨c0, c1⟩, ⟨z0, z1⟩⟩, _⟩ := id k4
        obtain ⟨va, vn, vc, rfl⟩ : ∃ a n c, v' = Value.slice a n c := by rcases k4.2.2.1.shape with ⟨h, _⟩ | ⟨_, _, h, _⟩ <;> exact ⟨_, _, _, h⟩
        refine hK.out _ _ trivial (fun hHeld => ?_)
        clear hK K
        (try simp only [Act.put, List.setIfInBounds_toArray, List.set_cons_zero, List.set_cons_succ, List.getElem_toArray, List.getElem_cons_zero, List.getElem_cons_succ])
        refine' wpAnyH_take (i := 7) (v := _) rfl (by kernel_rfl) (by kernel_rfl) (by kernel_rfl) (fun _ _ _ h => h) (Or.inl ⟨by rfl, ?hy4⟩) hHeld ?hr4
        case hy4 => (intro w hSw; (try dsimp only at hSw); go_simp; (try with_reducible rfl))
        simp only [Act.put, List.setIfInBounds_toArray, List.set_cons_zero, List.set_cons_succ, List.getElem_toArray, List.getElem_cons_zero, List.getElem_cons_succ]
        refine wpAnyH_ready (rs := [8]) (by kernel_rfl) (by simp) (AllReadyH.cons rfl (fun K hK => ?_) AllReadyH.nil)
        go_simp
        refine hK.out _ _ trivial (fun hHeld => ?_)
        clear hK K
        (try simp only [Act.put, List.setIfInBounds_toArray, List.set_cons_zero, List.set_cons_succ, List.getElem_toArray, List.getElem_cons_zero, List.getElem_cons_succ])
        refine wpAnyH_done (by kernel_rfl) ?_ _
        refine NoPanic.normal ?_
        have k5 := ng_put k4
        simp only [putG] at k5
        clear k4 d0 d1 y0 y1 c0 c1 z0 z1
        go_wp2
        go_roundw
        case rel => exact ⟨j + 1, by go_num, by omega, _, by rw [hsn.out]; exact k5⟩
        case measure => simp [intOf]; omega
      · go_simp
        refine (hrow _).mono ?_
        rintro e w2 ⟨r, rfl, hor, hb2⟩
        have k2 := k.drew.below hb2
        have hB2 : ∀ g, r.ownBlock = some g → B ≤ g := fun g e => Nat.le_trans k.2.2.2.2.1 ((hor.lt g e).1)
        have hor2 := hor.low k.2.2.2.1
        clear hor hb2 k hrow
        obtain ⟨⟨_, ⟨d0, d1⟩, ⟨y0, y1⟩⟩, ⟨_, ⟨c0, c1⟩, ⟨z0, z1⟩⟩, _⟩ := id k2
        obtain ⟨ra, rn, rc, rfl⟩ : ∃ a n c, r = Value.slice a n c := by rcases hor2.shape with ⟨h, _⟩ | ⟨_, _, h, _⟩ <;> exact ⟨_, _, _, h⟩
        go_wp2_with fail
        refine hK.out _ _ trivial (fun hHeld => ?_)
        clear hK K
        (try simp only [Act.put, List.setIfInBounds_toArray, List.set_cons_zero, List.set_cons_succ, List.getElem_toArray, List.getElem_cons_zero, List.getElem_cons_succ])
        refine wpAnyH_ready (rs := [1, 5]) (by kernel_rfl) (by simp) (AllReadyH.cons rfl (fun K hK => ?_) (AllReadyH.cons rfl (fun K hK => ?_) AllReadyH.nil))
        · go_simp
          refine hK.out _ _ trivial (fun hHeld => ?_)
          clear hK K
          (try simp only [Act.put, List.setIfInBounds_toArray, List.set_cons_zero, List.set_cons_succ, List.getElem_toArray, List.getElem_cons_zero, List.getElem_cons_succ])
          refine wpAnyH_ready (rs := [5]) (by kernel_rfl) (by simp) (AllReadyH.cons rfl (fun K hK => ?_) AllReadyH.nil)
          go_simp
          refine hK.out _ _ trivial (fun hHeld => ?_)
          clear hK K
          (try simp only [Act.put, List.setIfInBounds_toArray, List.set_cons_zero, List.set_cons_succ, List.getElem_toArray, List.getElem_cons_zero, List.getElem_cons_succ])
          refine wpAnyH_ready (rs := [6]) (by kernel_rfl) (by simp) (AllReadyH.cons rfl (fun K hK => ?_) AllReadyH.nil)
          refine step_append_og (by rfl) _ _ (by rfl) (w.heap.size + 2) B _ _ _ _ (by rfl) k2.2.2.1 hor2 hB2 k2.2.2.2.1 hlr _ rfl (by rfl) ?_
          intro v' w' ho' hg'
          have k4 := (k2.below (bal' _ _)).more ho' hg'
          clear k2 ho' hg' hor2 hB2 d0 d1 y0 y1 c0 c1 z0 z1
          obtain ⟨⟨_, ⟨d0, d1⟩, ⟨y0, y1⟩⟩, ⟨_, ⟨c0, c1⟩, ⟨z0, z1⟩⟩, _⟩ := id k4
          obtain ⟨va, vn, vc, rfl⟩ : ∃ a n c, v' = Value.slice a n c := by rcases k4.2.2.1.shape with ⟨h, _⟩ | ⟨_, _, h, _⟩ <;> exact ⟨_, _, _, h⟩
          refine hK.out _ _ trivial (fun hHeld => ?_)
          clear hK K
          (try simp only [Act.put, List.setIfInBounds_toArray, List.set_cons_zero, List.set_cons_succ, List.getElem_toArray, List.getElem_cons_zero, List.getElem_cons_succ])
          refine' wpAnyH_take (i := 7) (v := _) rfl (by kernel_rfl) (by kernel_rfl) (by kernel_rfl) (fun _ _ _ h => h) (Or.inl ⟨by rfl, ?hy5⟩) hHeld ?hr5
          case hy5 => (intro w hSw; (try dsimp only at hSw); go_simp; (try with_reducible rfl))
          simp only [Act.put, List.setIfInBounds_toArray, List.set_cons_zero, List.set_cons_succ, List.getElem_toArray, List.getElem_cons_zero, List.getElem_cons_succ]
          refine wpAnyH_ready (rs := [8]) (by kernel_rfl) (by simp) (AllReadyH.cons rfl (fun K hK => ?_) AllReadyH.nil)
          go_simp
          refine hK.out _ _ trivial (fun hHeld => ?_)
          clear hK K
          (try simp only [Act.put, List.setIfInBounds_toArray, List.set_cons_zero, List.set_cons_succ, List.getElem_toArray, List.getElem_cons_zero, List.getElem_cons_succ])
          refine wpAnyH_done (by kernel_rfl) ?_ _
          refine NoPanic.normal ?_
          have k5 := ng_put k4
          simp only [putG] at k5
          clear k4 d0 d1 y0 y1 c0 c1 z0 z1
          go_wp2
          go_roundw
          case rel => exact ⟨j + 1, by go_num, by omega, _, by rw [hsn.out]; exact k5⟩
          case measure => simp [intOf]; omega
        · go_simp
          refine hK.out _ _ trivial (fun hHeld => ?_)
          clear hK K
          (try simp only [Act.put, List.setIfInBounds_toArray, List.set_cons_zero, List.set_cons_succ, List.getElem_toArray, List.getElem_cons_zero, List.getElem_cons_succ])
          refine wpAnyH_ready (rs := [1]) (by kernel_rfl) (by simp) (AllReadyH.cons rfl (fun K hK => ?_) AllReadyH.nil)
          go_simp
          refine hK.out _ _ trivial (fun hHeld => ?_)
          clear hK K
          (try simp only [Act.put, List.setIfInBounds_toArray, List.set_cons_zero, List.set_cons_succ, List.getElem_toArray, List.getElem_cons_zero, List.getElem_cons_succ])
          refine wpAnyH_ready (rs := [6]) (by kernel_rfl) (by simp) (AllReadyH.cons rfl (fun K hK => ?_) AllReadyH.nil)
          refine step_append_og (by rfl) _ _ (by rfl) (w.heap.size + 2) B _ _ _ _ (by rfl) k2.2.2.1 hor2 hB2 k2.2.2.2.1 hlr _ rfl (by rfl) ?_
          intro v' w' ho' hg'
          have k4 := (k2.below (bal' _ _)).more ho' hg'
          clear k2 ho' hg' hor2 hB2 d0 d1 y0 y1 c0 c1 z0 z1
          obtain ⟨⟨_, ⟨d0, d1⟩, ⟨y0, y1⟩⟩, ⟨_, ⟨c0, c1⟩, ⟨z0, z1⟩⟩, _⟩ := id k4
          obtain ⟨va, vn, vc, rfl⟩ : ∃ a n c, v' = Value.slice a n c := by rcases k4.2.2.1.shape with ⟨h, _⟩ | ⟨_, _, h, _⟩ <;> exact ⟨_, _, _, h⟩
          refine hK.out _ _ trivial (fun hHeld => ?_)
          clear hK K
          (try simp only [Act.put, List.setIfInBounds_toArray, List.set_cons_zero, List.set_cons_succ, List.getElem_toArray, List.getElem_cons_zero, List.getElem_cons_succ])
          refine' wpAnyH_take (i := 7) (v := _) rfl (by kernel_rfl) (by kernel_rfl) (by kernel_rfl) (fun _ _ _ h => h) (Or.inl ⟨by rfl, ?hy6⟩) hHeld ?hr6
          case hy6 => (intro w hSw; (try dsimp only at hSw); go_simp; (try with_reducible rfl))
          simp only [Act.put, List.setIfInBounds_toArray, List.set_cons_zero, List.set_cons_succ, List.getElem_toArray, List.getElem_cons_zero, List.getElem_cons_succ]
          refine wpAnyH_ready (rs := [8]) (by kernel_rfl) (by simp) (AllReadyH.cons rfl (fun K hK => ?_) AllReadyH.nil)
          go_simp
          refine hK.out _ _ trivial (fun hHeld => ?_)
          clear hK K
          (try simp only [Act.put, List.setIfInBounds_toArray, List.set_cons_zero, List.set_cons_succ, List.getElem_toArray, List.getElem_cons_zero, List.getElem_cons_succ])
          refine wpAnyH_done (by kernel_rfl) ?_ _
          refine NoPanic.normal ?_
          have k5 := ng_put k4
          simp only [putG] at k5
          clear k4 d0 d1 y0 y1 c0 c1 z0 z1
          go_wp2
          go_roundw
          case rel => exact ⟨j + 1, by go_num, by omega, _, by rw [hsn.out]; exact k5⟩
          case measure => simp [intOf]; omega
    · have hjn : j = n := by omega
      have hji : ¬ (j : Int) < (n : Int) := by omega
      subst hjn
      clear hrow
      obtain ⟨⟨_, ⟨d0, d1⟩, ⟨y0, y1⟩⟩, ⟨_, ⟨c0, c1⟩, ⟨z0, z1⟩⟩, _⟩ := id k
      obtain ⟨ua, un, uc, rfl⟩ : ∃ a n c, u = Value.slice a n c := by rcases k.2.2.1.shape with ⟨h, _⟩ | ⟨_, _, h, _⟩ <;> exact ⟨_, _, _, h⟩
      have kF := (k.1.put2 cols (.slice ua un uc)).2.1
      have hgF := putG2_grown wr w.heap.size cols (.slice ua un uc)
      have hoF := ((k.2.2.1).kept hgF (fun g e => by cases e; omega)).up hgF.size
      have hbF := k.2.2.2.2.2.grown hgF (by omega) (fun g e => by cases e; omega)
      obtain ⟨f0, f1⟩ := kF
      simp only [putG2] at f0 f1 hoF hbF
      clear hgF
      go_wp2
      exact bodyPost_ret (v := .agg #[.int .i64 cols, .slice ua un uc]) (by simp [results, Tryz.results107, go_sem, f0, f1]) rfl ⟨_, rfl, hoF.low (by omega), hbF⟩
/-- What NewGrid gives. -/
def newOk (cols n : Int) : Prop := (1 ≤ cols ∧ cols ≤ 60) ∧ (1 ≤ n ∧ n ≤ 30)
instance (cols n : Int) : Decidable (newOk cols n) := by unfold newOk; exact inferInstance
set_option maxHeartbeats 2000000 in
theorem specNewGrid_any (cols n : Int) (w : World) :
    Calls Tryz.prog 53 #[.int .i64 cols, .int .i64 n] w fun e w' => ∃ u, e = .returned (.tuple #[gridV (if newOk cols n then cols else 0) u, .bool (decide (newOk cols n))]) ∧ OwnG w' w.heap.size w'.heap.size u (if newOk cols n then newR cols.toNat n.toNat else []) ∧ Below w.heap.size w w' := by
  have hin1 := fun W => l1In_any cols 1 60 W
  have hin2 := fun W => l1In_any n 1 30 W
  have hG := GrW.new w 0 (.slice none 0 0) 40
  have hb1 := bal' w (Obj.cells #[Value.int IntKind.i64 0, Value.slice none 0 0] 40)
  obtain ⟨_, ⟨c0, c1⟩, ⟨z0, z1⟩⟩ := id hG
  by_cases h1 : (1 : Int) ≤ cols ∧ cols ≤ 60
  · have e1 : decide ((1 : Int) ≤ cols ∧ cols ≤ 60) = true := decide_eq_true h1
    rw [e1] at hin1
    by_cases h2 : (1 : Int) ≤ n ∧ n ≤ 30
    · have e2 : decide ((1 : Int) ≤ n ∧ n ≤ 30) = true := decide_eq_true h2
      rw [e2] at hin2
      have hok : newOk cols n := ⟨h1, h2⟩
      obtain ⟨cn, rfl⟩ : ∃ k : Nat, cols = k := ⟨cols.toNat, by omega⟩
      obtain ⟨nn, rfl⟩ : ∃ k : Nat, n = k := ⟨n.toNat, by omega⟩
      have hnew := fun W => l5New_any cn nn W (by omega) (by omega)
      have hd : decide (newOk (cn : Int) (nn : Int)) = true := decide_eq_true hok
      rw [if_pos hok, if_pos hok, hd, Int.toNat_natCast, Int.toNat_natCast]
      clear hd hok e1 e2 h1 h2
      go_enter Tryz.func53, Tryz.ntmps53
      go_wp2_with fail
      refine (hin1 _).mono ?_
      rintro e w1 ⟨rfl, hw⟩
      subst hw
      go_wp2_with fail
      refine (hin2 _).mono ?_
      rintro e w1 ⟨rfl, hw⟩
      subst hw
      go_wp2_with fail
      refine (hnew _).mono ?_
      rintro e w2 ⟨u, rfl, hou, hb2⟩
      obtain ⟨ua, un, uc, rfl⟩ : ∃ a n c, u = Value.slice a n c := (by rcases hou.shape with ⟨h, _⟩ | ⟨_, _, h, _⟩ <;> exact ⟨_, _, _, h⟩)
      have hG2 := hG.below hb2
      have kF := (hG2.put2 cn (.slice ua un uc)).2.1
      have hgF := putG2_grown w2 w.heap.size cn (.slice ua un uc)
      have hs1 := hb2.size
      have e3 : (w.alloc (Obj.cells #[Value.int IntKind.i64 0, Value.slice none 0 0] 40)).heap.size = w.heap.size + 1 := by simp
      rw [e3] at hou
      have hoF := (hou.kept hgF (fun g e => by cases e; omega)).up hgF.size
      have hbF := (hb1.trans (hb2.mono hb1.size)).grown hgF (by omega) (fun g e => by cases e; exact Nat.le_refl _)
      clear c0 c1 z0 z1
      obtain ⟨_, ⟨d0, d1⟩, ⟨y0, y1⟩⟩ := hG2
      obtain ⟨f0, f1⟩ := kF
      simp only [putG2] at f0 f1 hoF hbF
      unfold gridV
      go_wp2
      exact bodyPost_ret (v := .tuple #[.agg #[.int .i64 cn, .slice ua un uc], .bool true]) (by simp [results, Tryz.results53, go_sem, f0, f1]) rfl ⟨_, rfl, hoF.low (by omega), hbF⟩
    · have e2 : decide ((1 : Int) ≤ n ∧ n ≤ 30) = false := decide_eq_false h2
      rw [e2] at hin2
      have hno : ¬ newOk cols n := fun h => h2 h.2
      rw [if_neg hno, if_neg hno, decide_eq_false hno]
      go_enter Tryz.func53, Tryz.ntmps53
      go_wp2_with fail
      refine (hin1 _).mono ?_
      rintro e w1 ⟨rfl, hw⟩
      subst hw
      go_wp2_with fail
      refine (hin2 _).mono ?_
      rintro e w1 ⟨rfl, hw⟩
      subst hw
      go_wp2_with fail
      exact bodyPost_ret (v := .tuple #[.agg #[.int .i64 0, .slice none 0 0], .bool false]) (by simp [results, Tryz.results53, go_sem]) rfl ⟨_, rfl, ownG_none _ _ _, hb1⟩
  · have e1 : decide ((1 : Int) ≤ cols ∧ cols ≤ 60) = false := decide_eq_false h1
    rw [e1] at hin1
    have hno : ¬ newOk cols n := fun h => h1 h.1
    rw [if_neg hno, if_neg hno, decide_eq_false hno]
    go_enter Tryz.func53, Tryz.ntmps53
    go_wp2_with fail
    refine (hin1 _).mono ?_
    rintro e w1 ⟨rfl, hw⟩
    subst hw
    go_wp2_with fail
    exact bodyPost_ret (v := .tuple #[.agg #[.int .i64 0, .slice none 0 0], .bool false]) (by simp [results, Tryz.results53, go_sem]) rfl ⟨_, rfl, ownG_none _ _ _, hb1⟩
end Go.Proofs.YtdbpjfdlibodcaaGreatDoor
namespace Go.Proofs.YtdbpjfdlibodcaaGreatDoor
open Go.ChangeShapes Go.WideShapes Go.ChangeAt Go.RowKit
set_option maxHeartbeats 2000000 in
theorem toGrid_copy (cols : Int) (v : Value) (rows : List (List Ce)) (w : World) (hv : SlG w v rows) (hl : rows.length ≤ 1073741824) (hx : ∀ i, i < rows.length → (rowX rows i).length ≤ 1073741824) :
    Calls Tryz.prog 29 #[gridV cols v] w fun e w' => ∃ u, e = .returned (gridV cols u) ∧ OwnG w' w.heap.size w'.heap.size u rows ∧ Below w.heap.size w w' := by
  have hto := fun W h => toCSS_copy v rows W h hl hx
  have hG0 := GrN.new w cols v 24
  have hb0 := bal' w (Obj.cells #[.int .i64 cols, v] 24)
  have e0 : (w.alloc (Obj.cells #[.int .i64 cols, v] 24)).heap.size = w.heap.size + 1 := by simp
  have hvv := hv
  obtain ⟨a, c, vs, rfl, _⟩ := id hv
  have hv1 := hvv.below hb0
  unfold gridV
  generalize hw1 : w.alloc (Obj.cells #[.int .i64 cols, .slice a rows.length c] 24) = w1 at *
  have hR := GrW.new w1 0 (.slice none 0 0) 40
  have hb1 := bal' w1 (Obj.cells #[Value.int IntKind.i64 0, Value.slice none 0 0] 40)
  have e1 : (w1.alloc (Obj.cells #[Value.int IntKind.i64 0, Value.slice none 0 0] 40)).heap.size = w.heap.size + 2 := by simp; omega
  have hO := GrW.new (w1.alloc (Obj.cells #[Value.int IntKind.i64 0, Value.slice none 0 0] 40)) cols (.slice none 0 0) 40
  have hb2 := bal' (w1.alloc (Obj.cells #[Value.int IntKind.i64 0, Value.slice none 0 0] 40)) (Obj.cells #[Value.int IntKind.i64 cols, Value.slice none 0 0] 40)
  rw [e1] at hO
  rw [e0] at hR
  have hR2 := hR.below hb2
  have hbb := hb1.trans (hb2.mono hb1.size)
  have hv2 := hv1.below hbb
  have e3 : ((w1.alloc (Obj.cells #[Value.int IntKind.i64 0, Value.slice none 0 0] 40)).alloc (Obj.cells #[Value.int IntKind.i64 cols, Value.slice none 0 0] 40)).heap.size = w.heap.size + 3 := by simp; omega
  subst hw1
  obtain ⟨_, g0, g1⟩ := id hG0
  go_enter Tryz.func29, Tryz.ntmps29
  go_wp2_with fail
  refine (hto _ hv2).mono ?_
  rintro e w4 ⟨u, rfl, hou, hb4⟩
  have hR4 := hR2.below hb4
  have hO4 := hO.below hb4
  obtain ⟨ua, un, uc, rfl⟩ : ∃ a n c, u = Value.slice a n c := by rcases hou.shape with ⟨h, _⟩ | ⟨_, _, h, _⟩ <;> exact ⟨_, _, _, h⟩
  have hs4 := hb4.size
  rw [e3] at hou hs4
  have hg5 := putG_grown w4 (w.heap.size + 2) (.slice ua un uc)
  have hO5 := hO4.put (.slice ua un uc)
  have hR5 := hR4.grown hg5 (fun e => by simp at e)
  have ho5 := (hou.kept hg5 (fun g e => by cases e; omega)).up hg5.size
  have hbase := hb0.trans ((hbb.trans (hb4.mono hbb.size)).mono hb0.size)
  have hb5 := hbase.grown hg5 (by omega) (fun g e => by cases e; omega)
  have hs5 := hg5.size
  have hg6 := putG2_grown (putG w4 (w.heap.size + 2) (.slice ua un uc)) (w.heap.size + 1) cols (.slice ua un uc)
  have kF := (hR5.put2 cols (.slice ua un uc)).2.1
  have ho6 := (ho5.kept hg6 (fun g e => by cases e; omega)).up hg6.size
  have hb6 := hb5.grown hg6 (by omega) (fun g e => by cases e; omega)
  clear hG0 hb0 e0 hR hb1 e1 hO hb2 hR2 hbb hv1 hv2 hvv hto e3 hbase hb4 hs4 hs5 hg5 hg6 hb5 ho5 hou g0 g1
  obtain ⟨_, ⟨d0, d1⟩, ⟨y0, y1⟩⟩ := hR4
  obtain ⟨_, ⟨c0, c1⟩, ⟨z0, z1⟩⟩ := hO4
  obtain ⟨_, ⟨p0, p1⟩, ⟨q0, q1⟩⟩ := hO5
  obtain ⟨_, ⟨r0, r1⟩, ⟨s0, s1⟩⟩ := hR5
  obtain ⟨f0, f1⟩ := kF
  simp only [putG, putG2] at f0 f1 ho6 hb6 p0 p1 q0 q1 r0 r1 s0 s1
  go_wp2
  exact bodyPost_ret (v := .agg #[.int .i64 cols, .slice ua un uc]) (by simp [results, Tryz.results29, go_sem, f0, f1]) rfl ⟨_, rfl, ho6.low (by omega), hb6⟩
end Go.Proofs.YtdbpjfdlibodcaaGreatDoor
namespace Go.Proofs.YtdbpjfdlibodcaaGreatDoor
open Go.ChangeShapes Go.WideShapes Go.ChangeAt Go.RowKit
/-- What is left of a size behind the first rows. -/
def leftG (rows : List (List Ce)) (left : Nat) : Nat → Option Nat
  | 0 => if left < rows.length then none else some (left - rows.length)
  | j + 1 => match leftG rows left j with
    | none => none
    | some m => if m < (rowX rows j).length then none else some (m - (rowX rows j).length)
def szG (rows : List (List Ce)) (left : Nat) : Int := match leftG rows left rows.length with | none => -1 | some m => m
theorem leftG_none {rows : List (List Ce)} {left j : Nat} (h : leftG rows left j = none) : ∀ k, j ≤ k → leftG rows left k = none
  | 0, hk => by have : j = 0 := by omega
                subst this; exact h
  | k + 1, hk => by
    by_cases e : j = k + 1
    · subst e; exact h
    · have := leftG_none h k (by omega)
      rw [leftG, this]
theorem leftG_le {rows : List (List Ce)} {left : Nat} : ∀ {j m : Nat}, leftG rows left j = some m → m ≤ left ∧ rows.length ≤ left ∧ ∀ i, i < j → (rowX rows i).length ≤ left
  | 0, m, h => by
    rw [leftG] at h
    split at h
    · cases h
    · cases h; exact ⟨by omega, by omega, fun i hi => absurd hi (Nat.not_lt_zero i)⟩
  | j + 1, m, h => by
    rw [leftG] at h
    split at h
    · cases h
    · rename_i q hq
      split at h
      · cases h
      · cases h
        obtain ⟨h1, h2, h3⟩ := leftG_le hq
        refine ⟨by omega, h2, fun i hi => ?_⟩
        by_cases e : i = j
        · subst e; omega
        · exact h3 i (by omega)
set_option maxHeartbeats 2000000 in
theorem szCSS_any (v : Value) (rows : List (List Ce)) (left : Nat) (w : World) (hv : SlG w v rows) (hl : rows.length ≤ maxLen) (hx : ∀ i, i < rows.length → (rowX rows i).length ≤ maxLen) (hf : left ≤ 4611686018427387904) :
    Calls Tryz.prog 59 #[v, .int .i64 left] w fun e w' => e = .returned (.int .i64 (szG rows left)) ∧ w' = w := by
  unfold maxLen at hl
  obtain ⟨a, c, vs, rfl, hcp, _, hr, hs⟩ := id hv
  by_cases h : left < rows.length
  · have h2 : (left : Int) - (rows.length : Int) < 0 := by omega
    have hz : Hid (szG rows left = -1) := by show _ = _; unfold szG; rw [leftG_none (j := 0) (by rw [leftG, if_pos h]) _ (Nat.zero_le _)]
    clear hs hr
    go_enter Tryz.func59, Tryz.ntmps59
    go_wp2
    go_ret
    exact ⟨by rw [hz.out]; rfl, rfl⟩
  · have h2 : ¬ (left : Int) - (rows.length : Int) < 0 := by omega
    have h3 : Hid (leftG rows left 0 = some (left - rows.length)) := by show _ = _; rw [leftG, if_neg h]
    have h4 : Hid ((left : Int) - (rows.length : Int) = ((left - rows.length : Nat) : Int)) := by show _ = _; omega
    go_enter Tryz.func59, Tryz.ntmps59
    go_wp2
    go_loopw [1, 5] (fun u i wr => ∃ j m : Nat, i = .int .i64 j ∧ u = .int .i64 m ∧ j ≤ rows.length ∧ Hid (leftG rows left j = some m) ∧ wr = w) (fun _ i _ => rows.length - (intOf i).toNat)
    case atStart => exact ⟨0, left - rows.length, rfl, by rw [← h4.out], Nat.zero_le _, h3, rfl⟩
    case round =>
      clear h3 h4 h2 h
      obtain ⟨j, m, rfl, rfl, hj, hm, hw⟩ := hrel
      subst hw
      by_cases hlt : j < rows.length
      · have hji : (j : Int) < (rows.length : Int) := by omega
        have hj0 : (0 : Int) ≤ (j : Int) := by omega
        rcases hr with h | ⟨b, off, rfl, hbb, hrc⟩
        · rw [h] at hlt; simp at hlt
        have hsj := hs j hlt
        have hcj := hrc j hlt
        obtain ⟨aj, cj, ev, _⟩ := id hsj
        rw [ev] at hcj hsj
        have hsz := szC_any _ _ m wr hsj (hx j hlt) (by have := (leftG_le hm.out).1; omega)
        clear hs hrc ev hsj hv
        by_cases h5 : m < (rowX rows j).length
        · have hz : Hid (szG rows left = -1) := by show _ = _; unfold szG; rw [leftG_none (j := j + 1) (by rw [leftG, hm.out]; simp [h5]) _ hlt]
          rw [if_pos h5] at hsz
          go_wp2_with fail
          refine hsz.mono ?_
          rintro e w2 ⟨rfl, hw2⟩
          subst hw2
          go_wp2
          go_ret
          exact ⟨by rw [hz.out]; rfl, rfl⟩
        · have hm2 : Hid (leftG rows left (j + 1) = some (m - (rowX rows j).length)) := by show _ = _; rw [leftG, hm.out]; simp [h5]
          have h6 : ¬ (((m - (rowX rows j).length : Nat) : Int) < 0) := by omega
          rw [if_neg h5] at hsz
          generalize m - (rowX rows j).length = m2 at *
          go_wp2_with fail
          refine hsz.mono ?_
          rintro e w2 ⟨rfl, hw2⟩
          subst hw2
          go_wp2
          go_roundw
          case rel => exact ⟨j + 1, m2, by go_num, rfl, by omega, hm2, trivial⟩
          case measure => simp [intOf]; omega
      · have hjn : j = rows.length := by omega
        have hji : ¬ (j : Int) < (rows.length : Int) := by omega
        subst hjn
        have hz : Hid (szG rows left = (m : Int)) := by show _ = _; unfold szG; rw [hm.out]
        clear hs hr hv
        go_wp2
        go_ret
        exact ⟨by rw [hz.out]; rfl, rfl⟩
set_option maxHeartbeats 1000000 in
theorem szGrid_any (cols : Int) (v : Value) (rows : List (List Ce)) (left : Nat) (w : World) (hv : SlG w v rows) (hl : rows.length ≤ maxLen) (hx : ∀ i, i < rows.length → (rowX rows i).length ≤ maxLen) (hf : left ≤ 4611686018427387904) :
    Calls Tryz.prog 21 #[gridV cols v, .int .i64 left] w fun e w' => e = .returned (.int .i64 (szG rows left)) ∧ Below w.heap.size w w' := by
  have hb0 := bal' w (Obj.cells #[.int .i64 cols, v] 24)
  have hG0 := GrN.new w cols v 24
  have hsz := fun W h => szCSS_any v rows left W h hl hx hf
  have hv1 := hv.below hb0
  obtain ⟨a, c, vs, rfl, _⟩ := id hv
  unfold gridV
  obtain ⟨_, g0, g1⟩ := id hG0
  go_enter Tryz.func21, Tryz.ntmps21
  go_wp2_with fail
  refine (hsz _ hv1).mono ?_
  rintro e w2 ⟨rfl, hw⟩
  subst hw
  by_cases h : szG rows left < 0
  · have hz : Hid (szG rows left = -1) := by
      show _ = _
      unfold szG at *
      split at h
      · rfl
      · omega
    go_wp2
    go_ret
    exact ⟨by rw [hz.out]; rfl, hb0⟩
  · go_wp2
    go_ret
    exact ⟨rfl, hb0⟩
end Go.Proofs.YtdbpjfdlibodcaaGreatDoor
namespace Go.Proofs.YtdbpjfdlibodcaaGreatDoor
open Go.ChangeShapes Go.WideShapes Go.ChangeAt Go.RowKit
def mkC (q : Nat) : Ce := ⟨(q : Int), ⟨(q : Int) + 1, (q : Int) + 1 + 1, ((q : Int) + 1 + 1 + 1).tmod 3 == 0, ((q : Int) + 1 + 1 + 1 + 1).tmod 3 == 0, ((q : Int) + 1 + 1 + 1 + 1 + 1).tmod 3 == 0⟩, (q : Int) + 1 + 1 + 1 + 1 + 1 + 1⟩
def marksC (k n : Nat) : List Ce := (List.range n).map fun i => mkC (k + 7 * i)
theorem marksC_len (k n : Nat) : (marksC k n).length = n := by simp [marksC]
theorem marksC_at (k n i : Nat) (h : i < n) : atC (marksC k n) i = mkC (k + 7 * i) := by
  rw [atC_lt (by rw [marksC_len]; exact h)]
  simp [marksC]
set_option maxHeartbeats 4000000 in
set_option maxRecDepth 20000 in
theorem heldC_marks (v : Value) (k n : Nat) (w : World) (hv : SlC w v (marksC k n)) (hk : k ≤ 1073741824) (hl : n ≤ 1073741824) :
    Calls Tryz.prog 165 #[v, .int .i64 k] w fun e w' => e = .returned (.int .i64 ((k + 7 * n : Nat) : Int)) ∧ w' = w := by
  obtain ⟨a, c, rfl, hc0⟩ := id hv
  rw [marksC_len] at hv ⊢
  clear hc0
  go_enter Tryz.func165, Tryz.ntmps165
  go_wp2
  go_loop [1, 5] (fun q i => ∃ j : Nat, j ≤ n ∧ i = .int .i64 j ∧ q = .int .i64 ((k + 7 * j : Nat) : Int)) (fun _ i => n - (intOf i).toNat)
  case atStart => exact ⟨0, Nat.zero_le _, rfl, by simp⟩
  case round =>
    obtain ⟨j, hj, rfl, rfl⟩ := hrel
    by_cases hlt : j < n
    · have hji : (j : Int) < (n : Int) := by omega
      have hj0 : (0 : Int) ≤ (j : Int) := by omega
      obtain ⟨b, off, rfl, hbb, hat⟩ := hv.at j (by rw [marksC_len]; exact hlt)
      rw [marksC_at k n j hlt] at hat
      have hq : k + 7 * j ≤ 8 * 1073741824 := by omega
      have hq7 : Hid (((k + 7 * (j + 1) : Nat) : Int) = ((k + 7 * j : Nat) : Int) + 1 + 1 + 1 + 1 + 1 + 1 + 1) := by show _ = _; omega
      generalize k + 7 * j = q at *
      obtain ⟨c0, c1, c2, c3, c4, c5, c6⟩ := hat
      simp only [mkC] at c0 c1 c2 c3 c4 c5 c6
      clear hv
      go_wp2
      go_round
      case rel => exact ⟨j + 1, by omega, by go_num, by rw [hq7.out]⟩
      case measure => simp [intOf]; omega
    · have hjn : j = n := by omega
      subst hjn
      go_wp2
      go_ret
      exact ⟨rfl, rfl⟩
set_option maxHeartbeats 8000000 in
set_option maxRecDepth 20000 in
theorem markC_own (base : Nat) (v : Value) (k : Nat) (xs : List Ce) (w : World) (hown : OwnC w base v xs) (hk : k ≤ 1073741824) (hl : xs.length ≤ 1073741824) :
    Calls Tryz.prog 164 #[v, .int .i64 k] w fun e w' => e = .returned (.int .i64 ((k + 7 * xs.length : Nat) : Int)) ∧ OwnC w' base v (marksC k xs.length) ∧ w.grownBy w' v.ownBlock := by
  rcases hown.shape with ⟨rfl, rfl⟩ | ⟨g, cap, rfl, hbg, hlg, hcap⟩
  · go_enter Tryz.func164, Tryz.ntmps164
    go_wp2
    refine wp_loop_rounds 1 ?_
    rw [rounds_succ]
    go_wp2
    go_ret
    exact ⟨by simp, by simpa [marksC] using hown, World.grownBy.refl _ _⟩
  · generalize hn : xs.length = n at *
    go_enter Tryz.func164, Tryz.ntmps164
    go_wp2
    go_loopw [1, 5] (fun q i wr => ∃ (j : Nat) (ys : List Ce), j ≤ n ∧ i = .int .i64 j ∧ q = .int .i64 ((k + 7 * j : Nat) : Int) ∧ ys.length = n ∧ (∀ t, t < j → atC ys t = mkC (k + 7 * t)) ∧ OwnC wr base (.slice (some ⟨g, 0, none⟩) n cap) ys ∧ w.grownBy wr (some g)) (fun _ i _ => n - (intOf i).toNat)
    case atStart => exact ⟨0, xs, Nat.zero_le _, rfl, by simp, hn, (fun t h => absurd h (Nat.not_lt_zero t)), hown, World.grownBy.refl _ _⟩
    case round =>
      obtain ⟨j, ys, hj, rfl, rfl, hyl, hys, ho, hgr⟩ := hrel
      by_cases hlt : j < n
      · have hji : (j : Int) < (n : Int) := by omega
        have hj0 : (0 : Int) ≤ (j : Int) := by omega
        have hq : k + 7 * j ≤ 8 * 1073741824 := by omega
        have hq7 : Hid (((k + 7 * (j + 1) : Nat) : Int) = ((k + 7 * j : Nat) : Int) + 1 + 1 + 1 + 1 + 1 + 1 + 1) := by show _ = _; omega
        have hp := ho.put hyl j hlt (mkC (k + 7 * j))
        have hys2 : ∀ t, t < j + 1 → atC (ys.set j (mkC (k + 7 * j))) t = mkC (k + 7 * t) := by
          intro t ht
          rw [atC_set]
          by_cases e : t = j
          · subst e; rw [if_pos ⟨rfl, by omega⟩]
          · rw [if_neg (fun h => e h.1)]; exact hys t (by omega)
        have hyl2 : (ys.set j (mkC (k + 7 * j))).length = n := by simpa using hyl
        obtain ⟨kk, kg⟩ := hp
        have hgr2 := grown_tr hgr kg
        have hat := ho.at hyl j hlt
        have f0 := ho.frozen hyl (j * 7)
        have f1 := ho.frozen hyl (j * 7 + 1)
        have f2 := ho.frozen hyl (j * 7 + 2)
        have f3 := ho.frozen hyl (j * 7 + 3)
        have f4 := ho.frozen hyl (j * 7 + 4)
        have f5 := ho.frozen hyl (j * 7 + 5)
        have f6 := ho.frozen hyl (j * 7 + 6)
        clear hown ho hgr kg hys hyl hbg hlg
        generalize ys.set j (mkC (k + 7 * j)) = ys2 at *
        generalize k + 7 * j = q at *
        obtain ⟨c0, c1, c2, c3, c4, c5, c6⟩ := hat
        simp only [putCe, mkC] at kk hgr2
        go_wp2
        go_roundw
        case rel => exact ⟨j + 1, ys2, by omega, by go_num, by rw [hq7.out], hyl2, hys2, kk, hgr2⟩
        case measure => simp [intOf]; omega
      · have hjn : j = n := by omega
        have hji : ¬ (j : Int) < (n : Int) := by omega
        have hye : ys = marksC k n := ext_atC _ _ (by rw [marksC_len]; exact hyl) (fun i hi => by rw [marksC_at k n i (by omega)]; exact hys i (by omega))
        subst hjn
        clear hys hyl hown
        subst hye
        go_wp2
        go_ret
        exact ⟨rfl, ho, hgr⟩
end Go.Proofs.YtdbpjfdlibodcaaGreatDoor
namespace Go.Proofs.YtdbpjfdlibodcaaGreatDoor
open Go.ChangeShapes Go.WideShapes Go.ChangeAt Go.RowKit
def sumG (rows : List (List Ce)) : Nat → Nat
  | 0 => 0
  | j + 1 => sumG rows j + (rowX rows j).length
theorem sumG_mono (rows : List (List Ce)) {i j : Nat} (h : i ≤ j) : sumG rows i ≤ sumG rows j := by
  induction h with
  | refl => exact Nat.le_refl _
  | step _ ih => exact Nat.le_trans ih (Nat.le_add_right _ _)
theorem sumG_row (rows : List (List Ce)) {i j : Nat} (h : i < j) : (rowX rows i).length ≤ sumG rows j := by
  have := sumG_mono rows (show i + 1 ≤ j from h)
  have e : sumG rows (i + 1) = sumG rows i + (rowX rows i).length := rfl
  omega
/-- The rows marked, the first j of them. -/
def markUpG (k : Nat) (rows : List (List Ce)) (j : Nat) : List (List Ce) := genR rows.length fun i => if i < j then marksC (k + 7 * sumG rows i) (rowX rows i).length else rowX rows i
def marksG (k : Nat) (rows : List (List Ce)) : List (List Ce) := markUpG k rows rows.length
theorem markUpG_len (k : Nat) (rows : List (List Ce)) (j : Nat) : (markUpG k rows j).length = rows.length := genR_len _ _
theorem markUpG_zero (k : Nat) (rows : List (List Ce)) : markUpG k rows 0 = rows := ext_rowX _ _ (markUpG_len _ _ _) fun i hi => by
  rw [markUpG_len] at hi
  unfold markUpG
  rw [genR_at _ _ _ hi, if_neg (Nat.not_lt_zero i)]
theorem markUpG_step (k : Nat) (rows : List (List Ce)) (j : Nat) (hj : j < rows.length) : markUpG k rows (j + 1) = (markUpG k rows j).set j (marksC (k + 7 * sumG rows j) (rowX rows j).length) := ext_rowX _ _ (by rw [List.length_set, markUpG_len, markUpG_len]) fun i hi => by
  rw [markUpG_len] at hi
  rw [rowX_set' (by rw [markUpG_len]; exact hj)]
  unfold markUpG
  rw [genR_at _ _ _ hi, genR_at _ _ _ hi]
  by_cases e : i = j
  · rw [if_pos (by omega), if_pos e, e]
  · rw [if_neg e]
    by_cases c : i < j
    · rw [if_pos c, if_pos (by omega)]
    · rw [if_neg c, if_neg (by omega)]
theorem markUpG_at (k : Nat) (rows : List (List Ce)) (j i : Nat) (hi : i < rows.length) : rowX (markUpG k rows j) i = if i < j then marksC (k + 7 * sumG rows i) (rowX rows i).length else rowX rows i := by
  unfold markUpG; rw [genR_at _ _ _ hi]
theorem marksG_at (k : Nat) (rows : List (List Ce)) (i : Nat) (hi : i < rows.length) : rowX (marksG k rows) i = marksC (k + 7 * sumG rows i) (rowX rows i).length := by
  unfold marksG; rw [markUpG_at _ _ _ _ hi, if_pos hi]
set_option maxHeartbeats 2000000 in
theorem heldCSS_marks (v : Value) (k : Nat) (rows : List (List Ce)) (w : World) (hv : SlG w v (marksG k rows)) (hk : k ≤ 1048576) (hl : sumG rows rows.length ≤ 1048576) (hn : rows.length ≤ 1048576) :
    Calls Tryz.prog 96 #[v, .int .i64 k] w fun e w' => e = .returned (.int .i64 ((k + 7 * sumG rows rows.length : Nat) : Int)) ∧ w' = w := by
  obtain ⟨a, c, vs, rfl, hcp, _, hr, hs⟩ := hv
  have hlen : (marksG k rows).length = rows.length := markUpG_len _ _ _
  rw [hlen] at hr hs hcp ⊢
  generalize hN : rows.length = n at *
  go_enter Tryz.func96, Tryz.ntmps96
  go_wp2
  go_loop [1, 5] (fun q i => ∃ j : Nat, j ≤ n ∧ i = .int .i64 j ∧ q = .int .i64 ((k + 7 * sumG rows j : Nat) : Int)) (fun _ i => n - (intOf i).toNat)
  case atStart => exact ⟨0, Nat.zero_le _, rfl, rfl⟩
  case round =>
    obtain ⟨j, hj, rfl, rfl⟩ := hrel
    by_cases hlt : j < n
    · have hji : (j : Int) < (n : Int) := by omega
      have hj0 : (0 : Int) ≤ (j : Int) := by omega
      rcases hr with h | ⟨b, off, rfl, hbb, hrc⟩
      · rw [h] at hlen; simp at hlen; omega
      have hsj := hs j hlt
      have hcj := hrc j hlt
      rw [marksG_at k rows j (by omega)] at hsj
      obtain ⟨aj, cj, ev, _⟩ := id hsj
      rw [ev] at hcj hsj
      have hs1 := sumG_mono rows (show j ≤ n by omega)
      have hs2 := sumG_row rows hlt
      have hm := heldC_marks _ (k + 7 * sumG rows j) (rowX rows j).length w hsj (by omega) (by omega)
      have hsum : Hid ((k + 7 * sumG rows j) + 7 * (rowX rows j).length = k + 7 * sumG rows (j + 1)) := by show _ = _; rw [sumG]; omega
      rw [hsum.out] at hm
      have hnn : ¬ (((k + 7 * sumG rows (j + 1) : Nat) : Int) < 0) := by omega
      clear hs hrc ev hsj hs1 hs2 hsum hlen
      rw [marksC_len] at hm hcj
      generalize (rowX rows j).length = m at *
      go_wp2_with fail
      refine hm.mono ?_
      rintro e w2 ⟨rfl, hw⟩
      subst hw
      go_wp2
      go_round
      case rel => exact ⟨j + 1, by omega, by go_num, rfl⟩
      case measure => simp [intOf]; omega
    · have hjn : j = n := by omega
      have hji : ¬ (j : Int) < (n : Int) := by omega
      subst hjn
      clear hs hr
      go_wp2
      go_ret
      exact ⟨rfl, rfl⟩
theorem heldGrid_marks (cols : Int) (v : Value) (k : Nat) (rows : List (List Ce)) (w : World) (hv : SlG w v (marksG k rows)) (hk : k ≤ 1048576) (hl : sumG rows rows.length ≤ 1048576) (hn : rows.length ≤ 1048576) :
    Calls Tryz.prog 47 #[gridV cols v, .int .i64 k] w fun e w' => e = .returned (.int .i64 ((k + 7 * sumG rows rows.length : Nat) : Int)) ∧ Below w.heap.size w w' := by
  have hb0 := bal' w (Obj.cells #[.int .i64 cols, v] 40)
  have hG0 := GrN.new w cols v 40
  have hm := heldCSS_marks v k rows _ (hv.below hb0) hk hl hn
  obtain ⟨a, c, vs, rfl, _⟩ := hv
  unfold gridV
  obtain ⟨_, g0, g1⟩ := id hG0
  have hnn : ¬ (((k + 7 * sumG rows rows.length : Nat) : Int) < 0) := by omega
  generalize k + 7 * sumG rows rows.length = q at *
  go_enter Tryz.func47, Tryz.ntmps47
  go_wp2_with fail
  refine hm.mono ?_
  rintro e w2 ⟨rfl, hw⟩
  subst hw
  go_wp2
  go_ret
  exact ⟨rfl, hb0⟩
end Go.Proofs.YtdbpjfdlibodcaaGreatDoor
namespace Go.Proofs.YtdbpjfdlibodcaaGreatDoor
open Go.ChangeShapes Go.WideShapes Go.ChangeAt Go.RowKit
theorem leftG_sum {rows : List (List Ce)} {left : Nat} : ∀ {j m : Nat}, leftG rows left j = some m → m + rows.length + sumG rows j = left
  | 0, m, h => by
    rw [leftG] at h
    split at h
    · cases h
    · cases h; rw [sumG]; omega
  | j + 1, m, h => by
    rw [leftG] at h
    split at h
    · cases h
    · rename_i q hq
      split at h
      · cases h
      · cases h
        have := leftG_sum hq
        rw [sumG]; omega
theorem sumG_bd (rows : List (List Ce)) (m : Nat) (h : ∀ i, i < rows.length → (rowX rows i).length ≤ m) : ∀ j, j ≤ rows.length → sumG rows j ≤ j * m
  | 0, _ => Nat.zero_le _
  | j + 1, hj => by
    have := sumG_bd rows m h j (by omega)
    have := h j (by omega)
    rw [sumG, Nat.add_mul]; omega
theorem slShp {w : World} {v : Value} {rows : List (List Ce)} (h : SlG w v rows) : ∃ a n c, v = Value.slice a n c := by
  obtain ⟨a, c, vs, rfl, _⟩ := h
  exact ⟨_, _, _, rfl⟩
end Go.Proofs.YtdbpjfdlibodcaaGreatDoor
namespace Go.Proofs.YtdbpjfdlibodcaaGreatDoor
open Go.ChangeShapes Go.WideShapes Go.ChangeAt Go.RowKit
/-- A parser's block, whole. -/
def PbB (w : World) (B : Nat) (s : Int) (pv : Value) (m : Int) (tv : Value) : Prop := w.heap[B]? = some (.cells #[.int .i64 s, pv, .int .i64 m, tv] 42 (0, 0))
theorem PbB.lt {w : World} {B : Nat} {s m : Int} {pv tv : Value} (h : PbB w B s pv m tv) : B < w.heap.size := (Array.getElem?_eq_some_iff.1 h).1
theorem PbB.cells {w : World} {B : Nat} {s m : Int} {pv tv : Value} (h : PbB w B s pv m tv) :
    w.cell? ⟨B, 0, none⟩ = some (.int .i64 s) ∧ w.cell? ⟨B, 1, none⟩ = some pv ∧ w.cell? ⟨B, 2, none⟩ = some (.int .i64 m) ∧ w.cell? ⟨B, 3, none⟩ = some tv := by
  refine ⟨?_, ?_, ?_, ?_⟩ <;> (rw [cell_of_row w B _ _ _ (0, 0) h]; rfl)
theorem PbB.frozen {w : World} {B : Nat} {s m : Int} {pv tv : Value} (h : PbB w B s pv m tv) : w.frozen? ⟨B, 0, none⟩ = false ∧ w.frozen? ⟨B, 1, none⟩ = false ∧ w.frozen? ⟨B, 2, none⟩ = false ∧ w.frozen? ⟨B, 3, none⟩ = false :=
  ⟨frozen_of_row w B 0 _ _ h, frozen_of_row w B 1 _ _ h, frozen_of_row w B 2 _ _ h, frozen_of_row w B 3 _ _ h⟩
theorem PbB.set {w : World} {B : Nat} {s m : Int} {pv tv : Value} (h : PbB w B s pv m tv) (j : Nat) (u : Value) : (w.setCell ⟨B, j, none⟩ u).heap[B]? = some (.cells ((#[.int .i64 s, pv, .int .i64 m, tv] : Array Value).setIfInBounds j u) 42 (0, 0)) := heap_setCell_same w B j _ _ u h
theorem PbB.put {w : World} {B : Nat} {s m : Int} {pv tv : Value} (h : PbB w B s pv m tv) (s' m' : Int) (pv' tv' : Value) : PbB (putP w B s' pv' m' tv') B s' pv' m' tv' := by
  have k0 : PbB (w.setCell ⟨B, 0, none⟩ (.int .i64 s')) B s' pv m tv := h.set 0 _
  have k1 : PbB _ B s' pv' m tv := k0.set 1 _
  have k2 : PbB _ B s' pv' m' tv := k1.set 2 _
  exact k2.set 3 _
theorem PbB.kept {w w' : World} {B : Nat} {s m : Int} {pv tv : Value} {row : Option Nat} (h : PbB w B s pv m tv) (hg : w.grownBy w' row) (hne : row ≠ some B) : PbB w' B s pv m tv := by
  unfold PbB
  rw [hg.block B h.lt (Ne.symm hne)]
  exact h
theorem PbB.below {w w' : World} {B : Nat} {s m : Int} {pv tv : Value} (h : PbB w B s pv m tv) (hb : Below w.heap.size w w') : PbB w' B s pv m tv := h.kept (gbl hb none) (by simp)
theorem PbB.new (w : World) (s m : Int) (pv tv : Value) : PbB (w.alloc (.cells #[.int .i64 s, pv, .int .i64 m, tv] 42)) w.heap.size s pv m tv := heap_alloc_new w _
end Go.Proofs.YtdbpjfdlibodcaaGreatDoor
namespace Go.Proofs.YtdbpjfdlibodcaaGreatDoor
open Go.ChangeShapes Go.WideShapes Go.ChangeAt Go.RowKit
set_option maxHeartbeats 400000 in
theorem eqI_same (va vb : Value) (xs : List Int) (w : World) (ha : SlI w va xs) (hb : SlI w vb xs) (hl : xs.length ≤ 1073741824) :
    Calls Tryz.prog 41 #[va, vb] w fun e w' => e = .returned (.bool true) ∧ ∃ n, w' = w.drewN n := by
  by_cases h0 : xs = []
  · subst h0
    obtain ⟨a, c, rfl, _⟩ := ha
    obtain ⟨a', c', rfl, _⟩ := hb
    go_enter Tryz.func41, Tryz.ntmps41
    go_wp2
    refine wp_loop_rounds 1 ?_
    rw [rounds_succ]
    go_wp2
    go_ret
    exact ⟨rfl, 0, rfl⟩
  · obtain ⟨_, c, rfl, e | ⟨b, off, rfl, _, hca⟩⟩ := ha
    · exact absurd e h0
    · obtain ⟨_, c', rfl, e | ⟨b', off', rfl, _, hcb⟩⟩ := hb
      · exact absurd e h0
      · generalize hn : xs.length = n at *
        clear h0 hn
        go_enter Tryz.func41, Tryz.ntmps41
        go_wp2
        go_loopw [5] (fun i wr => ∃ k : Nat, k ≤ n ∧ i = .int .i64 k ∧ ∃ m, wr = w.drewN m) (fun i _ => n - (intOf i).toNat)
        case atStart => exact ⟨0, Nat.zero_le _, rfl, 0, rfl⟩
        case round =>
          obtain ⟨k, hk, rfl, m, rfl⟩ := hrel
          by_cases hlt : k < n
          · have h1 : w.cell? ⟨b, off + k, none⟩ = some (.int .i64 (xs.getD k 0)) := hca k hlt
            have h2 : w.cell? ⟨b', off' + k, none⟩ = some (.int .i64 (xs.getD k 0)) := hcb k hlt
            have hi : (k : Int) < (n : Int) := by omega
            generalize xs.getD k 0 = x at *
            clear hca hcb
            go_wp2
            go_quiet (fail)
            go_wp2
            go_roundw
            case rel => exact ⟨k + 1, by omega, by go_num, m + nq, by simp⟩
            case measure => simp [intOf]; omega
          · go_wp2
            go_ret
            exact ⟨rfl, m, rfl⟩

theorem grown_trans {a b c : World} {row : Option Nat} (h : a.grownBy b row) (k : b.grownBy c row) : a.grownBy c row :=
  ⟨k.os.trans h.os, k.tape.trans h.tape, k.output.trans h.output, Nat.le_trans h.size k.size, fun i hi hr => (k.block i (Nat.lt_of_lt_of_le hi h.size) hr).trans (h.block i hi hr)⟩
def marksI (k : Int) (n : Nat) : List Int := (List.range n).map fun (i : Nat) => k + (i : Int)
theorem marksI_len (k : Int) (n : Nat) : (marksI k n).length = n := by simp [marksI]
theorem marksI_at (k : Int) (n i : Nat) (h : i < n) : (marksI k n).getD i 0 = k + (i : Int) := by simp [marksI, h]

set_option maxHeartbeats 400000 in
theorem heldI_marks (v : Value) (k : Int) (n : Nat) (w : World) (hv : SlI w v (marksI k n)) (hk : 0 ≤ k ∧ k ≤ 1073741824) (hl : n ≤ 1073741824) :
    Calls Tryz.prog 48 #[v, .int .i64 k] w fun e w' => e = .returned (.int .i64 (k + n)) ∧ w' = w := by
  obtain ⟨a, c, rfl, e | ⟨b, off, rfl, _, hc⟩⟩ := hv
  · have h0 : n = 0 := by have := marksI_len k n; rw [e] at this; simpa using this.symm
    subst h0
    rw [marksI_len]
    go_enter Tryz.func48, Tryz.ntmps48
    go_wp2
    refine wp_loop_rounds 1 ?_
    rw [rounds_succ]
    go_wp2
    go_ret
    exact ⟨by simp, rfl⟩
  · rw [marksI_len] at hc ⊢
    have hc2 : ∀ i, i < n → w.cell? ⟨b, off + i, none⟩ = some (.int .i64 (k + (i : Int))) := fun i hi => by rw [hc i hi, marksI_at k n i hi]
    clear hc
    go_enter Tryz.func48, Tryz.ntmps48
    go_wp2
    go_loop [1, 5] (fun q i => ∃ j : Nat, j ≤ n ∧ i = .int .i64 j ∧ q = .int .i64 (k + (j : Int))) (fun _ i => n - (intOf i).toNat)
    case atStart => exact ⟨0, Nat.zero_le _, rfl, by simp⟩
    case round =>
      obtain ⟨j, hj, rfl, rfl⟩ := hrel
      by_cases hlt : j < n
      · have h1 := hc2 j hlt
        clear hc2
        go_wp2
        go_round
        case rel => exact ⟨j + 1, by omega, by go_num, by go_num⟩
        case measure => simp [intOf]; omega
      · have hjn : j = n := by omega
        subst hjn
        go_wp2
        go_ret
        exact ⟨rfl, rfl⟩

/-- Two lists' prefixes marked: what stands there while it is marked. -/
theorem marked_all (k : Int) (n : Nat) (ys : List Value) (hl : ys.length = n) (h : ∀ i, i < n → ys[i]? = some (.int .i64 (k + (i : Int)))) : ys = (marksI k n).map (Value.int .i64) := by
  apply List.ext_getElem?
  intro i
  by_cases hi : i < n
  · rw [h i hi]; simp [marksI, hi]
  · rw [List.getElem?_eq_none (by omega), List.getElem?_eq_none (by simp [marksI]; omega)]

set_option maxHeartbeats 400000 in
theorem markI_own (base : Nat) (v : Value) (k : Int) (n : Nat) (xs : List Value) (w : World) (hown : w.ownsRow base 2 1 v n xs) (hk : 0 ≤ k ∧ k ≤ 1073741824) (hl : n ≤ 1073741824) :
    Calls Tryz.prog 45 #[v, .int .i64 k] w fun e w' => e = .returned (.int .i64 (k + n)) ∧ w'.ownsRow base 2 1 v n ((marksI k n).map (Value.int .i64)) ∧ w.grownBy w' v.ownBlock := by
  have hlen := hown.1
  rcases hown.2 with ⟨rfl, rfl⟩ | ⟨g, cap, cur, rfl, hb, hg, _⟩
  · go_enter Tryz.func45, Tryz.ntmps45
    go_wp2
    refine wp_loop_rounds 1 ?_
    rw [rounds_succ]
    go_wp2
    go_ret
    exact ⟨by simp, World.ownsRow_nil _ _ _ _, World.grownBy.refl _ _⟩
  · clear hg
    go_enter Tryz.func45, Tryz.ntmps45
    go_wp2
    go_loopw [1, 5] (fun q i wr => ∃ (j : Nat) (ys : List Value), j ≤ n ∧ i = .int .i64 j ∧ q = .int .i64 (k + (j : Int)) ∧ wr.ownsRow base 2 1 (.slice (some ⟨g, 0, none⟩) n cap) n ys ∧ ys.length = n ∧ (∀ t, t < j → ys[t]? = some (.int .i64 (k + (t : Int)))) ∧ w.grownBy wr (some g)) (fun _ i _ => n - (intOf i).toNat)
    case atStart => exact ⟨0, xs, Nat.zero_le _, rfl, by simp, hown, by simpa using hlen, by simp, World.grownBy.refl _ _⟩
    case round =>
      obtain ⟨j, ys, hj, rfl, rfl, ho, hyl, hys, hgr⟩ := hrel
      by_cases hlt : j < n
      · have h1 : ∃ u, wr.cell? ⟨g, j, none⟩ = some u := by
          rw [ho.cellAt j (by omega)]; exact ⟨_, List.getElem?_eq_getElem (by omega)⟩
        obtain ⟨u, h1⟩ := h1
        have h2 := ho.frozenAt j
        have hst := ho.stored j (.int .i64 (k + (j : Int)))
        obtain ⟨hst1, hst2⟩ := hst
        clear ho
        go_wp2
        go_roundw
        case rel =>
          refine ⟨j + 1, ys.set j (.int .i64 (k + (j : Int))), by omega, by go_num, by go_num, hst1, by simpa using hyl, ?_, grown_trans hgr hst2⟩
          intro t ht
          by_cases e : t = j
          · subst e; simp [hyl, hlt]
          · rw [List.getElem?_set_ne (by omega)]; exact hys t (by omega)
        case measure => simp [intOf]; omega
      · have hjn : j = n := by omega
        subst hjn
        go_wp2
        go_ret
        exact ⟨rfl, by rw [← marked_all k j ys hyl hys]; exact ho, hgr⟩

end Go.Proofs.YtdbpjfdlibodcaaGreatDoor
namespace Go.Proofs.YtdbpjfdlibodcaaGreatDoor
open Go.ChangeShapes Go.WideShapes Go.ChangeAt Go.RowKit
set_option maxRecDepth 20000 in
theorem szI_any (v : Value) (xs : List Int) (left : Nat) (w : World) (hv : SlI w v xs) (hl : xs.length ≤ maxLen) (hf : left ≤ 4611686018427387904) :
    Calls Tryz.prog 22 #[v, .int .i64 left] w fun e w' => e = .returned (.int .i64 (if left < xs.length then -1 else ((left - xs.length : Nat) : Int))) ∧ w' = w := by
  unfold maxLen at hl
  obtain ⟨a, c, rfl⟩ := hv.shp
  clear hv
  generalize xs.length = n at *
  by_cases h : left < n
  · have h2 : (left : Int) - (n : Int) < 0 := by omega
    rw [if_pos h]
    go_enter Tryz.func22, Tryz.ntmps22
    go_wp2
    go_ret
    exact ⟨rfl, rfl⟩
  · have h2 : ¬ (left : Int) - (n : Int) < 0 := by omega
    have h3 : Hid (((left - n : Nat) : Int) = (left : Int) - (n : Int)) := by show _ = _; omega
    rw [if_neg h]
    go_enter Tryz.func22, Tryz.ntmps22
    go_wp2
    go_ret
    exact ⟨by rw [h3.out]; rfl, rfl⟩
def szP (n m left : Nat) : Int := if left < n then -1 else if left - n < m then -1 else ((left - n - m : Nat) : Int)
set_option maxRecDepth 20000 in
set_option maxHeartbeats 1000000 in
theorem szParser_any (p : Pa) (pv tv : Value) (left : Nat) (w : World) (hp : SlI w pv p.params) (ht : SlI w tv p.text) (hpl : p.params.length ≤ maxLen) (htl : p.text.length ≤ maxLen) (hf : left ≤ 4611686018427387904) :
    Calls Tryz.prog 23 #[paV p pv tv, .int .i64 left] w fun e w' => e = .returned (.int .i64 (szP p.params.length p.text.length left)) ∧ Below w.heap.size w w' := by
  obtain ⟨s, ps, m, ts⟩ := p
  have hb := bal' w (Obj.cells #[.int .i64 s, pv, .int .i64 m, tv] 29)
  have hP := PaC.new w s m pv tv 29
  have h1 := szI_any pv ps left _ (hp.below hb) hpl hf
  have h2 := fun l h => szI_any tv ts l _ (ht.below hb) htl h
  unfold paV at *
  simp only at *
  obtain ⟨pa, pc, hpv⟩ := hp.shp
  obtain ⟨ta, tc, htv⟩ := ht.shp
  subst hpv; subst htv
  obtain ⟨_, ⟨c0, c1, c2, c3⟩, _⟩ := id hP
  obtain ⟨rv, hrv⟩ : ∃ rv, Hid (rv = szP ps.length ts.length left) := ⟨_, rfl⟩
  rw [← hrv.out]
  by_cases q1 : left < ps.length
  · have hv : Hid (rv = -1) := by show _ = _; rw [hrv.out]; unfold szP; rw [if_pos q1]
    rw [if_pos q1] at h1
    clear h2 hp ht hP hrv
    go_enter Tryz.func23, Tryz.ntmps23
    go_wp2_with (go_at_call 22; refine h1.mono ?_; rintro e w' ⟨rfl, rfl⟩)
    go_ret
    exact ⟨by rw [hv.out]; rfl, hb⟩
  · rw [if_neg q1] at h1
    have h3 := h2 (left - ps.length) (by omega)
    have hn : ¬ (((left - ps.length : Nat) : Int) < 0) := by omega
    obtain ⟨l2, hl2⟩ : ∃ l2, Hid (l2 = left - ps.length) := ⟨_, rfl⟩
    rw [← hl2.out] at h1 h3 hn
    by_cases q2 : l2 < ts.length
    · have hv : Hid (rv = -1) := by show _ = _; rw [hrv.out]; unfold szP; rw [if_neg q1, if_pos (by rw [← hl2.out]; exact q2)]
      rw [if_pos q2] at h3
      clear h2 hp ht hP hrv hl2
      go_enter Tryz.func23, Tryz.ntmps23
      go_wp2_with fail
      refine h1.mono ?_
      rintro e w3 ⟨rfl, hw⟩
      subst hw
      clear h1
      go_wp2_with fail
      refine h3.mono ?_
      rintro e w4 ⟨rfl, hw⟩
      subst hw
      clear h3
      go_wp2
      go_ret
      exact ⟨by rw [hv.out]; rfl, hb⟩
    · obtain ⟨l3, hl3⟩ : ∃ l3, Hid (l3 = l2 - ts.length) := ⟨_, rfl⟩
      have hv : Hid (rv = (l3 : Int)) := by show _ = _; rw [hrv.out, hl3.out, hl2.out]; unfold szP; rw [if_neg q1, if_neg (by rw [← hl2.out]; exact q2)]
      rw [if_neg q2, ← hl3.out] at h3
      have hn3 : ¬ ((l3 : Int) < 0) := by omega
      clear h2 hp ht hP hrv hl2 hl3
      go_enter Tryz.func23, Tryz.ntmps23
      go_wp2_with fail
      refine h1.mono ?_
      rintro e w3 ⟨rfl, hw⟩
      subst hw
      clear h1
      go_wp2_with fail
      refine h3.mono ?_
      rintro e w4 ⟨rfl, hw⟩
      subst hw
      clear h3
      go_wp2
      go_ret
      exact ⟨by rw [hv.out]; rfl, hb⟩
theorem drewN_bel (w : World) (n : Nat) : Below w.heap.size w (w.drewN n) := by
  induction n with
  | zero => exact Below.refl _ _
  | succ n ih => exact ih.trans ((bdr _).mono ih.size)
set_option maxRecDepth 20000 in
set_option maxHeartbeats 2000000 in
theorem eqParser_same (p : Pa) (pv tv pv2 tv2 : Value) (w : World) (hp : SlI w pv p.params) (ht : SlI w tv p.text) (hp2 : SlI w pv2 p.params) (ht2 : SlI w tv2 p.text) (hpl : p.params.length ≤ 1073741824) (htl : p.text.length ≤ 1073741824) :
    Calls Tryz.prog 42 #[paV p pv tv, paV p pv2 tv2] w fun e w' => e = .returned (.bool true) ∧ Below w.heap.size w w' := by
  obtain ⟨s, ps, m, ts⟩ := p
  have hb1 := bal' w (Obj.cells #[.int .i64 s, pv, .int .i64 m, tv] 42)
  have hb2 := bal' (w.alloc (Obj.cells #[.int .i64 s, pv, .int .i64 m, tv] 42)) (Obj.cells #[.int .i64 s, pv2, .int .i64 m, tv2] 42)
  have hbb := hb1.trans (hb2.mono hb1.size)
  have hP := (PaC.new w s m pv tv 42).below hb2
  have hR := PaC.new (w.alloc (Obj.cells #[.int .i64 s, pv, .int .i64 m, tv] 42)) s m pv2 tv2 42
  rw [show (w.alloc (Obj.cells #[.int .i64 s, pv, .int .i64 m, tv] 42)).heap.size = w.heap.size + 1 by simp] at hR
  have e1 := eqI_same pv pv2 ps _ (hp.below hbb) (hp2.below hbb) hpl
  have e2 := fun W h1 h2 => eqI_same tv tv2 ts W h1 h2 htl
  have ht3 := ht.below hbb
  have ht4 := ht2.below hbb
  unfold paV at *
  simp only at *
  obtain ⟨pa, pc, hpv⟩ := hp.shp
  obtain ⟨ta, tc, htv⟩ := ht.shp
  obtain ⟨pa2, pc2, hpv2⟩ := hp2.shp
  obtain ⟨ta2, tc2, htv2⟩ := ht2.shp
  subst hpv; subst htv; subst hpv2; subst htv2
  obtain ⟨_, ⟨c0, c1, c2, c3⟩, _⟩ := id hP
  obtain ⟨_, ⟨d0, d1, d2, d3⟩, _⟩ := id hR
  clear hp ht hp2 ht2 hb1 hb2
  go_enter Tryz.func42, Tryz.ntmps42
  go_wp2_with fail
  refine e1.mono ?_
  rintro e w3 ⟨rfl, n, hw⟩
  have hbn : Below _ _ w3 := hw ▸ drewN_bel _ n
  have hP3 := hP.below hbn
  have hR3 := hR.below hbn
  have e3 := e2 w3 (ht3.below hbn) (ht4.below hbn)
  have hb3 := hbb.trans (hbn.mono hbb.size)
  clear hw hbn hP hR e1 e2 ht3 ht4 hbb c0 c1 c2 c3 d0 d1 d2 d3
  obtain ⟨_, ⟨c0, c1, c2, c3⟩, _⟩ := hP3
  obtain ⟨_, ⟨d0, d1, d2, d3⟩, _⟩ := hR3
  go_wp2_with fail
  refine e3.mono ?_
  rintro e w4 ⟨rfl, n2, hw⟩
  have hbn : Below w3.heap.size w3 w4 := hw ▸ drewN_bel _ n2
  have hb4 := hb3.trans (hbn.mono hb3.size)
  clear hw hbn e3 hb3 c0 c1 c2 c3 d0 d1 d2 d3
  go_wp2
  go_ret
  exact ⟨rfl, hb4⟩
set_option maxHeartbeats 4000000 in
set_option maxRecDepth 20000 in
theorem toParser_copy (p : Pa) (pv tv : Value) (w : World) (hp : SlI w pv p.params) (ht : SlI w tv p.text) (hpl : p.params.length ≤ 1073741824) (htl : p.text.length ≤ 1073741824) :
    Calls Tryz.prog 32 #[paV p pv tv] w fun e w' => ∃ pv' tv', e = .returned (paV p pv' tv') ∧ LiOk w' w.heap.size [(pv', p.params), (tv', p.text)] ∧ Below w.heap.size w w' := by
  obtain ⟨s, ps, m, ts⟩ := p
  have hto1 := fun W h => toI_copy pv ps W h hpl
  have hto2 := fun W h => toI_copy tv ts W h htl
  unfold paV at *
  simp only at *
  obtain ⟨pa, pc, hpv⟩ := hp.shp
  obtain ⟨ta, tc, htv⟩ := ht.shp
  subst hpv; subst htv
  have hb0 := bal' w (Obj.cells #[.int .i64 s, .slice pa ps.length pc, .int .i64 m, .slice ta ts.length tc] 29)
  have hA := PaC.new w s m (.slice pa ps.length pc) (.slice ta ts.length tc) 29
  have z0 : (w.alloc (Obj.cells #[.int .i64 s, .slice pa ps.length pc, .int .i64 m, .slice ta ts.length tc] 29)).heap.size = w.heap.size + 1 := by simp
  have hp1 := hp.below hb0
  have ht1 := ht.below hb0
  generalize hw1 : w.alloc (Obj.cells #[.int .i64 s, .slice pa ps.length pc, .int .i64 m, .slice ta ts.length tc] 29) = w1 at *
  have hb1 := bal' w1 (Obj.cells #[.int .i64 0, .slice none 0 0, .int .i64 0, .slice none 0 0] 42)
  have hb2 := bal' (w1.alloc (Obj.cells #[.int .i64 0, .slice none 0 0, .int .i64 0, .slice none 0 0] 42)) (Obj.cells #[.int .i64 s, .slice none 0 0, .int .i64 0, .slice none 0 0] 42)
  have hbb := hb1.trans (hb2.mono hb1.size)
  have hR := (PbB.new w1 0 0 (.slice none 0 0) (.slice none 0 0)).below hb2
  have hO := PbB.new (w1.alloc (Obj.cells #[.int .i64 0, .slice none 0 0, .int .i64 0, .slice none 0 0] 42)) s 0 (.slice none 0 0) (.slice none 0 0)
  rw [show (w1.alloc (Obj.cells #[.int .i64 0, .slice none 0 0, .int .i64 0, .slice none 0 0] 42)).heap.size = w.heap.size + 2 by simp [z0]] at hO
  rw [z0] at hR
  have hA2 := hA.below hbb
  have hp2 := hp1.below hbb
  have ht2 := ht1.below hbb
  have z3 : ((w1.alloc (Obj.cells #[.int .i64 0, .slice none 0 0, .int .i64 0, .slice none 0 0] 42)).alloc (Obj.cells #[.int .i64 s, .slice none 0 0, .int .i64 0, .slice none 0 0] 42)).heap.size = w.heap.size + 3 := by simp [z0]
  have hbw := hb0.trans (hbb.mono hb0.size)
  obtain ⟨_, ⟨c0, c1, c2, c3⟩, _⟩ := id hA2
  have hT := hto1 _ hp2
  subst hw1
  have htw := ht
  clear hA hp hp1 ht ht1 hb0 hb1 hb2 hto1 hp2
  go_enter Tryz.func32, Tryz.ntmps32
  go_wp2_with fail
  refine hT.mono ?_
  rintro e w4 ⟨u, rfl, hou, hb4⟩
  have hR4 := hR.below hb4
  have hO4 := hO.below hb4
  have hA4 := hA2.below hb4
  have ht4 := ht2.below hb4
  have hou : OwnI w4 (w.heap.size + 3) u ps := by rw [← z3]; exact hou
  obtain ⟨ua, un, uc, hu⟩ := hou.shape
  subst hu
  have hs4 : w.heap.size + 3 ≤ w4.heap.size := by rw [← z3]; exact hb4.size
  have hb4w := hbw.trans (hb4.mono hbw.size)
  -- the first list and the mark are stored
  have g1 := setCell_gr w4 (w.heap.size + 2) 1 (.slice ua un uc)
  have k1 : PbB (w4.setCell ⟨w.heap.size + 2, 1, none⟩ (.slice ua un uc)) (w.heap.size + 2) s (.slice ua un uc) 0 (.slice none 0 0) := hO4.set 1 _
  have g2 := setCell_gr (w4.setCell ⟨w.heap.size + 2, 1, none⟩ (.slice ua un uc)) (w.heap.size + 2) 2 (.int .i64 m)
  have k2 : PbB ((w4.setCell ⟨w.heap.size + 2, 1, none⟩ (.slice ua un uc)).setCell ⟨w.heap.size + 2, 2, none⟩ (.int .i64 m)) (w.heap.size + 2) s (.slice ua un uc) m (.slice none 0 0) := k1.set 2 _
  have gg := grown_tr g1 g2
  have hb5 : Below (w.heap.size + 2) w4 ((w4.setCell ⟨w.heap.size + 2, 1, none⟩ (.slice ua un uc)).setCell ⟨w.heap.size + 2, 2, none⟩ (.int .i64 m)) := (Below.refl _ _).grown gg (by omega) (fun k e => by cases e; exact Nat.le_refl _)
  have hou5 := hou.kept gg (.inr (fun e => by have := (hou.lt _ e).1; omega))
  have hA5 := hA4.grown gg (by simp)
  have hR5 := hR4.kept gg (by simp)
  have ht0 : SlI ((w4.setCell ⟨w.heap.size + 2, 1, none⟩ (.slice ua un uc)).setCell ⟨w.heap.size + 2, 2, none⟩ (.int .i64 m)) (.slice ta ts.length tc) ts := htw.below (hb4w.grown gg (by omega) (fun k e => by cases e; omega))
  have z5 : ((w4.setCell ⟨w.heap.size + 2, 1, none⟩ (.slice ua un uc)).setCell ⟨w.heap.size + 2, 2, none⟩ (.int .i64 m)).heap.size = w4.heap.size := by simp
  have hT2 := hto2 _ ht0
  obtain ⟨_, ⟨e0, e1, e2, e3⟩, _⟩ := id hA4
  obtain ⟨r0, r1, r2, r3⟩ := hO4.cells
  obtain ⟨y0, y1, y2, y3⟩ := hO4.frozen
  have hb5w := hb4w.grown gg (by omega) (fun k e => by cases e; omega)
  clear hT hb4 hR hO hA2 c0 c1 c2 c3 ht2 ht4 hbb hR4 hO4 hA4 hou k1 g1 g2 gg hb5 ht0 htw hto2 hb4w
  obtain ⟨W5, hW5⟩ : ∃ W5, W5 = (w4.setCell ⟨w.heap.size + 2, 1, none⟩ (.slice ua un uc)).setCell ⟨w.heap.size + 2, 2, none⟩ (.int .i64 m) := ⟨_, rfl⟩
  rw [← hW5] at k2 hou5 hA5 hR5 z5 hb5w
  have hW6 := (show Hid _ from hW5)
  clear hW5
  go_wp2_with fail
  refine hT2.mono ?_
  rintro e w6 ⟨t, rfl, hot, hb6⟩
  rw [← hW6.out] at hot hb6
  clear hT2 e0 e1 e2 e3 r0 r1 r2 r3 y0 y1 y2 y3 hW6
  have k6 := k2.below hb6
  have hR6 := hR5.below hb6
  have hou6 := hou5.below hb6
  have hot : OwnI w6 w4.heap.size t ts := by rw [← z5]; exact hot
  obtain ⟨sa, sn, sc, hu⟩ := hot.shape
  subst hu
  have g7 := setCell_gr w6 (w.heap.size + 2) 3 (.slice sa sn sc)
  have k7 : PbB (w6.setCell ⟨w.heap.size + 2, 3, none⟩ (.slice sa sn sc)) (w.heap.size + 2) s (.slice ua un uc) m (.slice sa sn sc) := k6.set 3 _
  have hR7 := hR6.kept g7 (by simp)
  have hL6 : LiOk w6 w.heap.size [(.slice ua un uc, ps), (.slice sa sn sc, ts)] :=
    ((show LiOk W5 w.heap.size [(.slice ua un uc, ps)] from ⟨fun p hp => by rw [List.mem_singleton] at hp; subst hp; exact hou5.low (by omega), List.pairwise_singleton _ _⟩).new hb6 (hot.low (by omega)) (fun g e => by rw [z5]; exact (hot.lt g e).1)).perm (List.Perm.swap _ _ _)
  have hne : ∀ p ∈ [((.slice ua un uc : Value), ps), (.slice sa sn sc, ts)], ∀ k, p.1.ownBlock = some k → w.heap.size + 3 ≤ k := fun p hp k e => by
    simp only [List.mem_cons, List.mem_nil_iff, or_false] at hp
    rcases hp with rfl | rfl
    · exact (hou6.lt k e).1
    · have := (hot.lt k e).1; omega
  have hb6w := hb5w.trans (hb6.mono hb5w.size)
  have hs6 : w4.heap.size ≤ w6.heap.size := by rw [← z5]; exact hb6.size
  have hb7 := hb6w.grown g7 (by omega) (fun k e => by cases e; omega)
  have hL7 := hL6.kept g7 (fun p hp => .inr fun e => by have := hne p hp _ e; omega)
  have g8 := putP_grown (w6.setCell ⟨w.heap.size + 2, 3, none⟩ (.slice sa sn sc)) (w.heap.size + 1) s (.slice ua un uc) m (.slice sa sn sc)
  have hF := (hR7.put s m (.slice ua un uc) (.slice sa sn sc)).cells
  have hL8 := hL7.kept g8 (fun p hp => .inr fun e => by have := hne p hp _ e; omega)
  have hb8 := hb7.grown g8 (by simp; omega) (fun k e => by cases e; omega)
  obtain ⟨e0, e1, e2, e3⟩ := k6.cells
  obtain ⟨y0, y1, y2, y3⟩ := k6.frozen
  obtain ⟨r0, r1, r2, r3⟩ := hR7.cells
  obtain ⟨q0, q1, q2, q3⟩ := hR7.frozen
  obtain ⟨f0, f1, f2, f3⟩ := hF
  obtain ⟨j0, j1, j2, j3⟩ := k7.cells
  simp only [putP] at f0 f1 f2 f3 hL8 hb8
  have hfin := (show Hid _ from And.intro hL8 hb8)
  clear hL8 hb8 hL7 hb7 hL6 hne hb6w hs6 g7 g8 k6 k7 hR6 hR7 hou6 hot hb6 hou5 k2 hA5 hR5 hb5w z5
  go_wp2
  exact bodyPost_ret (v := .agg #[.int .i64 s, .slice ua un uc, .int .i64 m, .slice sa sn sc]) (by simp [results, Tryz.results32, go_sem, f0, f1, f2, f3]) rfl ⟨_, _, rfl, hfin.out⟩
end Go.Proofs.YtdbpjfdlibodcaaGreatDoor
namespace Go.Proofs.YtdbpjfdlibodcaaGreatDoor
open Go.ChangeShapes Go.WideShapes Go.ChangeAt Go.RowKit
theorem szFeeder_any (h : ByteArray) (n : Int) (w : World) (hs : h.size ≤ maxLen) (hn : 0 ≤ n ∧ n ≤ 1048576) :
    Calls Tryz.prog 24 #[.agg #[.string h], .int .i64 n] w fun e w' => e = .returned (.int .i64 (if n - (h.size : Int) < 0 then -1 else n - (h.size : Int))) ∧ Below w.heap.size w w' := by
  unfold maxLen at hs
  by_cases hl : n - (h.size : Int) < 0
  · rw [if_pos hl]
    go_enter Tryz.func24, Tryz.ntmps24
    go_wp2
    go_ret
    exact ⟨rfl, (Below.refl _ _).alloc (Nat.le_refl _) _⟩
  · rw [if_neg hl]
    go_enter Tryz.func24, Tryz.ntmps24
    go_wp2
    go_ret
    exact ⟨rfl, (Below.refl _ _).alloc (Nat.le_refl _) _⟩

theorem toFeeder_any (h : ByteArray) (w : World) :
    Calls Tryz.prog 33 #[.agg #[.string h]] w fun e w' => e = .returned (.agg #[.string h]) ∧ Below w.heap.size w w' := by
  go_enter Tryz.func33, Tryz.ntmps33
  go_wp2
  refine bodyPost_ret (v := .agg #[.string h]) (by simp [results, Tryz.results33, go_sem]) rfl ⟨rfl, ?_⟩
  exact (((Below.refl _ _).alloc (Nat.le_refl _) _).alloc (by simp) _).alloc (by simp; omega) _
end Go.Proofs.YtdbpjfdlibodcaaGreatDoor
