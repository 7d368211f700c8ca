/- Runes as numbers: what a text's first bytes are read to. Plain mathematics, no program. How far two lists are apart: distances, cut at a limit, and what is shared. Plain mathematics. Slices of int64 that can be read, and rows that stay. The laws' own helper that copies a list of int64. The specification's tables of two lists: distances, and what is shared. One operation alone may come up. Widths, and what fits into some cells. Plain mathematics. Parsers as numbers: what a rune makes of one, and what is told of it. Plain mathematics, no program. What a contract leaves, as growth. Lists of numbers that one call owns, apart from one another; parsers and actions in memory. Contracts: the specification's tests on parsers. The walk of the program's parser: what it tells, what comes next. The walk of the program's parser: past controls, letters, parameters, a title. The laws' own helper: two lists alike. Contracts of the program's Parsed and Step: first part. A struct of many cells, loaded and stored as a whole, behind a guard too. A part of a block that is a struct, loaded as a whole. The program's rows of distances: one that is all beyond. The program's route: its block, and what is read of it. The program's route: alike, and the ways. The program's route: how far two beginnings are apart. The program's route: how far two beginnings are apart. The program's route: a row is filled. The program's route: rows compared, a route built. The program's route between two lists. The specification's table of distances. -/
import Derived.Laws.BytesArg
import GoSem.Core.Utf8
import Derived.Test.YtdahcdgefflkaaaRows
import Derived.WalkKit
import Derived.ProofKit
import Derived.OpenShut
import Derived.LoopN
import Derived.WalkSpells
import Derived.Deep.QuietTactic
import Derived.BigQuiet
import Derived.Deep.RegionHeld3
import Derived.Deep.AppendLies
import Derived.LoopTactic
import Derived.OneCell
import Derived.Deep.RegionLaw
import Derived.Deep.LoopGhost
import Derived.Laws.AppendOwnNone
import Derived.Laws.Rows
import Derived.Laws.Tables
import Derived.ChangeKeysEq
import Derived.WalkMore
namespace Go.Proofs.Ytdahcdgefflkaaa
def runeOk (r : Int) : Bool := decide (0 ≤ r ∧ r ≤ 1114111 ∧ (r < 55296 ∨ 57343 < r))

theorem runeOk_bd (r : Int) (h : runeOk r = true) : 0 ≤ r ∧ r ≤ 1114111 := by simp [runeOk] at h; omega

def both (p : Nat × Nat) : Int × Int := ((p.1 : Int), (p.2 : Int))
end Go.Proofs.Ytdahcdgefflkaaa
namespace Go.Proofs.Ytdahcdgefflkaaa
def edD (t : Bool) (x y : Nat → Int) : Nat → Nat → Int
  | 0, j => j
  | i + 1, 0 => (i : Int) + 1
  | i + 1, j + 1 =>
    if x i = y j then edD t x y i j
    else 1 + (if t then min (edD t x y i j) (min (edD t x y i (j + 1)) (edD t x y (i + 1) j)) else min (edD t x y i (j + 1)) (edD t x y (i + 1) j))
termination_by i j => i + j
theorem edD_0 (t : Bool) (x y : Nat → Int) (j : Nat) : edD t x y 0 j = j := by cases j <;> simp [edD]
theorem edD_i0 (t : Bool) (x y : Nat → Int) (i : Nat) : edD t x y i 0 = i := by cases i <;> simp [edD]
theorem edD_eq (t : Bool) (x y : Nat → Int) (i j : Nat) (h : x i = y j) : edD t x y (i + 1) (j + 1) = edD t x y i j := by rw [edD, if_pos h]
theorem edD_ne (t : Bool) (x y : Nat → Int) (i j : Nat) (h : ¬ x i = y j) : edD t x y (i + 1) (j + 1) = 1 + (if t then min (edD t x y i j) (min (edD t x y i (j + 1)) (edD t x y (i + 1) j)) else min (edD t x y i (j + 1)) (edD t x y (i + 1) j)) := by rw [edD, if_neg h]
/-- An induction over both. -/
theorem ed_ind (C : Nat → Nat → Prop) (h0 : ∀ j, C 0 j) (h1 : ∀ i, C i 0) (h2 : ∀ i j, C i j → C i (j + 1) → C (i + 1) j → C (i + 1) (j + 1)) : ∀ i j, C i j := by
  intro i
  induction i with
  | zero => exact h0
  | succ i ih =>
    intro j
    induction j with
    | zero => exact h1 _
    | succ j jh => exact h2 i j (ih j) (ih (j + 1)) jh
theorem edD_bd (t : Bool) (x y : Nat → Int) : ∀ i j, 0 ≤ edD t x y i j ∧ edD t x y i j ≤ i + j := by
  refine ed_ind _ (fun j => by rw [edD_0]; omega) (fun i => by rw [edD_i0]; omega) (fun i j h1 h2 h3 => ?_)
  by_cases h : x i = y j
  · rw [edD_eq t x y i j h]; omega
  · rw [edD_ne t x y i j h]; cases t <;> simp only [if_true, if_false, Bool.false_eq_true] <;> omega
/-- A row of distances has one that is no more than what lies further down. -/
theorem edD_row (t : Bool) (x y : Nat → Int) (i : Nat) : ∀ j, ∃ k, k ≤ j ∧ edD t x y i k ≤ edD t x y (i + 1) j := by
  intro j
  induction j with
  | zero => exact ⟨0, Nat.le_refl _, by rw [edD_i0, edD_i0]; omega⟩
  | succ j ih =>
    obtain ⟨k, hk, hle⟩ := ih
    by_cases h : x i = y j
    · exact ⟨j, by omega, by rw [edD_eq t x y i j h]; omega⟩
    · rw [edD_ne t x y i j h]
      cases t
      · simp only [if_false, Bool.false_eq_true]
        by_cases h1 : edD false x y i (j + 1) ≤ edD false x y (i + 1) j
        · exact ⟨j + 1, by omega, by omega⟩
        · exact ⟨k, by omega, by omega⟩
      · simp only [if_true]
        by_cases h0 : edD true x y i j ≤ min (edD true x y i (j + 1)) (edD true x y (i + 1) j)
        · exact ⟨j, by omega, by omega⟩
        · by_cases h1 : edD true x y i (j + 1) ≤ edD true x y (i + 1) j
          · exact ⟨j + 1, by omega, by omega⟩
          · exact ⟨k, by omega, by omega⟩
theorem edD_rows (t : Bool) (x y : Nat → Int) (i : Nat) : ∀ d j, ∃ k, k ≤ j ∧ edD t x y i k ≤ edD t x y (i + d) j := by
  intro d
  induction d with
  | zero => exact fun j => ⟨j, Nat.le_refl _, Int.le_refl _⟩
  | succ d ih =>
    intro j
    obtain ⟨k, hk, hle⟩ := edD_row t x y (i + d) j
    obtain ⟨k', hk', hle'⟩ := ih k
    exact ⟨k', by omega, by rw [← Nat.add_assoc]; omega⟩
/-- A distance within a limit; 160 stands for all that lie beyond. -/
def edC (l d : Int) : Int := if d ≤ l then d else 160
/-- What a place of the rows is made of, where those ahead of it are cut at a limit. -/
def edS (t : Bool) (x y : Nat → Int) (R : Nat → Nat → Int) : Nat → Nat → Int
  | 0, 0 => 0
  | 0, j + 1 => min 160 (R 0 j + 1)
  | i + 1, 0 => min 160 (R i 0 + 1)
  | i + 1, j + 1 => if x i = y j then R i j else if t then min (min (min 160 (R i j + 1)) (R i (j + 1) + 1)) (R (i + 1) j + 1) else min (min 160 (R i (j + 1) + 1)) (R (i + 1) j + 1)
theorem edC_min (l a : Int) (h : 0 ≤ l ∧ l < 160) (ha : 0 ≤ a) : edC l (min 160 (edC l a + 1)) = edC l (a + 1) := by
  unfold edC; split <;> split <;> split <;> omega
/-- The rows, cut: what comes of cut ones, cut, is the distance cut. -/
theorem edS_cut (t : Bool) (x y : Nat → Int) (l : Int) (hl : 0 ≤ l ∧ l < 160) (R : Nat → Nat → Int) (i j : Nat) (hR : ∀ i' j', (i' < i ∧ j' ≤ j) ∨ (i' = i ∧ j' < j) → R i' j' = edC l (edD t x y i' j')) : edC l (edS t x y R i j) = edC l (edD t x y i j) := by
  cases i with
  | zero =>
    cases j with
    | zero => rw [edD_0]; rfl
    | succ j =>
      rw [edS, hR 0 j (by omega), edC_min l _ hl (edD_bd t x y 0 j).1, edD_0, edD_0]; congr 1
  | succ i =>
    cases j with
    | zero => rw [edS, hR i 0 (by omega), edC_min l _ hl (edD_bd t x y i 0).1, edD_i0, edD_i0]; congr 1
    | succ j =>
      have b1 := (edD_bd t x y i j).1
      have b2 := (edD_bd t x y i (j + 1)).1
      have b3 := (edD_bd t x y (i + 1) j).1
      rw [edS, hR i j (by omega)]
      by_cases h : x i = y j
      · rw [if_pos h, edD_eq t x y i j h]; unfold edC; split <;> simp_all <;> omega
      · rw [if_neg h, edD_ne t x y i j h, hR i (j + 1) (by omega), hR (i + 1) j (by omega)]
        generalize edD t x y i j = p at *
        generalize edD t x y i (j + 1) = q at *
        generalize edD t x y (i + 1) j = r at *
        cases t
        · simp only [if_false, Bool.false_eq_true]
          unfold edC; repeat' split
          all_goals omega
        · simp only [if_true]
          unfold edC; repeat' split
          all_goals omega
end Go.Proofs.Ytdahcdgefflkaaa
namespace Go.Proofs.Ytdahcdgefflkaaa
open Go.ChangeShapes Go.WideShapes Go.ChangeAt Go.RowKit
/-- What is owned stays owned while the world only grows above. -/
theorem _root_.Go.World.ownsRow.below {w w' : World} {base : Nat} {e : TypeId} {size : Nat} {v : Value} {n : Nat} {xs : List Value} (h : w.ownsRow base e size v n xs) (hb : Below w.heap.size w w') : w'.ownsRow base e size v n xs := by
  refine ⟨h.1, ?_⟩
  rcases h.2 with h2 | ⟨g, cap, cur, hv, hbg, hg, r⟩
  · exact .inl h2
  · exact .inr ⟨g, cap, cur, hv, hbg, by rw [hb.block g (Array.getElem?_eq_some_iff.1 hg).1]; exact hg, r⟩
/-- A slice that can be read: of no element, or a row of cells that hold the numbers. -/
def SlI (w : World) (v : Value) (xs : List Int) : Prop :=
  ∃ a c, v = .slice a xs.length c ∧ (xs = [] ∨ ∃ b off, a = some ⟨b, off, none⟩ ∧ b < w.heap.size ∧ ∀ i, i < xs.length → w.cell? ⟨b, off + i, none⟩ = some (.int .i64 (xs.getD i 0)))
theorem SlI.of_own {w : World} {base : Nat} {e : TypeId} {v : Value} {xs : List Int} (h : w.ownsRow base e 1 v xs.length (xs.map (Value.int .i64))) : SlI w v xs := by
  rcases h.2 with ⟨rfl, h2⟩ | ⟨g, cap, cur, rfl, hb, hg, hr⟩
  · exact ⟨none, 0, by rw [h2], .inl (List.eq_nil_of_length_eq_zero h2)⟩
  · refine ⟨_, cap, rfl, .inr ⟨g, 0, rfl, (Array.getElem?_eq_some_iff.1 hg).1, fun i hi => ?_⟩⟩
    have := h.cellAt i (by simpa using hi)
    rw [Nat.zero_add, this]
    simp [hi]
theorem SlI.below {w w' : World} {v : Value} {xs : List Int} (h : SlI w v xs) (hb : Below w.heap.size w w') : SlI w' v xs := by
  obtain ⟨a, c, hv, h | ⟨b, off, ha, hlt, hc⟩⟩ := h
  · exact ⟨a, c, hv, .inl h⟩
  · exact ⟨a, c, hv, .inr ⟨b, off, ha, Nat.lt_of_lt_of_le hlt hb.size, fun i hi => (hb.cell (p := ⟨b, off + i, none⟩) hlt).trans (hc i hi)⟩⟩
theorem SlI.drewN {w : World} {v : Value} {xs : List Int} (h : SlI w v xs) (n : Nat) : SlI (w.drewN n) v xs := h

/-- What a law is told of a slice of integers that came in: nil; or a row of cap cells, the numbers zs (the first len are its elements), each fitting its kind. -/
def IsRow (k : IntKind) (w : World) (a : Option Addr) (len cap : Nat) (zs : List Int) : Prop :=
  (a = none ∧ len = 0 ∧ cap = 0 ∧ zs = []) ∨
  ∃ x, a = some x ∧ len ≤ cap ∧ cap ≤ maxLen ∧ zs.length = cap ∧ (∀ i, i < zs.length → w.cell? (x.add i) = some (.int k (zs.getD i 0))) ∧ ∀ n ∈ zs, (Lit.int k n).wf = true
theorem SlI.of_row {w : World} {a : Option Addr} {len cap : Nat} {zs : List Int} (h : IsRow .i64 w a len cap zs) : SlI w (.slice a len cap) (zs.take len) ∧ (zs.take len).length = len := by
  rcases h with ⟨rfl, rfl, rfl, rfl⟩ | ⟨x, rfl, hl, hm, hz, hc, hw⟩
  · exact ⟨⟨none, 0, rfl, .inl rfl⟩, rfl⟩
  · have hlen : (zs.take len).length = len := by rw [List.length_take]; omega
    refine ⟨⟨some x, cap, by rw [hlen], ?_⟩, hlen⟩
    by_cases h0 : len = 0
    · left; subst h0; simp
    · right
      obtain ⟨b, off, spot⟩ := x
      have h1 := hc 0 (by omega)
      have hspot : spot = none := by simpa [Addr.add] using World.cell?_spot h1
      subst hspot
      refine ⟨b, off, rfl, World.block_lt_of_cell? w _ h1, fun i hi => ?_⟩
      rw [hlen] at hi
      have h2 := hc i (by omega)
      have e : (zs.take len).getD i 0 = zs.getD i 0 := by simp [List.getD, hi]
      rw [e, ← h2]
      by_cases hi0 : i = 0
      · subst hi0; simp [Addr.add]
      · simp [Addr.add, hi0]

end Go.Proofs.Ytdahcdgefflkaaa
namespace Go.Proofs.Ytdahcdgefflkaaa
open Go.ChangeShapes Go.WideShapes Go.ChangeAt Go.RowKit
theorem info_i64 : (Try.prog.info? 2).map (fun i => (i.zero, i.size, i.bytes)) = some (some (.int .i64 0), 1, 8) := by kernel_rfl
set_option maxHeartbeats 400000 in
theorem toI_copy (v : Value) (xs : List Int) (w : World) (hv : SlI w v xs) (hl : xs.length ≤ 1073741824) :
    Calls Try.prog 24 #[v] w fun e w' => ∃ u, e = .returned u ∧ w'.ownsRow w.heap.size 2 1 u xs.length (xs.map (Value.int .i64)) ∧ Below w.heap.size w w' := by
  obtain ⟨i0, hi, hz0, hz1, hz2⟩ := info_parts info_i64
  obtain ⟨a, c, rfl, hc⟩ := hv
  generalize hn : xs.length = n at *
  go_enter Try.func24, Try.ntmps24
  go_wp2_with (refine wpList_make_full _ rfl _ _ 24 rfl w.heap.size 2 i0 (.int .i64 0) 1 Try.underlying24 hi hz0 hz1 .i64 .i64 (n : Int) (n : Int) n rfl rfl rfl rfl ?c1 ?c2 ?c3 ?_)
  case c1 => rw [hz2]; omega
  case c2 => unfold maxLen; omega
  case c3 => exact Nat.le_refl _
  intro w1 ho hg
  have hb1 : Below w.heap.size w w1 := (Below.refl _ _).grown hg (Nat.le_refl _) (fun k hk => by cases hk)
  clear hg
  go_wp2
  go_loopw [4] (fun i wr => ∃ (j : Nat) (ys : List Value), j ≤ n ∧ i = .int .i64 j ∧ wr.ownsRow w.heap.size 2 1 (.slice (some ⟨w.heap.size, 0, none⟩) n n) n ys ∧ ys.length = n ∧ (∀ t, t < j → ys[t]? = some (.int .i64 (xs.getD t 0))) ∧ Below w.heap.size w wr) (fun i _ => n - (intOf i).toNat)
  case atStart => exact ⟨0, _, Nat.zero_le _, rfl, ho, by simpa using ho.1, by simp, hb1⟩
  case round =>
    obtain ⟨j, ys, hj, rfl, ho, hyl, hys, hbel⟩ := hrel
    by_cases hlt : j < n
    · rcases hc with hc | ⟨b, off, rfl, hb, hc⟩
      · rw [hc] at hn; simp at hn; omega
      · have h0 : wr.cell? ⟨b, off + j, none⟩ = some (.int .i64 (xs.getD j 0)) := (hbel.cell (p := ⟨b, off + j, none⟩) hb).trans (hc j hlt)
        have h1 : ∃ u, wr.cell? ⟨w.heap.size, j, none⟩ = some u := by
          rw [ho.cellAt j (by omega)]; exact ⟨_, List.getElem?_eq_getElem (by omega)⟩
        obtain ⟨u, h1⟩ := h1
        have h2 := ho.frozenAt j
        obtain ⟨hst1, hst2⟩ := ho.stored j (.int .i64 (xs.getD j 0))
        have hy2 : ∀ t, t < j + 1 → (ys.set j (.int .i64 (xs.getD j 0)))[t]? = some (.int .i64 (xs.getD t 0)) := by
          intro t ht
          by_cases e : t = j
          · subst e; rw [List.getElem?_set_self (by omega)]
          · rw [List.getElem?_set_ne (by omega)]; exact hys t (by omega)
        clear ho hc hys
        generalize xs.getD j 0 = x at *
        have hbs := hbel.size
        go_wp2
        go_roundw
        case rel =>
          exact ⟨j + 1, ys.set j (.int .i64 x), by omega, by go_num, hst1, by simpa using hyl, hy2, hbel.grown hst2 hbs (fun k hk => by cases hk; exact Nat.le_refl _)⟩
        case measure => simp [intOf]; omega
    · have hjn : j = n := by omega
      subst hjn
      have hye : ys = xs.map (Value.int .i64) := by
        apply List.ext_getElem?
        intro i
        by_cases hi : i < j
        · rw [hys i hi]; simp [show i < xs.length by omega]
        · rw [List.getElem?_eq_none (by omega), List.getElem?_eq_none (by simp; omega)]
      go_wp2
      go_ret
      exact ⟨_, rfl, by rw [← hye]; exact ho, hbel⟩
end Go.Proofs.Ytdahcdgefflkaaa
namespace Go.Proofs.Ytdahcdgefflkaaa
open Go.ChangeShapes Go.WideShapes Go.ChangeAt Go.RowKit
theorem wid {x y : Int} (h : x = y) (h1 : -9223372036854775808 ≤ x) (h2 : x ≤ 9223372036854775807) : IntKind.i64.wrap x = y := by
  subst h; simp [IntKind.wrap, IntKind.bits, IntKind.signed]; omega
/-- A table of W numbers a row, filled up to a place. -/
def TabT (ys : List Value) (W m : Nat) (f : Nat → Nat → Int) (i j : Nat) : Prop :=
  ∀ i' j', j' < W → i' ≤ m → ys[i' * W + j']? = some (.int .i64 (if i' < i ∨ (i' = i ∧ j' < j) then f i' j' else 0))
theorem tab_lt {W m i j : Nat} (hi : i ≤ m) (hj : j < W) : i * W + j < (m + 1) * W := by
  have h1 : i * W ≤ m * W := Nat.mul_le_mul_right W hi
  have h2 : (m + 1) * W = m * W + W := by rw [Nat.add_mul]; simp
  omega
theorem tab_inj {W i j i' j' : Nat} (hj : j < W) (hj' : j' < W) (h : i * W + j = i' * W + j') : i = i' ∧ j = j' := by
  have hW : 0 < W := by omega
  have h1 : (i * W + j) / W = i := by rw [Nat.mul_comm, Nat.mul_add_div hW, Nat.div_eq_of_lt hj]; rfl
  have h2 : (i' * W + j') / W = i' := by rw [Nat.mul_comm, Nat.mul_add_div hW, Nat.div_eq_of_lt hj']; rfl
  have e : i = i' := by rw [← h1, ← h2, h]
  subst e
  exact ⟨rfl, by omega⟩
theorem TabT.zero (W m : Nat) (f : Nat → Nat → Int) : TabT (List.replicate ((m + 1) * W) (.int .i64 0)) W m f 0 0 := by
  intro i' j' hj hi
  have := tab_lt hi hj
  rw [if_neg (by omega)]
  simp [this]
theorem TabT.set {ys : List Value} {W m : Nat} {f : Nat → Nat → Int} {i j p : Nat} {x : Int} (h : TabT ys W m f i j) (hj : j < W) (hi : i ≤ m) (hp : p = i * W + j) (hl : ys.length = (m + 1) * W) (hx : x = f i j) : TabT (ys.set p (.int .i64 x)) W m f i (j + 1) := by
  subst hp; subst hx
  intro i' j' hj' hi'
  have hlt := tab_lt hi hj
  by_cases e : i' = i ∧ j' = j
  · obtain ⟨rfl, rfl⟩ := e
    rw [List.getElem?_set_self (by omega), if_pos (by omega)]
  · rw [List.getElem?_set_ne (fun q => e (by have := tab_inj hj hj' q; omega)), h i' j' hj' hi']
    have : (i' < i ∨ (i' = i ∧ j' < j + 1)) ↔ (i' < i ∨ (i' = i ∧ j' < j)) := by omega
    simp only [this]
theorem TabT.row {ys : List Value} {W m : Nat} {f : Nat → Nat → Int} {i : Nat} (h : TabT ys W m f i W) : TabT ys W m f (i + 1) 0 := by
  intro i' j' hj' hi'
  rw [h i' j' hj' hi']
  have : (i' < i + 1 ∨ (i' = i + 1 ∧ j' < 0)) ↔ (i' < i ∨ (i' = i ∧ j' < W)) := by omega
  simp only [this]
theorem TabT.at {ys : List Value} {W m : Nat} {f : Nat → Nat → Int} {i j : Nat} (h : TabT ys W m f i j) (i' j' : Nat) (hj' : j' < W) (hi' : i' ≤ m) (hd : i' < i ∨ (i' = i ∧ j' < j)) : ys[i' * W + j']? = some (.int .i64 (f i' j')) := by
  rw [h i' j' hj' hi', if_pos hd]
theorem l9Two_any (va vb : Value) (xs ys : List Int) (w : World) (ha : SlI w va xs) (hb : SlI w vb ys) :
    Calls Try.prog 39 #[va, vb] w fun e w' => e = .returned (.bool (decide (xs.length ≤ 40 ∧ ys.length ≤ 40))) ∧ w' = w := by
  obtain ⟨a, c, rfl, _⟩ := ha
  obtain ⟨a', c', rfl, _⟩ := hb
  obtain ⟨r, hr⟩ : ∃ r, Hid (decide (xs.length ≤ 40 ∧ ys.length ≤ 40) = r) := ⟨_, rfl⟩
  rw [hr.out]
  have hr2 : r = decide (xs.length ≤ 40 ∧ ys.length ≤ 40) := hr.out.symm
  generalize xs.length = m at *
  generalize ys.length = n at *
  clear hr
  go_enter Try.func39, Try.ntmps39
  by_cases h1 : m ≤ 40
  · have h1i : (m : Int) ≤ 40 := by omega
    by_cases h2 : n ≤ 40
    · have h2i : (n : Int) ≤ 40 := by omega
      have hr3 : r = true := by rw [hr2]; exact decide_eq_true ⟨h1, h2⟩
      subst hr3; clear hr2
      go_wp2
      go_ret
      exact ⟨rfl, rfl⟩
    · have h2i : ¬ (n : Int) ≤ 40 := by omega
      have hr3 : r = false := by rw [hr2]; exact decide_eq_false (by omega)
      subst hr3; clear hr2
      go_wp2
      go_ret
      exact ⟨rfl, rfl⟩
  · have h1i : ¬ (m : Int) ≤ 40 := by omega
    have hr3 : r = false := by rw [hr2]; exact decide_eq_false (by omega)
    subst hr3; clear hr2
    go_wp2
    go_ret
    exact ⟨rfl, rfl⟩
theorem l1Min_e (a b : Int) (w : World) :
    Calls Try.prog 54 #[.int .i64 a, .int .i64 b] w fun e w' => e = .returned (.int .i64 (min a b)) ∧ w' = w := by
  obtain ⟨m, hm⟩ : ∃ m, Hid (min a b = m) := ⟨_, rfl⟩
  rw [hm.out]
  go_enter Try.func54, Try.ntmps54
  by_cases h : a < b
  · have e : m = a := by rw [← hm.out]; omega
    subst e
    go_wp2
    go_ret
    exact ⟨rfl, rfl⟩
  · have e : m = b := by rw [← hm.out]; omega
    subst e
    go_wp2
    go_ret
    exact ⟨rfl, rfl⟩
end Go.Proofs.Ytdahcdgefflkaaa
namespace Go.Proofs.Ytdahcdgefflkaaa
open Go.ChangeShapes Go.WideShapes Go.ChangeAt Go.RowKit
theorem allReady_1 {P : Program} {ops : Array Oper} {Q : Exit → Act → World → Prop} {md : Region.Mode} {S : World → Prop} {fuel : Nat} {listed : Array Bool} {a : Act} {w : World} {i : Nat} {o : Oper} (ho : ops[i]? = some o) (hg : o.guard = none)
    (h : ∀ K' : Act → World → Prop, Shut (∀ a w, S w → (S w → wpAnyH P md ops Q S fuel (listed.setIfInBounds i true) a w) → K' a w) → Oper.wp P o a w K' Q) : AllReadyH P md ops Q S fuel listed a w [i] :=
  AllReadyH.cons ho (fun K' hK => by rw [if_pos (by simp [Region.wanted, hg])]; exact h K' hK) AllReadyH.nil
theorem cell_set_ne (w : World) (B p q : Nat) (u : Value) (h : q ≠ p) : (w.setCell ⟨B, p, none⟩ u).cell? ⟨B, q, none⟩ = w.cell? ⟨B, q, none⟩ :=
  World.cell?_setCell_other _ _ _ _ (fun e => by cases e; exact h rfl)
end Go.Proofs.Ytdahcdgefflkaaa
namespace Go.Proofs.Ytdahcdgefflkaaa
def widthV (r : Int) : Int :=
  if r < 32 ∨ runeOk r = false ∨ (127 ≤ r ∧ r ≤ 159) ∨ (768 ≤ r ∧ r ≤ 879) then 0
  else if (4352 ≤ r ∧ r ≤ 4447) ∨ (12288 ≤ r ∧ r ≤ 55295) ∨ (127744 ≤ r ∧ r ≤ 131071) then 2 else 1
end Go.Proofs.Ytdahcdgefflkaaa
namespace Go.Proofs.Ytdahcdgefflkaaa
structure Pa where
  state : Int
  params : List Int
  mark : Int
  text : List Int
structure Ac where
  kind : Int
  rune : Int
  params : List Int
  mark : Int
  text : List Int
def st0 (s : Int) : Pa := ⟨s, [], 0, []⟩
def one0 (ps : List Int) : List Int := if ps.length = 0 then [0] else ps
def digitP (ps : List Int) (d : Int) : List Int := (one0 ps).set ((one0 ps).length - 1) (min 9999 (10 * (one0 ps).getD ((one0 ps).length - 1) 0 + d))
def semiP (ps : List Int) : List Int := if (one0 ps).length < 16 then one0 ps ++ [0] else one0 ps
def acR (k r : Int) : Ac := ⟨k, r, [], 0, []⟩
def escM (r : Int) : Pa × List Ac :=
  if r = 91 then (st0 3, []) else if r = 93 then (st0 4, []) else if 48 ≤ r ∧ r ≤ 126 then (st0 1, [acR 3 r]) else (st0 1, [])
/-- Whether a list takes a rune in. -/
def takes (ps : List Int) (m r : Int) : Bool := decide (r = 63 ∧ ps.length = 0 ∧ m = 0 ∨ 48 ≤ r ∧ r ≤ 57 ∨ r = 59)
def takenP (p : Pa) (r : Int) : Pa :=
  if r = 63 ∧ p.params.length = 0 ∧ p.mark = 0 then ⟨p.state, p.params, 63, p.text⟩
  else if 48 ≤ r ∧ r ≤ 57 then ⟨p.state, digitP p.params (r - 48), p.mark, p.text⟩
  else ⟨p.state, semiP p.params, p.mark, p.text⟩
def listM (p : Pa) (r : Int) : Pa × List Ac :=
  if takes p.params p.mark r = true then (takenP p r, [])
  else if 64 ≤ r ∧ r ≤ 126 then (st0 1, [⟨4, r, p.params, p.mark, []⟩]) else (st0 1, [])
def titleM (p : Pa) (r : Int) : Pa × List Ac :=
  if r = 7 then (st0 1, [⟨5, 0, [], 0, p.text⟩])
  else if r = 27 then (⟨5, p.params, p.mark, p.text⟩, [])
  else if p.text.length < 40 then (⟨p.state, p.params, p.mark, p.text ++ [r]⟩, []) else (p, [])
def endM (p : Pa) (r : Int) : Pa × List Ac := if r = 92 then (st0 1, [⟨5, 0, [], 0, p.text⟩]) else (st0 1, [])
/-- A control that leaves the state as it is. -/
def stays (r : Int) : Bool := decide ((r < 32 ∨ r = 127) ∧ r ≠ -1 ∧ r ≠ 24 ∧ r ≠ 26 ∧ r ≠ 27)
def stepM (p : Pa) (r : Int) : Pa × List Ac :=
  if p.state = 4 then titleM p r
  else if p.state = 5 then endM p r
  else if r = 27 then (st0 2, [])
  else if r = 24 ∨ r = 26 then (st0 1, [])
  else if r < 32 ∨ r = 127 then (p, [acR 2 r])
  else if p.state = 2 then escM r
  else if p.state = 3 then listM p r
  else if 0 < widthV r then (p, [acR 1 r]) else (p, [])
def parsedM : Pa → List Int → Pa × List Ac
  | p, [] => (p, [])
  | p, r :: l => ((parsedM (stepM p r).1 l).1, (stepM p r).2 ++ (parsedM (stepM p r).1 l).2)
/-- What comes of a parser, of what is left and of what was told. -/
def Fin (p : Pa) (l : List Int) (t : List Ac) : Pa × List Ac := ((parsedM p l).1, t ++ (parsedM p l).2)
theorem Fin_cons (p : Pa) (r : Int) (l : List Int) (t : List Ac) : Fin p (r :: l) t = Fin (stepM p r).1 l (t ++ (stepM p r).2) := by simp [Fin, parsedM]
end Go.Proofs.Ytdahcdgefflkaaa
namespace Go.Proofs.Ytdahcdgefflkaaa
open Go.ChangeShapes Go.WideShapes Go.ChangeAt Go.RowKit
theorem gbl {w w' : World} (h : Below w.heap.size w w') (row : Option Nat) : w.grownBy w' row := ⟨h.os, h.tape, h.output, h.size, fun k hk _ => h.block k hk⟩
theorem setCell_gr (w : World) (B o : Nat) (u : Value) : w.grownBy (w.setCell ⟨B, o, none⟩ u) (some B) :=
  ⟨rfl, rfl, rfl, by simp, fun k _ hk => heap_setCell_other w ⟨B, o, none⟩ k _ (fun e => hk (by simp [e]))⟩
theorem grown_tr {a b c : World} {row : Option Nat} (h : a.grownBy b row) (k : b.grownBy c row) : a.grownBy c row :=
  ⟨k.os.trans h.os, k.tape.trans h.tape, k.output.trans h.output, Nat.le_trans h.size k.size, fun i hi hr => (k.block i (Nat.lt_of_lt_of_le hi h.size) hr).trans (h.block i hi hr)⟩
theorem bal' (w : World) (o : Obj) : Below w.heap.size w (w.alloc o) := (Below.refl _ _).alloc (Nat.le_refl _) o
end Go.Proofs.Ytdahcdgefflkaaa
namespace Go.Proofs.Ytdahcdgefflkaaa
open Go.ChangeShapes Go.WideShapes Go.ChangeAt Go.RowKit
/-- A list of numbers of this call's own. -/
def OwnI (w : World) (base : Nat) (v : Value) (xs : List Int) : Prop := w.ownsRow base 2 1 v xs.length (xs.map (Value.int .i64))
theorem OwnI.below {w w' : World} {base : Nat} {v : Value} {xs : List Int} (h : OwnI w base v xs) (hb : Below w.heap.size w w') : OwnI w' base v xs := World.ownsRow.below h hb
theorem OwnI.kept {w w' : World} {base : Nat} {v : Value} {xs : List Int} {row : Option Nat} (h : OwnI w base v xs) (hg : w.grownBy w' row) (hne : v.ownBlock = none ∨ v.ownBlock ≠ row) : OwnI w' base v xs := World.ownsRow.kept (show w.ownsRow _ _ _ _ _ _ from h) hg hne
theorem OwnI.lt {w : World} {base : Nat} {v : Value} {xs : List Int} (h : OwnI w base v xs) : ∀ g, v.ownBlock = some g → base ≤ g ∧ g < w.heap.size := fun g e => World.ownsRow.lt h g e
theorem OwnI.sl {w : World} {base : Nat} {v : Value} {xs : List Int} (h : OwnI w base v xs) : SlI w v xs := SlI.of_own h
/-- Two slices over no common block. -/
def ApV (u v : Value) : Prop := ∀ g, u.ownBlock = some g → v.ownBlock ≠ some g
theorem ApV.symm {u v : Value} (h : ApV u v) : ApV v u := fun g e1 e2 => h g e2 e1
/-- Lists of numbers of this call's own, no two over one block. -/
def LiOk (w : World) (base : Nat) (L : List (Value × List Int)) : Prop := (∀ p ∈ L, OwnI w base p.1 p.2) ∧ L.Pairwise fun p q => ApV p.1 q.1
theorem LiOk.below {w w' : World} {base : Nat} {L : List (Value × List Int)} (h : LiOk w base L) (hb : Below w.heap.size w w') : LiOk w' base L := ⟨fun p hp => (h.1 p hp).below hb, h.2⟩
theorem LiOk.nil (w : World) (base : Nat) : LiOk w base [] := ⟨fun _ h => absurd h (List.not_mem_nil), List.Pairwise.nil⟩
theorem LiOk.head {w : World} {base : Nat} {x : Value × List Int} {L : List (Value × List Int)} (h : LiOk w base (x :: L)) : OwnI w base x.1 x.2 := h.1 x (List.mem_cons_self)
/-- One list more, over a block that is new. -/
theorem LiOk.new {w w' : World} {base : Nat} {L : List (Value × List Int)} (h : LiOk w base L) (hb : Below w.heap.size w w') {v : Value} {xs : List Int} (ho : OwnI w' base v xs) (hn : ∀ g, v.ownBlock = some g → w.heap.size ≤ g) : LiOk w' base ((v, xs) :: L) :=
  ⟨fun p hp => by
    rcases List.mem_cons.1 hp with rfl | hp
    · exact ho
    · exact (h.1 p hp).below hb, List.Pairwise.cons (fun q hq g e1 e2 => by have := hn g e1; have := ((h.1 q hq).lt g e2).2; omega) h.2⟩
/-- What is not among them changes. -/
theorem LiOk.kept {w w' : World} {base : Nat} {L : List (Value × List Int)} {row : Option Nat} (h : LiOk w base L) (hg : w.grownBy w' row) (hne : ∀ p ∈ L, p.1.ownBlock = none ∨ p.1.ownBlock ≠ row) : LiOk w' base L :=
  ⟨fun p hp => (h.1 p hp).kept hg (hne p hp), h.2⟩
/-- An action with the values of its lists. -/
structure Ax where
  a : Ac
  pv : Value
  tv : Value
def PaC (w : World) (B : Nat) (s : Int) (pv : Value) (m : Int) (tv : Value) : Prop :=
  B < w.heap.size ∧ (w.cell? ⟨B, 0, none⟩ = some (.int .i64 s) ∧ w.cell? ⟨B, 1, none⟩ = some pv ∧ w.cell? ⟨B, 2, none⟩ = some (.int .i64 m) ∧ w.cell? ⟨B, 3, none⟩ = some tv) ∧
    (w.frozen? ⟨B, 0, none⟩ = false ∧ w.frozen? ⟨B, 1, none⟩ = false ∧ w.frozen? ⟨B, 2, none⟩ = false ∧ w.frozen? ⟨B, 3, none⟩ = false)
theorem PaC.grown {w w' : World} {B : Nat} {s m : Int} {pv tv : Value} {row : Option Nat} (h : PaC w B s pv m tv) (hg : w.grownBy w' row) (hr : row ≠ some B) : PaC w' B s pv m tv := by
  have hb := hg.block B h.1 (Ne.symm hr)
  have hc : ∀ k, w'.cell? ⟨B, k, none⟩ = w.cell? ⟨B, k, none⟩ := fun k => World.cell?_of_block (w := w) hb
  have hz : ∀ k, w'.frozen? ⟨B, k, none⟩ = w.frozen? ⟨B, k, none⟩ := fun k => World.frozen?_of_block (w := w) hb
  refine ⟨Nat.lt_of_lt_of_le h.1 hg.size, ?_, ?_⟩
  · rw [hc, hc, hc, hc]; exact h.2.1
  · rw [hz, hz, hz, hz]; exact h.2.2
theorem PaC.below {w w' : World} {B : Nat} {s m : Int} {pv tv : Value} (h : PaC w B s pv m tv) (hb : Below w.heap.size w w') : PaC w' B s pv m tv := h.grown (gbl hb none) (by simp)
theorem PaC.new (w : World) (s m : Int) (pv tv : Value) (t : TypeId) : PaC (w.alloc (.cells #[.int .i64 s, pv, .int .i64 m, tv] t)) w.heap.size s pv m tv :=
  ⟨by simp, ⟨by simp [go_sem], by simp [go_sem], by simp [go_sem], by simp [go_sem]⟩, ⟨by simp [go_sem], by simp [go_sem], by simp [go_sem], by simp [go_sem]⟩⟩
end Go.Proofs.Ytdahcdgefflkaaa
namespace Go.Proofs.Ytdahcdgefflkaaa
open Go.ChangeShapes Go.WideShapes Go.ChangeAt Go.RowKit
theorem SlI.cons {w : World} {v : Value} {xs : List Int} (h : SlI w v xs) : ∃ a c, v = .slice a xs.length c ∧ ∀ j, j < xs.length → ∃ b off, a = some ⟨b, off, none⟩ ∧ w.cell? ⟨b, off + j, none⟩ = some (.int .i64 (xs.getD j 0)) := by
  obtain ⟨a, c, hv, h | ⟨b, off, ha, hlt, hc⟩⟩ := h
  · exact ⟨a, c, hv, fun j hj => by rw [h] at hj; simp at hj⟩
  · exact ⟨a, c, hv, fun j hj => ⟨b, off, ha, hc j hj⟩⟩
end Go.Proofs.Ytdahcdgefflkaaa
namespace Go.Proofs.Ytdahcdgefflkaaa
open Go.ChangeShapes Go.WideShapes Go.ChangeAt Go.RowKit
/-- A slice that can be read and cut at its head. -/
def SlL (w : World) (v : Value) (xs : List Int) : Prop :=
  ∃ a c, v = .slice a xs.length c ∧ xs.length ≤ c ∧ (xs = [] ∨ ∃ b off, a = some ⟨b, off, none⟩ ∧ b < w.heap.size ∧ ∀ i, i < xs.length → w.cell? ⟨b, off + i, none⟩ = some (.int .i64 (xs.getD i 0)))
theorem SlL.sl {w : World} {v : Value} {xs : List Int} (h : SlL w v xs) : SlI w v xs := by
  obtain ⟨a, c, hv, _, hr⟩ := h
  exact ⟨a, c, hv, hr⟩
theorem SlL.below {w w' : World} {v : Value} {xs : List Int} (h : SlL w v xs) (hb : Below w.heap.size w w') : SlL w' v xs := by
  obtain ⟨a, c, hv, hc0, h | ⟨b, off, ha, hlt, hc⟩⟩ := h
  · exact ⟨a, c, hv, hc0, .inl h⟩
  · exact ⟨a, c, hv, hc0, .inr ⟨b, off, ha, Nat.lt_of_lt_of_le hlt hb.size, fun i hi => (hb.cell (p := ⟨b, off + i, none⟩) hlt).trans (hc i hi)⟩⟩
theorem SlL.of_own {w : World} {base : Nat} {v : Value} {xs : List Int} (h : OwnI w base v xs) : SlL w v xs := by
  rcases h.2 with ⟨rfl, h2⟩ | ⟨g, cap, cur, rfl, hb, hg, hn, hr⟩
  · exact ⟨none, 0, by rw [h2], by omega, .inl (List.eq_nil_of_length_eq_zero h2)⟩
  · refine ⟨_, cap, rfl, hn, .inr ⟨g, 0, rfl, (Array.getElem?_eq_some_iff.1 hg).1, fun i hi => ?_⟩⟩
    have := World.ownsRow.cellAt h i (by omega)
    rw [Nat.zero_add, this]
    simp [hi]
end Go.Proofs.Ytdahcdgefflkaaa
namespace Go.Proofs.Ytdahcdgefflkaaa
open Go.ChangeShapes Go.WideShapes Go.ChangeAt Go.RowKit
def Runes6 (l : List Int) : Prop := ∀ x ∈ l, runeOk x = true
theorem Runes6.head {r : Int} {l : List Int} (h : Runes6 (r :: l)) : 0 ≤ r ∧ r ≤ 1114111 := runeOk_bd r (h r (List.mem_cons_self))
def acs (X : List Ax) : List Ac := X.map (·.a)
/-- The rune that comes next, of which nothing is done yet. -/
def NextR (p q : Pa) (l l' : List Int) (X X' : List Ax) (r : Int) : Prop :=
  (r = -1 ∧ l' = [] ∧ Fin p l (acs X) = Fin q [] (acs X')) ∨ (0 ≤ r ∧ runeOk r = true ∧ l'.length < l.length ∧ Fin p l (acs X) = Fin q (r :: l') (acs X'))
def Room (l l' : List Int) (X X' : List Ax) (r : Int) : Prop := (r = -1 → X'.length + l'.length ≤ X.length + l.length) ∧ (r ≠ -1 → X'.length + l'.length < X.length + l.length) ∧ Runes6 l'
theorem NextR.more {p q : Pa} {l l' : List Int} {X X' : List Ax} {r : Int} (h : NextR p q l l' X X' r) (hr : r ≠ -1) : 0 ≤ r ∧ runeOk r = true ∧ l'.length < l.length ∧ Fin p l (acs X) = Fin q (r :: l') (acs X') := by
  rcases h with ⟨h, _⟩ | h
  · exact absurd h hr
  · exact h
theorem NextR.trans {p q q2 : Pa} {l l' l2 : List Int} {X X' X2 : List Ax} {r r2 : Int} (h : NextR p q l l' X X' r) (hR : Room l l' X X' r) (h1 : r ≠ -1) {Y : List Ax} (hs : (stepM q r).1 = q2) (ha : acs Y = acs X' ++ (stepM q r).2) (hY : Y.length ≤ X'.length + 1) {q3 : Pa}
    (k : NextR q2 q3 l' l2 Y X2 r2) (kR : Room l' l2 Y X2 r2) : NextR p q3 l l2 X X2 r2 ∧ Room l l2 X X2 r2 := by
  obtain ⟨h0, hk, hlt, he⟩ := h.more h1
  rw [Fin_cons, hs, ← ha] at he
  obtain ⟨_, hR2, hR3⟩ := hR
  have hR2 := hR2 h1
  obtain ⟨k1, k2, k3⟩ := kR
  refine ⟨?_, fun e => by have := k1 e; omega, fun e => by have := k2 e; omega, k3⟩
  rcases k with ⟨a, b, c⟩ | ⟨a, b, c, d⟩
  · exact .inl ⟨a, b, he.trans c⟩
  · exact .inr ⟨a, b, by omega, he.trans d⟩
end Go.Proofs.Ytdahcdgefflkaaa
namespace Go.Proofs.Ytdahcdgefflkaaa
open Go.ChangeShapes Go.WideShapes Go.ChangeAt Go.RowKit
/-- A slice whose cells hold these values, one a place: what append takes its news from. -/
def ReadsRow (w : World) (u : Value) (news : List Value) : Prop :=
  (u = .slice none 0 0 ∧ news = []) ∨ ∃ ad c, u = .slice (some ad) news.length c ∧ ∀ j x, news[j]? = some x → w.cell? (ad.add j) = some x
theorem ReadsRow.of_own {w : World} {base : Nat} {e : TypeId} {v : Value} {n : Nat} {xs : List Value} (h : w.ownsRow base e 1 v n xs) : ReadsRow w v xs := by
  have hl : xs.length = n := by simpa using h.1
  rcases h.2 with ⟨rfl, rfl⟩ | ⟨g, cap, cur, hv, _⟩
  · exact .inl ⟨rfl, List.eq_nil_of_length_eq_zero hl⟩
  · exact .inr ⟨⟨g, 0, none⟩, cap, by rw [hv, hl], h.cells (by rw [hv]; rfl)⟩
theorem ReadsRow.below {w w' : World} {u : Value} {news : List Value} (h : ReadsRow w u news) (hb : Below w.heap.size w w') : ReadsRow w' u news := by
  rcases h with h | ⟨ad, c, hu, hc⟩
  · exact .inl h
  · refine .inr ⟨ad, c, hu, fun j x hx => ?_⟩
    have h1 := hc j x hx
    exact (hb.cell (World.block_lt_of_cell? w _ h1)).trans h1
end Go.Proofs.Ytdahcdgefflkaaa
namespace Go.Proofs.Ytdahcdgefflkaaa
open Go.ChangeShapes Go.WideShapes Go.ChangeAt Go.RowKit
/-- A slice that can be read, cut and copied. -/
def SlN (w : World) (v : Value) (xs : List Int) : Prop :=
  ∃ a c, v = .slice a xs.length c ∧ xs.length ≤ c ∧ (a = none → c = 0) ∧ (xs = [] ∨ ∃ b off, a = some ⟨b, off, none⟩ ∧ b < w.heap.size ∧ ∀ i, i < xs.length → w.cell? ⟨b, off + i, none⟩ = some (.int .i64 (xs.getD i 0)))
theorem SlN.l {w : World} {v : Value} {xs : List Int} (h : SlN w v xs) : SlL w v xs := by
  obtain ⟨a, c, hv, hc, _, hr⟩ := h
  exact ⟨a, c, hv, hc, hr⟩
theorem SlN.below {w w' : World} {v : Value} {xs : List Int} (h : SlN w v xs) (hb : Below w.heap.size w w') : SlN w' v xs := by
  obtain ⟨a, c, hv, hc0, hn, h | ⟨b, off, ha, hlt, hc⟩⟩ := h
  · exact ⟨a, c, hv, hc0, hn, .inl h⟩
  · exact ⟨a, c, hv, hc0, hn, .inr ⟨b, off, ha, Nat.lt_of_lt_of_le hlt hb.size, fun i hi => (hb.cell (p := ⟨b, off + i, none⟩) hlt).trans (hc i hi)⟩⟩
theorem SlN.of_own {w : World} {base : Nat} {v : Value} {xs : List Int} (h : OwnI w base v xs) : SlN w v xs := by
  rcases h.2 with ⟨rfl, h2⟩ | ⟨g, cap, cur, rfl, hb, hg, hn, hr⟩
  · exact ⟨none, 0, by rw [h2], by omega, fun _ => rfl, .inl (List.eq_nil_of_length_eq_zero h2)⟩
  · refine ⟨_, cap, rfl, hn, (fun e => by cases e), .inr ⟨g, 0, rfl, (Array.getElem?_eq_some_iff.1 hg).1, fun i hi => ?_⟩⟩
    have := World.ownsRow.cellAt h i (by omega)
    rw [Nat.zero_add, this]
    simp [hi]
/-- Four cells of a parser are written. -/
def putP (w : World) (B : Nat) (s : Int) (pv : Value) (m : Int) (tv : Value) : World := (((w.setCell ⟨B, 0, none⟩ (.int .i64 s)).setCell ⟨B, 1, none⟩ pv).setCell ⟨B, 2, none⟩ (.int .i64 m)).setCell ⟨B, 3, none⟩ tv
theorem PaC.put {w : World} {B : Nat} {s m : Int} {pv tv : Value} (h : PaC w B s pv m tv) (s' m' : Int) (pv' tv' : Value) : PaC (putP w B s' pv' m' tv') B s' pv' m' tv' := by
  obtain ⟨hlt, ⟨c0, c1, c2, c3⟩, ⟨z0, z1, z2, z3⟩⟩ := h
  refine ⟨by simpa [putP] using hlt, ⟨?_, ?_, ?_, ?_⟩, ⟨?_, ?_, ?_, ?_⟩⟩
  all_goals simp only [putP]
  · simp [go_sem, c0]
  · simp [go_sem, c1]
  · simp [go_sem, c2]
  · simp [go_sem, c3]
  all_goals simp [go_sem, z0, z1, z2, z3]
end Go.Proofs.Ytdahcdgefflkaaa
namespace Go.Proofs.Ytdahcdgefflkaaa
open Go.ChangeShapes Go.WideShapes Go.ChangeAt Go.RowKit
theorem load_T {P : Program} {w : World} {ops : Array Oper} {rest : List Oper} {o : Oper} {a : Act} {Q : Exit → Act → World → Prop} (hgd : Region.wanted o (yielded ops a.tmps) = true) (t : TypeId) (x : Operand)
    (ho : o.op = .load t x) {e : TypeId} {B : Nat} {cs : Array Value} {fr : Nat × Nat} {d : TypeDesc} (hu : P.underlying t = some d) (hd : (match d with | .struct _ | .array _ _ => true | _ => false) = true) (hi : (P.info? t).map (·.size) = some cs.size) (hb : w.heap[B]? = some (.cells cs e fr)) (hx : a.eval x = .pointer (some ⟨B, 0, none⟩))
    (h : wpList P ops Q rest (a.put o.dst (.agg cs)) w) : wpList P ops Q (o :: rest) a w := by
  refine wpList_step fun K hK => ?_
  rw [if_pos hgd]
  exact wp_load_row t x ho B hx e cs fr d hb hu hd hi (hK _ _ h)
theorem setRow_gr (w : World) (g : Nat) (cs : Array Value) : w.grownBy (w.setRow g cs) (some g) := by
  refine ⟨rfl, rfl, rfl, by simp, fun k _ hk => ?_⟩
  have : ¬ g = k := fun e => hk (by rw [e])
  simp only [World.setRow]
  rw [Array.getElem?_modify]
  simp [this]
theorem store_T {P : Program} {w : World} {ops : Array Oper} {rest : List Oper} {o : Oper} {a : Act} {Q : Exit → Act → World → Prop} (hgd : Region.wanted o (yielded ops a.tmps) = true) (t : TypeId) (x y : Operand)
    (ho : o.op = .store t x y) {e : TypeId} {B : Nat} {old cs : Array Value} (hi : (P.info? t).map (·.size) = some cs.size) (hold : old.size = cs.size) (h1 : cs.toList.all (·.oneCell') = true) (hb : w.heap[B]? = some (.cells old e (0, 0))) (hx : a.eval x = .pointer (some ⟨B, 0, none⟩)) (hy : a.eval y = .agg cs)
    (h : ∀ w', w.grownBy w' (some B) → w'.heap[B]? = some (.cells cs e (0, 0)) → w'.heap.size = w.heap.size → wpList P ops Q rest (a.put o.dst undef) w') : wpList P ops Q (o :: rest) a w := by
  refine wpList_step fun K hK => ?_
  rw [if_pos hgd]
  exact wp_store_row t x y ho B cs hx hy e old hb hi hold (by rw [← Array.all_toList]; exact h1) (hK _ _ (h _ (setRow_gr w B cs) (setRow_heap w B old cs e (0, 0) hb) (by simp)))
def setV (L : List Value) : Nat → List Value → List Value
  | _, [] => L
  | k, v :: l => setV (L.set k v) (k + 1) l
theorem setCells_heap (B : Nat) (e : TypeId) : ∀ (l : List Value) (k : Nat) (w : World) (L : List Value), w.heap[B]? = some (.cells L.toArray e (0, 0)) → (w.setCells B k l).heap[B]? = some (.cells (setV L k l).toArray e (0, 0))
  | [], _, _, _, h => h
  | v :: l, k, w, _, h => setCells_heap B e l (k + 1) _ _ (by rw [heap_setCell_same w B k _ _ v h]; simp)
theorem setCells_gr (B : Nat) : ∀ (l : List Value) (k : Nat) (w : World), w.grownBy (w.setCells B k l) (some B)
  | [], _, _ => World.grownBy.refl _ _
  | v :: l, k, w => grown_tr (setCell_gr w B k v) (setCells_gr B l (k + 1) _)
/-- A block's cells, named. -/
def BlkC (w : World) (B : Nat) (e : TypeId) (L : List Value) : Prop := w.heap[B]? = some (.cells L.toArray e (0, 0))
end Go.Proofs.Ytdahcdgefflkaaa
namespace Go.Proofs.Ytdahcdgefflkaaa
open Go.ChangeShapes Go.WideShapes Go.ChangeAt Go.RowKit
theorem run_loadVar_part {P : Program} (w : World) (B k : Nat) (e ty : TypeId) (cs : List Value) (part : List Value) (d : TypeDesc) (hb : BlkC w B e cs)
    (hu : P.underlying ty = some d) (hd : (match d with | .struct _ | .array _ _ => true | _ => false) = true) (hi : (P.info? ty).map (·.size) = some part.length) (hp : (cs.drop k).take part.length = part) :
    (loadVar ty ⟨B, k, none⟩).run P w = .ok (.agg part.toArray) w := by
  have hl : (loadCells ⟨B, k, none⟩ part.length).run P w = .ok part.toArray w :=
    run_loadCells_list (P := P) w ⟨B, k, none⟩ part (fun j v hv => by
      have hadd : (⟨B, k, none⟩ : Addr).add j = ⟨B, k + j, none⟩ := by unfold Addr.add; split <;> simp_all
      rw [hadd, cell_of_row w B _ cs.toArray e (0, 0) hb]
      have hj := (List.getElem?_eq_some_iff.1 hv).1
      rw [← hp, List.getElem?_take_of_lt hj, List.getElem?_drop] at hv
      simpa using hv)
  cases hq : P.info? ty with
  | none => simp [hq] at hi
  | some i =>
    have hs : i.size = part.length := by simpa [hq] using hi
    have hagg : (isAgg ty).run P w = .ok true w := by
      unfold isAgg
      rw [Sem.run_bind, run_underlying hu w]
      cases d <;> simp_all
    simp [loadVar, Sem.run_bind, hagg, sizeOf, typeInfo, hq, hs, hl]
theorem BlkC.lt {w : World} {B : Nat} {e : TypeId} {cs : List Value} (h : BlkC w B e cs) : B < w.heap.size := (Array.getElem?_eq_some_iff.1 h).1
theorem BlkC.kept {w w' : World} {B : Nat} {e : TypeId} {cs : List Value} {row : Option Nat} (h : BlkC w B e cs) (hg : w.grownBy w' row) (hne : row ≠ some B) : BlkC w' B e cs := by
  unfold BlkC
  rw [hg.block B h.lt (Ne.symm hne)]
  exact h
theorem BlkC.below {w w' : World} {B : Nat} {e : TypeId} {cs : List Value} (h : BlkC w B e cs) (hb : Below w.heap.size w w') : BlkC w' B e cs := by
  unfold BlkC
  rw [hb.block B h.lt]
  exact h
theorem BlkC.new (w : World) (e : TypeId) (cs : List Value) : BlkC (w.alloc (.cells cs.toArray e)) w.heap.size e cs := heap_alloc_new w _
end Go.Proofs.Ytdahcdgefflkaaa
namespace Go.Proofs.Ytdahcdgefflkaaa
open Go.ChangeShapes Go.WideShapes Go.ChangeAt Go.RowKit
/-- A row of 41 numbers. -/
def rowV (f : Nat → Int) : List Value := (List.range 41).map (fun j => .int .i64 (f j))
theorem rowV_len (f : Nat → Int) : (rowV f).length = 41 := by simp [rowV]
theorem rowV_get (f : Nat → Int) (j : Nat) (h : j < 41) : (rowV f)[j]? = some (.int .i64 (f j)) := by simp [rowV, h]
theorem rowV_ext (f : Nat → Int) (L : List Value) (hl : L.length = 41) (h : ∀ j, j < 41 → L[j]? = some (.int .i64 (f j))) : L = rowV f := by
  apply List.ext_getElem?
  intro i
  by_cases hi : i < 41
  · rw [h i hi, rowV_get f i hi]
  · rw [List.getElem?_eq_none (by omega), List.getElem?_eq_none (by rw [rowV_len]; omega)]
theorem rowV_one (f : Nat → Int) : (rowV f).all (·.oneCell') = true := by
  rw [List.all_eq_true]
  intro u hu
  obtain ⟨x, _, rfl⟩ := List.mem_map.1 hu
  rfl
theorem rowV_congr (f g : Nat → Int) (h : ∀ j, j < 41 → f j = g j) : rowV f = rowV g :=
  rowV_ext g _ (rowV_len f) (fun j hj => by rw [rowV_get f j hj, h j hj])
theorem info_row : (Try.prog.info? 72).map (·.size) = some 41 := by kernel_rfl
theorem info_row' (f : Nat → Int) : (Try.prog.info? 72).map (·.size) = some (rowV f).toArray.size := by rw [info_row]; simp [rowV]
theorem cell_blk {w : World} {B : Nat} {e : TypeId} {cs : List Value} (h : BlkC w B e cs) (k : Nat) : w.cell? ⟨B, k, none⟩ = cs[k]? := by
  rw [cell_of_row w B k cs.toArray e (0, 0) h]; simp
theorem frozen_blk {w : World} {B : Nat} {e : TypeId} {cs : List Value} (h : BlkC w B e cs) (k : Nat) : w.frozen? ⟨B, k, none⟩ = false := frozen_of_row w B k _ e h
theorem blk_set {w : World} {B : Nat} {e : TypeId} {cs : List Value} (h : BlkC w B e cs) (k : Nat) (v : Value) : BlkC (w.setCell ⟨B, k, none⟩ v) B e (cs.set k v) := by
  unfold BlkC; rw [heap_setCell_same w B k _ _ v h]; simp
theorem blk_set_ne {w : World} {B C : Nat} {e : TypeId} {cs : List Value} (h : BlkC w B e cs) (hne : C ≠ B) (k : Nat) (v : Value) : BlkC (w.setCell ⟨C, k, none⟩ v) B e cs :=
  h.kept (setCell_gr w C k v) (fun q => hne (by injection q))
theorem zero_row : (#[.int .i64 0, .int .i64 0, .int .i64 0, .int .i64 0, .int .i64 0, .int .i64 0, .int .i64 0, .int .i64 0, .int .i64 0, .int .i64 0, .int .i64 0, .int .i64 0, .int .i64 0, .int .i64 0, .int .i64 0, .int .i64 0, .int .i64 0, .int .i64 0, .int .i64 0, .int .i64 0, .int .i64 0, .int .i64 0, .int .i64 0, .int .i64 0, .int .i64 0, .int .i64 0, .int .i64 0, .int .i64 0, .int .i64 0, .int .i64 0, .int .i64 0, .int .i64 0, .int .i64 0, .int .i64 0, .int .i64 0, .int .i64 0, .int .i64 0, .int .i64 0, .int .i64 0, .int .i64 0, .int .i64 0] : Array Value) = (rowV (fun _ => 0)).toArray := by rfl
set_option maxHeartbeats 1000000 in
set_option maxRecDepth 20000 in
theorem allBeyond_any (w : World) :
    Calls Try.prog 52 #[] w fun e w' => e = .returned (.agg (rowV (fun _ => 160)).toArray) ∧ Below w.heap.size w w' := by
  obtain ⟨W, hW⟩ : ∃ W, W = w.alloc (Obj.cells (rowV (fun _ => 0)).toArray 72) := ⟨_, rfl⟩
  have hb0 : Below w.heap.size w W := by rw [hW]; exact bal' _ _
  have hA : BlkC W w.heap.size 72 (rowV (fun _ => 0)) := by rw [hW]; exact heap_alloc_new w _
  have hz0 : W.heap.size = w.heap.size + 1 := by rw [hW]; simp
  replace hW := (show Hid _ from hW)
  go_enter Try.func52, Try.ntmps52
  refine wp_seq_k (fun K hK => ?_)
  have hH := (show Hid _ from hK)
  clear hK
  go_wp2
  refine hH.out _ _ ?_
  rw [zero_row, ← hW.out]
  clear hH hW
  have hS0 : (W.alloc (Obj.cells (rowV (fun _ => 0)).toArray 72)).heap[w.heap.size + 1]? = some (.cells (rowV (fun _ => 0)).toArray 72 (0, 0)) := by rw [← hz0]; exact heap_alloc_new W _
  have hal := bal' W (Obj.cells (rowV (fun _ => 0)).toArray 72)
  have hbz := hb0.trans (hal.mono hb0.size)
  have hA1 := hA.below hal
  go_wp2_with (refine store_T (cs := (rowV (fun _ => 0)).toArray) (by rfl) 72 _ _ (by rfl) (info_row' _) (by rfl) (by rfl) hS0 (by rfl) (by rfl) ?_; intro w2 hg hS2 hz2; have hA2 := BlkC.kept hA1 hg (fun e => by injection e with e; omega); have hb2 := hbz.grown hg hbz.size (fun k e => by injection e with e; omega); have hz3 : w2.heap.size = w.heap.size + 2 := (by rw [hz2]; simp; omega); clear hg hz2 hA1 hS0)
  clear hbz hal hA hb0
  go_loopw [2, 4] (fun _ jv wr => ∃ j : Nat, j ≤ 41 ∧ jv = .int .i64 j ∧ BlkC wr w.heap.size 72 (rowV (fun _ => 0)) ∧ BlkC wr (w.heap.size + 1) 72 (rowV (fun k => if k < j then 160 else 0)) ∧ Below w.heap.size w wr) (fun _ jv _ => 41 - (intOf jv).toNat)
  case atStart => exact ⟨0, Nat.zero_le _, rfl, hA2, (by have : rowV (fun k => if k < 0 then 160 else 0) = rowV (fun _ => 0) := rowV_congr _ _ (fun k _ => if_neg (Nat.not_lt_zero k)); rw [this]; exact hS2), hb2⟩
  case round =>
    obtain ⟨j, hj, rfl, kA, kS, kb⟩ := hrel
    clear hA2 hS2 hb2
    by_cases hlt : j < 41
    · have hji : (j : Int) < 41 := by omega
      have h1 := (cell_blk kS j).trans (rowV_get _ j hlt)
      have h2 := frozen_blk kS j
      have k2 := blk_set kS j (.int .i64 160)
      have e2 : (rowV (fun k => if k < j then 160 else 0)).set j (.int .i64 160) = rowV (fun k => if k < j + 1 then 160 else 0) := by
        refine rowV_ext _ _ (by rw [List.length_set, rowV_len]) (fun t ht => ?_)
        by_cases e : t = j
        · subst e; rw [List.getElem?_set_self (by rw [rowV_len]; omega), if_pos (by omega)]
        · rw [List.getElem?_set_ne (fun q => e q.symm), rowV_get _ t ht]
          have : (t < j + 1) ↔ (t < j) := by omega
          simp only [this]
      rw [e2] at k2
      have k3 := blk_set_ne kA (C := w.heap.size + 1) (by omega) j (.int .i64 160)
      have k4 := kb.grown (setCell_gr wr (w.heap.size + 1) j (.int .i64 160)) kb.size (fun k e => by injection e with e; omega)
      clear kA kS e2
      go_wp2
      go_roundw
      case rel => exact ⟨j + 1, by omega, by go_num, k3, k2, k4⟩
      case measure => simp [intOf]; omega
    · have hj41 : j = 41 := by omega
      subst hj41
      have e2 : rowV (fun k => if k < 41 then 160 else 0) = rowV (fun _ => 160) := rowV_congr _ _ (fun k hk => if_pos hk)
      rw [e2] at kS
      go_wp2_with (first
        | (refine load_T (cs := (rowV (fun _ => 160)).toArray) (by rfl) 72 _ (by rfl) Try.underlying72 rfl (info_row' _) kS (by rfl) ?_)
        | (refine store_T (cs := (rowV (fun _ => 160)).toArray) (by rfl) 72 _ _ (by rfl) (info_row' _) (by rfl) (rowV_one _) kA (by rfl) (by rfl) ?_; intro w3 hg3 hA3 hz3))
      exact bodyPost_ret (v := .agg (rowV (fun _ => 160)).toArray) (results_cell_row Try.results52 _ _ _ _ _ _ _ rfl hA3 Try.underlying72 rfl (info_row' _)) rfl ⟨rfl, kb.grown hg3 kb.size (fun k e => by injection e with e; omega)⟩
end Go.Proofs.Ytdahcdgefflkaaa
namespace Go.Proofs.Ytdahcdgefflkaaa
open Go.ChangeShapes Go.WideShapes Go.ChangeAt Go.RowKit
theorem drwB (w : World) (n : Nat) : Below w.heap.size w (w.drewN n) := ⟨rfl, rfl, rfl, Nat.le_refl _, fun _ _ => rfl⟩
/-- A route's block: the lists, the ways, the limit, the rows. -/
def RtB (w : World) (B : Nat) (va vb vw : Value) (L : Int) (R : Nat → Nat → Int) : Prop :=
  ∃ cs : List Value, BlkC w B 75 cs ∧ cs.length = 1685 ∧ cs[0]? = some va ∧ cs[1]? = some vb ∧ cs[2]? = some vw ∧ cs[3]? = some (.int .i64 L) ∧ ∀ i j, i ≤ 40 → j ≤ 40 → cs[4 + i * 41 + j]? = some (.int .i64 (R i j))
theorem RtB.lt {w : World} {B : Nat} {va vb vw : Value} {L : Int} {R : Nat → Nat → Int} (h : RtB w B va vb vw L R) : B < w.heap.size := by
  obtain ⟨cs, hb, _⟩ := h
  exact hb.lt
theorem RtB.below {w w' : World} {B : Nat} {va vb vw : Value} {L : Int} {R : Nat → Nat → Int} (h : RtB w B va vb vw L R) (hb : Below w.heap.size w w') : RtB w' B va vb vw L R := by
  obtain ⟨cs, h1, h2⟩ := h
  exact ⟨cs, h1.below hb, h2⟩
theorem RtB.cells {w : World} {B : Nat} {va vb vw : Value} {L : Int} {R : Nat → Nat → Int} (h : RtB w B va vb vw L R) : w.cell? ⟨B, 0, none⟩ = some va ∧ w.cell? ⟨B, 1, none⟩ = some vb ∧ w.cell? ⟨B, 2, none⟩ = some vw ∧ w.cell? ⟨B, 3, none⟩ = some (.int .i64 L) := by
  obtain ⟨cs, h1, _, h2, h3, h4, h5, _⟩ := h
  exact ⟨(cell_blk h1 0).trans h2, (cell_blk h1 1).trans h3, (cell_blk h1 2).trans h4, (cell_blk h1 3).trans h5⟩
theorem RtB.at {w : World} {B : Nat} {va vb vw : Value} {L : Int} {R : Nat → Nat → Int} (h : RtB w B va vb vw L R) (i j : Nat) (hi : i ≤ 40) (hj : j ≤ 40) : w.cell? ⟨B, 4 + i * 41 + j, none⟩ = some (.int .i64 (R i j)) := by
  obtain ⟨cs, h1, _, _, _, _, _, h6⟩ := h
  exact (cell_blk h1 _).trans (h6 i j hi hj)
/-- One number of the rows becomes another. -/
def putR (R : Nat → Nat → Int) (i j : Nat) (x : Int) : Nat → Nat → Int := fun i' j' => if i' = i ∧ j' = j then x else R i' j'
/-- A row becomes all one number. -/
def rowR (R : Nat → Nat → Int) (i : Nat) (f : Nat → Int) : Nat → Nat → Int := fun i' j' => if i' = i then f j' else R i' j'
theorem RtB.put {w : World} {B : Nat} {va vb vw : Value} {L : Int} {R : Nat → Nat → Int} (h : RtB w B va vb vw L R) (i j : Nat) (hi : i ≤ 40) (hj : j ≤ 40) (x : Int) : RtB (w.setCell ⟨B, 4 + i * 41 + j, none⟩ (.int .i64 x)) B va vb vw L (putR R i j x) := by
  obtain ⟨cs, h1, hl, h2, h3, h4, h5, h6⟩ := h
  refine ⟨_, blk_set h1 _ _, by rw [List.length_set]; exact hl, ?_, ?_, ?_, ?_, fun i' j' hi' hj' => ?_⟩
  · rw [List.getElem?_set_ne (by omega)]; exact h2
  · rw [List.getElem?_set_ne (by omega)]; exact h3
  · rw [List.getElem?_set_ne (by omega)]; exact h4
  · rw [List.getElem?_set_ne (by omega)]; exact h5
  · unfold putR
    by_cases e : i' = i ∧ j' = j
    · obtain ⟨rfl, rfl⟩ := e
      rw [List.getElem?_set_self (by omega), if_pos ⟨rfl, rfl⟩]
    · rw [List.getElem?_set_ne (by omega), if_neg e]; exact h6 i' j' hi' hj'
theorem setV_get : ∀ (l : List Value) (k : Nat) (L : List Value) (p : Nat), k + l.length ≤ L.length → (setV L k l)[p]? = if k ≤ p ∧ p < k + l.length then l[p - k]? else L[p]?
  | [], k, L, p, _ => by rw [if_neg (by rw [List.length_nil]; omega)]; rfl
  | v :: l, k, L, p, h => by
    rw [List.length_cons] at h ⊢
    rw [setV, setV_get l (k + 1) _ p (by rw [List.length_set]; omega)]
    by_cases e : p = k
    · subst e
      rw [if_neg (by omega), if_pos (by omega), List.getElem?_set_self (by omega), Nat.sub_self]; rfl
    · rw [List.getElem?_set_ne (fun q => e q.symm)]
      by_cases hin : k ≤ p ∧ p < k + (l.length + 1)
      · rw [if_pos (by omega), if_pos hin, show p - k = (p - (k + 1)) + 1 by omega, List.getElem?_cons_succ]
      · rw [if_neg (by omega), if_neg hin]
theorem setV_len : ∀ (l : List Value) (k : Nat) (L : List Value), (setV L k l).length = L.length
  | [], _, _ => rfl
  | v :: l, k, L => by rw [setV, setV_len l (k + 1), List.length_set]
theorem RtB.row {w' : World} {B : Nat} {va vb vw : Value} {L : Int} {R : Nat → Nat → Int} {cs : List Value} (hl : cs.length = 1685) (h2 : cs[0]? = some va) (h3 : cs[1]? = some vb) (h4 : cs[2]? = some vw) (h5 : cs[3]? = some (.int .i64 L)) (h6 : ∀ i j, i ≤ 40 → j ≤ 40 → cs[4 + i * 41 + j]? = some (.int .i64 (R i j))) (i : Nat) (hi : i ≤ 40) (f : Nat → Int) (h : BlkC w' B 75 (setV cs (4 + i * 41) (rowV f))) : RtB w' B va vb vw L (rowR R i f) := by
  have hlen : 4 + i * 41 + (rowV f).length ≤ cs.length := by rw [rowV_len]; omega
  refine ⟨_, h, by rw [setV_len]; exact hl, ?_, ?_, ?_, ?_, fun i' j' hi' hj' => ?_⟩
  · rw [setV_get _ _ _ _ hlen, if_neg (by omega)]; exact h2
  · rw [setV_get _ _ _ _ hlen, if_neg (by omega)]; exact h3
  · rw [setV_get _ _ _ _ hlen, if_neg (by omega)]; exact h4
  · rw [setV_get _ _ _ _ hlen, if_neg (by omega)]; exact h5
  · unfold rowR
    rw [setV_get _ _ _ _ hlen, rowV_len]
    by_cases e : i' = i
    · subst e
      rw [if_pos (by omega), if_pos rfl, show 4 + i' * 41 + j' - (4 + i' * 41) = j' by omega]
      exact rowV_get f j' (by omega)
    · rw [if_neg (by omega), if_neg e]; exact h6 i' j' hi' hj'
set_option maxHeartbeats 1000000 in
set_option maxRecDepth 20000 in
theorem steps_any (B : Nat) (va vb vw : Value) (L : Int) (R : Nat → Nat → Int) (xs ys : List Int) (w : World) (h : RtB w B va vb vw L R) (ha : SlI w va xs) (hb : SlI w vb ys) (hx : xs.length ≤ 40) (hy : ys.length ≤ 40) :
    Calls Try.prog 38 #[.pointer (some ⟨B, 0, none⟩)] w fun e w' => e = .returned (.int .i64 (R xs.length ys.length)) ∧ ∃ k, w' = w.drewN k := by
  obtain ⟨a, c, rfl, _⟩ := ha
  obtain ⟨a', c', rfl, _⟩ := hb
  obtain ⟨c0, c1, _, _⟩ := h.cells
  have c4 := h.at xs.length ys.length hx hy
  generalize xs.length = m at *
  generalize ys.length = n at *
  generalize R m n = x at *
  clear h
  go_enter Try.func38, Try.ntmps38
  go_wp2
  go_quiet (fail)
  go_wp2
  go_ret
  exact ⟨rfl, nq, rfl⟩
end Go.Proofs.Ytdahcdgefflkaaa
namespace Go.Proofs.Ytdahcdgefflkaaa
open Go.ChangeShapes Go.WideShapes Go.ChangeAt Go.RowKit
def alikeB (xs ys : List Int) (i j : Nat) : Bool := decide (0 < i ∧ 0 < j ∧ xs.getD (i - 1) 0 = ys.getD (j - 1) 0)
set_option maxHeartbeats 1000000 in
set_option maxRecDepth 20000 in
theorem alike_any (B : Nat) (va vb vw : Value) (L : Int) (R : Nat → Nat → Int) (xs ys : List Int) (w : World) (h : RtB w B va vb vw L R) (ha : SlI w va xs) (hb : SlI w vb ys) (hx : xs.length ≤ 40) (hy : ys.length ≤ 40) (i j : Nat) (hi : i ≤ xs.length) (hj : j ≤ ys.length) :
    Calls Try.prog 55 #[.pointer (some ⟨B, 0, none⟩), .int .i64 i, .int .i64 j] w fun e w' => e = .returned (.bool (alikeB xs ys i j)) ∧ Below w.heap.size w w' := by
  obtain ⟨r, hr⟩ : ∃ r, Hid (alikeB xs ys i j = r) := ⟨_, rfl⟩
  rw [hr.out]
  obtain ⟨a, c, rfl, hca⟩ := ha
  obtain ⟨a', c', rfl, hcb⟩ := hb
  obtain ⟨c0, c1, _, _⟩ := h.cells
  clear h
  by_cases h1 : i = 0
  · subst h1
    have e : r = false := by rw [← hr.out]; exact decide_eq_false (by omega)
    subst e
    clear hr hca hcb c0 c1
    go_enter Try.func55, Try.ntmps55
    go_wp2
    go_quiet (fail)
    go_wp2
    go_ret
    exact ⟨rfl, drwB w nq⟩
  by_cases h2 : j = 0
  · subst h2
    have e : r = false := by rw [← hr.out]; exact decide_eq_false (by omega)
    subst e
    have hi0 : (0 : Int) < (i : Int) := by omega
    have q1 : decide (0 < i) = true := decide_eq_true (by omega)
    clear hr hca hcb c0 c1
    go_enter Try.func55, Try.ntmps55
    go_wp2
    go_quiet (fail)
    go_wp2
    go_ret
    exact ⟨rfl, drwB w nq⟩
  obtain ⟨i1, hi1⟩ : ∃ i1, Hid (i = i1 + 1) := ⟨i - 1, by show i = i - 1 + 1; omega⟩
  obtain ⟨j1, hj1⟩ : ∃ j1, Hid (j = j1 + 1) := ⟨j - 1, by show j = j - 1 + 1; omega⟩
  have e3 : IntKind.i64.wrap ((i : Int) - 1) = (i1 : Int) := wid (by have := hi1.out; omega) (by omega) (by omega)
  have e8 : IntKind.i64.wrap ((j : Int) - 1) = (j1 : Int) := wid (by have := hj1.out; omega) (by omega) (by omega)
  have him : i1 < xs.length := by have := hi1.out; omega
  have hjm : j1 < ys.length := by have := hj1.out; omega
  have hi0 : (0 : Int) < (i : Int) := by omega
  have hj0 : (0 : Int) < (j : Int) := by omega
  have q1 : decide (0 < i) = true := decide_eq_true (by omega)
  have q2 : decide (0 < j) = true := decide_eq_true (by omega)
  rcases hca with h | ⟨b, off, rfl, hbb, hs1⟩
  · exfalso; rw [h] at him; simp at him
  rcases hcb with h | ⟨b', off', rfl, hbb', hs2⟩
  · exfalso; rw [h] at hjm; simp at hjm
  have k1 := hs1 i1 him
  have k2 := hs2 j1 hjm
  have hrr : r = decide (xs.getD i1 0 = ys.getD j1 0) := by
    rw [← hr.out]; unfold alikeB
    rw [show i - 1 = i1 by have := hi1.out; omega, show j - 1 = j1 by have := hj1.out; omega]
    have : (0 < i ∧ 0 < j ∧ xs.getD i1 0 = ys.getD j1 0) ↔ (xs.getD i1 0 = ys.getD j1 0) := ⟨fun h => h.2.2, fun h => ⟨by omega, by omega, h⟩⟩
    simp only [this]
  generalize xs.length = m at *
  generalize ys.length = n at *
  generalize xs.getD i1 0 = x at *
  generalize ys.getD j1 0 = y at *
  clear hr hs1 hs2
  by_cases hxy : x = y
  · subst hxy
    have e : r = true := by rw [hrr]; exact decide_eq_true rfl
    subst e
    clear hrr
    go_enter Try.func55, Try.ntmps55
    go_wp2
    go_quiet (fail)
    go_wp2
    go_ret
    exact ⟨rfl, drwB w nq⟩
  · have e : r = false := by rw [hrr]; exact decide_eq_false hxy
    subst e
    clear hrr
    have hq : (x == y) = false := by simpa using hxy
    go_enter Try.func55, Try.ntmps55
    go_wp2
    go_quiet (fail)
    go_wp2
    go_ret
    exact ⟨rfl, drwB w nq⟩
end Go.Proofs.Ytdahcdgefflkaaa
namespace Go.Proofs.Ytdahcdgefflkaaa
open Go.ChangeShapes Go.WideShapes Go.ChangeAt Go.RowKit
/-- The ways: a step's kind, and how many numbers fewer it leaves. -/
def waysL (t : Bool) : List (Int × Nat × Nat) := if t then [(3, 1, 1), (1, 1, 0), (2, 0, 1)] else [(1, 1, 0), (2, 0, 1)]
theorem fits_any (kd : Int) (fa fb i j : Nat) (w : World) :
    Calls Try.prog 56 #[.agg #[.int .i64 kd, .int .i64 fa, .int .i64 fb], .int .i64 i, .int .i64 j] w fun e w' => e = .returned (.bool (decide (fa ≤ i ∧ fb ≤ j))) ∧ Below w.heap.size w w' := by
  obtain ⟨r, hr⟩ : ∃ r, Hid (decide (fa ≤ i ∧ fb ≤ j) = r) := ⟨_, rfl⟩
  rw [hr.out]
  go_enter Try.func56, Try.ntmps56
  by_cases h1 : fa ≤ i
  · have h1i : (fa : Int) ≤ (i : Int) := by omega
    by_cases h2 : fb ≤ j
    · have h2i : (fb : Int) ≤ (j : Int) := by omega
      have e : r = true := by rw [← hr.out]; exact decide_eq_true ⟨h1, h2⟩
      subst e; clear hr
      go_wp2
      go_ret
      exact ⟨rfl, (Below.refl _ _).alloc (Nat.le_refl _) _⟩
    · have h2i : ¬ (fb : Int) ≤ (j : Int) := by omega
      have e : r = false := by rw [← hr.out]; exact decide_eq_false (fun h => h2 h.2)
      subst e; clear hr
      go_wp2
      go_ret
      exact ⟨rfl, (Below.refl _ _).alloc (Nat.le_refl _) _⟩
  · have h1i : ¬ (fa : Int) ≤ (i : Int) := by omega
    have e : r = false := by rw [← hr.out]; exact decide_eq_false (fun h => h1 h.1)
    subst e; clear hr
    go_wp2
    go_ret
    exact ⟨rfl, (Below.refl _ _).alloc (Nat.le_refl _) _⟩
/-- A slice of ways that can be read. -/
def WyS (w : World) (v : Value) (ws : List (Int × Nat × Nat)) : Prop :=
  ∃ V c, v = .slice (some ⟨V, 0, none⟩) ws.length c ∧ V < w.heap.size ∧ ∀ k, k < ws.length → w.cell? ⟨V, k * 3, none⟩ = some (.int .i64 (ws.getD k (0, 0, 0)).1) ∧ w.cell? ⟨V, k * 3 + 1, none⟩ = some (.int .i64 ((ws.getD k (0, 0, 0)).2.1 : Nat)) ∧ w.cell? ⟨V, k * 3 + 2, none⟩ = some (.int .i64 ((ws.getD k (0, 0, 0)).2.2 : Nat))
theorem WyS.below {w w' : World} {v : Value} {ws : List (Int × Nat × Nat)} (h : WyS w v ws) (hb : Below w.heap.size w w') : WyS w' v ws := by
  obtain ⟨V, c, hv, hlt, hc⟩ := h
  refine ⟨V, c, hv, Nat.lt_of_lt_of_le hlt hb.size, fun k hk => ?_⟩
  have e : ∀ q, w'.cell? ⟨V, q, none⟩ = w.cell? ⟨V, q, none⟩ := fun q => hb.cell (p := ⟨V, q, none⟩) hlt
  rw [e, e, e]; exact hc k hk
/-- One way more. -/
def wayS (R : Nat → Nat → Int) (i j : Nat) (acc : Int) (y : Int × Nat × Nat) : Int := if y.2.1 ≤ i ∧ y.2.2 ≤ j then min acc (R (i - y.2.1) (j - y.2.2) + 1) else acc
def waysS (R : Nat → Nat → Int) (i j : Nat) (ws : List (Int × Nat × Nat)) : Int := ws.foldl (wayS R i j) 160
theorem waysS_snoc (R : Nat → Nat → Int) (i j : Nat) (ws : List (Int × Nat × Nat)) (k : Nat) (h : k < ws.length) : waysS R i j (ws.take (k + 1)) = wayS R i j (waysS R i j (ws.take k)) (ws.getD k (0, 0, 0)) := by
  unfold waysS
  rw [List.take_succ_eq_append_getElem h, List.foldl_append]
  simp [h]
theorem edS_ways (t : Bool) (x y : Nat → Int) (R : Nat → Nat → Int) (i j : Nat) (h0 : ¬ (i = 0 ∧ j = 0)) (hn : ∀ i1 j1, i = i1 + 1 → j = j1 + 1 → ¬ x i1 = y j1) : edS t x y R i j = waysS R i j (waysL t) := by
  cases i with
  | zero =>
    cases j with
    | zero => exact absurd ⟨rfl, rfl⟩ h0
    | succ j => cases t <;> simp [edS, waysS, waysL, wayS]
  | succ i =>
    cases j with
    | zero => cases t <;> simp [edS, waysS, waysL, wayS]
    | succ j =>
      rw [edS, if_neg (hn i j rfl rfl)]
      cases t <;> simp [waysS, waysL, wayS]
theorem wayS_bd (R : Nat → Nat → Int) (i j : Nat) (hR : ∀ i' j', i' ≤ i → j' ≤ j → (i' < i ∨ j' < j) → 0 ≤ R i' j') (acc : Int) (y : Int × Nat × Nat) (hy : 0 < y.2.1 ∨ 0 < y.2.2) (h : 0 ≤ acc ∧ acc ≤ 160) : 0 ≤ wayS R i j acc y ∧ wayS R i j acc y ≤ 160 := by
  unfold wayS
  split
  · have := hR (i - y.2.1) (j - y.2.2) (by omega) (by omega) (by omega); omega
  · exact h
end Go.Proofs.Ytdahcdgefflkaaa
namespace Go.Proofs.Ytdahcdgefflkaaa
open Go.ChangeShapes Go.WideShapes Go.ChangeAt Go.RowKit
theorem min_if (a b : Int) : (if b < a then b else a) = min a b := by split <;> omega
theorem waysL_bd (t : Bool) (k : Nat) (h : k < (waysL t).length) : ((waysL t).getD k (0, 0, 0)).2.1 ≤ 1 ∧ ((waysL t).getD k (0, 0, 0)).2.2 ≤ 1 ∧ (0 < ((waysL t).getD k (0, 0, 0)).2.1 ∨ 0 < ((waysL t).getD k (0, 0, 0)).2.2) := by
  cases t
  · match k, h with
    | 0, _ => decide
    | 1, _ => decide
  · match k, h with
    | 0, _ => decide
    | 1, _ => decide
    | 2, _ => decide
set_option maxHeartbeats 4000000 in
set_option maxRecDepth 20000 in
theorem stepsTo_any (t : Bool) (B : Nat) (va vb vw : Value) (L : Int) (R : Nat → Nat → Int) (xs ys : List Int) (w : World) (h : RtB w B va vb vw L R) (ha : SlI w va xs) (hb : SlI w vb ys) (hw : WyS w vw (waysL t)) (hx : xs.length ≤ 40) (hy : ys.length ≤ 40) (i j : Nat) (hi : i ≤ xs.length) (hj : j ≤ ys.length)
    (hbd : ∀ i' j', i' ≤ i → j' ≤ j → (i' < i ∨ j' < j) → 0 ≤ R i' j' ∧ R i' j' ≤ 160) :
    Calls Try.prog 61 #[.pointer (some ⟨B, 0, none⟩), .int .i64 i, .int .i64 j] w fun e w' => e = .returned (.int .i64 (edS t (fun k => xs.getD k 0) (fun k => ys.getD k 0) R i j)) ∧ Below w.heap.size w w' := by
  have hal := alike_any B va vb vw L R xs ys w h ha hb hx hy i j hi hj
  have hlt := h.lt
  obtain ⟨S, hS⟩ : ∃ S, Hid (edS t (fun k => xs.getD k 0) (fun k => ys.getD k 0) R i j = S) := ⟨_, rfl⟩
  rw [hS.out]
  by_cases h00 : i = 0 ∧ j = 0
  · obtain ⟨rfl, rfl⟩ := h00
    have e : S = 0 := by rw [← hS.out]; rfl
    subst e
    clear hS hal hbd
    go_enter Try.func61, Try.ntmps61
    go_wp2
    go_ret
    exact ⟨rfl, Below.refl _ _⟩
  have hnn : ¬ ((i : Int) = 0 ∧ (j : Int) = 0) := by omega
  by_cases hA : alikeB xs ys i j = true
  · rw [hA] at hal
    have hA2 := of_decide_eq_true hA
    obtain ⟨i1, rfl⟩ : ∃ i1, i = i1 + 1 := ⟨i - 1, by omega⟩
    obtain ⟨j1, rfl⟩ : ∃ j1, j = j1 + 1 := ⟨j - 1, by omega⟩
    have e : S = R i1 j1 := by rw [← hS.out, edS, if_pos (by simpa using hA2.2.2)]
    subst e
    clear hS hbd hA hA2
    generalize hi' : i1 + 1 = i at *
    generalize hj' : j1 + 1 = j at *
    replace hi' := (show Hid _ from hi')
    replace hj' := (show Hid _ from hj')
    have e3 : IntKind.i64.wrap ((i : Int) - 1) = (i1 : Int) := wid (by have := hi'.out; omega) (by omega) (by omega)
    have e8 : IntKind.i64.wrap ((j : Int) - 1) = (j1 : Int) := wid (by have := hj'.out; omega) (by omega) (by omega)
    have i0 : ¬ ((i : Int) = 0) := by have := hi'.out; omega
    have i41 : i1 < 41 := by have := hi'.out; omega
    have j41 : j1 < 41 := by have := hj'.out; omega
    have c4 : ∀ W, Below w.heap.size w W → W.cell? ⟨B, 4 + i1 * 41 + j1, none⟩ = some (.int .i64 (R i1 j1)) := fun W hb => (h.below hb).at i1 j1 (by omega) (by omega)
    go_enter Try.func61, Try.ntmps61
    go_wp2_with (go_at_call 55; refine hal.mono ?_; rintro e w1 ⟨rfl, hb1⟩; have c5 := c4 _ hb1)
    go_ret
    exact ⟨rfl, hb1⟩
  have hA : alikeB xs ys i j = false := by simpa using hA
  rw [hA] at hal
  have hA2 := of_decide_eq_false hA
  have e := edS_ways t (fun k => xs.getD k 0) (fun k => ys.getD k 0) R i j h00 (fun i1 j1 e1 e2 => by
    subst e1; subst e2
    intro q
    exact hA2 ⟨by omega, by omega, by simpa using q⟩)
  rw [hS.out] at e
  subst e
  have hwb := waysL_bd t
  generalize hws : waysL t = ws at *
  obtain ⟨V, c, rfl, hVl, hVc⟩ := hw
  have hN : ws.length ≤ 3 := by rw [← hws]; cases t <;> decide
  clear hS hA hA2 hws
  have c2 : ∀ W, Below w.heap.size w W → W.cell? ⟨B, 2, none⟩ = some (.slice (some ⟨V, 0, none⟩) ws.length c) := fun W hb => (h.below hb).cells.2.2.1
  have c4 : ∀ W p q, Below w.heap.size w W → p ≤ 40 → q ≤ 40 → W.cell? ⟨B, 4 + p * 41 + q, none⟩ = some (.int .i64 (R p q)) := fun W p q hb h1 h2 => (h.below hb).at p q h1 h2
  have cV : ∀ W q, Below w.heap.size w W → W.cell? ⟨V, q, none⟩ = w.cell? ⟨V, q, none⟩ := fun W q hb => hb.cell (p := ⟨V, q, none⟩) hVl
  obtain ⟨N, hNn⟩ : ∃ N, Hid (ws.length = N) := ⟨_, rfl⟩
  rw [hNn.out] at hN c2
  have hfin : waysS R i j ws = waysS R i j (ws.take N) := by rw [← hNn.out, List.take_length]
  rw [hfin]
  have hstep : ∀ k, k < N → waysS R i j (ws.take (k + 1)) = wayS R i j (waysS R i j (ws.take k)) (ws.getD k (0, 0, 0)) := fun k hk => waysS_snoc R i j ws k (by rw [hNn.out]; exact hk)
  have hVc2 : ∀ k, k < N → _ := fun k hk => hVc k (by rw [hNn.out]; exact hk)
  have hwb2 : ∀ k, k < N → _ := fun k hk => hwb k (by rw [hNn.out]; exact hk)
  clear hfin hVc hwb
  generalize hac : (fun k => waysS R i j (ws.take k)) = ac at *
  have hac0 : ac 0 = 160 := by rw [← hac]; rfl
  have hacN : waysS R i j (ws.take N) = ac N := by rw [← hac]
  rw [hacN]
  have hst2 : ∀ k, k < N → ac (k + 1) = wayS R i j (ac k) (ws.getD k (0, 0, 0)) := fun k hk => by rw [← hac]; exact hstep k hk
  have hlim : ∀ k, k ≤ N → 0 ≤ ac k ∧ ac k ≤ 160 := fun k => by
    induction k with
    | zero => intro _; rw [hac0]; omega
    | succ k ih =>
      intro hk
      rw [hst2 k (by omega)]
      exact wayS_bd R i j (fun i' j' h1 h2 h3 => (hbd i' j' h1 h2 h3).1) _ _ (hwb2 k (by omega)).2.2 (ih (by omega))
  clear hstep hac hacN
  replace cV := (show Hid _ from cV)
  replace c4 := (show Hid _ from c4)
  replace c2 := (show Hid _ from c2)
  replace hst2 := (show Hid _ from hst2)
  replace hlim := (show Hid _ from hlim)
  replace hac0 := (show Hid _ from hac0)
  replace hVc2 := (show Hid _ from hVc2)
  replace hwb2 := (show Hid _ from hwb2)
  replace hbd := (show Hid _ from hbd)
  clear hb
  clear hnn
  by_cases q1 : i = 0
  · subst q1
    have q2 : ¬ ((j : Int) = 0) := by omega
    have e0 : ((0 : Nat) : Int) = 0 := rfl
    rw [e0] at hal
    clear e0 h00
    go_enter Try.func61, Try.ntmps61
    go_wp2_with (go_at_call 55; refine hal.mono ?_; rintro e w1 ⟨rfl, hb1⟩; have c3 := c2.out _ hb1)
    go_loopw [7, 9, 35] (fun lv _ kv wr => ∃ k : Nat, k ≤ N ∧ kv = .int .i64 k ∧ lv = .int .i64 (ac k) ∧ Below w.heap.size w wr) (fun _ _ kv _ => N - (intOf kv).toNat)
    case atStart => exact ⟨0, Nat.zero_le _, rfl, by rw [hac0.out], hb1⟩
    case round =>
      obtain ⟨k, hk, rfl, rfl, kb⟩ := hrel
      clear hb1 c3 hal
      by_cases hlk : k < N
      · obtain ⟨v0, v1, v2⟩ := hVc2.out k hlk
        obtain ⟨b1, b2, b3⟩ := hwb2.out k hlk
        have hs := hst2.out k hlk
        have hl := hlim.out k hk
        have hVw : V < wr.heap.size := Nat.lt_of_lt_of_le hVl kb.size
        rw [← cV.out _ _ kb] at v0 v1 v2
        generalize ws.getD k (0, 0, 0) = y at v0 v1 v2 b1 b2 b3 hs
        obtain ⟨kd, fa, fb⟩ := y
        dsimp only at v0 v1 v2 b1 b2 b3 hs
        generalize ac k = A at *
        obtain ⟨A1, hA1⟩ : ∃ A1, Hid (ac (k + 1) = A1) := ⟨_, rfl⟩
        rw [hA1.out] at hs
        have hki : (k : Int) < (N : Int) := by omega
        have hal1 := bal' wr (Obj.cells #[.int .i64 kd, .int .i64 fa, .int .i64 fb] 54)
        have hbx : BlkC (wr.alloc (Obj.cells #[.int .i64 kd, .int .i64 fa, .int .i64 fb] 54)) wr.heap.size 54 [.int .i64 kd, .int .i64 fa, .int .i64 fb] := heap_alloc_new wr _
        have kb2 := kb.trans (hal1.mono kb.size)
        by_cases hf : fa ≤ 0 ∧ fb ≤ j
        · have hft := fun W => (show Calls Try.prog 56 #[.agg #[.int .i64 kd, .int .i64 fa, .int .i64 fb], .int .i64 0, .int .i64 j] W (fun e w' => e = .returned (.bool (decide (fa ≤ 0 ∧ fb ≤ j))) ∧ Below W.heap.size W w') from fits_any kd fa fb 0 j W)
          simp only [decide_eq_true hf] at hft
          obtain ⟨hf0, hf1⟩ := hf
          obtain rfl : fa = 0 := by omega
          obtain ⟨q, hq⟩ : ∃ q, Hid (q = j - fb) := ⟨_, rfl⟩
          have hs2 : A1 = min A (R 0 q + 1) := by rw [hs, hq.out]; exact if_pos ⟨hf0, hf1⟩
          have e2 : IntKind.i64.wrap ((j : Int) - (fb : Int)) = (q : Int) := wid (by have := hq.out; omega) (by omega) (by omega)
          have q41 : q < 41 := by have := hq.out; omega
          have hbR := hbd.out 0 q (by omega) (by have := hq.out; omega) (by have := hq.out; omega)
          have e9 : IntKind.i64.wrap (R 0 q + 1) = R 0 q + 1 := wid rfl (by omega) (by omega)
          replace hs := hs2
          have e0 : ((0 : Nat) : Int) = 0 := rfl
          rw [e0] at v1 hbx kb2
          simp only [e0] at hft
          clear hs2 hf0 hf1 e0
          replace kb2 := (show Hid _ from kb2)
          replace hbx := (show Hid _ from hbx)
          go_wp2_with fail
          refine (hft _).mono ?_
          rintro e w3 ⟨rfl, hb3⟩
          have kb3 := kb2.out.trans (hb3.mono kb2.out.size)
          have d5 := (show w3.cell? ⟨B, 4 + q, none⟩ = _ from by have := c4.out w3 0 q kb3 (by omega) (by omega); simpa using this)
          have d1 : w3.cell? ⟨wr.heap.size, 1, none⟩ = some (.int .i64 0) := cell_blk (BlkC.below hbx.out hb3) 1
          have d2 : w3.cell? ⟨wr.heap.size, 2, none⟩ = some (.int .i64 fb) := cell_blk (BlkC.below hbx.out hb3) 2
          go_wp2
          go_quiet (fail)
          go_wp2
          go_roundw
          case rel => exact ⟨k + 1, by omega, by go_num, by rw [hA1.out, hs, ← min_if], kb3.trans ((drwB w3 nq).mono kb3.size)⟩
          case measure => simp [intOf]; omega
        · have hft := fun W => (show Calls Try.prog 56 #[.agg #[.int .i64 kd, .int .i64 fa, .int .i64 fb], .int .i64 0, .int .i64 j] W (fun e w' => e = .returned (.bool (decide (fa ≤ 0 ∧ fb ≤ j))) ∧ Below W.heap.size W w') from fits_any kd fa fb 0 j W)
          simp only [decide_eq_false hf] at hft
          have hs2 : A1 = A := by rw [hs]; exact if_neg hf
          clear hs hf
          replace kb2 := (show Hid _ from kb2)
          replace hs2 := (show Hid _ from hs2)
          clear hbx
          go_wp2_with (go_at_call 56; refine (hft _).mono ?_; rintro e w3 ⟨rfl, hb3⟩; have kb3 := kb2.out.trans (hb3.mono kb2.out.size))
          go_roundw
          case rel => exact ⟨k + 1, by omega, by go_num, by rw [hA1.out, hs2.out], kb3⟩
          case measure => simp [intOf]; omega
      · have hkN : k = N := by omega
        subst hkN
        go_wp2
        go_ret
        exact ⟨rfl, kb⟩
  · have q2 : ¬ ((i : Int) = 0) := by omega
    clear h00
    go_enter Try.func61, Try.ntmps61
    go_wp2_with (go_at_call 55; refine hal.mono ?_; rintro e w1 ⟨rfl, hb1⟩; have c3 := c2.out _ hb1)
    go_loopw [7, 9, 35] (fun lv _ kv wr => ∃ k : Nat, k ≤ N ∧ kv = .int .i64 k ∧ lv = .int .i64 (ac k) ∧ Below w.heap.size w wr) (fun _ _ kv _ => N - (intOf kv).toNat)
    case atStart => exact ⟨0, Nat.zero_le _, rfl, by rw [hac0.out], hb1⟩
    case round =>
      obtain ⟨k, hk, rfl, rfl, kb⟩ := hrel
      clear hb1 c3 hal
      by_cases hlk : k < N
      · obtain ⟨v0, v1, v2⟩ := hVc2.out k hlk
        obtain ⟨b1, b2, b3⟩ := hwb2.out k hlk
        have hs := hst2.out k hlk
        have hl := hlim.out k hk
        have hVw : V < wr.heap.size := Nat.lt_of_lt_of_le hVl kb.size
        rw [← cV.out _ _ kb] at v0 v1 v2
        generalize ws.getD k (0, 0, 0) = y at v0 v1 v2 b1 b2 b3 hs
        obtain ⟨kd, fa, fb⟩ := y
        dsimp only at v0 v1 v2 b1 b2 b3 hs
        generalize ac k = A at *
        obtain ⟨A1, hA1⟩ : ∃ A1, Hid (ac (k + 1) = A1) := ⟨_, rfl⟩
        rw [hA1.out] at hs
        have hki : (k : Int) < (N : Int) := by omega
        have hal1 := bal' wr (Obj.cells #[.int .i64 kd, .int .i64 fa, .int .i64 fb] 54)
        have hbx : BlkC (wr.alloc (Obj.cells #[.int .i64 kd, .int .i64 fa, .int .i64 fb] 54)) wr.heap.size 54 [.int .i64 kd, .int .i64 fa, .int .i64 fb] := heap_alloc_new wr _
        have kb2 := kb.trans (hal1.mono kb.size)
        by_cases hf : fa ≤ i ∧ fb ≤ j
        · have hft := fun W => fits_any kd fa fb i j W
          simp only [decide_eq_true hf] at hft
          obtain ⟨p, hp⟩ : ∃ p, Hid (p = i - fa) := ⟨_, rfl⟩
          obtain ⟨q, hq⟩ : ∃ q, Hid (q = j - fb) := ⟨_, rfl⟩
          have hs2 : A1 = min A (R p q + 1) := by rw [hs, hp.out, hq.out]; exact if_pos hf
          have e1 : IntKind.i64.wrap ((i : Int) - (fa : Int)) = (p : Int) := wid (by have := hp.out; omega) (by omega) (by omega)
          have e2 : IntKind.i64.wrap ((j : Int) - (fb : Int)) = (q : Int) := wid (by have := hq.out; omega) (by omega) (by omega)
          have p41 : p < 41 := by have := hp.out; omega
          have q41 : q < 41 := by have := hq.out; omega
          have hbR := hbd.out p q (by have := hp.out; omega) (by have := hq.out; omega) (by have := hp.out; have := hq.out; omega)
          have e9 : IntKind.i64.wrap (R p q + 1) = R p q + 1 := wid rfl (by omega) (by omega)
          replace hs := hs2
          clear hs2 hf
          replace kb2 := (show Hid _ from kb2)
          replace hbx := (show Hid _ from hbx)
          go_wp2_with fail
          refine (hft _).mono ?_
          rintro e w3 ⟨rfl, hb3⟩
          have kb3 := kb2.out.trans (hb3.mono kb2.out.size)
          have d5 := c4.out w3 p q kb3 (by omega) (by omega)
          have d1 : w3.cell? ⟨wr.heap.size, 1, none⟩ = some (.int .i64 fa) := cell_blk (BlkC.below hbx.out hb3) 1
          have d2 : w3.cell? ⟨wr.heap.size, 2, none⟩ = some (.int .i64 fb) := cell_blk (BlkC.below hbx.out hb3) 2
          go_wp2
          go_quiet (fail)
          go_wp2
          go_roundw
          case rel => exact ⟨k + 1, by omega, by go_num, by rw [hA1.out, hs, ← min_if], kb3.trans ((drwB w3 nq).mono kb3.size)⟩
          case measure => simp [intOf]; omega
        · have hft := fun W => fits_any kd fa fb i j W
          simp only [decide_eq_false hf] at hft
          have hs2 : A1 = A := by rw [hs]; exact if_neg hf
          clear hs hf
          replace kb2 := (show Hid _ from kb2)
          replace hs2 := (show Hid _ from hs2)
          clear hbx
          go_wp2_with (go_at_call 56; refine (hft _).mono ?_; rintro e w3 ⟨rfl, hb3⟩; have kb3 := kb2.out.trans (hb3.mono kb2.out.size))
          go_roundw
          case rel => exact ⟨k + 1, by omega, by go_num, by rw [hA1.out, hs2.out], kb3⟩
          case measure => simp [intOf]; omega
      · have hkN : k = N := by omega
        subst hkN
        go_wp2
        go_ret
        exact ⟨rfl, kb⟩
end Go.Proofs.Ytdahcdgefflkaaa
namespace Go.Proofs.Ytdahcdgefflkaaa
open Go.ChangeShapes Go.WideShapes Go.ChangeAt Go.RowKit
theorem wp_store_at {P : Program} {o : Oper} {a : Act} {w : World} {K : Act → World → Prop} {Q : Exit → Act → World → Prop} (t : TypeId) (x y : Operand) (ho : o.op = .store t x y) {e : TypeId} {B k n : Nat} {cs : List Value} {v : Value} (hi : (P.info? t).map (·.size) = some n) (hb : BlkC w B e cs) (hx : a.eval x = .pointer (some ⟨B, k, none⟩)) (hy : a.eval y = v) (hn : v.cells.size = n) (h1 : v.cells.toList.all (·.oneCell') = true) (hk : Nat.ble (k + n) cs.length = true)
    (h : K (a.put o.dst undef) (w.setCells B k v.cells.toList)) : o.wp P a w K Q := by
  have hk := Nat.le_of_ble_eq_true hk
  rw [← hn] at hi hk
  have hs := run_storeCells_cells (P := P) B k v.cells.toList 0 w (fun j hj => by
      rw [cell_of_row w B _ cs.toArray e (0, 0) hb]
      simp at hj ⊢; omega) (fun j hj => frozen_of_row w B _ _ _ hb) (fun u hu => List.all_eq_true.1 h1 u hu)
  rw [Nat.add_zero] at hs
  unfold Oper.wp
  cases hq : P.info? t with
  | none => simp [hq] at hi
  | some i =>
    have hsz : v.cells.size = i.size := by simp [hq] at hi; omega
    simp [execOp, ho, hx, hy, Instr.storeAt, Instr.sureAddr, storeVar, sizeOf, typeInfo, hq, hsz, Result.andThen, hs]
    exact h
theorem Below.gr {w w' : World} (h : Below w.heap.size w w') (row : Option Nat) : w.grownBy w' row := ⟨h.os, h.tape, h.output, h.size, fun k hk _ => h.block k hk⟩
theorem edC_bd (l d : Int) (hl : 0 ≤ l ∧ l < 160) (hd : 0 ≤ d) : 0 ≤ edC l d ∧ edC l d ≤ 160 := by unfold edC; split <;> omega
/-- Rows that are filled up to a place. -/
def Fil (L : Int) (D R : Nat → Nat → Int) (n i j : Nat) : Prop :=
  (∀ i' j', i' < i → j' ≤ n → R i' j' = edC L (D i' j')) ∧ (∀ j', j' < j → R i j' = edC L (D i j')) ∧ (∀ j', j ≤ j' → j' ≤ 40 → R i j' = 160)
set_option maxHeartbeats 4000000 in
set_option maxRecDepth 20000 in
theorem fillRow_any (t : Bool) (w0 : World) (B : Nat) (hB0 : w0.heap.size ≤ B) (va vb vw : Value) (L : Int) (hL : 0 ≤ L ∧ L < 160) (R : Nat → Nat → Int) (xs ys : List Int) (ha : SlI w0 va xs) (hb : SlI w0 vb ys) (hw : WyS w0 vw (waysL t)) (hx : xs.length ≤ 40) (hy : ys.length ≤ 40) (i : Nat) (hi : i ≤ xs.length)
    (w : World) (h : RtB w B va vb vw L R) (kb : Below w0.heap.size w0 w) (hF : ∀ i' j', i' < i → j' ≤ ys.length → R i' j' = edC L (edD t (fun k => xs.getD k 0) (fun k => ys.getD k 0) i' j')) :
    Calls Try.prog 53 #[.pointer (some ⟨B, 0, none⟩), .int .i64 i] w fun e w' => e = .returned (.tuple #[]) ∧ w.grownBy w' (some B) ∧ ∃ R', RtB w' B va vb vw L R' ∧ Fil L (edD t (fun k => xs.getD k 0) (fun k => ys.getD k 0)) R' ys.length i (ys.length + 1) := by
  obtain ⟨cs, h1, hl, h2⟩ := h
  have hd : Below w.heap.size w w.drew := ⟨rfl, rfl, rfl, Nat.le_refl _, fun _ _ => rfl⟩
  have i41 : (i : Int) < 41 := by omega
  obtain ⟨D, hD⟩ : ∃ D, Hid (D = edD t (fun k => xs.getD k 0) (fun k => ys.getD k 0)) := ⟨_, rfl⟩
  rw [← hD.out] at hF ⊢
  obtain ⟨N, hN⟩ : ∃ N, Hid (ys.length + 1 = N) := ⟨_, rfl⟩
  rw [hN.out]
  have hN2 : N ≤ 41 := by have := hN.out; omega
  go_enter Try.func53, Try.ntmps53
  go_wp2
  refine wp_region_noPanic ?_
  refine wp_region_held_drew (S := (fun _ => True)) (by kernel_rfl) (trivial) (fun hHeld => ?_)
  refine' wpAnyH_take (i := 0) (v := _) rfl (by kernel_rfl) (by kernel_rfl) (by kernel_rfl) (fun _ _ _ h => h) (Or.inl ⟨by rfl, ?hy1001⟩) hHeld ?hr1001
  case hy1001 => (intro w hSw; (try dsimp only at hSw); go_simp; (try with_reducible rfl))
  simp only [Act.put, List.setIfInBounds_toArray, List.set_cons_zero, List.set_cons_succ, List.getElem_toArray, List.getElem_cons_zero]
  refine' wpAnyH_take (i := 1) (v := _) rfl (by kernel_rfl) (by kernel_rfl) (by kernel_rfl) (fun _ _ _ h => h) (Or.inl ⟨by rfl, ?hy1002⟩) hHeld ?hr1002
  case hy1002 => (intro w hSw; (try dsimp only at hSw); go_simp; (try with_reducible rfl))
  simp only [Act.put, List.setIfInBounds_toArray, List.set_cons_zero, List.set_cons_succ, List.getElem_toArray, List.getElem_cons_zero, List.getElem_cons_succ]
  refine' wpAnyH_take (i := 3) (v := _) rfl (by kernel_rfl) (by kernel_rfl) (by kernel_rfl) (fun _ _ _ h => h) (Or.inl ⟨by rfl, ?hy1003⟩) hHeld ?hr1003
  case hy1003 => (intro w hSw; (try dsimp only at hSw); go_simp; (try with_reducible rfl))
  simp only [Act.put, List.setIfInBounds_toArray, List.set_cons_zero, List.set_cons_succ, List.getElem_toArray, List.getElem_cons_zero, List.getElem_cons_succ]
  refine' wpAnyH_take (i := 4) (v := _) rfl (by kernel_rfl) (by kernel_rfl) (by kernel_rfl) (fun _ _ _ h => h) (Or.inl ⟨by rfl, ?hy1004⟩) hHeld ?hr1004
  case hy1004 => (intro w hSw; (try dsimp only at hSw); go_simp; (try with_reducible rfl))
  simp only [Act.put, List.setIfInBounds_toArray, List.set_cons_zero, List.set_cons_succ, List.getElem_toArray, List.getElem_cons_zero, List.getElem_cons_succ]
  refine wpAnyH_ready (rs := [2]) (by kernel_rfl) (by simp) (allReady_1 rfl rfl (fun K hK => ?_))
  go_simp
  refine (allBeyond_any _).mono ?_
  rintro e w1 ⟨rfl, hb9⟩
  replace hd := hd.trans (hb9.mono hd.size)
  have hB1 := BlkC.below h1 hd
  go_wp2_with fail
  refine hK.out _ _ (trivial) (fun hHeld => ?_)
  clear hK K
  (try simp only [Act.put, List.setIfInBounds_toArray, List.set_cons_zero, List.set_cons_succ, List.getElem_toArray, List.getElem_cons_zero, List.getElem_cons_succ])
  refine' wpAnyH_take (i := 5) (v := _) rfl (by kernel_rfl) (by kernel_rfl) (by kernel_rfl) (fun _ _ _ h => h) (Or.inl ⟨by rfl, ?hy1005⟩) hHeld ?hr1005
  case hy1005 => (intro w hSw; (try dsimp only at hSw); go_simp; (try with_reducible rfl))
  simp only [Act.put, List.setIfInBounds_toArray, List.set_cons_zero, List.set_cons_succ, List.getElem_toArray, List.getElem_cons_zero, List.getElem_cons_succ]
  refine wpAnyH_ready (rs := [6]) (by kernel_rfl) (by simp) (allReady_1 rfl rfl (fun K hK => ?_))
  refine wp_store_at 72 _ _ (by rfl) (v := .agg (rowV (fun _ => 160)).toArray) info_row hB1 (by rfl) (by rfl) (by rfl) (rowV_one _) (Nat.ble_eq_true_of_le (by rw [hl]; omega)) ?_
  refine hK.out _ _ (trivial) (fun hHeld => ?_)
  clear hK K
  (try simp only [Act.put])
  refine wpAnyH_done (by kernel_rfl) ?_ _
  refine NoPanic.normal ?_
  have hB2 : BlkC (w1.setCells B (4 + i * 41) (rowV (fun _ => 160))) B 75 (setV cs (4 + i * 41) (rowV (fun _ => 160))) := setCells_heap B _ (rowV (fun _ => 160)) (4 + i * 41) w1 cs hB1
  have hg2 := grown_tr (Below.gr hd (some B)) (setCells_gr B (rowV (fun _ => 160)) (4 + i * 41) w1)
  have ev : (Value.agg (rowV (fun _ => 160)).toArray).cells.toList = rowV (fun _ => 160) := rfl
  rw [ev]
  obtain ⟨w2, hw2⟩ : ∃ w2, w2 = w1.setCells B (4 + i * 41) (rowV (fun _ => 160)) := ⟨_, rfl⟩
  rw [← hw2] at hB2 hg2 ⊢
  clear hw2 ev hB1 h1
  simp only [List.getElem_toArray, List.getElem_cons_zero, List.getElem_cons_succ]
  obtain ⟨g0, g1, g2, g3, h6⟩ := h2
  have hR2 := RtB.row hl g0 g1 g2 g3 h6 i (by omega) (fun _ => 160) hB2
  have hF2 : Fil L D (rowR R i (fun _ => 160)) ys.length i 0 := by
    refine ⟨fun i' j' h1 h2 => ?_, fun j' h1 => absurd h1 (Nat.not_lt_zero _), fun j' _ _ => ?_⟩
    · unfold rowR; rw [if_neg (by omega)]; exact hF i' j' h1 h2
    · unfold rowR; rw [if_pos rfl]
  clear g0 g1 g2 g3 h6 hB2 hl hd hb9 hF
  have kb2 := kb.grown hg2 kb.size (fun k e => by cases e; exact hB0)
  obtain ⟨_, q1, _, _⟩ := hR2.cells
  have hb2 := hb.below kb2
  obtain ⟨vba, vbc, hvb, _⟩ := hb2
  rw [hvb] at q1
  have eW : IntKind.i64.wrap ((ys.length : Int) + 1) = (N : Int) := wid (by have := hN.out; omega) (by omega) (by omega)

  obtain ⟨R2, hR2e⟩ : ∃ R2, R2 = rowR R i (fun _ => 160) := ⟨_, rfl⟩
  rw [← hR2e] at hR2 hF2
  clear hR2e
  replace hF2 := (show Hid _ from hF2)
  go_wp2
  go_loopw [4, 5, 18] (fun _ _ jv wr => ∃ (j : Nat) (R' : Nat → Nat → Int), j ≤ N ∧ jv = .int .i64 j ∧ RtB wr B va vb vw L R' ∧ Hid (Fil L D R' ys.length i j) ∧ w.grownBy wr (some B)) (fun _ _ jv _ => N - (intOf jv).toNat)
  case atStart => exact ⟨0, R2, Nat.zero_le _, rfl, hR2, hF2, hg2⟩
  case round =>
    obtain ⟨j, R', hj, rfl, hR, hFl, hg⟩ := hrel
    clear hR2 hF2 hg2 kb2 q1
    have hFi := hFl.out
    by_cases hlj : j < N
    · have hji : (j : Int) < (N : Int) := by omega
      have hjn : j ≤ ys.length := by have := hN.out; omega
      have kbr := kb.grown hg kb.size (fun k e => by cases e; exact hB0)
      have hdp := fun i' j' => (edD_bd t (fun k => xs.getD k 0) (fun k => ys.getD k 0) i' j').1
      rw [← hD.out] at hdp
      have hcut := edS_cut t (fun k => xs.getD k 0) (fun k => ys.getD k 0) L hL R' i j (fun i' j' h => by
        rw [← hD.out]
        rcases h with ⟨h1, h2⟩ | ⟨rfl, h2⟩
        · exact hFi.1 i' j' h1 (by omega)
        · exact hFi.2.1 j' h2)
      rw [← hD.out] at hcut
      have hst := stepsTo_any t B va vb vw L R' xs ys wr hR (ha.below kbr) (hb.below kbr) (hw.below kbr) hx hy i j hi hjn (fun i' j' h1 h2 h3 => by
        rcases Nat.lt_or_ge i' i with q | q
        · rw [hFi.1 i' j' q (by omega)]; exact edC_bd L _ hL (hdp _ _)
        · have : i' = i := by omega
          subst this
          rw [hFi.2.1 j' (by omega)]; exact edC_bd L _ hL (hdp _ _))
      generalize edS t (fun k => xs.getD k 0) (fun k => ys.getD k 0) R' i j = s at *
      have j41 : (j : Int) < 41 := by omega
      have i40 : i ≤ 40 := by omega
      have j40 : j ≤ 40 := by omega
      by_cases hs : s ≤ L
      · have hs2 : s = edC L (D i j) := by rw [← hcut]; unfold edC; rw [if_pos hs]
        have hF3 : Fil L D (putR R' i j s) ys.length i (j + 1) := by
          refine ⟨fun i' j' h1 h2 => ?_, fun j' h1 => ?_, fun j' h1 h2 => ?_⟩
          · unfold putR; rw [if_neg (by omega)]; exact hFi.1 i' j' h1 h2
          · unfold putR
            by_cases e : j' = j
            · subst e; rw [if_pos ⟨rfl, rfl⟩]; exact hs2
            · rw [if_neg (by omega)]; exact hFi.2.1 j' (by omega)
          · unfold putR; rw [if_neg (by omega)]; exact hFi.2.2 j' (by omega) h2
        clear hs2 hcut hFl hFi
        replace hF3 := (show Hid _ from hF3)
        replace hR := (show Hid _ from hR)
        go_wp2_with fail
        refine hst.mono ?_
        rintro e w3 ⟨rfl, hb3⟩
        have hR3 := RtB.below hR.out hb3
        obtain ⟨_, _, _, q3⟩ := hR3.cells
        have q4 := hR3.at i j i40 j40
        have hR4 := hR3.put i j i40 j40 s
        have hfz : w3.frozen? ⟨B, 4 + i * 41 + j, none⟩ = false := by obtain ⟨cs, h1, _⟩ := hR3; exact frozen_blk h1 _
        have hg4 := grown_tr hg (grown_tr (Below.gr hb3 (some B)) (setCell_gr w3 B (4 + i * 41 + j) (.int .i64 s)))
        clear hR3 hst hdp
        go_wp2
        go_roundw
        case rel => exact ⟨j + 1, _, by omega, by go_num, hR4, hF3, hg4⟩
        case measure => simp [intOf]; omega
      · have hs2 : (160 : Int) = edC L (D i j) := by rw [← hcut]; unfold edC; rw [if_neg hs]
        have hF3 : Fil L D R' ys.length i (j + 1) := by
          refine ⟨hFi.1, fun j' h1 => ?_, fun j' h1 h2 => hFi.2.2 j' (by omega) h2⟩
          by_cases e : j' = j
          · subst e; rw [← hs2]; exact hFi.2.2 _ (Nat.le_refl _) j40
          · exact hFi.2.1 j' (by omega)
        clear hs2 hcut hFl hFi
        replace hF3 := (show Hid _ from hF3)
        replace hR := (show Hid _ from hR)
        go_wp2_with fail
        refine hst.mono ?_
        rintro e w3 ⟨rfl, hb3⟩
        have hR3 := RtB.below hR.out hb3
        obtain ⟨_, _, _, q3⟩ := hR3.cells
        have hg4 := grown_tr hg (Below.gr hb3 (some B))
        replace hR3 := (show Hid _ from hR3)
        clear hst hdp
        go_wp2
        go_roundw
        case rel => exact ⟨j + 1, _, by omega, by go_num, hR3.out, hF3, hg4⟩
        case measure => simp [intOf]; omega
    · have hjN : j = N := by omega
      subst hjN
      go_wp2
      refine bodyPost_end (results_none rfl _ _ _) rfl ?_
      exact ⟨rfl, hg, R', hR, hFi⟩

end Go.Proofs.Ytdahcdgefflkaaa
namespace Go.Proofs.Ytdahcdgefflkaaa
open Go.ChangeShapes Go.WideShapes Go.ChangeAt Go.RowKit
theorem under_dist : Try.prog.underlying 72 = some (.array 41 2) := by kernel_rfl
theorem plain_i64 : Try.prog.plainKey 2 = true := by kernel_rfl
theorem cells_i64 : Try.prog.cellsOf 2 = 1 := by kernel_rfl
theorem eq_one (d : Nat) (a b : Int) (W : World) : (Op.equalIn (d + 1) 2 (.int .i64 a) (.int .i64 b)).run Try.prog W = .ok (a == b) W := by
  have hu := Try.underlying2
  simp [Op.equalIn, run_underlying hu]
theorem eq_items (f g : Nat → Int) (W : World) : ∀ is : List Nat, (∀ i ∈ is, i < 41) → (Op.eqItems 9999 2 1 (rowV f).toArray (rowV g).toArray is).run Try.prog W = .ok (decide (∀ j ∈ is, f j = g j)) W
  | [], _ => by simp [Op.eqItems]
  | i :: is, h => by
    have ih := eq_items f g W is (fun j hj => h j (List.mem_cons_of_mem _ hj))
    have hi := h i List.mem_cons_self
    have ha : (part 2 (rowV f).toArray (i * 1)).run Try.prog W = .ok (.int .i64 (f i)) W := run_part_plain W plain_i64 (by rw [Nat.mul_one]; simpa using rowV_get f i hi)
    have hb : (part 2 (rowV g).toArray (i * 1)).run Try.prog W = .ok (.int .i64 (g i)) W := run_part_plain W plain_i64 (by rw [Nat.mul_one]; simpa using rowV_get g i hi)
    have he : (Op.equalIn 9999 2 (.int .i64 (f i)) (.int .i64 (g i))).run Try.prog W = .ok (f i == g i) W := eq_one 9998 (f i) (g i) W
    simp only [Op.eqItems, Sem.run_bind, ha, hb, he, Result.andThen_ok]
    by_cases hq : f i = g i
    · simp [hq, ih]
    · simp [hq]
theorem eq_row_t (f g : Nat → Int) (W : World) (h : ∀ j, j < 41 → f j = g j) : (Op.equalIn 10000 72 (.agg (rowV f).toArray) (.agg (rowV g).toArray)).run Try.prog W = .ok true W := by
  obtain ⟨i0, hi, _⟩ := info_parts info_i64
  rw [run_equalIn_array W 9999 _ _ under_dist hi, cells_i64, eq_items f g W _ (fun i hi => List.mem_range.1 hi)]
  rw [decide_eq_true (fun j hj => h j (List.mem_range.1 hj))]
theorem eq_row_f (f g : Nat → Int) (W : World) (h : ¬ ∀ j, j < 41 → f j = g j) : (Op.equalIn 10000 72 (.agg (rowV f).toArray) (.agg (rowV g).toArray)).run Try.prog W = .ok false W := by
  obtain ⟨i0, hi, _⟩ := info_parts info_i64
  rw [run_equalIn_array W 9999 _ _ under_dist hi, cells_i64, eq_items f g W _ (fun i hi => List.mem_range.1 hi)]
  rw [decide_eq_false (fun q => h (fun j hj => q j (List.mem_range.2 hj)))]
/-- A new route's cells. -/
def rtC (va vb vw : Value) : List Value := va :: vb :: vw :: .int .i64 0 :: List.replicate 1681 (.int .i64 0)
theorem built_rt (a a' a'' : Option Addr) (n c n' c' n'' c'' : Nat) : Try.prog.built 75 [(0, .slice a n c), (1, .slice a' n' c'), (2, .slice a'' n'' c'')] = some (rtC (.slice a n c) (.slice a' n' c') (.slice a'' n'' c'')).toArray := by kernel_rfl
theorem build3_T {w : World} {ops : Array Oper} {rest : List Oper} {o : Oper} {a : Act} {Q : Exit → Act → World → Prop} (hgd : Region.wanted o (yielded ops a.tmps) = true) (t : TypeId) (i0 i1 i2 : Nat) (x0 x1 x2 : Operand) (ho : o.op = .build t #[(i0, x0), (i1, x1), (i2, x2)]) (v0 v1 v2 : Value) (cs : Array Value)
    (h0 : a.eval x0 = v0) (h1 : a.eval x1 = v1) (h2 : a.eval x2 = v2) (hf : Try.prog.built t [(i0, v0), (i1, v1), (i2, v2)] = some cs)
    (h : wpList Try.prog ops Q rest (a.put o.dst (.agg cs)) w) : wpList Try.prog ops Q (o :: rest) a w := by
  refine wpList_step fun K hK => ?_
  rw [if_pos hgd]
  have e : (#[(i0, x0), (i1, x1), (i2, x2)].map fun (i, x) => (i, a.eval x)).toList = [(i0, v0), (i1, v1), (i2, v2)] := by simp [h0, h1, h2]
  exact wp_build t _ ho (by rw [e, hf]; rfl) (by rw [e, hf]; exact hK _ _ h)
theorem run_load_row {W : World} {B k : Nat} {e : TypeId} {cs : List Value} (f : Nat → Int) (hb : BlkC W B e cs) (a : Act) (o : Oper) (x : Operand) (ho : o.op = .load 72 x) (hx : a.eval x = .pointer (some ⟨B, k, none⟩)) (hp : (cs.drop k).take 41 = rowV f) :
    (execOp a.eval o).run Try.prog W = .ok (.value (.agg (rowV f).toArray)) W := by
  unfold execOp
  simp only [ho, hx, Instr.loadAt, Instr.sureAddr, Sem.run_bind, Sem.run_pure, Result.andThen_ok, run_loadVar_part W B k e 72 cs (rowV f) _ hb under_dist rfl (by rw [rowV_len]; exact info_row) (by rw [rowV_len]; exact hp)]
set_option maxRecDepth 20000 in
theorem rtC_b {w : World} {B : Nat} {va vb vw : Value} (h : BlkC w B 75 (rtC va vb vw)) : RtB w B va vb vw 0 (fun _ _ => 0) := by
  refine ⟨_, h, by simp [rtC], rfl, rfl, rfl, rfl, fun i j hi hj => ?_⟩
  show (va :: vb :: vw :: .int .i64 0 :: List.replicate 1681 (.int .i64 0))[4 + i * 41 + j]? = _
  rw [show 4 + i * 41 + j = (i * 41 + j) + 1 + 1 + 1 + 1 by omega, List.getElem?_cons_succ, List.getElem?_cons_succ, List.getElem?_cons_succ, List.getElem?_cons_succ, List.getElem?_replicate, if_pos (by omega)]
end Go.Proofs.Ytdahcdgefflkaaa
namespace Go.Proofs.Ytdahcdgefflkaaa
open Go.ChangeShapes Go.WideShapes Go.ChangeAt Go.RowKit
/-- The limit of the route in a block. -/
def limOf (w : World) (B : Nat) : Int := match w.cell? ⟨B, 3, none⟩ with
  | some (.int _ z) => z
  | _ => 0
theorem RtB.limIs {w : World} {B : Nat} {va vb vw : Value} {L : Int} {R : Nat → Nat → Int} (h : RtB w B va vb vw L R) : limOf w B = L := by
  unfold limOf; rw [h.cells.2.2.2]
theorem RtB.lim {w : World} {B : Nat} {va vb vw : Value} {L : Int} {R : Nat → Nat → Int} (h : RtB w B va vb vw L R) (x : Int) : RtB (w.setCell ⟨B, 3, none⟩ (.int .i64 x)) B va vb vw x R := by
  obtain ⟨cs, h1, hl, h2, h3, h4, h5, h6⟩ := h
  refine ⟨_, blk_set h1 _ _, by rw [List.length_set]; exact hl, ?_, ?_, ?_, ?_, fun i' j' hi' hj' => ?_⟩
  · rw [List.getElem?_set_ne (by omega)]; exact h2
  · rw [List.getElem?_set_ne (by omega)]; exact h3
  · rw [List.getElem?_set_ne (by omega)]; exact h4
  · rw [List.getElem?_set_self (by omega)]
  · rw [List.getElem?_set_ne (by omega)]; exact h6 i' j' hi' hj'
theorem RtB.kept {w w' : World} {B : Nat} {va vb vw : Value} {L : Int} {R : Nat → Nat → Int} {row : Option Nat} (h : RtB w B va vb vw L R) (hg : w.grownBy w' row) (hne : row ≠ some B) : RtB w' B va vb vw L R := by
  obtain ⟨cs, h1, h2⟩ := h
  exact ⟨cs, h1.kept hg hne, h2⟩
theorem row_part (cs : List Value) (R : Nat → Nat → Int) (hl : cs.length = 1685) (h6 : ∀ i j, i ≤ 40 → j ≤ 40 → cs[4 + i * 41 + j]? = some (.int .i64 (R i j))) (i : Nat) (hi : i ≤ 40) : (cs.drop (4 + i * 41)).take 41 = rowV (fun j => R i j) := by
  refine rowV_ext _ _ (by rw [List.length_take, List.length_drop]; omega) (fun j hj => ?_)
  rw [List.getElem?_take_of_lt hj, List.getElem?_drop]
  exact h6 i j hi (by omega)
theorem edC_far (L d : Int) (hL : L < 160) (h : edC L d = 160) : L < d := by
  unfold edC at h
  split at h
  · omega
  · omega
set_option maxHeartbeats 4000000 in
set_option maxRecDepth 20000 in
theorem routeOf_any (t : Bool) (va vb vw : Value) (xs ys : List Int) (w : World) (ha : SlI w va xs) (hb : SlI w vb ys) (hw : WyS w vw (waysL t)) (hx : xs.length ≤ 40) (hy : ys.length ≤ 40) :
    Calls Try.prog 36 #[va, vb, vw] w fun e w' => e = .returned (.pointer (some ⟨w.heap.size, 0, none⟩)) ∧ Below w.heap.size w w' ∧ ∃ L R, RtB w' w.heap.size va vb vw L R ∧ (0 ≤ L ∧ L < 160) ∧ (∀ i j, i ≤ xs.length → j ≤ ys.length → R i j = edC L (edD t (fun k => xs.getD k 0) (fun k => ys.getD k 0) i j)) ∧ edD t (fun k => xs.getD k 0) (fun k => ys.getD k 0) xs.length ys.length ≤ L := by
  obtain ⟨a, c, hva, _⟩ := id ha
  obtain ⟨a', c', hvb, _⟩ := id hb
  obtain ⟨V, cw, hvw, _⟩ := id hw
  subst hva; subst hvb; subst hvw
  have hdp := fun i' j' => edD_bd t (fun k => xs.getD k 0) (fun k => ys.getD k 0) i' j'
  have hrows := fun i d j => edD_rows t (fun k => xs.getD k 0) (fun k => ys.getD k 0) i d j
  have hfr := fun L (hL : 0 ≤ L ∧ L < 160) R i (hi : i ≤ xs.length) W => fillRow_any t w w.heap.size (Nat.le_refl _) (.slice a xs.length c) (.slice a' ys.length c') (.slice (some ⟨V, 0, none⟩) (waysL t).length cw) L hL R xs ys ha hb hw hx hy i hi W
  obtain ⟨D, hD⟩ : ∃ D, Hid (D = edD t (fun k => xs.getD k 0) (fun k => ys.getD k 0)) := ⟨_, rfl⟩
  rw [← hD.out] at hdp hrows hfr ⊢
  obtain ⟨Dm, hDm⟩ : ∃ Dm, Hid (D xs.length ys.length = Dm) := ⟨_, rfl⟩
  rw [hDm.out]
  have hst := fun L R W h1 => steps_any w.heap.size (.slice a xs.length c) (.slice a' ys.length c') (.slice (some ⟨V, 0, none⟩) (waysL t).length cw) L R xs ys W h1
  have haw := fun W (k : Below w.heap.size w W) => ha.below k
  have hbw := fun W (k : Below w.heap.size w W) => hb.below k
  have hwl : (waysL t).length ≤ 3 := by cases t <;> decide
  generalize (waysL t).length = nw at *
  obtain ⟨m, hm⟩ : ∃ m, Hid (m = xs.length) := ⟨_, rfl⟩
  obtain ⟨n, hn⟩ : ∃ n, Hid (n = ys.length) := ⟨_, rfl⟩
  rw [← hm.out, ← hn.out]
  rw [← hm.out] at hx hfr haw hst hDm
  rw [← hn.out] at hy hfr hbw hst hDm
  replace hdp := (show Hid _ from hdp)
  replace hrows := (show Hid _ from hrows)
  replace hfr := (show Hid _ from hfr)
  replace hst := (show Hid _ from hst)
  replace haw := (show Hid _ from haw)
  replace hbw := (show Hid _ from hbw)
  clear ha hb hw
  go_enter Try.func36, Try.ntmps36
  go_wp2
  refine wp_scope_straight ?_
  go_wp2_with (refine build3_T (by rfl) 75 0 1 2 _ _ _ (by rfl) (.slice a m c) (.slice a' n c') (.slice (some ⟨V, 0, none⟩) nw cw) _ (by rfl) (by rfl) (by rfl) (built_rt _ _ _ _ _ _ _ _ _) ?_)
  refine (allBeyond_any _).mono ?_
  rintro e w1 ⟨rfl, hb1⟩
  have kb1 := (bal' w (Obj.cells (rtC (.slice a m c) (.slice a' n c') (.slice (some ⟨V, 0, none⟩) nw cw)).toArray 75)).trans (hb1.mono (by simp))
  have hR1 := rtC_b (BlkC.below (BlkC.new w _ _) hb1)
  have hz1 : w.heap.size < w1.heap.size := by have := hb1.size; simp at this; omega
  clear hb1
  have hS0 : (w1.alloc (Obj.cells (rowV (fun _ => 0)).toArray 72)).heap[w1.heap.size]? = some (.cells (rowV (fun _ => 0)).toArray 72 (0, 0)) := heap_alloc_new w1 _
  have hal := bal' w1 (Obj.cells (rowV (fun _ => 0)).toArray 72)
  have hR2 := RtB.below hR1 hal
  have hk2 := kb1.trans (hal.mono kb1.size)
  clear hR1 kb1
  go_wp2_with (refine store_T (cs := (rowV (fun _ => 160)).toArray) (by rfl) 72 _ _ (by rfl) (info_row' _) (by rfl) (rowV_one _) hS0 (by rfl) (by rfl) ?_; intro w2 hg hS2 hz2)
  refine wp_label ?_
  go_wp2
  have hz3 : w2.heap.size = w1.heap.size + 1 := by rw [hz2]; simp
  have hk3 := hk2.grown hg hk2.size (fun k e => by cases e; omega)
  have hR3 := RtB.kept hR2 hg (fun e => by injection e with e; omega)
  have hBN : w.heap.size < w1.heap.size := hz1
  generalize hN1 : w1.heap.size = N1 at *
  have hS3 : BlkC w2 N1 72 (rowV (fun _ => 160)) := hS2
  clear hR2 hg hz2 hk2 hal hS0 hN1 hS2
  have eN : IntKind.i64.wrap ((m : Int) + 1) = ((m + 1 : Nat) : Int) := wid (by omega) (by omega) (by omega)
  obtain ⟨M, hM⟩ : ∃ M, Hid (m + 1 = M) := ⟨_, rfl⟩
  rw [hM.out] at eN
  simp only [Act.put]
  go_loopw [9, 28] (fun _ _ wr => ∃ (L : Int) (R : Nat → Nat → Int), RtB wr w.heap.size (.slice a m c) (.slice a' n c') (.slice (some ⟨V, 0, none⟩) nw cw) L R ∧ BlkC wr N1 72 (rowV (fun _ => 160)) ∧ Below w.heap.size w wr ∧ 0 ≤ L ∧ Hid (L = 0 ∨ ∃ l, L = 2 * l + 1 ∧ l < Dm)) (fun _ _ wr => (200 - limOf wr w.heap.size).toNat)
  case atStart => exact ⟨0, _, hR3, hS3, hk3, Int.le_refl _, .inl rfl⟩
  case round =>
    obtain ⟨L, R, hR, hN, kb, hL0, hlim⟩ := hrel
    clear hR3 hS3 hk3 hz3
    have hDb : 0 ≤ Dm ∧ Dm ≤ 80 := by rw [← hDm.out]; have := hdp.out m n; omega
    have hL1 : L < 160 := by
      rcases hlim.out with h | ⟨l, h1, h2⟩
      · omega
      · omega
    have hRlw := RtB.limIs hR
    obtain ⟨c0, _⟩ := hR.cells
    go_wp2
    go_loopw [9, 28] (fun _ iv wr => ∃ (i : Nat) (R : Nat → Nat → Int), i ≤ M ∧ iv = .int .i64 i ∧ RtB wr w.heap.size (.slice a m c) (.slice a' n c') (.slice (some ⟨V, 0, none⟩) nw cw) L R ∧ BlkC wr N1 72 (rowV (fun _ => 160)) ∧ Below w.heap.size w wr ∧ Hid (∀ i' j', i' < i → j' ≤ n → R i' j' = edC L (D i' j'))) (fun _ iv _ => M - (intOf iv).toNat)
    case atStart => exact ⟨0, R, Nat.zero_le _, rfl, hR, hN, kb, fun i' j' h => absurd h (Nat.not_lt_zero _)⟩
    case round =>
      obtain ⟨i, R1, hi, rfl, hR1, hN1, kb1, hF1⟩ := hrel
      clear hR hN kb c0
      by_cases hiM : i < M
      · have him : i ≤ m := by have := hM.out; omega
        have hii : (i : Int) < (M : Int) := by omega
        have hcall := hfr.out L ⟨hL0, hL1⟩ R1 i him wr hR1 kb1 (fun i' j' h1 h2 => hF1.out i' j' h1 h2)
        replace hR1 := (show Hid _ from hR1)
        go_wp2_with fail
        refine hcall.mono ?_
        rintro e w3 ⟨rfl, hg3, R2, hR3, hF2⟩
        have hN3 := BlkC.kept hN1 hg3 (fun e => by injection e with e; have := hBN; omega)
        have kb3 := kb1.grown hg3 kb1.size (fun k e => by cases e; exact Nat.le_refl _)
        have kb3d : Below w.heap.size w w3.drew := kb3.trans ⟨rfl, rfl, rfl, Nat.le_refl _, fun _ _ => rfl⟩
        clear hcall hN1 kb1 hg3 hF1 hR1
        obtain ⟨cs, hcs, hl, hx0⟩ := id hR3
        have hpt := row_part cs R2 hl hx0.2.2.2.2 i (by omega)
        have i41 : (i : Int) < 41 := by omega
        by_cases hq : ∀ j, j < 41 → R2 i j = 160
        · have heq := fun W => eq_row_t (fun j => R2 i j) (fun _ => 160) W hq
          have hfar : L < Dm := by
            obtain ⟨k, hk, hle⟩ := hrows.out i (m - i) n
            rw [show i + (m - i) = m by omega, hDm.out] at hle
            have h1 := hq k (by omega)
            rw [hF2.2.1 k (by omega)] at h1
            have := edC_far L _ hL1 h1
            omega
          clear hq hF2 hx0
          replace hlim := (show Hid _ from hlim)
          have hRl := RtB.limIs hR3
          have q3 : w3.drew.cell? ⟨w.heap.size, 3, none⟩ = some (.int .i64 L) := hR3.cells.2.2.2
          have hfz : w3.drew.frozen? ⟨w.heap.size, 3, none⟩ = false := by obtain ⟨cs, h1, _⟩ := id hR3; exact frozen_blk h1 _
          obtain ⟨L2, hL2⟩ : ∃ L2, Hid (L2 = 2 * L) := ⟨_, rfl⟩
          obtain ⟨L3, hL3⟩ : ∃ L3, Hid (L3 = L2 + 1) := ⟨_, rfl⟩
          have e1 : IntKind.i64.wrap (2 * L) = L2 := wid hL2.out.symm (by omega) (by omega)
          have e2 : IntKind.i64.wrap (L2 + 1) = L3 := wid hL3.out.symm (by have := hL2.out; omega) (by have := hL2.out; omega)
          have hR4 : RtB (w3.drew.setCell ⟨w.heap.size, 3, none⟩ (.int .i64 L3)) w.heap.size (.slice a m c) (.slice a' n c') (.slice (some ⟨V, 0, none⟩) nw cw) L3 R2 := RtB.lim (w := w3.drew) hR3 L3
          have hN4 : BlkC (w3.drew.setCell ⟨w.heap.size, 3, none⟩ (.int .i64 L3)) N1 72 (rowV (fun _ => 160)) := blk_set_ne (w := w3.drew) hN3 (by omega) 3 _
          have kb4 : Below w.heap.size w (w3.drew.setCell ⟨w.heap.size, 3, none⟩ (.int .i64 L3)) := Below.grown (w := w3.drew) kb3d (setCell_gr w3.drew w.heap.size 3 (.int .i64 L3)) kb3.size (fun k e => by cases e; exact Nat.le_refl _)
          have hlim2 : Hid (L3 = 0 ∨ ∃ l, L3 = 2 * l + 1 ∧ l < Dm) := .inr ⟨L, by rw [hL3.out, hL2.out], hfar⟩
          have hmes := RtB.limIs hR4
          have hRl2 := hRlw
          go_wp2
          refine wp_region_noPanic ?_
          refine wp_region_held_drew (S := (fun W => BlkC W w.heap.size 75 cs ∧ BlkC W N1 72 (rowV (fun _ => 160)))) (by kernel_rfl) (⟨hcs, hN3⟩) (fun hHeld => ?_)
          refine' wpAnyH_take (i := 0) (v := _) rfl (by kernel_rfl) (by kernel_rfl) (by kernel_rfl) (fun _ _ _ h => h) (Or.inl ⟨by rfl, ?hy1001⟩) hHeld ?hr1001
          case hy1001 => (intro w hSw; (try dsimp only at hSw); go_simp; (try with_reducible rfl))
          simp only [Act.put, List.setIfInBounds_toArray, List.set_cons_zero, List.set_cons_succ, List.getElem_toArray, List.getElem_cons_zero]
          refine' wpAnyH_take (i := 1) (v := _) rfl (by kernel_rfl) (by kernel_rfl) (by kernel_rfl) (fun _ _ _ h => h) (Or.inl ⟨by rfl, ?hy1002⟩) hHeld ?hr1002
          case hy1002 => (intro w hSw; (try dsimp only at hSw); go_simp; (try with_reducible rfl))
          simp only [Act.put, List.setIfInBounds_toArray, List.set_cons_zero, List.set_cons_succ, List.getElem_toArray, List.getElem_cons_zero, List.getElem_cons_succ]
          refine' wpAnyH_take (i := 2) (v := _) rfl (by kernel_rfl) (by kernel_rfl) (by kernel_rfl) (fun _ _ _ h => h) (Or.inl ⟨by rfl, ?hy1003⟩) hHeld ?hr1003
          case hy1003 => (intro w hSw; (try dsimp only at hSw); go_simp; (try with_reducible rfl))
          simp only [Act.put, List.setIfInBounds_toArray, List.set_cons_zero, List.set_cons_succ, List.getElem_toArray, List.getElem_cons_zero, List.getElem_cons_succ]
          refine' wpAnyH_take (i := 3) (v := _) rfl (by kernel_rfl) (by kernel_rfl) (by kernel_rfl) (fun _ _ _ h => h) (Or.inl ⟨by rfl, ?hy1004⟩) hHeld ?hr1004
          case hy1004 => (intro w hSw; (try dsimp only at hSw); go_simp; (try with_reducible rfl))
          simp only [Act.put, List.setIfInBounds_toArray, List.set_cons_zero, List.set_cons_succ, List.getElem_toArray, List.getElem_cons_zero, List.getElem_cons_succ]
          refine' wpAnyH_take (i := 4) (v := _) rfl (by kernel_rfl) (by kernel_rfl) (by kernel_rfl) (fun _ _ _ h => h) (Or.inl ⟨by rfl, ?hy1005⟩) hHeld ?hr1005
          case hy1005 => (intro w hSw; (try dsimp only at hSw); go_simp; (try with_reducible rfl))
          simp only [Act.put, List.setIfInBounds_toArray, List.set_cons_zero, List.set_cons_succ, List.getElem_toArray, List.getElem_cons_zero, List.getElem_cons_succ]
          refine' wpAnyH_take (i := 5) (v := .agg (rowV (fun j => R2 i j)).toArray) rfl (by kernel_rfl) (by kernel_rfl) (by kernel_rfl) (fun _ _ _ h => h) (Or.inl ⟨by rfl, ?hy1006⟩) hHeld ?hr1006
          case hy1006 => (intro W hSw; exact run_load_row (fun j => R2 i j) hSw.1 _ _ _ rfl rfl hpt)
          simp only [Act.put, List.setIfInBounds_toArray, List.set_cons_zero, List.set_cons_succ, List.getElem_toArray, List.getElem_cons_zero, List.getElem_cons_succ]
          refine' wpAnyH_take (i := 6) (v := .agg (rowV (fun _ => 160)).toArray) rfl (by kernel_rfl) (by kernel_rfl) (by kernel_rfl) (fun _ _ _ h => h) (Or.inl ⟨by rfl, ?hy1007⟩) hHeld ?hr1007
          case hy1007 => (intro W hSw; exact run_load_row (fun _ => 160) hSw.2 _ _ _ rfl rfl rfl)
          simp only [Act.put, List.setIfInBounds_toArray, List.set_cons_zero, List.set_cons_succ, List.getElem_toArray, List.getElem_cons_zero, List.getElem_cons_succ]
          refine' wpAnyH_take (i := 7) (v := _) rfl (by kernel_rfl) (by kernel_rfl) (by kernel_rfl) (fun _ _ _ h => h) (Or.inl ⟨by rfl, ?hy1008⟩) hHeld ?hr1008
          case hy1008 => (intro w hSw; (try dsimp only at hSw); go_simp; (try with_reducible rfl))
          simp only [Act.put, List.setIfInBounds_toArray, List.set_cons_zero, List.set_cons_succ, List.getElem_toArray, List.getElem_cons_zero, List.getElem_cons_succ]
          refine wpAnyH_done (by kernel_rfl) ?_ _
          refine NoPanic.normal ?_
          go_wp2
          go_roundw
          case rel => exact ⟨L3, R2, hR4, hN4, kb4, by have := hL2.out; have := hL3.out; omega, hlim2⟩
          case measure => (refine Nat.lt_of_le_of_lt (Nat.le_of_eq (congrArg (fun z => (200 - z).toNat) (show limOf _ w.heap.size = L3 from hmes))) ?_; rw [hRlw]; have := hL2.out; have := hL3.out; omega)
        · have heq := fun W => eq_row_f (fun j => R2 i j) (fun _ => 160) W hq
          have hF3 : Hid (∀ i' j', i' < i + 1 → j' ≤ n → R2 i' j' = edC L (D i' j')) := fun i' j' h1 h2 => by
            by_cases e : i' = i
            · subst e; exact hF2.2.1 j' (by omega)
            · exact hF2.1 i' j' (by omega) h2
          clear hq hF2 hx0
          replace hR3 := (show Hid _ from hR3)
          go_wp2
          refine wp_region_noPanic ?_
          refine wp_region_held_drew (S := (fun W => BlkC W w.heap.size 75 cs ∧ BlkC W N1 72 (rowV (fun _ => 160)))) (by kernel_rfl) (⟨hcs, hN3⟩) (fun hHeld => ?_)
          refine' wpAnyH_take (i := 0) (v := _) rfl (by kernel_rfl) (by kernel_rfl) (by kernel_rfl) (fun _ _ _ h => h) (Or.inl ⟨by rfl, ?hy1009⟩) hHeld ?hr1009
          case hy1009 => (intro w hSw; (try dsimp only at hSw); go_simp; (try with_reducible rfl))
          simp only [Act.put, List.setIfInBounds_toArray, List.set_cons_zero, List.set_cons_succ, List.getElem_toArray, List.getElem_cons_zero]
          refine' wpAnyH_take (i := 1) (v := _) rfl (by kernel_rfl) (by kernel_rfl) (by kernel_rfl) (fun _ _ _ h => h) (Or.inl ⟨by rfl, ?hy1010⟩) hHeld ?hr1010
          case hy1010 => (intro w hSw; (try dsimp only at hSw); go_simp; (try with_reducible rfl))
          simp only [Act.put, List.setIfInBounds_toArray, List.set_cons_zero, List.set_cons_succ, List.getElem_toArray, List.getElem_cons_zero, List.getElem_cons_succ]
          refine' wpAnyH_take (i := 2) (v := _) rfl (by kernel_rfl) (by kernel_rfl) (by kernel_rfl) (fun _ _ _ h => h) (Or.inl ⟨by rfl, ?hy1011⟩) hHeld ?hr1011
          case hy1011 => (intro w hSw; (try dsimp only at hSw); go_simp; (try with_reducible rfl))
          simp only [Act.put, List.setIfInBounds_toArray, List.set_cons_zero, List.set_cons_succ, List.getElem_toArray, List.getElem_cons_zero, List.getElem_cons_succ]
          refine' wpAnyH_take (i := 3) (v := _) rfl (by kernel_rfl) (by kernel_rfl) (by kernel_rfl) (fun _ _ _ h => h) (Or.inl ⟨by rfl, ?hy1012⟩) hHeld ?hr1012
          case hy1012 => (intro w hSw; (try dsimp only at hSw); go_simp; (try with_reducible rfl))
          simp only [Act.put, List.setIfInBounds_toArray, List.set_cons_zero, List.set_cons_succ, List.getElem_toArray, List.getElem_cons_zero, List.getElem_cons_succ]
          refine' wpAnyH_take (i := 4) (v := _) rfl (by kernel_rfl) (by kernel_rfl) (by kernel_rfl) (fun _ _ _ h => h) (Or.inl ⟨by rfl, ?hy1013⟩) hHeld ?hr1013
          case hy1013 => (intro w hSw; (try dsimp only at hSw); go_simp; (try with_reducible rfl))
          simp only [Act.put, List.setIfInBounds_toArray, List.set_cons_zero, List.set_cons_succ, List.getElem_toArray, List.getElem_cons_zero, List.getElem_cons_succ]
          refine' wpAnyH_take (i := 5) (v := .agg (rowV (fun j => R2 i j)).toArray) rfl (by kernel_rfl) (by kernel_rfl) (by kernel_rfl) (fun _ _ _ h => h) (Or.inl ⟨by rfl, ?hy1014⟩) hHeld ?hr1014
          case hy1014 => (intro W hSw; exact run_load_row (fun j => R2 i j) hSw.1 _ _ _ rfl rfl hpt)
          simp only [Act.put, List.setIfInBounds_toArray, List.set_cons_zero, List.set_cons_succ, List.getElem_toArray, List.getElem_cons_zero, List.getElem_cons_succ]
          refine' wpAnyH_take (i := 6) (v := .agg (rowV (fun _ => 160)).toArray) rfl (by kernel_rfl) (by kernel_rfl) (by kernel_rfl) (fun _ _ _ h => h) (Or.inl ⟨by rfl, ?hy1015⟩) hHeld ?hr1015
          case hy1015 => (intro W hSw; exact run_load_row (fun _ => 160) hSw.2 _ _ _ rfl rfl rfl)
          simp only [Act.put, List.setIfInBounds_toArray, List.set_cons_zero, List.set_cons_succ, List.getElem_toArray, List.getElem_cons_zero, List.getElem_cons_succ]
          refine' wpAnyH_take (i := 7) (v := _) rfl (by kernel_rfl) (by kernel_rfl) (by kernel_rfl) (fun _ _ _ h => h) (Or.inl ⟨by rfl, ?hy1016⟩) hHeld ?hr1016
          case hy1016 => (intro w hSw; (try dsimp only at hSw); go_simp; (try with_reducible rfl))
          simp only [Act.put, List.setIfInBounds_toArray, List.set_cons_zero, List.set_cons_succ, List.getElem_toArray, List.getElem_cons_zero, List.getElem_cons_succ]
          refine wpAnyH_done (by kernel_rfl) ?_ _
          refine NoPanic.normal ?_
          go_wp2
          go_roundw
          case rel => exact ⟨i + 1, R2, by omega, by go_num, hR3.out, hN3, kb3d, hF3⟩
          case measure => simp [intOf]; omega
      · have hMi : i = M := by omega
        subst hMi
        have hMm : i = m + 1 := hM.out.symm
        have hRmn := hF1.out m n (by omega) (Nat.le_refl _)
        rw [hDm.out] at hRmn
        have hqs := fun k => hst.out L R1 (wr.drewN k) (RtB.below hR1 (drwB wr k)) (haw.out _ (kb1.trans ((drwB wr k).mono kb1.size))) (hbw.out _ (kb1.trans ((drwB wr k).mono kb1.size))) hx hy
        have c3 : wr.cell? ⟨w.heap.size, 3, none⟩ = some (.int .i64 L) := hR1.cells.2.2.2
        have hR3 : Hid (RtB wr w.heap.size (.slice a m c) (.slice a' n c') (.slice (some ⟨V, 0, none⟩) nw cw) L R1) := hR1
        clear hR1
        obtain ⟨q, hq⟩ : ∃ q, Hid (R1 m n = q) := ⟨_, rfl⟩
        rw [hq.out] at hRmn
        simp only [hq.out] at hqs
        by_cases hle : q ≤ L
        · have hDL : Dm ≤ L := by
            rw [hRmn] at hle
            unfold edC at hle
            split at hle
            · assumption
            · omega
          clear hRmn
          go_wp2
          go_quiet (exact Calls.quiet_of (hqs _))
          go_wp2
          rw [Exit.noGoto_ret]
          go_ret
          exact ⟨rfl, kb1.trans ((drwB wr nq).mono kb1.size), L, R1, RtB.below hR3.out (drwB wr nq), ⟨hL0, hL1⟩, fun i' j' h1 h2 => hF1.out i' j' (by omega) h2, hDL⟩
        · have hfar : L < Dm := by
            rcases Int.lt_or_le L Dm with h | h
            · exact h
            · exfalso; apply hle; rw [hRmn]; unfold edC; rw [if_pos h]; exact h
          clear hRmn
          go_wp2
          go_quiet (exact Calls.quiet_of (hqs _))
          clear hqs c3
          have hN3 := hN1
          have kb3 := kb1
          have kb3d : Below w.heap.size w (wr.drewN nq) := kb1.trans ((drwB wr nq).mono kb1.size)
          replace hR3 := hR3.out
          replace hlim := (show Hid _ from hlim)
          have hRl := RtB.limIs hR3
          have q3 : (wr.drewN nq).cell? ⟨w.heap.size, 3, none⟩ = some (.int .i64 L) := hR3.cells.2.2.2
          have hfz : (wr.drewN nq).frozen? ⟨w.heap.size, 3, none⟩ = false := by obtain ⟨cs, h1, _⟩ := id hR3; exact frozen_blk h1 _
          obtain ⟨L2, hL2⟩ : ∃ L2, Hid (L2 = 2 * L) := ⟨_, rfl⟩
          obtain ⟨L3, hL3⟩ : ∃ L3, Hid (L3 = L2 + 1) := ⟨_, rfl⟩
          have e1 : IntKind.i64.wrap (2 * L) = L2 := wid hL2.out.symm (by omega) (by omega)
          have e2 : IntKind.i64.wrap (L2 + 1) = L3 := wid hL3.out.symm (by have := hL2.out; omega) (by have := hL2.out; omega)
          have hR4 : RtB ((wr.drewN nq).setCell ⟨w.heap.size, 3, none⟩ (.int .i64 L3)) w.heap.size (.slice a m c) (.slice a' n c') (.slice (some ⟨V, 0, none⟩) nw cw) L3 R1 := RtB.lim (w := (wr.drewN nq)) hR3 L3
          have hN4 : BlkC ((wr.drewN nq).setCell ⟨w.heap.size, 3, none⟩ (.int .i64 L3)) N1 72 (rowV (fun _ => 160)) := blk_set_ne (w := (wr.drewN nq)) hN3 (by omega) 3 _
          have kb4 : Below w.heap.size w ((wr.drewN nq).setCell ⟨w.heap.size, 3, none⟩ (.int .i64 L3)) := Below.grown (w := (wr.drewN nq)) kb3d (setCell_gr (wr.drewN nq) w.heap.size 3 (.int .i64 L3)) kb3.size (fun k e => by cases e; exact Nat.le_refl _)
          have hlim2 : Hid (L3 = 0 ∨ ∃ l, L3 = 2 * l + 1 ∧ l < Dm) := .inr ⟨L, by rw [hL3.out, hL2.out], hfar⟩
          have hmes := RtB.limIs hR4
          have hRl2 := hRlw
          clear hN1 kb1 hR3
          go_wp2
          go_roundw
          case rel => exact ⟨L3, R1, hR4, hN4, kb4, by have := hL2.out; have := hL3.out; omega, hlim2⟩
          case measure => (refine Nat.lt_of_le_of_lt (Nat.le_of_eq (congrArg (fun z => (200 - z).toNat) (show limOf _ w.heap.size = L3 from hmes))) ?_; rw [hRlw]; have := hL2.out; have := hL3.out; omega)
end Go.Proofs.Ytdahcdgefflkaaa
namespace Go.Proofs.Ytdahcdgefflkaaa
open Go.ChangeShapes Go.WideShapes Go.ChangeAt Go.RowKit
theorem TabT.made (n : Nat) (f : Nat → Nat → Int) (W m : Nat) (h : n = (m + 1) * W) : TabT (madeCells (Value.int .i64 0).cells (n * 1)).toList W m f 0 0 := by
  intro i' j' hj hi
  have hlt := tab_lt hi hj
  rw [if_neg (by omega)]
  have hz : (Value.int .i64 0).cells = #[Value.int .i64 0] := by rfl
  rw [hz, Nat.mul_one, Array.getElem?_toList]
  unfold madeCells
  rw [Array.getElem?_map, Array.getElem?_range, if_pos (by omega)]
  simp [Nat.mod_one]
set_option maxHeartbeats 4000000 in
set_option maxRecDepth 20000 in
theorem l9Table_any (va vb : Value) (xs ys : List Int) (w : World) (ha : SlI w va xs) (hb : SlI w vb ys) (hx : xs.length ≤ 40) (hy : ys.length ≤ 40) :
    Calls Try.prog 40 #[va, vb] w fun e w' => e = .returned (.slice (some ⟨w.heap.size, 0, none⟩) ((xs.length + 1) * (ys.length + 1)) ((xs.length + 1) * (ys.length + 1))) ∧ ∃ zs, w'.ownsRow w.heap.size 2 1 (.slice (some ⟨w.heap.size, 0, none⟩) ((xs.length + 1) * (ys.length + 1)) ((xs.length + 1) * (ys.length + 1))) ((xs.length + 1) * (ys.length + 1)) zs ∧ TabT zs (ys.length + 1) xs.length (edD true (fun k => xs.getD k 0) (fun k => ys.getD k 0)) (xs.length + 1) 0 ∧ Below w.heap.size w w' := by
  obtain ⟨i0, hi, hz0, hz1, hz2⟩ := info_parts info_i64
  obtain ⟨a, c, rfl, hca⟩ := ha
  obtain ⟨a', c', rfl, hcb⟩ := hb
  obtain ⟨f, hf⟩ : ∃ f, Hid (f = edD true (fun k => xs.getD k 0) (fun k => ys.getD k 0)) := ⟨_, rfl⟩
  rw [← hf.out]
  generalize hm : xs.length = m at *
  generalize hn : ys.length = n at *
  replace hm := (show Hid _ from hm)
  replace hn := (show Hid _ from hn)
  obtain ⟨W, hW⟩ : ∃ W, Hid (n + 1 = W) := ⟨_, rfl⟩
  obtain ⟨M, hM⟩ : ∃ M, Hid (m + 1 = M) := ⟨_, rfl⟩
  rw [hW.out, hM.out]
  obtain ⟨N, hN⟩ : ∃ N, Hid (M * W = N) := ⟨_, rfl⟩
  rw [hN.out]
  have hN2 : N ≤ 41 * 41 := by rw [← hN.out]; exact Nat.mul_le_mul (by have := hM.out; omega) (by have := hW.out; omega)
  have eW : IntKind.i64.wrap ((n : Int) + 1) = (W : Int) := wid (by have := hW.out; omega) (by omega) (by omega)
  have eM : IntKind.i64.wrap ((m : Int) + 1) = (M : Int) := wid (by have := hM.out; omega) (by omega) (by omega)
  have eN : IntKind.i64.wrap ((M : Int) * (W : Int)) = (N : Int) := by rw [← Int.natCast_mul, hN.out]; exact wid rfl (by omega) (by omega)
  have hNf : Hid (N = (m + 1) * W) := by show _ = _; rw [hM.out, hN.out]
  go_enter Try.func40, Try.ntmps40
  go_wp2_with (refine wpList_make_full _ rfl _ _ 24 rfl w.heap.size 2 i0 (.int .i64 0) 1 Try.underlying24 hi hz0 hz1 .i64 .i64 (N : Int) (N : Int) N rfl rfl rfl rfl ?c1 ?c2 ?c3 ?_)
  case c1 => rw [hz2]; omega
  case c2 => unfold maxLen; omega
  case c3 => exact Nat.le_refl _
  intro w1 ho hg
  have hb1 : Below w.heap.size w w1 := (Below.refl _ _).grown hg (Nat.le_refl _) (fun k hk => by cases hk)
  have ht0 : Hid (TabT (madeCells #[Value.int IntKind.i64 0] N).toList W m f 0 0) := by
    have := TabT.made N f W m hNf.out
    rw [Nat.mul_one] at this
    exact this
  clear hg eN eM
  go_wp2
  go_loopw [7, 8] (fun i _ wr => ∃ (j : Nat) (zs : List Value), j ≤ m + 1 ∧ i = .int .i64 j ∧ wr.ownsRow w.heap.size 2 1 (.slice (some ⟨w.heap.size, 0, none⟩) N N) N zs ∧ zs.length = N ∧ Hid (TabT zs W m f j 0) ∧ Below w.heap.size w wr) (fun i _ _ => m + 1 - (intOf i).toNat)
  case atStart => exact ⟨0, _, Nat.zero_le _, rfl, ho, by simpa using ho.1, ht0, hb1⟩
  case round =>
    obtain ⟨i, zs, hi1, rfl, ho1, hzl, hT, hbel⟩ := hrel
    clear ho hb1 ht0
    by_cases hlt : i ≤ m
    · have hii : (i : Int) ≤ (m : Int) := by omega
      go_wp2
      go_loopw [8] (fun jv wi => ∃ (j : Nat) (zs : List Value), j ≤ W ∧ jv = .int .i64 j ∧ wi.ownsRow w.heap.size 2 1 (.slice (some ⟨w.heap.size, 0, none⟩) N N) N zs ∧ zs.length = N ∧ Hid (TabT zs W m f i j) ∧ Below w.heap.size w wi) (fun jv _ => W - (intOf jv).toNat)
      case atStart => exact ⟨0, zs, Nat.zero_le _, rfl, ho1, hzl, hT, hbel⟩
      case round =>
        obtain ⟨j, us, hj1, rfl, ho2, hul, hT2, hbel2⟩ := hrel
        clear ho1 hzl hT hbel
        by_cases hlj : j < W
        · have hjn : (j : Int) ≤ (n : Int) := by have := hW.out; omega
          have hpn : i * W + j < N := by rw [hNf.out]; exact tab_lt hlt hlj
          obtain ⟨p, hp⟩ : ∃ p, Hid (p = i * W + j) := ⟨_, rfl⟩
          rw [← hp.out] at hpn
          obtain ⟨u, hu⟩ : ∃ u, wr.cell? ⟨w.heap.size, p, none⟩ = some u := by
            rw [ho2.cellAt p (by omega)]; exact ⟨_, List.getElem?_eq_getElem (by omega)⟩
          have hfz := ho2.frozenAt p
          have hst := fun x => ho2.stored p (.int .i64 x)
          have hset := fun x (e : x = f i j) => hT2.out.set (p := p) hlj hlt hp.out (by rw [hul]; exact hNf.out) e
          by_cases hi0 : i = 0
          · subst hi0
            have hpj : p = j := by rw [hp.out]; omega
            subst hpj
            obtain ⟨hst1, hst2⟩ := hst (p : Int)
            have hset := hset p (by rw [hf.out, edD_0])
            have hb3 := hbel2.grown hst2 hbel2.size (fun k hk => by cases hk; exact Nat.le_refl _)
            clear ho2 hT2 hbel2 hca hcb hst
            go_wp2
            go_roundw
            case rel => exact ⟨p + 1, us.set p (.int .i64 p), by omega, by go_num, hst1, by simpa using hul, hset, hb3⟩
            case measure => simp [intOf]; omega
          · by_cases hj0 : j = 0
            · subst hj0
              have hii0 : ¬ ((i : Int) = 0) := by omega
              have hpi : IntKind.i64.wrap ((i : Int) * (W : Int)) = (p : Int) := by rw [← Int.natCast_mul]; exact wid (by have := hp.out; omega) (by omega) (by have := hp.out; omega)
              obtain ⟨hst1, hst2⟩ := hst (i : Int)
              have hset := hset i (by rw [hf.out, edD_i0])
              have hb3 := hbel2.grown hst2 hbel2.size (fun k hk => by cases hk; exact Nat.le_refl _)
              clear ho2 hT2 hbel2 hca hcb hst
              go_wp2
              go_roundw
              case rel => exact ⟨1, us.set p (.int .i64 i), by omega, by go_num, hst1, by simpa using hul, hset, hb3⟩
              case measure => simp [intOf]; omega
            · have hii0 : ¬ ((i : Int) = 0) := by omega
              have hjj0 : ¬ ((j : Int) = 0) := by omega
              obtain ⟨i1, hi1'⟩ : ∃ i1, Hid (i = i1 + 1) := ⟨i - 1, by show i = i - 1 + 1; omega⟩
              obtain ⟨j1, hj1'⟩ : ∃ j1, Hid (j = j1 + 1) := ⟨j - 1, by show j = j - 1 + 1; omega⟩
              obtain ⟨r, hr⟩ : ∃ r, Hid (r = i * W) := ⟨_, rfl⟩
              obtain ⟨r1, hr1⟩ : ∃ r1, Hid (r1 = i1 * W) := ⟨_, rfl⟩
              obtain ⟨p1, hp1⟩ : ∃ p1, Hid (p1 = r1 + j) := ⟨_, rfl⟩
              obtain ⟨q, hq⟩ : ∃ q, Hid (q = r + j1) := ⟨_, rfl⟩
              obtain ⟨q1, hq1⟩ : ∃ q1, Hid (q1 = r1 + j1) := ⟨_, rfl⟩
              have hpr : p = r + j := by rw [hp.out, hr.out]
              have hl1 := tab_lt (W := W) (m := m) (i := i1) (j := j) (by have := hi1'.out; omega) hlj
              have hl2 := tab_lt (W := W) (m := m) (i := i) (j := j1) hlt (by have := hj1'.out; omega)
              have hl3 := tab_lt (W := W) (m := m) (i := i1) (j := j1) (by have := hi1'.out; omega) (by have := hj1'.out; omega)
              rw [← hr1.out, ← hp1.out, ← hNf.out] at hl1
              rw [← hr.out, ← hq.out, ← hNf.out] at hl2
              rw [← hr1.out, ← hq1.out, ← hNf.out] at hl3
              have e1 : IntKind.i64.wrap ((i : Int) * (W : Int)) = (r : Int) := by rw [← Int.natCast_mul]; exact wid (by rw [hr.out]) (by omega) (by rw [← hr.out]; omega)
              have e2 : IntKind.i64.wrap ((r : Int) + (j : Int)) = (p : Int) := wid (by omega) (by omega) (by omega)
              have e3 : IntKind.i64.wrap ((i : Int) - 1) = (i1 : Int) := wid (by have := hi1'.out; omega) (by omega) (by omega)
              have e4 : IntKind.i64.wrap ((i1 : Int) * (W : Int)) = (r1 : Int) := by rw [← Int.natCast_mul]; exact wid (by rw [hr1.out]) (by omega) (by rw [← hr1.out]; have := hp1.out; omega)
              have e5 : IntKind.i64.wrap ((r1 : Int) + (j : Int)) = (p1 : Int) := wid (by have := hp1.out; omega) (by omega) (by have := hp1.out; omega)
              have e6 : IntKind.i64.wrap ((p1 : Int) - 1) = (q1 : Int) := wid (by have := hp1.out; have := hq1.out; have := hj1'.out; omega) (by omega) (by omega)
              have e7 : IntKind.i64.wrap ((p : Int) - 1) = (q : Int) := wid (by have := hq.out; have := hj1'.out; omega) (by omega) (by omega)
              have e8 : IntKind.i64.wrap ((j : Int) - 1) = (j1 : Int) := wid (by have := hj1'.out; omega) (by omega) (by omega)
              have k1 := hT2.out.at i1 j1 (by have := hj1'.out; omega) (by have := hi1'.out; omega) (by have := hi1'.out; omega)
              have k2 := hT2.out.at i1 j hlj (by have := hi1'.out; omega) (by have := hi1'.out; omega)
              have k3 := hT2.out.at i j1 (by have := hj1'.out; omega) hlt (by have := hj1'.out; omega)
              rw [← hr1.out, ← hq1.out, ← ho2.cellAt q1 (by omega)] at k1
              rw [← hr1.out, ← hp1.out, ← ho2.cellAt p1 (by omega)] at k2
              rw [← hr.out, ← hq.out, ← ho2.cellAt q (by omega)] at k3
              have him : i1 < m := by have := hi1'.out; omega
              have hjm : j1 < n := by have := hj1'.out; have := hW.out; omega
              rcases hca with h | ⟨b, off, rfl, hbb, hs1⟩
              · exfalso; have := hm.out; rw [h] at this; simp at this; omega
              rcases hcb with h | ⟨b', off', rfl, hbb', hs2⟩
              · exfalso; have := hn.out; rw [h] at this; simp at this; omega
              have c1 := (hbel2.cell (p := ⟨b, off + i1, none⟩) hbb).trans (hs1 i1 him)
              have c2 := (hbel2.cell (p := ⟨b', off' + j1, none⟩) hbb').trans (hs2 j1 hjm)
              have hD := fun (h : xs.getD i1 0 = ys.getD j1 0) => edD_eq true (fun k => xs.getD k 0) (fun k => ys.getD k 0) i1 j1 h
              have hE := fun (h : ¬ xs.getD i1 0 = ys.getD j1 0) => edD_ne true (fun k => xs.getD k 0) (fun k => ys.getD k 0) i1 j1 h
              rw [← hi1'.out, ← hj1'.out, ← hf.out] at hD hE
              simp only [if_true] at hE
              have bd1 := edD_bd true (fun k => xs.getD k 0) (fun k => ys.getD k 0) i1 j1
              have bd2 := edD_bd true (fun k => xs.getD k 0) (fun k => ys.getD k 0) i1 j
              have bd3 := edD_bd true (fun k => xs.getD k 0) (fun k => ys.getD k 0) i j1
              rw [← hf.out] at bd1 bd2 bd3
              generalize xs.getD i1 0 = x at *
              generalize ys.getD j1 0 = y at *
              generalize hF : f i j = F at *
              generalize f i1 j1 = F1 at *
              generalize f i1 j = F2 at *
              generalize f i j1 = F3 at *
              clear hF
              by_cases hxy : x = y
              · replace hD := hD hxy
                subst hxy
                obtain ⟨hst1, hst2⟩ := hst F1
                have hset := hset F1 hD.symm
                clear ho2 hT2 hs1 hs2 hst hE hD hpr bd1 bd2 bd3
                go_wp2
                go_quiet (fail)
                go_wp2
                go_roundw
                case rel => exact ⟨j + 1, us.set p (.int .i64 F1), by omega, by go_num, hst1, by simpa using hul, hset, hbel2.grown (row := some w.heap.size) ⟨hst2.os, hst2.tape, hst2.output, hst2.size, hst2.block⟩ hbel2.size (fun k hk => by cases hk; exact Nat.le_refl _)⟩
                case measure => simp [intOf]; omega
              · have hE2 := hE hxy
                clear hE hD
                subst hE2
                have bF : IntKind.i64.wrap (1 + min F1 (min F2 F3)) = 1 + min F1 (min F2 F3) := wid rfl (by omega) (by omega)
                obtain ⟨hst1, hst2⟩ := hst (1 + min F1 (min F2 F3))
                have hset := hset _ rfl
                have kst : ∀ V : World, (V.cell? ⟨w.heap.size, q1, none⟩ = some (.int .i64 F1) ∧ V.cell? ⟨w.heap.size, p1, none⟩ = some (.int .i64 F2) ∧ V.cell? ⟨w.heap.size, q, none⟩ = some (.int .i64 F3)) → ((V.setCell ⟨w.heap.size, p, none⟩ (.int .i64 (1 + min F1 (min F2 F3)))).cell? ⟨w.heap.size, q1, none⟩ = some (.int .i64 F1) ∧ (V.setCell ⟨w.heap.size, p, none⟩ (.int .i64 (1 + min F1 (min F2 F3)))).cell? ⟨w.heap.size, p1, none⟩ = some (.int .i64 F2) ∧ (V.setCell ⟨w.heap.size, p, none⟩ (.int .i64 (1 + min F1 (min F2 F3)))).cell? ⟨w.heap.size, q, none⟩ = some (.int .i64 F3)) := fun V h => by
                  have hiW : i1 * W + W ≤ i * W := by rw [hi1'.out, Nat.add_mul]; omega
                  refine ⟨(cell_set_ne _ _ _ _ _ (by have := hq1.out; have := hr1.out; have := hr.out; have := hj1'.out; omega)).trans h.1, (cell_set_ne _ _ _ _ _ (by have := hp1.out; have := hr1.out; have := hr.out; omega)).trans h.2.1, (cell_set_ne _ _ _ _ _ (by have := hq.out; have := hj1'.out; omega)).trans h.2.2⟩
                clear ho2 hT2 hs1 hs2 hst hpr bd1 bd2 bd3
                go_wp2
                go_quiet (fail)
                go_wp2
                refine wp_region_noPanic ?_
                refine wp_region_held_drew (S := (fun W => W.cell? ⟨w.heap.size, q1, none⟩ = some (.int .i64 F1) ∧ W.cell? ⟨w.heap.size, p1, none⟩ = some (.int .i64 F2) ∧ W.cell? ⟨w.heap.size, q, none⟩ = some (.int .i64 F3))) (by kernel_rfl) (⟨k1, k2, k3⟩) (fun hHeld => ?_)
                refine' wpAnyH_take (i := 0) (v := _) rfl (by kernel_rfl) (by kernel_rfl) (by kernel_rfl) (fun _ _ _ h => h) (Or.inl ⟨by rfl, ?hy1001⟩) hHeld ?hr1001
                case hy1001 => (intro w hSw; (try dsimp only at hSw); go_simp; (try with_reducible rfl))
                simp only [Act.put, List.setIfInBounds_toArray, List.set_cons_zero, List.set_cons_succ, List.getElem_toArray, List.getElem_cons_zero]
                refine' wpAnyH_take (i := 1) (v := _) rfl (by kernel_rfl) (by kernel_rfl) (by kernel_rfl) (fun _ _ _ h => h) (Or.inl ⟨by rfl, ?hy1002⟩) hHeld ?hr1002
                case hy1002 => (intro w hSw; (try dsimp only at hSw); go_simp; (try with_reducible rfl))
                simp only [Act.put, List.setIfInBounds_toArray, List.set_cons_zero, List.set_cons_succ, List.getElem_toArray, List.getElem_cons_zero, List.getElem_cons_succ]
                refine' wpAnyH_take (i := 2) (v := _) rfl (by kernel_rfl) (by kernel_rfl) (by kernel_rfl) (fun _ _ _ h => h) (Or.inl ⟨by rfl, ?hy1003⟩) hHeld ?hr1003
                case hy1003 => (intro w hSw; (try dsimp only at hSw); go_simp; (try with_reducible rfl))
                simp only [Act.put, List.setIfInBounds_toArray, List.set_cons_zero, List.set_cons_succ, List.getElem_toArray, List.getElem_cons_zero, List.getElem_cons_succ]
                refine' wpAnyH_take (i := 3) (v := _) rfl (by kernel_rfl) (by kernel_rfl) (by kernel_rfl) (fun _ _ _ h => h) (Or.inl ⟨by rfl, ?hy1004⟩) hHeld ?hr1004
                case hy1004 => (intro w hSw; (try dsimp only at hSw); go_simp; (try with_reducible rfl))
                simp only [Act.put, List.setIfInBounds_toArray, List.set_cons_zero, List.set_cons_succ, List.getElem_toArray, List.getElem_cons_zero, List.getElem_cons_succ]
                refine' wpAnyH_take (i := 4) (v := _) rfl (by kernel_rfl) (by kernel_rfl) (by kernel_rfl) (fun _ _ _ h => h) (Or.inl ⟨by rfl, ?hy1005⟩) hHeld ?hr1005
                case hy1005 => (intro w hSw; (try dsimp only at hSw); go_simp; (try with_reducible rfl))
                simp only [Act.put, List.setIfInBounds_toArray, List.set_cons_zero, List.set_cons_succ, List.getElem_toArray, List.getElem_cons_zero, List.getElem_cons_succ]
                refine' wpAnyH_take (i := 5) (v := _) rfl (by kernel_rfl) (by kernel_rfl) (by kernel_rfl) (fun _ _ _ h => h) (Or.inl ⟨by rfl, ?hy1006⟩) hHeld ?hr1006
                case hy1006 => (intro w hSw; (try dsimp only at hSw); go_simp; (try with_reducible rfl))
                simp only [Act.put, List.setIfInBounds_toArray, List.set_cons_zero, List.set_cons_succ, List.getElem_toArray, List.getElem_cons_zero, List.getElem_cons_succ]
                refine' wpAnyH_take (i := 6) (v := _) rfl (by kernel_rfl) (by kernel_rfl) (by kernel_rfl) (fun _ _ _ h => h) (Or.inl ⟨by rfl, ?hy1007⟩) hHeld ?hr1007
                case hy1007 => (intro w hSw; (try dsimp only at hSw); go_simp; (try with_reducible rfl))
                simp only [Act.put, List.setIfInBounds_toArray, List.set_cons_zero, List.set_cons_succ, List.getElem_toArray, List.getElem_cons_zero, List.getElem_cons_succ]
                refine' wpAnyH_take (i := 7) (v := _) rfl (by kernel_rfl) (by kernel_rfl) (by kernel_rfl) (fun _ _ _ h => h) (Or.inl ⟨by rfl, ?hy1008⟩) hHeld ?hr1008
                case hy1008 => (intro w hSw; (try dsimp only at hSw); go_simp; (try with_reducible rfl))
                simp only [Act.put, List.setIfInBounds_toArray, List.set_cons_zero, List.set_cons_succ, List.getElem_toArray, List.getElem_cons_zero, List.getElem_cons_succ]
                refine' wpAnyH_take (i := 8) (v := _) rfl (by kernel_rfl) (by kernel_rfl) (by kernel_rfl) (fun _ _ _ h => h) (Or.inl ⟨by rfl, ?hy1009⟩) hHeld ?hr1009
                case hy1009 => (intro w hSw; (try dsimp only at hSw); go_simp; (try with_reducible rfl))
                simp only [Act.put, List.setIfInBounds_toArray, List.set_cons_zero, List.set_cons_succ, List.getElem_toArray, List.getElem_cons_zero, List.getElem_cons_succ]
                refine' wpAnyH_take (i := 9) (v := _) rfl (by kernel_rfl) (by kernel_rfl) (by kernel_rfl) (fun _ _ _ h => h) (Or.inl ⟨by rfl, ?hy1010⟩) hHeld ?hr1010
                case hy1010 => (intro w hSw; (try dsimp only at hSw); go_simp; (try with_reducible rfl))
                simp only [Act.put, List.setIfInBounds_toArray, List.set_cons_zero, List.set_cons_succ, List.getElem_toArray, List.getElem_cons_zero, List.getElem_cons_succ]
                refine' wpAnyH_take (i := 10) (v := _) rfl (by kernel_rfl) (by kernel_rfl) (by kernel_rfl) (fun _ _ _ h => h) (Or.inl ⟨by rfl, ?hy1011⟩) hHeld ?hr1011
                case hy1011 => (intro w hSw; (try dsimp only at hSw); go_simp; (try with_reducible rfl))
                simp only [Act.put, List.setIfInBounds_toArray, List.set_cons_zero, List.set_cons_succ, List.getElem_toArray, List.getElem_cons_zero, List.getElem_cons_succ]
                refine' wpAnyH_take (i := 11) (v := _) rfl (by kernel_rfl) (by kernel_rfl) (by kernel_rfl) (fun _ _ _ h => h) (Or.inl ⟨by rfl, ?hy1012⟩) hHeld ?hr1012
                case hy1012 => (intro w hSw; (try dsimp only at hSw); go_simp; (try with_reducible rfl))
                simp only [Act.put, List.setIfInBounds_toArray, List.set_cons_zero, List.set_cons_succ, List.getElem_toArray, List.getElem_cons_zero, List.getElem_cons_succ]
                refine' wpAnyH_take (i := 12) (v := _) rfl (by kernel_rfl) (by kernel_rfl) (by kernel_rfl) (fun _ _ _ h => h) (Or.inl ⟨by rfl, ?hy1013⟩) hHeld ?hr1013
                case hy1013 => (intro w hSw; (try dsimp only at hSw); go_simp; (try with_reducible rfl))
                simp only [Act.put, List.setIfInBounds_toArray, List.set_cons_zero, List.set_cons_succ, List.getElem_toArray, List.getElem_cons_zero, List.getElem_cons_succ]
                refine' wpAnyH_take (i := 13) (v := _) rfl (by kernel_rfl) (by kernel_rfl) (by kernel_rfl) (fun _ _ _ h => h) (Or.inl ⟨by rfl, ?hy1014⟩) hHeld ?hr1014
                case hy1014 => (intro w hSw; (try dsimp only at hSw); go_simp; (try with_reducible rfl))
                simp only [Act.put, List.setIfInBounds_toArray, List.set_cons_zero, List.set_cons_succ, List.getElem_toArray, List.getElem_cons_zero, List.getElem_cons_succ]
                refine' wpAnyH_take (i := 14) (v := _) rfl (by kernel_rfl) (by kernel_rfl) (by kernel_rfl) (fun _ _ _ h => h) (Or.inl ⟨by rfl, ?hy1015⟩) hHeld ?hr1015
                case hy1015 => (intro w hSw; (try dsimp only at hSw); go_simp; (try with_reducible rfl))
                simp only [Act.put, List.setIfInBounds_toArray, List.set_cons_zero, List.set_cons_succ, List.getElem_toArray, List.getElem_cons_zero, List.getElem_cons_succ]
                refine' wpAnyH_take (i := 15) (v := _) rfl (by kernel_rfl) (by kernel_rfl) (by kernel_rfl) (fun _ _ _ h => h) (Or.inl ⟨by rfl, ?hy1016⟩) hHeld ?hr1016
                case hy1016 => (intro w hSw; (try dsimp only at hSw); go_simp; (try with_reducible rfl))
                simp only [Act.put, List.setIfInBounds_toArray, List.set_cons_zero, List.set_cons_succ, List.getElem_toArray, List.getElem_cons_zero, List.getElem_cons_succ]
                refine' wpAnyH_take (i := 16) (v := _) rfl (by kernel_rfl) (by kernel_rfl) (by kernel_rfl) (fun _ _ _ h => h) (Or.inl ⟨by rfl, ?hy1017⟩) hHeld ?hr1017
                case hy1017 => (intro w hSw; (try dsimp only at hSw); go_simp; (try with_reducible rfl))
                simp only [Act.put, List.setIfInBounds_toArray, List.set_cons_zero, List.set_cons_succ, List.getElem_toArray, List.getElem_cons_zero, List.getElem_cons_succ]
                refine' wpAnyH_take (i := 17) (v := _) rfl (by kernel_rfl) (by kernel_rfl) (by kernel_rfl) (fun _ _ _ h => h) (Or.inl ⟨by rfl, ?hy1018⟩) hHeld ?hr1018
                case hy1018 => (intro w hSw; (try dsimp only at hSw); go_simp; (try with_reducible rfl))
                simp only [Act.put, List.setIfInBounds_toArray, List.set_cons_zero, List.set_cons_succ, List.getElem_toArray, List.getElem_cons_zero, List.getElem_cons_succ]
                refine' wpAnyH_take (i := 18) (v := _) rfl (by kernel_rfl) (by kernel_rfl) (by kernel_rfl) (fun _ _ _ h => h) (Or.inl ⟨by rfl, ?hy1019⟩) hHeld ?hr1019
                case hy1019 => (intro w hSw; (try dsimp only at hSw); go_simp; (try with_reducible rfl))
                simp only [Act.put, List.setIfInBounds_toArray, List.set_cons_zero, List.set_cons_succ, List.getElem_toArray, List.getElem_cons_zero, List.getElem_cons_succ]
                refine' wpAnyH_take (i := 19) (v := _) rfl (by kernel_rfl) (by kernel_rfl) (by kernel_rfl) (fun _ _ _ h => h) (Or.inl ⟨by rfl, ?hy1020⟩) hHeld ?hr1020
                case hy1020 => (intro w hSw; (try dsimp only at hSw); go_simp; (try with_reducible rfl))
                simp only [Act.put, List.setIfInBounds_toArray, List.set_cons_zero, List.set_cons_succ, List.getElem_toArray, List.getElem_cons_zero, List.getElem_cons_succ]
                refine' wpAnyH_take (i := 20) (v := _) rfl (by kernel_rfl) (by kernel_rfl) (by kernel_rfl) (fun _ _ _ h => h) (Or.inl ⟨by rfl, ?hy1021⟩) hHeld ?hr1021
                case hy1021 => (intro w hSw; (try dsimp only at hSw); go_simp; (try with_reducible rfl))
                simp only [Act.put, List.setIfInBounds_toArray, List.set_cons_zero, List.set_cons_succ, List.getElem_toArray, List.getElem_cons_zero, List.getElem_cons_succ]
                refine' wpAnyH_take (i := 21) (v := _) rfl (by kernel_rfl) (by kernel_rfl) (by kernel_rfl) (fun _ _ _ h => h) (Or.inl ⟨by rfl, ?hy1022⟩) hHeld ?hr1022
                case hy1022 => (intro w hSw; (try dsimp only at hSw); go_simp; (try with_reducible rfl))
                simp only [Act.put, List.setIfInBounds_toArray, List.set_cons_zero, List.set_cons_succ, List.getElem_toArray, List.getElem_cons_zero, List.getElem_cons_succ]
                refine' wpAnyH_take (i := 22) (v := _) rfl (by kernel_rfl) (by kernel_rfl) (by kernel_rfl) (fun _ _ _ h => h) (Or.inl ⟨by rfl, ?hy1023⟩) hHeld ?hr1023
                case hy1023 => (intro w hSw; (try dsimp only at hSw); go_simp; (try with_reducible rfl))
                simp only [Act.put, List.setIfInBounds_toArray, List.set_cons_zero, List.set_cons_succ, List.getElem_toArray, List.getElem_cons_zero, List.getElem_cons_succ]
                refine' wpAnyH_take (i := 23) (v := _) rfl (by kernel_rfl) (by kernel_rfl) (by kernel_rfl) (fun _ _ _ h => h) (Or.inl ⟨by rfl, ?hy1024⟩) hHeld ?hr1024
                case hy1024 => (intro w hSw; (try dsimp only at hSw); go_simp; (try with_reducible rfl))
                simp only [Act.put, List.setIfInBounds_toArray, List.set_cons_zero, List.set_cons_succ, List.getElem_toArray, List.getElem_cons_zero, List.getElem_cons_succ]
                refine' wpAnyH_take (i := 24) (v := _) rfl (by kernel_rfl) (by kernel_rfl) (by kernel_rfl) (fun _ _ _ h => h) (Or.inl ⟨by rfl, ?hy1025⟩) hHeld ?hr1025
                case hy1025 => (intro w hSw; (try dsimp only at hSw); go_simp; (try with_reducible rfl))
                simp only [Act.put, List.setIfInBounds_toArray, List.set_cons_zero, List.set_cons_succ, List.getElem_toArray, List.getElem_cons_zero, List.getElem_cons_succ]
                refine' wpAnyH_take (i := 25) (v := _) rfl (by kernel_rfl) (by kernel_rfl) (by kernel_rfl) (fun _ _ _ h => h) (Or.inl ⟨by rfl, ?hy1026⟩) hHeld ?hr1026
                case hy1026 => (intro w hSw; (try dsimp only at hSw); go_simp; (try with_reducible rfl))
                simp only [Act.put, List.setIfInBounds_toArray, List.set_cons_zero, List.set_cons_succ, List.getElem_toArray, List.getElem_cons_zero, List.getElem_cons_succ]
                refine' wpAnyH_take (i := 26) (v := _) rfl (by kernel_rfl) (by kernel_rfl) (by kernel_rfl) (fun _ _ _ h => h) (Or.inl ⟨by rfl, ?hy1027⟩) hHeld ?hr1027
                case hy1027 => (intro w hSw; (try dsimp only at hSw); go_simp; (try with_reducible rfl))
                simp only [Act.put, List.setIfInBounds_toArray, List.set_cons_zero, List.set_cons_succ, List.getElem_toArray, List.getElem_cons_zero, List.getElem_cons_succ]
                refine' wpAnyH_take (i := 27) (v := _) rfl (by kernel_rfl) (by kernel_rfl) (by kernel_rfl) (fun _ _ _ h => h) (Or.inl ⟨by rfl, ?hy1028⟩) hHeld ?hr1028
                case hy1028 => (intro w hSw; (try dsimp only at hSw); go_simp; (try with_reducible rfl))
                simp only [Act.put, List.setIfInBounds_toArray, List.set_cons_zero, List.set_cons_succ, List.getElem_toArray, List.getElem_cons_zero, List.getElem_cons_succ]
                refine' wpAnyH_take (i := 28) (v := _) rfl (by kernel_rfl) (by kernel_rfl) (by kernel_rfl) (fun _ _ _ h => h) (Or.inl ⟨by rfl, ?hy1029⟩) hHeld ?hr1029
                case hy1029 => (intro w hSw; (try dsimp only at hSw); go_simp; (try with_reducible rfl))
                simp only [Act.put, List.setIfInBounds_toArray, List.set_cons_zero, List.set_cons_succ, List.getElem_toArray, List.getElem_cons_zero, List.getElem_cons_succ]
                refine' wpAnyH_take (i := 29) (v := _) rfl (by kernel_rfl) (by kernel_rfl) (by kernel_rfl) (fun _ _ _ h => h) (Or.inl ⟨by rfl, ?hy1030⟩) hHeld ?hr1030
                case hy1030 => (intro w hSw; (try dsimp only at hSw); go_simp; (try with_reducible rfl))
                simp only [Act.put, List.setIfInBounds_toArray, List.set_cons_zero, List.set_cons_succ, List.getElem_toArray, List.getElem_cons_zero, List.getElem_cons_succ]
                refine' wpAnyH_take (i := 30) (v := _) rfl (by kernel_rfl) (by kernel_rfl) (by kernel_rfl) (fun _ _ _ h => h) (Or.inl ⟨by rfl, ?hy1031⟩) hHeld ?hr1031
                case hy1031 => (intro w hSw; (try dsimp only at hSw); go_simp; (try with_reducible rfl))
                simp only [Act.put, List.setIfInBounds_toArray, List.set_cons_zero, List.set_cons_succ, List.getElem_toArray, List.getElem_cons_zero, List.getElem_cons_succ]
                refine' wpAnyH_take (i := 31) (v := _) rfl (by kernel_rfl) (by kernel_rfl) (by kernel_rfl) (fun _ _ _ h => h) (Or.inl ⟨by rfl, ?hy1032⟩) hHeld ?hr1032
                case hy1032 => (intro w hSw; (try dsimp only at hSw); go_simp; (try with_reducible rfl))
                simp only [Act.put, List.setIfInBounds_toArray, List.set_cons_zero, List.set_cons_succ, List.getElem_toArray, List.getElem_cons_zero, List.getElem_cons_succ]
                refine' wpAnyH_take (i := 32) (v := _) rfl (by kernel_rfl) (by kernel_rfl) (by kernel_rfl) (fun _ _ _ h => h) (Or.inl ⟨by rfl, ?hy1033⟩) hHeld ?hr1033
                case hy1033 => (intro w hSw; (try dsimp only at hSw); go_simp; (try with_reducible rfl))
                simp only [Act.put, List.setIfInBounds_toArray, List.set_cons_zero, List.set_cons_succ, List.getElem_toArray, List.getElem_cons_zero, List.getElem_cons_succ]
                refine' wpAnyH_take (i := 33) (v := _) rfl (by kernel_rfl) (by kernel_rfl) (by kernel_rfl) (fun _ _ _ h => h) (Or.inl ⟨by rfl, ?hy1034⟩) hHeld ?hr1034
                case hy1034 => (intro w hSw; (try dsimp only at hSw); go_simp; (try with_reducible rfl))
                simp only [Act.put, List.setIfInBounds_toArray, List.set_cons_zero, List.set_cons_succ, List.getElem_toArray, List.getElem_cons_zero, List.getElem_cons_succ]
                refine wpAnyH_ready (rs := [34]) (by kernel_rfl) (by simp) (allReady_1 rfl rfl (fun K hK => ?_))
                go_simp
                refine (l1Min_e _ _ _).mono ?_
                rintro e w9 ⟨rfl, hw9⟩
                subst hw9
                go_wp2_with fail
                refine hK.out _ _ (hHeld) (fun hHeld => ?_)
                clear hK K
                (try simp only [Act.put, List.setIfInBounds_toArray, List.set_cons_zero, List.set_cons_succ, List.getElem_toArray, List.getElem_cons_zero, List.getElem_cons_succ])
                refine wpAnyH_ready (rs := [35]) (by kernel_rfl) (by simp) (allReady_1 rfl rfl (fun K hK => ?_))
                go_simp
                refine (l1Min_e _ _ _).mono ?_
                rintro e w9 ⟨rfl, hw9⟩
                subst hw9
                go_wp2_with fail
                refine hK.out _ _ (hHeld) (fun hHeld => ?_)
                clear hK K
                (try simp only [Act.put, List.setIfInBounds_toArray, List.set_cons_zero, List.set_cons_succ, List.getElem_toArray, List.getElem_cons_zero, List.getElem_cons_succ])
                refine' wpAnyH_take (i := 36) (v := _) rfl (by kernel_rfl) (by kernel_rfl) (by kernel_rfl) (fun _ _ _ h => h) (Or.inl ⟨by rfl, ?hy1035⟩) hHeld ?hr1035
                case hy1035 => (intro w hSw; (try dsimp only at hSw); go_simp; (try with_reducible rfl))
                simp only [Act.put, List.setIfInBounds_toArray, List.set_cons_zero, List.set_cons_succ, List.getElem_toArray, List.getElem_cons_zero, List.getElem_cons_succ]
                refine' wpAnyH_take (i := 37) (v := _) rfl (by kernel_rfl) (by kernel_rfl) (by kernel_rfl) (fun _ _ _ h => h) (Or.inl ⟨by rfl, ?hy1036⟩) hHeld ?hr1036
                case hy1036 => (intro w hSw; (try dsimp only at hSw); go_simp; (try with_reducible rfl))
                simp only [Act.put, List.setIfInBounds_toArray, List.set_cons_zero, List.set_cons_succ, List.getElem_toArray, List.getElem_cons_zero, List.getElem_cons_succ]
                refine wpAnyH_ready (rs := [38]) (by kernel_rfl) (by simp) (allReady_1 rfl rfl (fun K hK => ?_))
                go_simp
                refine hK.out _ _ (kst _ hHeld) (fun hHeld => ?_)
                clear hK K
                (try simp only [Act.put, List.setIfInBounds_toArray, List.set_cons_zero, List.set_cons_succ, List.getElem_toArray, List.getElem_cons_zero, List.getElem_cons_succ])
                refine wpAnyH_done (by kernel_rfl) ?_ _
                refine NoPanic.normal ?_
                go_wp2
                go_roundw
                case rel => exact ⟨j + 1, us.set p (.int .i64 (1 + min F1 (min F2 F3))), by omega, by go_num, hst1, by simpa using hul, hset, hbel2.grown (row := some w.heap.size) ⟨hst2.os, hst2.tape, hst2.output, hst2.size, hst2.block⟩ hbel2.size (fun k hk => by cases hk; exact Nat.le_refl _)⟩
                case measure => simp [intOf]; omega
        · have hjn : ¬ (j : Int) ≤ (n : Int) := by have := hW.out; omega
          have hjW : j = W := by omega
          subst hjW
          have hT3 := hT2.out.row
          clear hca hcb
          go_wp2
          go_roundw
          case rel => exact ⟨i + 1, us, by omega, by go_num, ho2, hul, hT3, hbel2⟩
          case measure => simp [intOf]; omega
    · have hii : ¬ (i : Int) ≤ (m : Int) := by omega
      have him : i = M := by have := hM.out; omega
      subst him
      clear hca hcb
      go_wp2
      go_ret
      exact ⟨rfl, zs, ho1, hT.out, hbel⟩
end Go.Proofs.Ytdahcdgefflkaaa
