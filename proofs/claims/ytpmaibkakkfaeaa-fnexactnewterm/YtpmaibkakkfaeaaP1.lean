/- Runes as numbers: what a text's first bytes are read to. Plain mathematics, no program. Styles: their params and signs. Plain mathematics. Rows of cells. Plain mathematics. Widths, and what fits into some cells. Plain mathematics. Grids. Plain mathematics. Contract of l1In alone. A style as a value; StyleOk as the specification has it. Slices of int64 that can be read, and rows that stay. What a contract leaves, as growth. A style in memory. Rows of cells in memory. Contracts of the specification's blank rows. Rows of rows in memory. A grid in a block of its own. Parsers as numbers: what a rune makes of one, and what is told of it. Plain mathematics, no program. Lists of numbers that one call owns, apart from one another; parsers and actions in memory. Contracts: the specification's tests on parsers. The walk of the program's parser: what it tells, what comes next. The walk of the program's parser: past controls, letters, parameters, a title. The laws' own helper: two lists alike. Contracts of the program's Parsed and Step: first part. A struct of many cells, loaded and stored as a whole, behind a guard too. Contract of spec.l1Part. A screen as numbers, and in memory. A style is like itself. A cell whole in a block of its own. The laws' own helpers on rows: two cells alike. The laws' own helpers on rows: two rows alike. Right rows: what keeps them right. Plain mathematics. The program's way with rows: cleared, pushed, pulled. Plain mathematics. A window of a row of this call's own: cleared, copied into, made anew. Contracts of the specification's new grids. One row written anew; rows made. Contract of the specification's new grids. What changes within a range of blocks alone; a grid's rows within a range. The laws' own helpers on rows: marked and held. -/
import Derived.Laws.BytesArg
import GoSem.Core.Utf8
import Derived.Test.YtpmaibkakkfaeaaRows
import Derived.WalkKit
import Derived.ProofKit
import Derived.OpenShut
import Derived.ShutString
import Derived.LoopN
import Derived.WalkSpells
import Derived.Deep.QuietTactic
import Derived.BigQuiet
import Derived.Laws.OwnMore
import Derived.Laws.AppendOwn
import Derived.OwnWalk
import Derived.Laws.AppendOwnNone
import Derived.Deep.MidRow
import Derived.Deep.AppendLies
import Derived.LoopTactic
import Derived.Deep.RegionHeld3
import Derived.OneCell
import Derived.Deep.RegionLaw
import Derived.Deep.LoopGhost
import Derived.Laws.Rows
import Derived.Laws.Tables
import Derived.Deep.RegionWith
import Derived.Laws.CopyOwn
namespace Go.Proofs.Ytpmaibkakkfaeaa
def runeOk (r : Int) : Bool := decide (0 ≤ r ∧ r ≤ 1114111 ∧ (r < 55296 ∨ 57343 < r))

theorem runeOk_bd (r : Int) (h : runeOk r = true) : 0 ≤ r ∧ r ≤ 1114111 := by simp [runeOk] at h; omega

def both (p : Nat × Nat) : Int × Int := ((p.1 : Int), (p.2 : Int))
end Go.Proofs.Ytpmaibkakkfaeaa
namespace Go.Proofs.Ytpmaibkakkfaeaa
structure St where
  fore : Int
  back : Int
  bold : Bool
  under : Bool
  turned : Bool
deriving DecidableEq
def St.zero : St := ⟨0, 0, false, false, false⟩
def St.ok (s : St) : Bool := decide (0 ≤ s.fore ∧ s.fore ≤ 8 ∧ 0 ≤ s.back ∧ s.back ≤ 8)
end Go.Proofs.Ytpmaibkakkfaeaa
namespace Go.Proofs.Ytpmaibkakkfaeaa
structure Ce where
  rune : Int
  st : St
  part : Int
deriving DecidableEq
def Ce.zero : Ce := ⟨0, St.zero, 0⟩
def blankC (s : St) : Ce := ⟨32, s, 0⟩
def atC (l : List Ce) (i : Nat) : Ce := l.getD i Ce.zero
theorem atC_lt {l : List Ce} {i : Nat} (h : i < l.length) : atC l i = l[i] := by simp [atC, List.getD, h]
theorem atC_append_left (l m : List Ce) (i : Nat) (h : i < l.length) : atC (l ++ m) i = atC l i := by
  simp [atC, List.getD, List.getElem?_append_left h]
theorem atC_append_right (l m : List Ce) (i : Nat) : atC (l ++ m) (l.length + i) = atC m i := by
  simp [atC, List.getD, List.getElem?_append_right]
theorem atC_set (l : List Ce) (j i : Nat) (c : Ce) : atC (l.set j c) i = if i = j ∧ j < l.length then c else atC l i := by
  simp only [atC, List.getD, List.getElem?_set]
  by_cases h : j = i
  · subst h
    by_cases h2 : j < l.length
    · simp [h2]
    · simp [h2]
  · rw [if_neg h, if_neg (fun e => h e.1.symm)]
theorem ext_atC (l m : List Ce) (hl : l.length = m.length) (h : ∀ i, i < l.length → atC l i = atC m i) : l = m := by
  apply List.ext_getElem hl
  intro i h1 h2
  have := h i h1
  rwa [atC_lt h1, atC_lt h2] at this
theorem atC_take (l : List Ce) (n i : Nat) (h : i < n) : atC (l.take n) i = atC l i := by simp [atC, List.getD, h]
theorem atC_drop (l : List Ce) (n i : Nat) : atC (l.drop n) i = atC l (n + i) := by simp [atC, List.getD, List.getElem?_drop]

/-- Cells from a to b blank. -/
def fillUp (l : List Ce) (a b : Nat) (s : St) : List Ce := (List.range l.length).map fun i => if a ≤ i ∧ i < b then blankC s else atC l i
theorem fillUp_len (l : List Ce) (a b : Nat) (s : St) : (fillUp l a b s).length = l.length := by simp [fillUp]
theorem fillUp_at (l : List Ce) (a b : Nat) (s : St) (i : Nat) (h : i < l.length) : atC (fillUp l a b s) i = if a ≤ i ∧ i < b then blankC s else atC l i := by
  rw [atC_lt (by rw [fillUp_len]; exact h)]
  simp [fillUp]
def rowL (n : Nat) (s : St) : List Ce := List.replicate n (blankC s)
end Go.Proofs.Ytpmaibkakkfaeaa
namespace Go.Proofs.Ytpmaibkakkfaeaa
def widthV (r : Int) : Int :=
  if r < 32 ∨ runeOk r = false ∨ (127 ≤ r ∧ r ≤ 159) ∨ (768 ≤ r ∧ r ≤ 879) then 0
  else if (4352 ≤ r ∧ r ≤ 4447) ∨ (12288 ≤ r ∧ r ≤ 55295) ∨ (127744 ≤ r ∧ r ≤ 131071) then 2 else 1
end Go.Proofs.Ytpmaibkakkfaeaa
namespace Go.Proofs.Ytpmaibkakkfaeaa
/-- New rows. -/
def newR (cols n : Nat) : List (List Ce) := List.replicate n (rowL cols St.zero)
theorem newR_snoc (cols n : Nat) : newR cols (n + 1) = newR cols n ++ [rowL cols St.zero] := by unfold newR; rw [List.replicate_succ']
end Go.Proofs.Ytpmaibkakkfaeaa
namespace Go.Proofs.Ytpmaibkakkfaeaa
open Go.ChangeShapes Go.WideShapes Go.ChangeAt Go.RowKit
theorem ret_bool {a b : Bool} (h : a = b) : Ending.returned (.bool a) = .returned (.bool b) := by rw [h]

theorem l1In_any (x lo hi : Int) (w : World) :
    Calls Try.prog 23 #[.int .i64 x, .int .i64 lo, .int .i64 hi] w fun e w' => e = .returned (.bool (decide (lo ≤ x ∧ x ≤ hi))) ∧ w' = w := by
  by_cases h1 : lo ≤ x
  · go_enter Try.func23, Try.ntmps23
    go_wp2
    go_ret
    exact ⟨ret_bool (by simp [h1]), rfl⟩
  · go_enter Try.func23, Try.ntmps23
    go_wp2
    go_ret
    exact ⟨ret_bool (by simp; omega), rfl⟩

end Go.Proofs.Ytpmaibkakkfaeaa
namespace Go.Proofs.Ytpmaibkakkfaeaa
open Go.ChangeShapes Go.WideShapes Go.ChangeAt Go.RowKit
def stV (s : St) : Value := .agg #[.int .i64 s.fore, .int .i64 s.back, .bool s.bold, .bool s.under, .bool s.turned]
end Go.Proofs.Ytpmaibkakkfaeaa
namespace Go.Proofs.Ytpmaibkakkfaeaa
open Go.ChangeShapes Go.WideShapes Go.ChangeAt Go.RowKit
/-- What is owned stays owned while the world only grows above. -/
theorem _root_.Go.World.ownsRow.below {w w' : World} {base : Nat} {e : TypeId} {size : Nat} {v : Value} {n : Nat} {xs : List Value} (h : w.ownsRow base e size v n xs) (hb : Below w.heap.size w w') : w'.ownsRow base e size v n xs := by
  refine ⟨h.1, ?_⟩
  rcases h.2 with h2 | ⟨g, cap, cur, hv, hbg, hg, r⟩
  · exact .inl h2
  · exact .inr ⟨g, cap, cur, hv, hbg, by rw [hb.block g (Array.getElem?_eq_some_iff.1 hg).1]; exact hg, r⟩
/-- A slice that can be read: of no element, or a row of cells that hold the numbers. -/
def SlI (w : World) (v : Value) (xs : List Int) : Prop :=
  ∃ a c, v = .slice a xs.length c ∧ (xs = [] ∨ ∃ b off, a = some ⟨b, off, none⟩ ∧ b < w.heap.size ∧ ∀ i, i < xs.length → w.cell? ⟨b, off + i, none⟩ = some (.int .i64 (xs.getD i 0)))
theorem SlI.of_own {w : World} {base : Nat} {e : TypeId} {v : Value} {xs : List Int} (h : w.ownsRow base e 1 v xs.length (xs.map (Value.int .i64))) : SlI w v xs := by
  rcases h.2 with ⟨rfl, h2⟩ | ⟨g, cap, cur, rfl, hb, hg, hr⟩
  · exact ⟨none, 0, by rw [h2], .inl (List.eq_nil_of_length_eq_zero h2)⟩
  · refine ⟨_, cap, rfl, .inr ⟨g, 0, rfl, (Array.getElem?_eq_some_iff.1 hg).1, fun i hi => ?_⟩⟩
    have := h.cellAt i (by simpa using hi)
    rw [Nat.zero_add, this]
    simp [hi]
theorem SlI.below {w w' : World} {v : Value} {xs : List Int} (h : SlI w v xs) (hb : Below w.heap.size w w') : SlI w' v xs := by
  obtain ⟨a, c, hv, h | ⟨b, off, ha, hlt, hc⟩⟩ := h
  · exact ⟨a, c, hv, .inl h⟩
  · exact ⟨a, c, hv, .inr ⟨b, off, ha, Nat.lt_of_lt_of_le hlt hb.size, fun i hi => (hb.cell (p := ⟨b, off + i, none⟩) hlt).trans (hc i hi)⟩⟩
theorem SlI.drewN {w : World} {v : Value} {xs : List Int} (h : SlI w v xs) (n : Nat) : SlI (w.drewN n) v xs := h

end Go.Proofs.Ytpmaibkakkfaeaa
namespace Go.Proofs.Ytpmaibkakkfaeaa
open Go.ChangeShapes Go.WideShapes Go.ChangeAt Go.RowKit
theorem gbl {w w' : World} (h : Below w.heap.size w w') (row : Option Nat) : w.grownBy w' row := ⟨h.os, h.tape, h.output, h.size, fun k hk _ => h.block k hk⟩
theorem setCell_gr (w : World) (B o : Nat) (u : Value) : w.grownBy (w.setCell ⟨B, o, none⟩ u) (some B) :=
  ⟨rfl, rfl, rfl, by simp, fun k _ hk => heap_setCell_other w ⟨B, o, none⟩ k _ (fun e => hk (by simp [e]))⟩
theorem grown_tr {a b c : World} {row : Option Nat} (h : a.grownBy b row) (k : b.grownBy c row) : a.grownBy c row :=
  ⟨k.os.trans h.os, k.tape.trans h.tape, k.output.trans h.output, Nat.le_trans h.size k.size, fun i hi hr => (k.block i (Nat.lt_of_lt_of_le hi h.size) hr).trans (h.block i hi hr)⟩
theorem bal' (w : World) (o : Obj) : Below w.heap.size w (w.alloc o) := (Below.refl _ _).alloc (Nat.le_refl _) o
theorem bdr (w : World) : Below w.heap.size w w.drew := ⟨rfl, rfl, rfl, Nat.le_refl _, fun _ _ => rfl⟩
end Go.Proofs.Ytpmaibkakkfaeaa
namespace Go.Proofs.Ytpmaibkakkfaeaa
open Go.ChangeShapes Go.WideShapes Go.ChangeAt Go.RowKit
/-- A style lies in block B. -/
def StAt (w : World) (B : Nat) (s : St) : Prop :=
  B < w.heap.size ∧ (w.cell? ⟨B, 0, none⟩ = some (.int .i64 s.fore) ∧ w.cell? ⟨B, 1, none⟩ = some (.int .i64 s.back) ∧ w.cell? ⟨B, 2, none⟩ = some (.bool s.bold) ∧ w.cell? ⟨B, 3, none⟩ = some (.bool s.under) ∧ w.cell? ⟨B, 4, none⟩ = some (.bool s.turned)) ∧
    (w.frozen? ⟨B, 0, none⟩ = false ∧ w.frozen? ⟨B, 1, none⟩ = false ∧ w.frozen? ⟨B, 2, none⟩ = false ∧ w.frozen? ⟨B, 3, none⟩ = false ∧ w.frozen? ⟨B, 4, none⟩ = false)
theorem StAt.grown {w w' : World} {B : Nat} {s : St} {row : Option Nat} (h : StAt w B s) (hg : w.grownBy w' row) (hr : row ≠ some B) : StAt w' B s := by
  have hb := hg.block B h.1 (Ne.symm hr)
  have hc : ∀ k, w'.cell? ⟨B, k, none⟩ = w.cell? ⟨B, k, none⟩ := fun k => World.cell?_of_block (w := w) hb
  have hz : ∀ k, w'.frozen? ⟨B, k, none⟩ = w.frozen? ⟨B, k, none⟩ := fun k => World.frozen?_of_block (w := w) hb
  refine ⟨Nat.lt_of_lt_of_le h.1 hg.size, ?_, ?_⟩
  · rw [hc, hc, hc, hc, hc]; exact h.2.1
  · rw [hz, hz, hz, hz, hz]; exact h.2.2
theorem StAt.below {w w' : World} {B : Nat} {s : St} (h : StAt w B s) (hb : Below w.heap.size w w') : StAt w' B s := h.grown (gbl hb none) (by simp)
theorem StAt.new (w : World) (s : St) (t : TypeId) : StAt (w.alloc (.cells #[.int .i64 s.fore, .int .i64 s.back, .bool s.bold, .bool s.under, .bool s.turned] t)) w.heap.size s :=
  ⟨by simp, ⟨by simp [go_sem], by simp [go_sem], by simp [go_sem], by simp [go_sem], by simp [go_sem]⟩, ⟨by simp [go_sem], by simp [go_sem], by simp [go_sem], by simp [go_sem], by simp [go_sem]⟩⟩
/-- Another style is written there whole. -/
def putSt (w : World) (B : Nat) (s : St) : World :=
  ((((w.setCell ⟨B, 0, none⟩ (.int .i64 s.fore)).setCell ⟨B, 1, none⟩ (.int .i64 s.back)).setCell ⟨B, 2, none⟩ (.bool s.bold)).setCell ⟨B, 3, none⟩ (.bool s.under)).setCell ⟨B, 4, none⟩ (.bool s.turned)

theorem setCell_ne' (w : World) (B a b : Nat) (u : Value) (h : a ≠ b) : (w.setCell ⟨B, b, none⟩ u).cell? ⟨B, a, none⟩ = w.cell? ⟨B, a, none⟩ := by
  simp [World.setCell, World.cell?, Array.getElem?_modify]
  cases hh : w.heap[B]? with
  | none => simp
  | some o => cases o <;> simp [Ne.symm h]
theorem StAt.put {w : World} {B : Nat} {s : St} (h : StAt w B s) (s' : St) : StAt (putSt w B s') B s' := by
  obtain ⟨hlt, ⟨c0, c1, c2, c3, c4⟩, ⟨z0, z1, z2, z3, z4⟩⟩ := h
  refine ⟨by simpa [putSt] using hlt, ⟨?_, ?_, ?_, ?_, ?_⟩, ⟨?_, ?_, ?_, ?_, ?_⟩⟩
  all_goals simp only [putSt]
  · rw [setCell_ne' _ _ _ _ _ (by decide), setCell_ne' _ _ _ _ _ (by decide), setCell_ne' _ _ _ _ _ (by decide), setCell_ne' _ _ _ _ _ (by decide)]; simp [go_sem, c0]
  · rw [setCell_ne' _ _ _ _ _ (by decide), setCell_ne' _ _ _ _ _ (by decide), setCell_ne' _ _ _ _ _ (by decide)]; simp [go_sem, c1]
  · rw [setCell_ne' _ _ _ _ _ (by decide), setCell_ne' _ _ _ _ _ (by decide)]; simp [go_sem, c2]
  · rw [setCell_ne' _ _ _ _ _ (by decide)]; simp [go_sem, c3]
  · simp [go_sem, c4]
  · simp [go_sem, z0]
  · simp [go_sem, z1]
  · simp [go_sem, z2]
  · simp [go_sem, z3]
  · simp [go_sem, z4]
end Go.Proofs.Ytpmaibkakkfaeaa
namespace Go.Proofs.Ytpmaibkakkfaeaa
open Go.ChangeShapes Go.WideShapes Go.ChangeAt Go.RowKit
def ceL (c : Ce) : List Value := [.int .i64 c.rune, .int .i64 c.st.fore, .int .i64 c.st.back, .bool c.st.bold, .bool c.st.under, .bool c.st.turned, .int .i64 c.part]
def ceV (c : Ce) : Value := .agg #[.int .i64 c.rune, .int .i64 c.st.fore, .int .i64 c.st.back, .bool c.st.bold, .bool c.st.under, .bool c.st.turned, .int .i64 c.part]
def CeAt (w : World) (b o : Nat) (c : Ce) : Prop :=
  w.cell? ⟨b, o, none⟩ = some (.int .i64 c.rune) ∧ w.cell? ⟨b, o + 1, none⟩ = some (.int .i64 c.st.fore) ∧ w.cell? ⟨b, o + 2, none⟩ = some (.int .i64 c.st.back) ∧ w.cell? ⟨b, o + 3, none⟩ = some (.bool c.st.bold) ∧ w.cell? ⟨b, o + 4, none⟩ = some (.bool c.st.under) ∧ w.cell? ⟨b, o + 5, none⟩ = some (.bool c.st.turned) ∧ w.cell? ⟨b, o + 6, none⟩ = some (.int .i64 c.part)
theorem CeAt.below {w w' : World} {b o : Nat} {c : Ce} (h : CeAt w b o c) (hb : Below w.heap.size w w') (hlt : b < w.heap.size) : CeAt w' b o c := by
  have e : ∀ k, w'.cell? ⟨b, k, none⟩ = w.cell? ⟨b, k, none⟩ := fun k => hb.cell (p := ⟨b, k, none⟩) hlt
  unfold CeAt
  rw [e, e, e, e, e, e, e]
  exact h
theorem CeAt.grown {w w' : World} {b o : Nat} {c : Ce} {row : Option Nat} (h : CeAt w b o c) (hg : w.grownBy w' row) (hlt : b < w.heap.size) (hr : row ≠ some b) : CeAt w' b o c := by
  have hb := hg.block b hlt (Ne.symm hr)
  have e : ∀ k, w'.cell? ⟨b, k, none⟩ = w.cell? ⟨b, k, none⟩ := fun k => World.cell?_of_block (w := w) hb
  unfold CeAt
  rw [e, e, e, e, e, e, e]
  exact h
/-- A slice of cells that can be read. -/
def SlC (w : World) (v : Value) (xs : List Ce) : Prop :=
  ∃ a c, v = .slice a xs.length c ∧ xs.length ≤ c ∧ (a = none → c = 0) ∧ (xs = [] ∨ ∃ b off, a = some ⟨b, off, none⟩ ∧ b < w.heap.size ∧ ∀ i, i < xs.length → CeAt w b (off + i * 7) (atC xs i))
theorem SlC.below {w w' : World} {v : Value} {xs : List Ce} (h : SlC w v xs) (hb : Below w.heap.size w w') : SlC w' v xs := by
  obtain ⟨a, c, hv, hc, hn, h | ⟨b, off, ha, hlt, hi⟩⟩ := h
  · exact ⟨a, c, hv, hc, hn, .inl h⟩
  · exact ⟨a, c, hv, hc, hn, .inr ⟨b, off, ha, Nat.lt_of_lt_of_le hlt hb.size, fun i h => (hi i h).below hb hlt⟩⟩
/-- A slice of cells that this call owns. -/
def OwnC (w : World) (base : Nat) (v : Value) (xs : List Ce) : Prop := w.ownsRow base 63 7 v xs.length (xs.flatMap ceL)
theorem flat_len (xs : List Ce) : (xs.flatMap ceL).length = xs.length * 7 := by
  induction xs with
  | nil => rfl
  | cons c xs ih => rw [List.flatMap_cons, List.length_append, ih, List.length_cons]; simp [ceL]; omega
theorem flat_get (xs : List Ce) : ∀ (i k : Nat), i < xs.length → k < 7 → (xs.flatMap ceL)[i * 7 + k]? = (ceL (atC xs i))[k]? := by
  induction xs with
  | nil => intro i k h; simp at h
  | cons c xs ih =>
    intro i k h hk
    rw [List.flatMap_cons]
    cases i with
    | zero =>
      rw [List.getElem?_append_left (by simp [ceL]; omega)]
      simp [atC]
    | succ i =>
      have hl : (ceL c).length = 7 := rfl
      rw [List.getElem?_append_right (by rw [hl]; omega), hl]
      have e : (i + 1) * 7 + k - 7 = i * 7 + k := by omega
      rw [e, ih i k (by simpa using h) hk]
      simp [atC]
theorem OwnC.at {w : World} {base g n cap : Nat} {xs : List Ce} (h : OwnC w base (.slice (some ⟨g, 0, none⟩) n cap) xs) (hn : xs.length = n) (i : Nat) (hi : i < n) : CeAt w g (i * 7) (atC xs i) := by
  subst hn
  have hc : ∀ k, k < 7 → w.cell? ⟨g, i * 7 + k, none⟩ = (ceL (atC xs i))[k]? := fun k hk => by
    rw [h.cellAt (i * 7 + k) (by omega), flat_get xs i k hi hk]
  exact ⟨hc 0 (by omega), hc 1 (by omega), hc 2 (by omega), hc 3 (by omega), hc 4 (by omega), hc 5 (by omega), hc 6 (by omega)⟩
theorem OwnC.shape {w : World} {base : Nat} {v : Value} {xs : List Ce} (h : OwnC w base v xs) : (v = .slice none 0 0 ∧ xs = []) ∨ ∃ g cap, v = .slice (some ⟨g, 0, none⟩) xs.length cap ∧ base ≤ g ∧ g < w.heap.size ∧ xs.length ≤ cap := by
  rcases h.2 with ⟨h1, h2⟩ | ⟨g, cap, cur, hv, hb, hg, hn, _⟩
  · exact .inl ⟨h1, List.eq_nil_of_length_eq_zero h2⟩
  · exact .inr ⟨g, cap, hv, hb, (Array.getElem?_eq_some_iff.1 hg).1, hn⟩
theorem SlC.of_own {w : World} {base : Nat} {v : Value} {xs : List Ce} (h : OwnC w base v xs) : SlC w v xs := by
  rcases h.shape with ⟨rfl, rfl⟩ | ⟨g, cap, rfl, hb, hg, hn⟩
  · exact ⟨none, 0, rfl, Nat.le_refl _, fun _ => rfl, .inl rfl⟩
  · exact ⟨_, cap, rfl, hn, (fun h => by cases h), .inr ⟨g, 0, rfl, hg, fun i hi => by rw [Nat.zero_add]; exact h.at rfl i hi⟩⟩
theorem OwnC.below {w w' : World} {base : Nat} {v : Value} {xs : List Ce} (h : OwnC w base v xs) (hb : Below w.heap.size w w') : OwnC w' base v xs := World.ownsRow.below (show w.ownsRow _ _ _ _ _ _ from h) hb
theorem OwnC.low {w : World} {base base' : Nat} {v : Value} {xs : List Ce} (h : OwnC w base v xs) (hb : base' ≤ base) : OwnC w base' v xs := by
  refine ⟨h.1, ?_⟩
  rcases h.2 with h2 | ⟨g, cap, cur, hv, hbg, r⟩
  · exact .inl h2
  · exact .inr ⟨g, cap, cur, hv, Nat.le_trans hb hbg, r⟩
theorem OwnC.lt {w : World} {base : Nat} {v : Value} {xs : List Ce} (h : OwnC w base v xs) : ∀ g, v.ownBlock = some g → base ≤ g ∧ g < w.heap.size := World.ownsRow.lt (show w.ownsRow _ _ _ _ _ _ from h)
/-- One cell is written whole. -/
def putCe (w : World) (g o : Nat) (c : Ce) : World :=
  ((((((w.setCell ⟨g, o, none⟩ (.int .i64 c.rune)).setCell ⟨g, o + 1, none⟩ (.int .i64 c.st.fore)).setCell ⟨g, o + 2, none⟩ (.int .i64 c.st.back)).setCell ⟨g, o + 3, none⟩ (.bool c.st.bold)).setCell ⟨g, o + 4, none⟩ (.bool c.st.under)).setCell ⟨g, o + 5, none⟩ (.bool c.st.turned)).setCell ⟨g, o + 6, none⟩ (.int .i64 c.part)
theorem flat_set (xs : List Ce) (c : Ce) : ∀ i, i < xs.length → ((((((((xs.flatMap ceL).set (i * 7) (.int .i64 c.rune)).set (i * 7 + 1) (.int .i64 c.st.fore)).set (i * 7 + 2) (.int .i64 c.st.back)).set (i * 7 + 3) (.bool c.st.bold)).set (i * 7 + 4) (.bool c.st.under)).set (i * 7 + 5) (.bool c.st.turned)).set (i * 7 + 6) (.int .i64 c.part)) = (xs.set i c).flatMap ceL := by
  induction xs with
  | nil => intro i h; simp at h
  | cons d xs ih =>
    intro i h
    cases i with
    | zero => simp [ceL]
    | succ i =>
      have e : ∀ k, (i + 1) * 7 + k = (i * 7 + k) + 7 := fun k => by omega
      have e0 : (i + 1) * 7 = (i * 7) + 7 := by omega
      rw [e 1, e 2, e 3, e 4, e 5, e 6, e0]
      have hs : ∀ (m : Nat) (u : Value) (l : List Value), ((ceL d ++ l).set (m + 7) u) = ceL d ++ l.set m u := fun m u l => by
        rw [List.set_append, if_neg (by simp [ceL])]
        simp [ceL]
      rw [List.flatMap_cons, hs, hs, hs, hs, hs, hs, hs, ih i (by simpa using h), List.set_cons_succ, List.flatMap_cons]
theorem OwnC.put {w : World} {base g n cap : Nat} {xs : List Ce} (h : OwnC w base (.slice (some ⟨g, 0, none⟩) n cap) xs) (hn : xs.length = n) (i : Nat) (hi : i < n) (c : Ce) :
    OwnC (putCe w g (i * 7) c) base (.slice (some ⟨g, 0, none⟩) n cap) (xs.set i c) ∧ w.grownBy (putCe w g (i * 7) c) (some g) := by
  subst hn
  have h0 := World.ownsRow.stored h (i * 7) (.int .i64 c.rune)
  have h1 := World.ownsRow.stored h0.1 (i * 7 + 1) (.int .i64 c.st.fore)
  have h2 := World.ownsRow.stored h1.1 (i * 7 + 2) (.int .i64 c.st.back)
  have h3 := World.ownsRow.stored h2.1 (i * 7 + 3) (.bool c.st.bold)
  have h4 := World.ownsRow.stored h3.1 (i * 7 + 4) (.bool c.st.under)
  have h5 := World.ownsRow.stored h4.1 (i * 7 + 5) (.bool c.st.turned)
  have h6 := World.ownsRow.stored h5.1 (i * 7 + 6) (.int .i64 c.part)
  refine ⟨?_, grown_tr (grown_tr (grown_tr (grown_tr (grown_tr (grown_tr h0.2 h1.2) h2.2) h3.2) h4.2) h5.2) h6.2⟩
  have := h6.1
  rw [flat_set xs c i hi] at this
  unfold OwnC putCe
  rw [List.length_set]
  exact this
theorem OwnC.frozen {w : World} {base g n cap : Nat} {xs : List Ce} (h : OwnC w base (.slice (some ⟨g, 0, none⟩) n cap) xs) (hn : xs.length = n) (j : Nat) : w.frozen? ⟨g, j, none⟩ = false := by
  subst hn
  exact World.ownsRow.frozenAt h j
theorem info_cell : (Try.prog.info? 63).map (fun i => (i.zero, i.size, i.bytes)) = some (some (ceV Ce.zero), 7, 40) := by kernel_rfl
/-- One cell more. -/
theorem append_oc {w : World} {ops : Array Oper} {rest : List Oper} {o : Oper} {ac : Act} {Q : Exit → Act → World → Prop} (hgd : o.guard = none) (s x : Operand)
    (ho : o.op = .call { callee := .builtin .append, args := #[s, x], argTypes := #[54, 54] })
    (base : Nat) (v : Value) (L : List Ce) (c : Ce) (hs : ac.eval s = v) (k : OwnC w base v L) (hb : base ≤ w.heap.size) (hl : L.length < 2000000)
    (g : Nat) (hg0 : w.heap.size = g) (hx : ac.eval x = .slice (some ⟨g, 0, none⟩) 1 1)
    (h : ∀ v' w', OwnC w' base v' (L ++ [c]) → (w.alloc (.cells #[.int .i64 c.rune, .int .i64 c.st.fore, .int .i64 c.st.back, .bool c.st.bold, .bool c.st.under, .bool c.st.turned, .int .i64 c.part] 63)).grownBy w' v.ownBlock → wpList Try.prog ops Q rest (ac.put o.dst v') w') :
    wpList Try.prog ops Q (o :: rest) ac (w.alloc (.cells #[.int .i64 c.rune, .int .i64 c.st.fore, .int .i64 c.st.back, .bool c.st.bold, .bool c.st.under, .bool c.st.turned, .int .i64 c.part] 63)) := by
  subst hg0
  obtain ⟨i0, hi, hz0, hz1, hz2⟩ := info_parts info_cell
  refine wpList_append_own _ hgd s x _ ho base 63 i0 (ceV Ce.zero) 7 40 Try.underlying54 hi hz0 hz1 hz2 rfl (by decide) v L.length _ hs (k.below (bal' _ _)) ⟨w.heap.size, 0, none⟩ 1 1 (ceL c) hx rfl ?_ (by intro u hu; simp [ceL] at hu; rcases hu with rfl | rfl | rfl | rfl | rfl | rfl | rfl <;> rfl) (by unfold maxLen; omega) (by omega) (by simp; omega) (fun v' w' ho' hg' _ => ?_)
  · intro j u hj
    have e : (⟨w.heap.size, 0, none⟩ : Addr).add j = ⟨w.heap.size, j, none⟩ := by unfold Addr.add; split <;> simp_all
    rw [e, cell_of_row _ w.heap.size j _ _ (0, 0) (heap_alloc_new w _)]
    simpa [ceL] using hj
  · refine h v' w' ?_ hg'
    unfold OwnC
    rw [List.length_append, List.flatMap_append]
    simpa using ho'
theorem flat_one (xs : List Ce) : ∀ u ∈ xs.flatMap ceL, u.oneCell' = true := by
  intro u hu
  obtain ⟨c, _, hu⟩ := List.mem_flatMap.1 hu
  simp [ceL] at hu
  rcases hu with rfl | rfl | rfl | rfl | rfl | rfl | rfl <;> rfl
theorem ownC_nil (w : World) (base : Nat) (hb : base ≤ w.heap.size) : OwnC (w.alloc (.cells #[] 63)) base (.slice (some ⟨w.heap.size, 0, none⟩) 0 0) [] := by
  have := World.ownsRow_lit (base := base) (e := 63) (size := 7) w #[] 0 hb (Nat.zero_le _) rfl
  simpa [OwnC] using this
end Go.Proofs.Ytpmaibkakkfaeaa
namespace Go.Proofs.Ytpmaibkakkfaeaa
open Go.ChangeShapes Go.WideShapes Go.ChangeAt Go.RowKit
theorem l4Blank_any (s : St) (w : World) :
    Calls Try.prog 36 #[stV s] w fun e w' => e = .returned (ceV (blankC s)) ∧ Below w.heap.size w w' := by
  obtain ⟨f, b, bo, un, tu⟩ := s
  unfold stV
  simp only
  go_enter Try.func36, Try.ntmps36
  go_wp2
  exact bodyPost_ret (v := .agg #[.int .i64 32, .int .i64 f, .int .i64 b, .bool bo, .bool un, .bool tu, .int .i64 0]) (by simp [results, Try.results36, go_sem]) rfl ⟨rfl, ((Below.refl _ _).alloc (Nat.le_refl _) _).alloc (by simp) _⟩
/-- A row of this call's own beside what stays. -/
def OC (base : Nat) (v : Value) (L : List Ce) (w0 W : World) : Prop := OwnC W base v L ∧ Below w0.heap.size w0 W ∧ base ≤ W.heap.size ∧ w0.heap.size ≤ base
theorem OC.below {base : Nat} {v : Value} {L : List Ce} {w0 W W' : World} (k : OC base v L w0 W) (hb : Below W.heap.size W W') : OC base v L w0 W' :=
  ⟨k.1.below hb, k.2.1.trans (hb.mono k.2.1.size), Nat.le_trans k.2.2.1 hb.size, k.2.2.2⟩
theorem OC.own {base : Nat} {v v' : Value} {L L' : List Ce} {w0 W W' : World} (k : OC base v L w0 W) (ho : OwnC W' base v' L') (hg : W.grownBy W' v.ownBlock) : OC base v' L' w0 W' :=
  ⟨ho, k.2.1.grown hg k.2.1.size (fun g e => Nat.le_trans k.2.2.2 (k.1.lt g e).1), Nat.le_trans k.2.2.1 hg.size, k.2.2.2⟩
theorem StAt.own {W W' : World} {B base : Nat} {s : St} {v : Value} {L : List Ce} (h : StAt W B s) (k : OwnC W base v L) (hB : B < base) (hg : W.grownBy W' v.ownBlock) : StAt W' B s :=
  h.grown hg (fun e => by have := (k.lt B e).1; omega)
set_option maxHeartbeats 2000000 in
theorem l4Row_any (n : Nat) (s : St) (w : World) (hn : n ≤ 1000) :
    Calls Try.prog 30 #[.int .i64 n, stV s] w fun e w' => ∃ v, e = .returned v ∧ OwnC w' w.heap.size v (rowL n s) ∧ Below w.heap.size w w' := by
  have h2 := StAt.new w s 26
  have hbA := bal' w (Obj.cells #[.int .i64 s.fore, .int .i64 s.back, .bool s.bold, .bool s.under, .bool s.turned] 26)
  have hbl := l4Blank_any s
  unfold stV ceV blankC at *
  simp only at hbl
  go_enter Try.func30, Try.ntmps30
  go_wp2
  have k0 : OC (w.heap.size + 1) (.slice (some ⟨w.heap.size + 1, 0, none⟩) 0 0) [] w ((w.alloc (Obj.cells #[.int .i64 s.fore, .int .i64 s.back, .bool s.bold, .bool s.under, .bool s.turned] 26)).alloc (Obj.cells #[] 63)) := by
    refine ⟨?_, hbA.trans ((bal' _ _).mono hbA.size), by simp, by omega⟩
    have := ownC_nil (w.alloc (Obj.cells #[.int .i64 s.fore, .int .i64 s.back, .bool s.bold, .bool s.under, .bool s.turned] 26)) (w.heap.size + 1) (by simp)
    simpa using this
  have hs0 := h2.below (bal' _ (Obj.cells #[] 63))
  go_loopw [5, 6] (fun u i wr => ∃ j : Nat, i = .int .i64 j ∧ j ≤ n ∧ OC (w.heap.size + 1) u (rowL j s) w wr ∧ StAt wr w.heap.size s) (fun _ i _ => n - (intOf i).toNat)
  case atStart => exact ⟨0, rfl, Nat.zero_le _, k0, hs0⟩
  case round =>
    clear k0 hs0 h2 hbA
    obtain ⟨j, rfl, hj, k, hs⟩ := hrel
    by_cases hlt : j < n
    · have hji : (j : Int) < (n : Int) := by omega
      have hsn : Hid (rowL (j + 1) s = rowL j s ++ [⟨32, s, 0⟩]) := by show _ = _; rw [rowL, List.replicate_succ']; rfl
      have hl : (rowL j s).length < 2000000 := by simp [rowL]; omega
      obtain ⟨_, ⟨c0, c1, c2, c3, c4⟩, _⟩ := id hs
      generalize rowL j s = L at *
      go_wp2_with fail
      refine (hbl _).mono ?_
      rintro e w1 ⟨rfl, hb1⟩
      have k1 := k.below hb1
      have hs1 := hs.below hb1
      clear k hs c0 c1 c2 c3 c4 hb1 hbl
      go_wp2_with (at_builtin; refine append_oc rfl _ _ rfl (w.heap.size + 1) _ L ⟨32, s, 0⟩ rfl (by exact k1.1) k1.2.2.1 hl _ (by simp) rfl ?_; intro v' w' ho' hg')
      have k2 := (k1.below (bal' _ _)).own ho' hg'
      have hs2 := (hs1.below (bal' _ _)).own (k1.below (bal' _ _)).1 (Nat.lt_succ_self _) hg'
      clear k1 hs1 ho' hg'
      go_wp2
      go_roundw
      case rel => exact ⟨j + 1, by go_num, by omega, by rw [hsn.out]; exact k2, hs2⟩
      case measure => simp [intOf]; omega
    · have hjn : j = n := by omega
      have hji : ¬ (j : Int) < (n : Int) := by omega
      subst hjn
      clear hbl hs
      go_wp2
      go_ret
      exact ⟨_, rfl, k.1.low (by omega), k.2.1⟩
end Go.Proofs.Ytpmaibkakkfaeaa
namespace Go.Proofs.Ytpmaibkakkfaeaa
open Go.ChangeShapes Go.WideShapes Go.ChangeAt Go.RowKit
def rowV (vs : List Value) (i : Nat) : Value := vs.getD i (.slice none 0 0)
def rowX (rows : List (List Ce)) (i : Nat) : List Ce := rows.getD i []
theorem rowV_lt {vs : List Value} {i : Nat} (h : i < vs.length) : rowV vs i = vs[i] := by simp [rowV, List.getD, h]
theorem rowX_lt {rows : List (List Ce)} {i : Nat} (h : i < rows.length) : rowX rows i = rows[i] := by simp [rowX, List.getD, h]
theorem rowV_get {vs : List Value} {i : Nat} (h : i < vs.length) : vs[i]? = some (rowV vs i) := by rw [rowV_lt h]; exact List.getElem?_eq_getElem h
theorem rowV_snoc (vs : List Value) (r : Value) (i : Nat) : rowV (vs ++ [r]) i = if i < vs.length then rowV vs i else if i = vs.length then r else .slice none 0 0 := by
  unfold rowV
  by_cases h : i < vs.length
  · rw [if_pos h]; simp [List.getD, List.getElem?_append_left h]
  · rw [if_neg h]
    by_cases e : i = vs.length
    · rw [if_pos e, e]; simp [List.getD]
    · rw [if_neg e]
      have : (vs ++ [r])[i]? = none := List.getElem?_eq_none (by simp; omega)
      simp [List.getD, this]
theorem rowX_snoc (rows : List (List Ce)) (x : List Ce) (i : Nat) : rowX (rows ++ [x]) i = if i < rows.length then rowX rows i else if i = rows.length then x else [] := by
  unfold rowX
  by_cases h : i < rows.length
  · rw [if_pos h]; simp [List.getD, List.getElem?_append_left h]
  · rw [if_neg h]
    by_cases e : i = rows.length
    · rw [if_pos e, e]; simp [List.getD]
    · rw [if_neg e]
      have : (rows ++ [x])[i]? = none := List.getElem?_eq_none (by simp; omega)
      simp [List.getD, this]
/-- A slice of rows that can be read. -/
def SlG (w : World) (v : Value) (rows : List (List Ce)) : Prop :=
  ∃ a c vs, v = .slice a rows.length c ∧ rows.length ≤ c ∧ (a = none → c = 0) ∧ (rows = [] ∨ ∃ b off, a = some ⟨b, off, none⟩ ∧ b < w.heap.size ∧ ∀ i, i < rows.length → w.cell? ⟨b, off + i, none⟩ = some (rowV vs i)) ∧ ∀ i, i < rows.length → SlC w (rowV vs i) (rowX rows i)
theorem SlG.below {w w' : World} {v : Value} {rows : List (List Ce)} (h : SlG w v rows) (hb : Below w.heap.size w w') : SlG w' v rows := by
  obtain ⟨a, c, vs, hv, hc, hn, hr, hs⟩ := h
  refine ⟨a, c, vs, hv, hc, hn, ?_, fun i hi => (hs i hi).below hb⟩
  rcases hr with hr | ⟨b, off, ha, hlt, hi⟩
  · exact .inl hr
  · exact .inr ⟨b, off, ha, Nat.lt_of_lt_of_le hlt hb.size, fun i h => (hb.cell (p := ⟨b, off + i, none⟩) hlt).trans (hi i h)⟩
/-- A slice of rows that this call owns, each row in a block of its own below B. -/
def OwnG (w : World) (base B : Nat) (v : Value) (rows : List (List Ce)) : Prop :=
  ∃ vs : List Value, vs.length = rows.length ∧ w.ownsRow base 54 1 v rows.length vs ∧ (∀ i, i < rows.length → OwnC w base (rowV vs i) (rowX rows i)) ∧
    (∀ i, i < rows.length → ∀ g, (rowV vs i).ownBlock = some g → g < B) ∧ (∀ i j, i < j → j < rows.length → ∀ g, (rowV vs i).ownBlock = some g → (rowV vs j).ownBlock ≠ some g)
theorem OwnG.below {w w' : World} {base B : Nat} {v : Value} {rows : List (List Ce)} (h : OwnG w base B v rows) (hb : Below w.heap.size w w') : OwnG w' base B v rows := by
  obtain ⟨vs, hl, ho, hr, hB, hd⟩ := h
  exact ⟨vs, hl, World.ownsRow.below ho hb, fun i hi => (hr i hi).below hb, hB, hd⟩
theorem OwnG.low {w : World} {base base' B : Nat} {v : Value} {rows : List (List Ce)} (h : OwnG w base B v rows) (hb : base' ≤ base) : OwnG w base' B v rows := by
  obtain ⟨vs, hl, ho, hr, hB, hd⟩ := h
  refine ⟨vs, hl, ⟨ho.1, ?_⟩, fun i hi => (hr i hi).low hb, hB, hd⟩
  rcases ho.2 with h2 | ⟨g, cap, cur, hv, hbg, r⟩
  · exact .inl h2
  · exact .inr ⟨g, cap, cur, hv, Nat.le_trans hb hbg, r⟩
theorem ownG_none (w : World) (base B : Nat) : OwnG w base B (.slice none 0 0) [] :=
  ⟨[], rfl, ⟨rfl, .inl ⟨rfl, rfl⟩⟩, fun i h => absurd h (Nat.not_lt_zero i), fun i h => absurd h (Nat.not_lt_zero i), fun _ j _ h => absurd h (Nat.not_lt_zero j)⟩
theorem OwnG.shape {w : World} {base B : Nat} {v : Value} {rows : List (List Ce)} (h : OwnG w base B v rows) : (v = .slice none 0 0 ∧ rows = []) ∨ ∃ g cap, v = .slice (some ⟨g, 0, none⟩) rows.length cap ∧ base ≤ g ∧ g < w.heap.size ∧ rows.length ≤ cap := by
  obtain ⟨vs, hl, ho, _⟩ := h
  rcases ho.2 with ⟨h1, h2⟩ | ⟨g, cap, cur, hv, hb, hg, hn, _⟩
  · exact .inl ⟨h1, List.eq_nil_of_length_eq_zero h2⟩
  · exact .inr ⟨g, cap, hv, hb, (Array.getElem?_eq_some_iff.1 hg).1, hn⟩
theorem SlG.of_own {w : World} {base B : Nat} {v : Value} {rows : List (List Ce)} (h : OwnG w base B v rows) : SlG w v rows := by
  obtain ⟨vs, hl, ho, hr, hB, hd⟩ := h
  rcases ho.2 with ⟨h1, h2⟩ | ⟨g, cap, cur, hv, hb, hg, hn, _, _, ht⟩
  · have : rows = [] := List.eq_nil_of_length_eq_zero h2
    subst this
    exact ⟨none, 0, vs, h1, Nat.le_refl _, fun _ => rfl, .inl rfl, fun i hi => absurd hi (Nat.not_lt_zero i)⟩
  · subst hv
    refine ⟨_, cap, vs, rfl, hn, (fun e => by cases e), .inr ⟨g, 0, rfl, (Array.getElem?_eq_some_iff.1 hg).1, fun i hi => ?_⟩, fun i hi => SlC.of_own (hr i hi)⟩
    rw [Nat.zero_add, World.ownsRow.cellAt ho i (by omega), rowV_get (by omega)]
/-- The outer block is none of the rows' blocks. -/
theorem outer_apart {w : World} {base base' n : Nat} {v r : Value} {vs : List Value} {xs : List Ce} (ho : w.ownsRow base 54 1 v n vs) (hr : OwnC w base' r xs) : r.ownBlock = none ∨ r.ownBlock ≠ v.ownBlock := by
  rcases ho.2 with ⟨h1, _⟩ | ⟨g, cap, cur, hv, _, hg, _⟩
  · cases hb : r.ownBlock with
    | none => exact .inl rfl
    | some q => right; rw [h1]; simp [Value.ownBlock]
  · rcases hr.2 with ⟨h1, _⟩ | ⟨g', cap', cur', hv', _, hg', _⟩
    · left; rw [h1]; rfl
    · right
      rw [hv, hv']
      intro e
      simp only [Value.ownBlock, Option.some.injEq] at e
      subst e
      rw [hg] at hg'
      simp only [Option.some.injEq, Obj.cells.injEq] at hg'
      exact absurd hg'.2.1 (by decide)
theorem OwnC.kept {w w' : World} {base : Nat} {r : Value} {xs : List Ce} {row : Option Nat} (h : OwnC w base r xs) (hg : w.grownBy w' row) (hne : r.ownBlock = none ∨ r.ownBlock ≠ row) : OwnC w' base r xs := World.ownsRow.kept (show w.ownsRow _ _ _ _ _ _ from h) hg hne
theorem info_row : (Try.prog.info? 54).map (fun i => (i.zero, i.size, i.bytes)) = some (some (.slice none 0 0), 1, 24) := by kernel_rfl
theorem under_rows : Try.prog.underlying 22 = some (.slice 54) := by kernel_rfl
/-- What holds behind one row more. -/
theorem og_after {w w' : World} {base B : Nat} {v v' : Value} {rows : List (List Ce)} {vs : List Value} {r : Value} {xs : List Ce} (hvl : vs.length = rows.length) (hown : w.ownsRow base 54 1 v rows.length vs)
    (hrs : ∀ i, i < rows.length → OwnC w base (rowV vs i) (rowX rows i)) (hlt : ∀ i, i < rows.length → ∀ g, (rowV vs i).ownBlock = some g → g < B) (hd : ∀ i j, i < j → j < rows.length → ∀ g, (rowV vs i).ownBlock = some g → (rowV vs j).ownBlock ≠ some g)
    (hr : OwnC w base r xs) (hB : ∀ g, r.ownBlock = some g → B ≤ g) (ho' : w'.ownsRow base 54 1 v' (rows.length + 1) (vs ++ [r])) (hg' : w.grownBy w' v.ownBlock) : OwnG w' base w'.heap.size v' (rows ++ [xs]) := by
  have hs2 := hg'.size
  refine ⟨vs ++ [r], by simp [hvl], by simpa using ho', fun i hi => ?_, fun i hi g e => ?_, fun i j hij hj g e => ?_⟩
  · rw [List.length_append, List.length_singleton] at hi
    rw [rowV_snoc, rowX_snoc, hvl]
    by_cases c : i < rows.length
    · rw [if_pos c, if_pos c]
      exact (hrs i c).kept hg' (outer_apart hown (hrs i c))
    · have e : i = rows.length := by omega
      rw [if_neg c, if_neg c, if_pos e, if_pos e]
      exact hr.kept hg' (outer_apart hown hr)
  · rw [List.length_append, List.length_singleton] at hi
    rw [rowV_snoc, hvl] at e
    by_cases c : i < rows.length
    · rw [if_pos c] at e
      have := ((hrs i c).lt g e).2; omega
    · rw [if_neg c, if_pos (by omega)] at e
      have := (hr.lt g e).2; omega
  · rw [List.length_append, List.length_singleton] at hj
    rw [rowV_snoc, hvl, if_pos (by omega)] at e
    rw [rowV_snoc, hvl]
    by_cases c : j < rows.length
    · rw [if_pos c]; exact hd i j hij c g e
    · rw [if_neg c, if_pos (by omega)]
      intro e2
      have h1 := hlt i (by omega) g e
      have h2 := hB g e2
      omega
end Go.Proofs.Ytpmaibkakkfaeaa
namespace Go.Proofs.Ytpmaibkakkfaeaa
open Go.ChangeShapes Go.WideShapes Go.ChangeAt Go.RowKit
def gridV (cols : Int) (v : Value) : Value := .agg #[.int .i64 cols, v]
/-- A grid in a block of its own. -/
def GrN (w : World) (B : Nat) (cols : Int) (v : Value) : Prop := B < w.heap.size ∧ w.cell? ⟨B, 0, none⟩ = some (.int .i64 cols) ∧ w.cell? ⟨B, 1, none⟩ = some v
theorem GrN.new (w : World) (cols : Int) (v : Value) (t : TypeId) : GrN (w.alloc (.cells #[.int .i64 cols, v] t)) w.heap.size cols v := ⟨by simp, by simp [go_sem], by simp [go_sem]⟩
theorem GrN.below {w w' : World} {B : Nat} {cols : Int} {v : Value} (h : GrN w B cols v) (hb : Below w.heap.size w w') : GrN w' B cols v :=
  ⟨Nat.lt_of_lt_of_le h.1 hb.size, (hb.cell (p := ⟨B, 0, none⟩) h.1).trans h.2.1, (hb.cell (p := ⟨B, 1, none⟩) h.1).trans h.2.2⟩
end Go.Proofs.Ytpmaibkakkfaeaa
namespace Go.Proofs.Ytpmaibkakkfaeaa
structure Pa where
  state : Int
  params : List Int
  mark : Int
  text : List Int
structure Ac where
  kind : Int
  rune : Int
  params : List Int
  mark : Int
  text : List Int
def st0 (s : Int) : Pa := ⟨s, [], 0, []⟩
def one0 (ps : List Int) : List Int := if ps.length = 0 then [0] else ps
def digitP (ps : List Int) (d : Int) : List Int := (one0 ps).set ((one0 ps).length - 1) (min 9999 (10 * (one0 ps).getD ((one0 ps).length - 1) 0 + d))
def semiP (ps : List Int) : List Int := if (one0 ps).length < 16 then one0 ps ++ [0] else one0 ps
def acR (k r : Int) : Ac := ⟨k, r, [], 0, []⟩
def escM (r : Int) : Pa × List Ac :=
  if r = 91 then (st0 3, []) else if r = 93 then (st0 4, []) else if 48 ≤ r ∧ r ≤ 126 then (st0 1, [acR 3 r]) else (st0 1, [])
/-- Whether a list takes a rune in. -/
def takes (ps : List Int) (m r : Int) : Bool := decide (r = 63 ∧ ps.length = 0 ∧ m = 0 ∨ 48 ≤ r ∧ r ≤ 57 ∨ r = 59)
def takenP (p : Pa) (r : Int) : Pa :=
  if r = 63 ∧ p.params.length = 0 ∧ p.mark = 0 then ⟨p.state, p.params, 63, p.text⟩
  else if 48 ≤ r ∧ r ≤ 57 then ⟨p.state, digitP p.params (r - 48), p.mark, p.text⟩
  else ⟨p.state, semiP p.params, p.mark, p.text⟩
def listM (p : Pa) (r : Int) : Pa × List Ac :=
  if takes p.params p.mark r = true then (takenP p r, [])
  else if 64 ≤ r ∧ r ≤ 126 then (st0 1, [⟨4, r, p.params, p.mark, []⟩]) else (st0 1, [])
def titleM (p : Pa) (r : Int) : Pa × List Ac :=
  if r = 7 then (st0 1, [⟨5, 0, [], 0, p.text⟩])
  else if r = 27 then (⟨5, p.params, p.mark, p.text⟩, [])
  else if p.text.length < 40 then (⟨p.state, p.params, p.mark, p.text ++ [r]⟩, []) else (p, [])
def endM (p : Pa) (r : Int) : Pa × List Ac := if r = 92 then (st0 1, [⟨5, 0, [], 0, p.text⟩]) else (st0 1, [])
/-- A control that leaves the state as it is. -/
def stays (r : Int) : Bool := decide ((r < 32 ∨ r = 127) ∧ r ≠ -1 ∧ r ≠ 24 ∧ r ≠ 26 ∧ r ≠ 27)
def stepM (p : Pa) (r : Int) : Pa × List Ac :=
  if p.state = 4 then titleM p r
  else if p.state = 5 then endM p r
  else if r = 27 then (st0 2, [])
  else if r = 24 ∨ r = 26 then (st0 1, [])
  else if r < 32 ∨ r = 127 then (p, [acR 2 r])
  else if p.state = 2 then escM r
  else if p.state = 3 then listM p r
  else if 0 < widthV r then (p, [acR 1 r]) else (p, [])
def parsedM : Pa → List Int → Pa × List Ac
  | p, [] => (p, [])
  | p, r :: l => ((parsedM (stepM p r).1 l).1, (stepM p r).2 ++ (parsedM (stepM p r).1 l).2)
/-- What comes of a parser, of what is left and of what was told. -/
def Fin (p : Pa) (l : List Int) (t : List Ac) : Pa × List Ac := ((parsedM p l).1, t ++ (parsedM p l).2)
theorem Fin_cons (p : Pa) (r : Int) (l : List Int) (t : List Ac) : Fin p (r :: l) t = Fin (stepM p r).1 l (t ++ (stepM p r).2) := by simp [Fin, parsedM]
end Go.Proofs.Ytpmaibkakkfaeaa
namespace Go.Proofs.Ytpmaibkakkfaeaa
open Go.ChangeShapes Go.WideShapes Go.ChangeAt Go.RowKit
theorem own_low' {w : World} {base base' : Nat} {e : TypeId} {size : Nat} {v : Value} {n : Nat} {xs : List Value} (h : w.ownsRow base e size v n xs) (hb : base' ≤ base) : w.ownsRow base' e size v n xs := by
  refine ⟨h.1, ?_⟩
  rcases h.2 with h2 | ⟨g, cap, cur, hv, hbg, r⟩
  · exact .inl h2
  · exact .inr ⟨g, cap, cur, hv, Nat.le_trans hb hbg, r⟩
/-- A list of numbers of this call's own. -/
def OwnI (w : World) (base : Nat) (v : Value) (xs : List Int) : Prop := w.ownsRow base 2 1 v xs.length (xs.map (Value.int .i64))
theorem OwnI.below {w w' : World} {base : Nat} {v : Value} {xs : List Int} (h : OwnI w base v xs) (hb : Below w.heap.size w w') : OwnI w' base v xs := World.ownsRow.below h hb
theorem OwnI.kept {w w' : World} {base : Nat} {v : Value} {xs : List Int} {row : Option Nat} (h : OwnI w base v xs) (hg : w.grownBy w' row) (hne : v.ownBlock = none ∨ v.ownBlock ≠ row) : OwnI w' base v xs := World.ownsRow.kept (show w.ownsRow _ _ _ _ _ _ from h) hg hne
theorem OwnI.low {w : World} {base base' : Nat} {v : Value} {xs : List Int} (h : OwnI w base v xs) (hb : base' ≤ base) : OwnI w base' v xs := own_low' h hb
theorem OwnI.lt {w : World} {base : Nat} {v : Value} {xs : List Int} (h : OwnI w base v xs) : ∀ g, v.ownBlock = some g → base ≤ g ∧ g < w.heap.size := fun g e => World.ownsRow.lt h g e
theorem OwnI.sl {w : World} {base : Nat} {v : Value} {xs : List Int} (h : OwnI w base v xs) : SlI w v xs := SlI.of_own h
theorem OwnI.shape {w : World} {base : Nat} {v : Value} {xs : List Int} (h : OwnI w base v xs) : ∃ a n c, v = .slice a n c := by
  obtain ⟨a, c, hv, _⟩ := h.sl
  exact ⟨a, _, c, hv⟩
theorem ownI_nil (w : World) (base : Nat) : OwnI w base (.slice none 0 0) [] := World.ownsRow_nil _ _ _ _
/-- Two slices over no common block. -/
def ApV (u v : Value) : Prop := ∀ g, u.ownBlock = some g → v.ownBlock ≠ some g
theorem ApV.symm {u v : Value} (h : ApV u v) : ApV v u := fun g e1 e2 => h g e2 e1
theorem ApV.nil_l (v : Value) : ApV (.slice none 0 0) v := fun g e => by simp [Value.ownBlock] at e
theorem ApV.ne {u v : Value} (h : ApV u v) : u.ownBlock = none ∨ u.ownBlock ≠ v.ownBlock := by
  cases hu : u.ownBlock with
  | none => exact .inl rfl
  | some g => right; intro e; exact h g hu e.symm
/-- Lists of numbers of this call's own, no two over one block. -/
def LiOk (w : World) (base : Nat) (L : List (Value × List Int)) : Prop := (∀ p ∈ L, OwnI w base p.1 p.2) ∧ L.Pairwise fun p q => ApV p.1 q.1
theorem LiOk.below {w w' : World} {base : Nat} {L : List (Value × List Int)} (h : LiOk w base L) (hb : Below w.heap.size w w') : LiOk w' base L := ⟨fun p hp => (h.1 p hp).below hb, h.2⟩
theorem LiOk.low {w : World} {base base' : Nat} {L : List (Value × List Int)} (h : LiOk w base L) (hb : base' ≤ base) : LiOk w base' L := ⟨fun p hp => (h.1 p hp).low hb, h.2⟩
theorem LiOk.perm {w : World} {base : Nat} {L M : List (Value × List Int)} (h : LiOk w base L) (hp : L.Perm M) : LiOk w base M :=
  ⟨fun _ hm => h.1 _ (hp.mem_iff.2 hm), (hp.pairwise_iff (fun {_ _} h => ApV.symm h)).1 h.2⟩
theorem LiOk.sub {w : World} {base : Nat} {L M : List (Value × List Int)} (h : LiOk w base L) (hp : M.Sublist L) : LiOk w base M :=
  ⟨fun _ hm => h.1 _ (hp.subset hm), h.2.sublist hp⟩
theorem LiOk.nil (w : World) (base : Nat) : LiOk w base [] := ⟨fun _ h => absurd h (List.not_mem_nil), List.Pairwise.nil⟩
theorem LiOk.tail {w : World} {base : Nat} {x : Value × List Int} {L : List (Value × List Int)} (h : LiOk w base (x :: L)) : LiOk w base L := h.sub (List.sublist_cons_self _ _)
theorem LiOk.head {w : World} {base : Nat} {x : Value × List Int} {L : List (Value × List Int)} (h : LiOk w base (x :: L)) : OwnI w base x.1 x.2 := h.1 x (List.mem_cons_self)
theorem LiOk.nilc {w : World} {base : Nat} {L : List (Value × List Int)} (h : LiOk w base L) : LiOk w base ((.slice none 0 0, []) :: L) :=
  ⟨fun p hp => by
    rcases List.mem_cons.1 hp with rfl | hp
    · exact ownI_nil _ _
    · exact h.1 p hp, List.Pairwise.cons (fun q _ => ApV.nil_l _) h.2⟩
/-- One list more, over a block that is new. -/
theorem LiOk.new {w w' : World} {base : Nat} {L : List (Value × List Int)} (h : LiOk w base L) (hb : Below w.heap.size w w') {v : Value} {xs : List Int} (ho : OwnI w' base v xs) (hn : ∀ g, v.ownBlock = some g → w.heap.size ≤ g) : LiOk w' base ((v, xs) :: L) :=
  ⟨fun p hp => by
    rcases List.mem_cons.1 hp with rfl | hp
    · exact ho
    · exact (h.1 p hp).below hb, List.Pairwise.cons (fun q hq g e1 e2 => by have := hn g e1; have := ((h.1 q hq).lt g e2).2; omega) h.2⟩
/-- The first list grows, in its own block or a new one. -/
theorem LiOk.grow {w w' : World} {base : Nat} {v v' : Value} {xs ys : List Int} {L : List (Value × List Int)} (h : LiOk w base ((v, xs) :: L)) (hg : w.grownBy w' v.ownBlock) (ho : OwnI w' base v' ys) (hat : ∀ g, v'.ownBlock = some g → v.ownBlock = some g ∨ w.heap.size ≤ g) : LiOk w' base ((v', ys) :: L) := by
  have hp := List.pairwise_cons.1 h.2
  refine ⟨fun p hm => ?_, List.Pairwise.cons (fun q hq g e1 e2 => ?_) hp.2⟩
  · rcases List.mem_cons.1 hm with rfl | hm
    · exact ho
    · exact (h.1 p (List.mem_cons_of_mem _ hm)).kept hg ((hp.1 p hm).symm.ne)
  · rcases hat g e1 with e | e
    · exact hp.1 q hq g e e2
    · have := ((h.1 q (List.mem_cons_of_mem _ hq)).lt g e2).2; omega
/-- What is not among them changes. -/
theorem LiOk.kept {w w' : World} {base : Nat} {L : List (Value × List Int)} {row : Option Nat} (h : LiOk w base L) (hg : w.grownBy w' row) (hne : ∀ p ∈ L, p.1.ownBlock = none ∨ p.1.ownBlock ≠ row) : LiOk w' base L :=
  ⟨fun p hp => (h.1 p hp).kept hg (hne p hp), h.2⟩
/-- No list of numbers lies in a block of another kind. -/
theorem OwnI.not_block {w : World} {base : Nat} {v : Value} {xs : List Int} (h : OwnI w base v xs) {B : Nat} {cs : Array Value} {t : TypeId} {fr : Nat × Nat} (hB : w.heap[B]? = some (.cells cs t fr)) (ht : t ≠ 2) : v.ownBlock ≠ some B := by
  intro e
  rcases h.2 with ⟨hv, _⟩ | ⟨g, cap, cur, hv, _, hg, _⟩
  · rw [hv] at e; simp [Value.ownBlock] at e
  · rw [hv] at e
    simp only [Value.ownBlock, Option.some.injEq] at e
    subst e
    rw [hB] at hg
    simp only [Option.some.injEq, Obj.cells.injEq] at hg
    exact ht hg.2.1

/-- An action with the values of its lists. -/
structure Ax where
  a : Ac
  pv : Value
  tv : Value
/-- A parser in a block of its own. -/
def paV (p : Pa) (pv tv : Value) : Value := .agg #[.int .i64 p.state, pv, .int .i64 p.mark, tv]
def PaC (w : World) (B : Nat) (s : Int) (pv : Value) (m : Int) (tv : Value) : Prop :=
  B < w.heap.size ∧ (w.cell? ⟨B, 0, none⟩ = some (.int .i64 s) ∧ w.cell? ⟨B, 1, none⟩ = some pv ∧ w.cell? ⟨B, 2, none⟩ = some (.int .i64 m) ∧ w.cell? ⟨B, 3, none⟩ = some tv) ∧
    (w.frozen? ⟨B, 0, none⟩ = false ∧ w.frozen? ⟨B, 1, none⟩ = false ∧ w.frozen? ⟨B, 2, none⟩ = false ∧ w.frozen? ⟨B, 3, none⟩ = false)
theorem PaC.grown {w w' : World} {B : Nat} {s m : Int} {pv tv : Value} {row : Option Nat} (h : PaC w B s pv m tv) (hg : w.grownBy w' row) (hr : row ≠ some B) : PaC w' B s pv m tv := by
  have hb := hg.block B h.1 (Ne.symm hr)
  have hc : ∀ k, w'.cell? ⟨B, k, none⟩ = w.cell? ⟨B, k, none⟩ := fun k => World.cell?_of_block (w := w) hb
  have hz : ∀ k, w'.frozen? ⟨B, k, none⟩ = w.frozen? ⟨B, k, none⟩ := fun k => World.frozen?_of_block (w := w) hb
  refine ⟨Nat.lt_of_lt_of_le h.1 hg.size, ?_, ?_⟩
  · rw [hc, hc, hc, hc]; exact h.2.1
  · rw [hz, hz, hz, hz]; exact h.2.2
theorem PaC.below {w w' : World} {B : Nat} {s m : Int} {pv tv : Value} (h : PaC w B s pv m tv) (hb : Below w.heap.size w w') : PaC w' B s pv m tv := h.grown (gbl hb none) (by simp)
theorem PaC.new (w : World) (s m : Int) (pv tv : Value) (t : TypeId) : PaC (w.alloc (.cells #[.int .i64 s, pv, .int .i64 m, tv] t)) w.heap.size s pv m tv :=
  ⟨by simp, ⟨by simp [go_sem], by simp [go_sem], by simp [go_sem], by simp [go_sem]⟩, ⟨by simp [go_sem], by simp [go_sem], by simp [go_sem], by simp [go_sem]⟩⟩
end Go.Proofs.Ytpmaibkakkfaeaa
namespace Go.Proofs.Ytpmaibkakkfaeaa
open Go.ChangeShapes Go.WideShapes Go.ChangeAt Go.RowKit
theorem SlI.cons {w : World} {v : Value} {xs : List Int} (h : SlI w v xs) : ∃ a c, v = .slice a xs.length c ∧ ∀ j, j < xs.length → ∃ b off, a = some ⟨b, off, none⟩ ∧ w.cell? ⟨b, off + j, none⟩ = some (.int .i64 (xs.getD j 0)) := by
  obtain ⟨a, c, hv, h | ⟨b, off, ha, hlt, hc⟩⟩ := h
  · exact ⟨a, c, hv, fun j hj => by rw [h] at hj; simp at hj⟩
  · exact ⟨a, c, hv, fun j hj => ⟨b, off, ha, hc j hj⟩⟩
theorem SlI.shp {w : World} {v : Value} {xs : List Int} (h : SlI w v xs) : ∃ a c, v = .slice a xs.length c := by
  obtain ⟨a, c, hv, _⟩ := h
  exact ⟨a, c, hv⟩
end Go.Proofs.Ytpmaibkakkfaeaa
namespace Go.Proofs.Ytpmaibkakkfaeaa
open Go.ChangeShapes Go.WideShapes Go.ChangeAt Go.RowKit
/-- A slice that can be read and cut at its head. -/
def SlL (w : World) (v : Value) (xs : List Int) : Prop :=
  ∃ a c, v = .slice a xs.length c ∧ xs.length ≤ c ∧ (xs = [] ∨ ∃ b off, a = some ⟨b, off, none⟩ ∧ b < w.heap.size ∧ ∀ i, i < xs.length → w.cell? ⟨b, off + i, none⟩ = some (.int .i64 (xs.getD i 0)))
theorem SlL.sl {w : World} {v : Value} {xs : List Int} (h : SlL w v xs) : SlI w v xs := by
  obtain ⟨a, c, hv, _, hr⟩ := h
  exact ⟨a, c, hv, hr⟩
theorem SlL.below {w w' : World} {v : Value} {xs : List Int} (h : SlL w v xs) (hb : Below w.heap.size w w') : SlL w' v xs := by
  obtain ⟨a, c, hv, hc0, h | ⟨b, off, ha, hlt, hc⟩⟩ := h
  · exact ⟨a, c, hv, hc0, .inl h⟩
  · exact ⟨a, c, hv, hc0, .inr ⟨b, off, ha, Nat.lt_of_lt_of_le hlt hb.size, fun i hi => (hb.cell (p := ⟨b, off + i, none⟩) hlt).trans (hc i hi)⟩⟩
theorem SlL.of_own {w : World} {base : Nat} {v : Value} {xs : List Int} (h : OwnI w base v xs) : SlL w v xs := by
  rcases h.2 with ⟨rfl, h2⟩ | ⟨g, cap, cur, rfl, hb, hg, hn, hr⟩
  · exact ⟨none, 0, by rw [h2], by omega, .inl (List.eq_nil_of_length_eq_zero h2)⟩
  · refine ⟨_, cap, rfl, hn, .inr ⟨g, 0, rfl, (Array.getElem?_eq_some_iff.1 hg).1, fun i hi => ?_⟩⟩
    have := World.ownsRow.cellAt h i (by omega)
    rw [Nat.zero_add, this]
    simp [hi]
theorem SlL.tail {w : World} {a : Option Addr} {n c : Nat} {r : Int} {xs : List Int} (h : SlL w (.slice a n c) (r :: xs)) :
    ∃ b off, a = some ⟨b, off, none⟩ ∧ b < w.heap.size ∧ n = xs.length + 1 ∧ n ≤ c ∧ w.cell? ⟨b, off + 0, none⟩ = some (.int .i64 r) ∧ ∀ a' c', xs.length ≤ c' → (0 < xs.length → a' = some ⟨b, off + 1, none⟩) → SlL w (.slice a' xs.length c') xs := by
  obtain ⟨a0, c0, hv, hc0, h | ⟨b, off, ha, hlt, hc⟩⟩ := h
  · cases h
  · simp only [Value.slice.injEq] at hv
    obtain ⟨rfl, rfl, rfl⟩ := hv
    refine ⟨b, off, ha, hlt, rfl, hc0, by simpa using hc 0 (by simp), fun a' c' h1 h2 => ⟨a', c', rfl, h1, ?_⟩⟩
    by_cases h0 : xs = []
    · exact .inl h0
    · refine .inr ⟨b, off + 1, h2 (List.length_pos_iff.2 h0), hlt, fun i hi => ?_⟩
      have := hc (i + 1) (by simp; omega)
      rw [show off + 1 + i = off + (i + 1) by omega, this]
      simp
end Go.Proofs.Ytpmaibkakkfaeaa
namespace Go.Proofs.Ytpmaibkakkfaeaa
open Go.ChangeShapes Go.WideShapes Go.ChangeAt Go.RowKit
def Runes6 (l : List Int) : Prop := ∀ x ∈ l, runeOk x = true
theorem Runes6.tail {l : List Int} (h : Runes6 l) : Runes6 l.tail := fun x hx => h x (List.mem_of_mem_tail hx)
theorem Runes6.head {r : Int} {l : List Int} (h : Runes6 (r :: l)) : 0 ≤ r ∧ r ≤ 1114111 := runeOk_bd r (h r (List.mem_cons_self))
def acs (X : List Ax) : List Ac := X.map (·.a)
/-- The rune that comes next, of which nothing is done yet. -/
def NextR (p q : Pa) (l l' : List Int) (X X' : List Ax) (r : Int) : Prop :=
  (r = -1 ∧ l' = [] ∧ Fin p l (acs X) = Fin q [] (acs X')) ∨ (0 ≤ r ∧ runeOk r = true ∧ l'.length < l.length ∧ Fin p l (acs X) = Fin q (r :: l') (acs X'))
def Room (l l' : List Int) (X X' : List Ax) (r : Int) : Prop := (r = -1 → X'.length + l'.length ≤ X.length + l.length) ∧ (r ≠ -1 → X'.length + l'.length < X.length + l.length) ∧ Runes6 l'
/-- One rune is done with, and the next one comes. -/
theorem NextR.go {p q q' : Pa} {l l' : List Int} {X X' Y : List Ax} {r : Int} (h : NextR p q l l' X X' r) (hR : Room l l' X X' r) (h1 : r ≠ -1) (hs : (stepM q r).1 = q') (ha : acs Y = acs X' ++ (stepM q r).2) (hY : Y.length ≤ X'.length + 1) :
    NextR p q' l l'.tail X Y (l'.headD (-1)) ∧ Room l l'.tail X Y (l'.headD (-1)) := by
  obtain ⟨_, hR2, hR3⟩ := hR
  have hR2 := hR2 h1
  rcases h with ⟨h, _⟩ | ⟨h0, hk, hlt, he⟩
  · exact absurd h h1
  · rw [Fin_cons, hs, ← ha] at he
    cases l' with
    | nil => exact ⟨.inl ⟨rfl, rfl, he⟩, fun _ => by simp at hR2 ⊢; omega, fun h => absurd rfl h, hR3⟩
    | cons a l' =>
      have hl : (a :: l').length = l'.length + 1 := rfl
      exact ⟨.inr ⟨hR3.head.1, hR3 a (List.mem_cons_self), by simp; omega, he⟩, fun _ => by simp at hR2 ⊢; omega, fun _ => by simp at hR2 ⊢; omega, hR3.tail⟩
theorem NextR.more {p q : Pa} {l l' : List Int} {X X' : List Ax} {r : Int} (h : NextR p q l l' X X' r) (hr : r ≠ -1) : 0 ≤ r ∧ runeOk r = true ∧ l'.length < l.length ∧ Fin p l (acs X) = Fin q (r :: l') (acs X') := by
  rcases h with ⟨h, _⟩ | h
  · exact absurd h hr
  · exact h
theorem NextR.trans {p q q2 : Pa} {l l' l2 : List Int} {X X' X2 : List Ax} {r r2 : Int} (h : NextR p q l l' X X' r) (hR : Room l l' X X' r) (h1 : r ≠ -1) {Y : List Ax} (hs : (stepM q r).1 = q2) (ha : acs Y = acs X' ++ (stepM q r).2) (hY : Y.length ≤ X'.length + 1) {q3 : Pa}
    (k : NextR q2 q3 l' l2 Y X2 r2) (kR : Room l' l2 Y X2 r2) : NextR p q3 l l2 X X2 r2 ∧ Room l l2 X X2 r2 := by
  obtain ⟨h0, hk, hlt, he⟩ := h.more h1
  rw [Fin_cons, hs, ← ha] at he
  obtain ⟨_, hR2, hR3⟩ := hR
  have hR2 := hR2 h1
  obtain ⟨k1, k2, k3⟩ := kR
  refine ⟨?_, fun e => by have := k1 e; omega, fun e => by have := k2 e; omega, k3⟩
  rcases k with ⟨a, b, c⟩ | ⟨a, b, c, d⟩
  · exact .inl ⟨a, b, he.trans c⟩
  · exact .inr ⟨a, b, by omega, he.trans d⟩
end Go.Proofs.Ytpmaibkakkfaeaa
namespace Go.Proofs.Ytpmaibkakkfaeaa
open Go.ChangeShapes Go.WideShapes Go.ChangeAt Go.RowKit
/-- A slice whose cells hold these values, one a place: what append takes its news from. -/
def ReadsRow (w : World) (u : Value) (news : List Value) : Prop :=
  (u = .slice none 0 0 ∧ news = []) ∨ ∃ ad c, u = .slice (some ad) news.length c ∧ ∀ j x, news[j]? = some x → w.cell? (ad.add j) = some x
theorem ReadsRow.of_own {w : World} {base : Nat} {e : TypeId} {v : Value} {n : Nat} {xs : List Value} (h : w.ownsRow base e 1 v n xs) : ReadsRow w v xs := by
  have hl : xs.length = n := by simpa using h.1
  rcases h.2 with ⟨rfl, rfl⟩ | ⟨g, cap, cur, hv, _⟩
  · exact .inl ⟨rfl, List.eq_nil_of_length_eq_zero hl⟩
  · exact .inr ⟨⟨g, 0, none⟩, cap, by rw [hv, hl], h.cells (by rw [hv]; rfl)⟩
theorem ReadsRow.below {w w' : World} {u : Value} {news : List Value} (h : ReadsRow w u news) (hb : Below w.heap.size w w') : ReadsRow w' u news := by
  rcases h with h | ⟨ad, c, hu, hc⟩
  · exact .inl h
  · refine .inr ⟨ad, c, hu, fun j x hx => ?_⟩
    have h1 := hc j x hx
    exact (hb.cell (World.block_lt_of_cell? w _ h1)).trans h1
end Go.Proofs.Ytpmaibkakkfaeaa
namespace Go.Proofs.Ytpmaibkakkfaeaa
open Go.ChangeShapes Go.WideShapes Go.ChangeAt Go.RowKit
/-- A slice that can be read, cut and copied. -/
def SlN (w : World) (v : Value) (xs : List Int) : Prop :=
  ∃ a c, v = .slice a xs.length c ∧ xs.length ≤ c ∧ (a = none → c = 0) ∧ (xs = [] ∨ ∃ b off, a = some ⟨b, off, none⟩ ∧ b < w.heap.size ∧ ∀ i, i < xs.length → w.cell? ⟨b, off + i, none⟩ = some (.int .i64 (xs.getD i 0)))
theorem SlN.l {w : World} {v : Value} {xs : List Int} (h : SlN w v xs) : SlL w v xs := by
  obtain ⟨a, c, hv, hc, _, hr⟩ := h
  exact ⟨a, c, hv, hc, hr⟩
theorem SlN.below {w w' : World} {v : Value} {xs : List Int} (h : SlN w v xs) (hb : Below w.heap.size w w') : SlN w' v xs := by
  obtain ⟨a, c, hv, hc0, hn, h | ⟨b, off, ha, hlt, hc⟩⟩ := h
  · exact ⟨a, c, hv, hc0, hn, .inl h⟩
  · exact ⟨a, c, hv, hc0, hn, .inr ⟨b, off, ha, Nat.lt_of_lt_of_le hlt hb.size, fun i hi => (hb.cell (p := ⟨b, off + i, none⟩) hlt).trans (hc i hi)⟩⟩
theorem SlN.of_own {w : World} {base : Nat} {v : Value} {xs : List Int} (h : OwnI w base v xs) : SlN w v xs := by
  rcases h.2 with ⟨rfl, h2⟩ | ⟨g, cap, cur, rfl, hb, hg, hn, hr⟩
  · exact ⟨none, 0, by rw [h2], by omega, fun _ => rfl, .inl (List.eq_nil_of_length_eq_zero h2)⟩
  · refine ⟨_, cap, rfl, hn, (fun e => by cases e), .inr ⟨g, 0, rfl, (Array.getElem?_eq_some_iff.1 hg).1, fun i hi => ?_⟩⟩
    have := World.ownsRow.cellAt h i (by omega)
    rw [Nat.zero_add, this]
    simp [hi]
theorem SlN.shp {w : World} {v : Value} {xs : List Int} (h : SlN w v xs) : ∃ a c, v = .slice a xs.length c := h.l.sl.shp
/-- Four cells of a parser are written. -/
def putP (w : World) (B : Nat) (s : Int) (pv : Value) (m : Int) (tv : Value) : World := (((w.setCell ⟨B, 0, none⟩ (.int .i64 s)).setCell ⟨B, 1, none⟩ pv).setCell ⟨B, 2, none⟩ (.int .i64 m)).setCell ⟨B, 3, none⟩ tv
theorem PaC.put {w : World} {B : Nat} {s m : Int} {pv tv : Value} (h : PaC w B s pv m tv) (s' m' : Int) (pv' tv' : Value) : PaC (putP w B s' pv' m' tv') B s' pv' m' tv' := by
  obtain ⟨hlt, ⟨c0, c1, c2, c3⟩, ⟨z0, z1, z2, z3⟩⟩ := h
  refine ⟨by simpa [putP] using hlt, ⟨?_, ?_, ?_, ?_⟩, ⟨?_, ?_, ?_, ?_⟩⟩
  all_goals simp only [putP]
  · simp [go_sem, c0]
  · simp [go_sem, c1]
  · simp [go_sem, c2]
  · simp [go_sem, c3]
  all_goals simp [go_sem, z0, z1, z2, z3]
end Go.Proofs.Ytpmaibkakkfaeaa
namespace Go.Proofs.Ytpmaibkakkfaeaa
open Go.ChangeShapes Go.WideShapes Go.ChangeAt Go.RowKit
theorem load_T {P : Program} {w : World} {ops : Array Oper} {rest : List Oper} {o : Oper} {a : Act} {Q : Exit → Act → World → Prop} (hgd : Region.wanted o (yielded ops a.tmps) = true) (t : TypeId) (x : Operand)
    (ho : o.op = .load t x) {e : TypeId} {B : Nat} {cs : Array Value} {fr : Nat × Nat} {d : TypeDesc} (hu : P.underlying t = some d) (hd : (match d with | .struct _ | .array _ _ => true | _ => false) = true) (hi : (P.info? t).map (·.size) = some cs.size) (hb : w.heap[B]? = some (.cells cs e fr)) (hx : a.eval x = .pointer (some ⟨B, 0, none⟩))
    (h : wpList P ops Q rest (a.put o.dst (.agg cs)) w) : wpList P ops Q (o :: rest) a w := by
  refine wpList_step fun K hK => ?_
  rw [if_pos hgd]
  exact wp_load_row t x ho B hx e cs fr d hb hu hd hi (hK _ _ h)
theorem setRow_gr (w : World) (g : Nat) (cs : Array Value) : w.grownBy (w.setRow g cs) (some g) := by
  refine ⟨rfl, rfl, rfl, by simp, fun k _ hk => ?_⟩
  have : ¬ g = k := fun e => hk (by rw [e])
  simp only [World.setRow]
  rw [Array.getElem?_modify]
  simp [this]
theorem store_T {P : Program} {w : World} {ops : Array Oper} {rest : List Oper} {o : Oper} {a : Act} {Q : Exit → Act → World → Prop} (hgd : Region.wanted o (yielded ops a.tmps) = true) (t : TypeId) (x y : Operand)
    (ho : o.op = .store t x y) {e : TypeId} {B : Nat} {old cs : Array Value} (hi : (P.info? t).map (·.size) = some cs.size) (hold : old.size = cs.size) (h1 : cs.toList.all (·.oneCell') = true) (hb : w.heap[B]? = some (.cells old e (0, 0))) (hx : a.eval x = .pointer (some ⟨B, 0, none⟩)) (hy : a.eval y = .agg cs)
    (h : ∀ w', w.grownBy w' (some B) → w'.heap[B]? = some (.cells cs e (0, 0)) → w'.heap.size = w.heap.size → wpList P ops Q rest (a.put o.dst undef) w') : wpList P ops Q (o :: rest) a w := by
  refine wpList_step fun K hK => ?_
  rw [if_pos hgd]
  exact wp_store_row t x y ho B cs hx hy e old hb hi hold (by rw [← Array.all_toList]; exact h1) (hK _ _ (h _ (setRow_gr w B cs) (setRow_heap w B old cs e (0, 0) hb) (by simp)))
/-- A block's cells, named. -/
def BlkC (w : World) (B : Nat) (e : TypeId) (L : List Value) : Prop := w.heap[B]? = some (.cells L.toArray e (0, 0))
end Go.Proofs.Ytpmaibkakkfaeaa
namespace Go.Proofs.Ytpmaibkakkfaeaa
open Go.ChangeShapes Go.WideShapes Go.ChangeAt Go.RowKit
def FillAt (g : Nat) (w : World) : Prop :=
  g < w.heap.size ∧ w.cell? ⟨g, 1, none⟩ = some (.string ({ data := #[160, 128, 128] } : ByteArray)) ∧ w.cell? ⟨g, 2, none⟩ = some (.string ({ data := #[144, 128, 128] } : ByteArray)) ∧ w.cell? ⟨g, 3, none⟩ = some (.string ({ data := #[191, 191, 191] } : ByteArray)) ∧ w.cell? ⟨g, 4, none⟩ = some (.string ({ data := #[159, 191, 191] } : ByteArray)) ∧ w.cell? ⟨g, 5, none⟩ = some (.string ({ data := #[143, 191, 191] } : ByteArray))
theorem FillAt.below {g : Nat} {w w' : World} (h : FillAt g w) (hb : Below w.heap.size w w') : FillAt g w' := by
  obtain ⟨hg, q1, q2, q3, q4, q5⟩ := h
  exact ⟨Nat.lt_of_lt_of_le hg hb.size, (hb.cell (p := ⟨g, 1, none⟩) hg).trans q1, (hb.cell (p := ⟨g, 2, none⟩) hg).trans q2, (hb.cell (p := ⟨g, 3, none⟩) hg).trans q3, (hb.cell (p := ⟨g, 4, none⟩) hg).trans q4, (hb.cell (p := ⟨g, 5, none⟩) hg).trans q5⟩
end Go.Proofs.Ytpmaibkakkfaeaa
namespace Go.Proofs.Ytpmaibkakkfaeaa
open Go.ChangeShapes Go.WideShapes Go.ChangeAt Go.RowKit
structure Te where
  gc : Int
  g : List (List Ce)
  oc : Int
  o : List (List Ce)
  row : Int
  col : Int
  st : St
  top : Int
  bot : Int
  full : Bool
  wrap : Bool
  away : Bool
  hid : Bool
  sr : Int
  sc : Int
  ss : St
  ti : List Int
  pa : Pa
  fe : ByteArray
/-- The values of its lists. -/
structure Tv where
  g : Value
  o : Value
  ti : Value
  pp : Value
  pt : Value
def teCs (t : Te) (v : Tv) : Array Value := #[.int .i64 t.gc, v.g, .int .i64 t.oc, v.o, .int .i64 t.row, .int .i64 t.col, .int .i64 t.st.fore, .int .i64 t.st.back, .bool t.st.bold, .bool t.st.under, .bool t.st.turned, .int .i64 t.top, .int .i64 t.bot, .bool t.full, .bool t.wrap, .bool t.away, .bool t.hid, .int .i64 t.sr, .int .i64 t.sc, .int .i64 t.ss.fore, .int .i64 t.ss.back, .bool t.ss.bold, .bool t.ss.under, .bool t.ss.turned, v.ti, .int .i64 t.pa.state, v.pp, .int .i64 t.pa.mark, v.pt, .string t.fe]
def teV (t : Te) (v : Tv) : Value := .agg (teCs t v)
/-- A screen's block, whole. -/
def TeB (w : World) (B : Nat) (T : TypeId) (t : Te) (v : Tv) : Prop := w.heap[B]? = some (.cells (teCs t v) T (0, 0))
theorem TeB.lt {w : World} {B : Nat} {T : TypeId} {t : Te} {v : Tv} (h : TeB w B T t v) : B < w.heap.size := (Array.getElem?_eq_some_iff.1 h).1
theorem TeB.kept {w w' : World} {B : Nat} {T : TypeId} {t : Te} {v : Tv} {row : Option Nat} (h : TeB w B T t v) (hg : w.grownBy w' row) (hne : row ≠ some B) : TeB w' B T t v := by
  unfold TeB
  rw [hg.block B h.lt (Ne.symm hne)]
  exact h
theorem TeB.below {w w' : World} {B : Nat} {T : TypeId} {t : Te} {v : Tv} (h : TeB w B T t v) (hb : Below w.heap.size w w') : TeB w' B T t v := h.kept (gbl hb none) (by simp)
theorem TeB.new (w : World) (T : TypeId) (t : Te) (v : Tv) : TeB (w.alloc (.cells (teCs t v) T)) w.heap.size T t v := heap_alloc_new w _
theorem TeB.cells {w : World} {B : Nat} {T : TypeId} {t : Te} {v : Tv} (h : TeB w B T t v) :
    w.cell? ⟨B, 0, none⟩ = some (.int .i64 t.gc) ∧ w.cell? ⟨B, 1, none⟩ = some (v.g) ∧ w.cell? ⟨B, 2, none⟩ = some (.int .i64 t.oc) ∧ w.cell? ⟨B, 3, none⟩ = some (v.o) ∧ w.cell? ⟨B, 4, none⟩ = some (.int .i64 t.row) ∧ w.cell? ⟨B, 5, none⟩ = some (.int .i64 t.col) ∧ w.cell? ⟨B, 6, none⟩ = some (.int .i64 t.st.fore) ∧ w.cell? ⟨B, 7, none⟩ = some (.int .i64 t.st.back) ∧ w.cell? ⟨B, 8, none⟩ = some (.bool t.st.bold) ∧ w.cell? ⟨B, 9, none⟩ = some (.bool t.st.under) ∧ w.cell? ⟨B, 10, none⟩ = some (.bool t.st.turned) ∧ w.cell? ⟨B, 11, none⟩ = some (.int .i64 t.top) ∧ w.cell? ⟨B, 12, none⟩ = some (.int .i64 t.bot) ∧ w.cell? ⟨B, 13, none⟩ = some (.bool t.full) ∧ w.cell? ⟨B, 14, none⟩ = some (.bool t.wrap) ∧ w.cell? ⟨B, 15, none⟩ = some (.bool t.away) ∧ w.cell? ⟨B, 16, none⟩ = some (.bool t.hid) ∧ w.cell? ⟨B, 17, none⟩ = some (.int .i64 t.sr) ∧ w.cell? ⟨B, 18, none⟩ = some (.int .i64 t.sc) ∧ w.cell? ⟨B, 19, none⟩ = some (.int .i64 t.ss.fore) ∧ w.cell? ⟨B, 20, none⟩ = some (.int .i64 t.ss.back) ∧ w.cell? ⟨B, 21, none⟩ = some (.bool t.ss.bold) ∧ w.cell? ⟨B, 22, none⟩ = some (.bool t.ss.under) ∧ w.cell? ⟨B, 23, none⟩ = some (.bool t.ss.turned) ∧ w.cell? ⟨B, 24, none⟩ = some (v.ti) ∧ w.cell? ⟨B, 25, none⟩ = some (.int .i64 t.pa.state) ∧ w.cell? ⟨B, 26, none⟩ = some (v.pp) ∧ w.cell? ⟨B, 27, none⟩ = some (.int .i64 t.pa.mark) ∧ w.cell? ⟨B, 28, none⟩ = some (v.pt) ∧ w.cell? ⟨B, 29, none⟩ = some (.string t.fe) := by
  refine ⟨?_, ?_, ?_, ?_, ?_, ?_, ?_, ?_, ?_, ?_, ?_, ?_, ?_, ?_, ?_, ?_, ?_, ?_, ?_, ?_, ?_, ?_, ?_, ?_, ?_, ?_, ?_, ?_, ?_, ?_⟩ <;> (rw [cell_of_row w B _ _ _ (0, 0) h]; rfl)
theorem TeB.frozen {w : World} {B : Nat} {T : TypeId} {t : Te} {v : Tv} (h : TeB w B T t v) (k : Nat) : w.frozen? ⟨B, k, none⟩ = false := frozen_of_row w B k _ _ h
/-- A screen whose lists can be read. -/
def SlT (w : World) (t : Te) (v : Tv) : Prop := SlG w v.g t.g ∧ SlG w v.o t.o ∧ SlN w v.ti t.ti ∧ SlN w v.pp t.pa.params ∧ SlN w v.pt t.pa.text
theorem SlT.below {w w' : World} {t : Te} {v : Tv} (h : SlT w t v) (hb : Below w.heap.size w w') : SlT w' t v := ⟨h.1.below hb, h.2.1.below hb, h.2.2.1.below hb, h.2.2.2.1.below hb, h.2.2.2.2.below hb⟩
def SzT (n : Nat) (t : Te) : Prop := t.g.length ≤ n ∧ (∀ i, i < t.g.length → (rowX t.g i).length ≤ n) ∧ t.o.length ≤ n ∧ (∀ i, i < t.o.length → (rowX t.o i).length ≤ n) ∧ t.ti.length ≤ n ∧ t.pa.params.length ≤ n ∧ t.pa.text.length ≤ n
theorem slG_shp {w : World} {v : Value} {rows : List (List Ce)} (h : SlG w v rows) : ∃ a c, v = .slice a rows.length c := by
  obtain ⟨a, c, vs, rfl, _⟩ := h
  exact ⟨a, c, rfl⟩
theorem info_te : (Try.prog.info? 33).map (·.size) = some 30 := by kernel_rfl
theorem load_te {w : World} {ops : Array Oper} {rest : List Oper} {o : Oper} {a : Act} {Q : Exit → Act → World → Prop} {B : Nat} {t : Te} {v : Tv} (hb : TeB w B 33 t v) (hgd : Region.wanted o (yielded ops a.tmps) = true) (x : Operand)
    (ho : o.op = .load 33 x) (hx : a.eval x = .pointer (some ⟨B, 0, none⟩))
    (h : wpList Try.prog ops Q rest (a.put o.dst (.agg (teCs t v))) w) : wpList Try.prog ops Q (o :: rest) a w :=
  load_T (cs := teCs t v) hgd 33 x ho Try.underlying33 rfl info_te hb hx h
end Go.Proofs.Ytpmaibkakkfaeaa
namespace Go.Proofs.Ytpmaibkakkfaeaa
open Go.ChangeShapes Go.WideShapes Go.ChangeAt Go.RowKit
theorem eqStyle_same (s : St) (w : World) :
    Calls Try.prog 13 #[stV s, stV s] w fun e w' => e = .returned (.bool true) ∧ Below w.heap.size w w' := by
  obtain ⟨f, b, bo, un, tu⟩ := s
  unfold stV
  simp only
  go_enter Try.func13, Try.ntmps13
  go_wp2
  go_ret
  exact ⟨rfl, ((Below.refl _ _).alloc (Nat.le_refl _) _).alloc (by simp) _⟩
end Go.Proofs.Ytpmaibkakkfaeaa
namespace Go.Proofs.Ytpmaibkakkfaeaa
open Go.ChangeShapes Go.WideShapes Go.ChangeAt Go.RowKit
/-- A cell whole in block B, writable. -/
def CeF (w : World) (B : Nat) (c : Ce) : Prop :=
  B < w.heap.size ∧ (w.cell? ⟨B, 0, none⟩ = some (.int .i64 c.rune) ∧ w.cell? ⟨B, 1, none⟩ = some (.int .i64 c.st.fore) ∧ w.cell? ⟨B, 2, none⟩ = some (.int .i64 c.st.back) ∧ w.cell? ⟨B, 3, none⟩ = some (.bool c.st.bold) ∧ w.cell? ⟨B, 4, none⟩ = some (.bool c.st.under) ∧ w.cell? ⟨B, 5, none⟩ = some (.bool c.st.turned) ∧ w.cell? ⟨B, 6, none⟩ = some (.int .i64 c.part)) ∧
    (w.frozen? ⟨B, 0, none⟩ = false ∧ w.frozen? ⟨B, 1, none⟩ = false ∧ w.frozen? ⟨B, 2, none⟩ = false ∧ w.frozen? ⟨B, 3, none⟩ = false ∧ w.frozen? ⟨B, 4, none⟩ = false ∧ w.frozen? ⟨B, 5, none⟩ = false ∧ w.frozen? ⟨B, 6, none⟩ = false)
theorem CeF.new (w : World) (c : Ce) (t : TypeId) : CeF (w.alloc (.cells #[.int .i64 c.rune, .int .i64 c.st.fore, .int .i64 c.st.back, .bool c.st.bold, .bool c.st.under, .bool c.st.turned, .int .i64 c.part] t)) w.heap.size c :=
  ⟨by simp, ⟨by simp [go_sem], by simp [go_sem], by simp [go_sem], by simp [go_sem], by simp [go_sem], by simp [go_sem], by simp [go_sem]⟩, ⟨by simp [go_sem], by simp [go_sem], by simp [go_sem], by simp [go_sem], by simp [go_sem], by simp [go_sem], by simp [go_sem]⟩⟩
theorem CeF.grown {w w' : World} {B : Nat} {c : Ce} {row : Option Nat} (h : CeF w B c) (hg : w.grownBy w' row) (hr : row ≠ some B) : CeF w' B c := by
  have hb := hg.block B h.1 (Ne.symm hr)
  have hc : ∀ k, w'.cell? ⟨B, k, none⟩ = w.cell? ⟨B, k, none⟩ := fun k => World.cell?_of_block (w := w) hb
  have hz : ∀ k, w'.frozen? ⟨B, k, none⟩ = w.frozen? ⟨B, k, none⟩ := fun k => World.frozen?_of_block (w := w) hb
  refine ⟨Nat.lt_of_lt_of_le h.1 hg.size, ?_, ?_⟩
  · rw [hc, hc, hc, hc, hc, hc, hc]; exact h.2.1
  · rw [hz, hz, hz, hz, hz, hz, hz]; exact h.2.2
theorem CeF.below {w w' : World} {B : Nat} {c : Ce} (h : CeF w B c) (hb : Below w.heap.size w w') : CeF w' B c := h.grown (gbl hb none) (by simp)
/-- Another cell is written there whole. -/
def putF (w : World) (B : Nat) (c : Ce) : World := (((((((w.setCell ⟨B, 0, none⟩ (.int .i64 c.rune)).setCell ⟨B, 1, none⟩ (.int .i64 c.st.fore)).setCell ⟨B, 2, none⟩ (.int .i64 c.st.back)).setCell ⟨B, 3, none⟩ (.bool c.st.bold)).setCell ⟨B, 4, none⟩ (.bool c.st.under)).setCell ⟨B, 5, none⟩ (.bool c.st.turned)).setCell ⟨B, 6, none⟩ (.int .i64 c.part))
theorem CeF.put {w : World} {B : Nat} {c : Ce} (h : CeF w B c) (c' : Ce) : CeF (putF w B c') B c' := by
  obtain ⟨hlt, ⟨c0, c1, c2, c3, c4, c5, c6⟩, ⟨z0, z1, z2, z3, z4, z5, z6⟩⟩ := h
  refine ⟨by simpa [putF] using hlt, ⟨?_, ?_, ?_, ?_, ?_, ?_, ?_⟩, ⟨?_, ?_, ?_, ?_, ?_, ?_, ?_⟩⟩
  all_goals simp only [putF]
  · rw [setCell_ne' _ _ _ _ _ (by decide), setCell_ne' _ _ _ _ _ (by decide), setCell_ne' _ _ _ _ _ (by decide), setCell_ne' _ _ _ _ _ (by decide), setCell_ne' _ _ _ _ _ (by decide), setCell_ne' _ _ _ _ _ (by decide)]; simp [go_sem, c0]
  · rw [setCell_ne' _ _ _ _ _ (by decide), setCell_ne' _ _ _ _ _ (by decide), setCell_ne' _ _ _ _ _ (by decide), setCell_ne' _ _ _ _ _ (by decide), setCell_ne' _ _ _ _ _ (by decide)]; simp [go_sem, c1]
  · rw [setCell_ne' _ _ _ _ _ (by decide), setCell_ne' _ _ _ _ _ (by decide), setCell_ne' _ _ _ _ _ (by decide), setCell_ne' _ _ _ _ _ (by decide)]; simp [go_sem, c2]
  · rw [setCell_ne' _ _ _ _ _ (by decide), setCell_ne' _ _ _ _ _ (by decide), setCell_ne' _ _ _ _ _ (by decide)]; simp [go_sem, c3]
  · rw [setCell_ne' _ _ _ _ _ (by decide), setCell_ne' _ _ _ _ _ (by decide)]; simp [go_sem, c4]
  · rw [setCell_ne' _ _ _ _ _ (by decide)]; simp [go_sem, c5]
  · simp [go_sem, c6]
  · simp [go_sem, z0]
  · simp [go_sem, z1]
  · simp [go_sem, z2]
  · simp [go_sem, z3]
  · simp [go_sem, z4]
  · simp [go_sem, z5]
  · simp [go_sem, z6]
end Go.Proofs.Ytpmaibkakkfaeaa
namespace Go.Proofs.Ytpmaibkakkfaeaa
open Go.ChangeShapes Go.WideShapes Go.ChangeAt Go.RowKit
def BS (a w : World) : Prop := Below a.heap.size a w ∧ a.heap.size ≤ w.heap.size
theorem BS.out {a w : World} (h : BS a w) : Below a.heap.size a w := h.1
theorem BS.set {a w : World} (h : BS a w) (g k : Nat) (u : Value) (hg : a.heap.size ≤ g) : BS a (w.setCell ⟨g, k, none⟩ u) :=
  ⟨h.1.grown (setCell_gr w g k u) h.2 (fun k hk => by cases hk; exact hg), by simpa using h.2⟩
set_option maxHeartbeats 1000000 in
theorem eqCell_same (c : Ce) (w : World) :
    Calls Try.prog 38 #[ceV c, ceV c] w fun e w' => e = .returned (.bool true) ∧ Below w.heap.size w w' := by
  have heq := fun W => eqStyle_same c.st W
  have b1 := bal' w (Obj.cells #[.int .i64 c.rune, .int .i64 c.st.fore, .int .i64 c.st.back, .bool c.st.bold, .bool c.st.under, .bool c.st.turned, .int .i64 c.part] 63)
  have b2 := b1.trans ((bal' _ (Obj.cells #[.int .i64 c.rune, .int .i64 c.st.fore, .int .i64 c.st.back, .bool c.st.bold, .bool c.st.under, .bool c.st.turned, .int .i64 c.part] 63)).mono b1.size)
  have s2 := (CeF.new w c 63).below (bal' _ (Obj.cells #[.int .i64 c.rune, .int .i64 c.st.fore, .int .i64 c.st.back, .bool c.st.bold, .bool c.st.under, .bool c.st.turned, .int .i64 c.part] 63))
  have r2 := CeF.new (w.alloc (Obj.cells #[.int .i64 c.rune, .int .i64 c.st.fore, .int .i64 c.st.back, .bool c.st.bold, .bool c.st.under, .bool c.st.turned, .int .i64 c.part] 63)) c 63
  have z1 : (w.alloc (Obj.cells #[.int .i64 c.rune, .int .i64 c.st.fore, .int .i64 c.st.back, .bool c.st.bold, .bool c.st.under, .bool c.st.turned, .int .i64 c.part] 63)).heap.size = w.heap.size + 1 := by simp
  rw [z1] at r2
  unfold ceV stV at *
  go_enter Try.func38, Try.ntmps38
  go_wp2_with fail
  refine (heq _).mono ?_
  rintro e w1 ⟨rfl, hb1⟩
  have s3 := s2.below hb1
  have r3 := r2.below hb1
  have b3 := b2.trans (hb1.mono b2.size)
  clear s2 r2 b1 b2 hb1 z1 heq
  obtain ⟨_, ⟨c0, c1, c2, c3, c4, c5, c6⟩, _⟩ := s3
  obtain ⟨_, ⟨d0, d1, d2, d3, d4, d5, d6⟩, _⟩ := r3
  go_wp2
  go_ret
  exact ⟨rfl, b3⟩
end Go.Proofs.Ytpmaibkakkfaeaa
namespace Go.Proofs.Ytpmaibkakkfaeaa
open Go.ChangeShapes Go.WideShapes Go.ChangeAt Go.RowKit
set_option maxHeartbeats 1000000 in
theorem eqC_same (va vb : Value) (xs : List Ce) (w : World) (ha : SlC w va xs) (hb : SlC w vb xs) (hl : xs.length ≤ 1073741824) :
    Calls Try.prog 33 #[va, vb] w fun e w' => e = .returned (.bool true) ∧ Below w.heap.size w w' := by
  have heq := fun c W => eqCell_same c W
  obtain ⟨a, c, rfl, hc1, hn1, hr1⟩ := ha
  obtain ⟨a', c', rfl, hc2, hn2, hr2⟩ := hb
  rcases hr1 with h | ⟨b, off, rfl, hbb, hs1⟩
  · subst h
    go_enter Try.func33, Try.ntmps33
    go_wp2
    refine wp_loop_rounds 1 ?_
    rw [rounds_succ]
    go_wp2
    go_ret
    exact ⟨rfl, Below.refl _ _⟩
  · rcases hr2 with h | ⟨b', off', rfl, hbb', hs2⟩
    · subst h
      go_enter Try.func33, Try.ntmps33
      go_wp2
      refine wp_loop_rounds 1 ?_
      rw [rounds_succ]
      go_wp2
      go_ret
      exact ⟨rfl, Below.refl _ _⟩
    · unfold ceV at heq
      go_enter Try.func33, Try.ntmps33
      go_wp2
      go_loopw [5] (fun i wr => ∃ j : Nat, i = .int .i64 j ∧ j ≤ xs.length ∧ Below w.heap.size w wr) (fun i _ => xs.length - (intOf i).toNat)
      case atStart => exact ⟨0, rfl, Nat.zero_le _, Below.refl _ _⟩
      case round =>
        obtain ⟨j, rfl, hj, kb⟩ := hrel
        by_cases hlt : j < xs.length
        · have hji : (j : Int) < (xs.length : Int) := by omega
          have hj0 : (0 : Int) ≤ (j : Int) := by omega
          have kd : Below w.heap.size w wr.drew := kb.trans ((bdr _).mono kb.size)
          have hat1 := (hs1 j hlt).below kd hbb
          have hat2 := (hs2 j hlt).below kd hbb'
          obtain ⟨c0, c1, c2, c3, c4, c5, c6⟩ := hat1
          obtain ⟨d0, d1, d2, d3, d4, d5, d6⟩ := hat2
          clear hs1 hs2 
          go_wp2
          go_region_with (go_at_call 38; refine (heq (atC xs j) _).mono ?_; rintro e w1 ⟨rfl, hb1⟩)
          all_goals
            have kb1 := kd.trans (hb1.mono kd.size)
            clear c0 c1 c2 c3 c4 c5 c6 d0 d1 d2 d3 d4 d5 d6 kd kb hb1 heq
            go_wp2
            go_roundw
            case rel => exact ⟨j + 1, by go_num, by omega, kb1⟩
            case measure => simp [intOf]; omega
        · have hji : ¬ (j : Int) < (xs.length : Int) := by omega
          go_wp2
          go_ret
          exact ⟨rfl, kb⟩
theorem SlC.at {w : World} {a : Option Addr} {n c : Nat} {xs : List Ce} (h : SlC w (.slice a n c) xs) (j : Nat) (hj : j < xs.length) : ∃ b off, a = some ⟨b, off, none⟩ ∧ b < w.heap.size ∧ CeAt w b (off + j * 7) (atC xs j) := by
  obtain ⟨a', c', e, _, _, hr⟩ := h
  simp only [Value.slice.injEq] at e
  obtain ⟨rfl, rfl, rfl⟩ := e
  rcases hr with h | ⟨b, off, ha, hb, hi⟩
  · rw [h] at hj; simp at hj
  · exact ⟨b, off, ha, hb, hi j hj⟩
end Go.Proofs.Ytpmaibkakkfaeaa
namespace Go.Proofs.Ytpmaibkakkfaeaa
theorem atC_ge {l : List Ce} {i : Nat} (h : l.length ≤ i) : atC l i = Ce.zero := by simp [atC, List.getD, List.getElem?_eq_none h]
def genL (n : Nat) (f : Nat → Ce) : List Ce := (List.range n).map f
theorem genL_len (n : Nat) (f : Nat → Ce) : (genL n f).length = n := by simp [genL]
theorem genL_at (n : Nat) (f : Nat → Ce) (i : Nat) (h : i < n) : atC (genL n f) i = f i := by
  rw [atC_lt (by rw [genL_len]; exact h)]; simp [genL]
/-- A cell that is right by itself. -/
def c1 (c : Ce) : Prop := c.st.ok = true ∧ ((c.part = 0 ∧ widthV c.rune = 1) ∨ (c.part = 1 ∧ widthV c.rune = 2) ∨ (c.part = 2 ∧ c.rune = 0))
def Right (l : List Ce) : Prop :=
  (∀ i, i < l.length → c1 (atC l i)) ∧ (∀ i, (atC l i).part = 1 → (atC l (i + 1)).part = 2 ∧ (atC l (i + 1)).st = (atC l i).st) ∧ (∀ i, (atC l i).part = 2 → 0 < i ∧ (atC l (i - 1)).part = 1)
def Semi (l : List Ce) : Prop :=
  (∀ i, i < l.length → c1 (atC l i)) ∧ (∀ i, (atC l i).part = 1 → (atC l (i + 1)).part = 2 → (atC l (i + 1)).st = (atC l i).st)
theorem part_lt {l : List Ce} {i : Nat} (h : (atC l i).part ≠ 0) : i < l.length := by
  rcases Nat.lt_or_ge i l.length with h1 | h1
  · exact h1
  · rw [atC_ge h1] at h; exact absurd rfl h
theorem Right.c1 {l : List Ce} (h : Right l) {i : Nat} (hi : i < l.length) : c1 (atC l i) := h.1 i hi
theorem Semi.take {l : List Ce} (h : Semi l) (n : Nat) : Semi (l.take n) := by
  have e : ∀ i, atC (l.take n) i = if i < n then atC l i else Ce.zero := fun i => by
    by_cases hi : i < n
    · rw [if_pos hi, atC_take l n i hi]
    · rw [if_neg hi, atC_ge (by rw [List.length_take]; omega)]
  refine ⟨fun i hi => ?_, fun i h1 h2 => ?_⟩
  · rw [List.length_take] at hi
    rw [e, if_pos (by omega)]
    exact h.1 i (by omega)
  · rw [e] at h1 h2 ⊢
    rw [e]
    split at h1
    · split at h2
      · rename_i q1 q2
        rw [if_pos q2, if_pos q1]
        exact h.2 i h1 h2
      · exact absurd h2 (by decide)
    · exact absurd h1 (by decide)
theorem Semi.drop {l : List Ce} (h : Semi l) (n : Nat) : Semi (l.drop n) := by
  refine ⟨fun i hi => ?_, fun i h1 h2 => ?_⟩
  · rw [List.length_drop] at hi
    rw [atC_drop]; exact h.1 (n + i) (by omega)
  · rw [atC_drop] at h1 h2 ⊢
    rw [atC_drop]
    have := h.2 (n + i) h1 (by rw [Nat.add_assoc]; exact h2)
    rwa [Nat.add_assoc] at this
theorem app_at (l m : List Ce) (i : Nat) : atC (l ++ m) i = if i < l.length then atC l i else atC m (i - l.length) := by
  by_cases h : i < l.length
  · rw [if_pos h, atC_append_left l m i h]
  · rw [if_neg h]
    have := atC_append_right l m (i - l.length)
    rwa [show l.length + (i - l.length) = i by omega] at this
theorem Right.append {l m : List Ce} (h : Right l) (k : Right m) : Right (l ++ m) := by
  refine ⟨fun i hi => ?_, fun i h1 => ?_, fun i h2 => ?_⟩
  · rw [List.length_append] at hi
    rw [app_at]
    split
    · rename_i q; exact h.1 i q
    · exact k.1 _ (by omega)
  · rw [app_at] at h1
    split at h1
    · have := h.2.1 i h1
      have hlt : i + 1 < l.length := part_lt (by rw [this.1]; decide)
      rename_i q
      rw [app_at, app_at, if_pos hlt, if_pos q]; exact this
    · rename_i q
      have := k.2.1 _ h1
      rw [app_at, app_at, if_neg (by omega), if_neg q]
      rwa [show i + 1 - l.length = i - l.length + 1 by omega]
  · rw [app_at] at h2
    split at h2
    · rename_i q
      have := h.2.2 i h2
      rw [app_at, if_pos (by omega)]; exact this
    · rename_i q
      have := k.2.2 _ h2
      rw [app_at, if_neg (by omega)]
      refine ⟨by omega, ?_⟩
      rw [show i - 1 - l.length = i - l.length - 1 by omega]; exact this.2
theorem rowL_at (n : Nat) (s : St) (i : Nat) (h : i < n) : atC (rowL n s) i = blankC s := by
  rw [atC_lt (by simp [rowL]; exact h)]; simp [rowL]
end Go.Proofs.Ytpmaibkakkfaeaa
namespace Go.Proofs.Ytpmaibkakkfaeaa
theorem Right.two {l : List Ce} (h : Right l) {p : Nat} (h2 : (atC l p).part = 2) : 0 < p ∧ p < l.length ∧ (atC l (p - 1)).part = 1 ∧ (atC l p).st = (atC l (p - 1)).st := by
  have := h.2.2 p h2
  have h3 := (h.2.1 (p - 1) this.2).2
  rw [show p - 1 + 1 = p by omega] at h3
  exact ⟨this.1, part_lt (by rw [h2]; decide), this.2, h3⟩
theorem rowL_len (n : Nat) (s : St) : (rowL n s).length = n := by simp [rowL]
end Go.Proofs.Ytpmaibkakkfaeaa
namespace Go.Proofs.Ytpmaibkakkfaeaa
open Go.ChangeShapes Go.WideShapes Go.ChangeAt Go.RowKit
theorem flat_take (xs : List Ce) : ∀ k, (xs.flatMap ceL).take (k * 7) = (xs.take k).flatMap ceL := by
  induction xs with
  | nil => intro k; simp
  | cons c xs ih =>
    intro k
    cases k with
    | zero => simp
    | succ k =>
      rw [List.flatMap_cons, List.take_succ_cons, List.flatMap_cons, List.take_append, ← ih k]
      have hl : (ceL c).length = 7 := rfl
      rw [List.take_of_length_le (by rw [hl]; omega), hl, show (k + 1) * 7 - 7 = k * 7 by omega]
theorem flat_drop (xs : List Ce) : ∀ k, (xs.flatMap ceL).drop (k * 7) = (xs.drop k).flatMap ceL := by
  induction xs with
  | nil => intro k; simp
  | cons c xs ih =>
    intro k
    cases k with
    | zero => simp
    | succ k =>
      have hl : (ceL c).length = 7 := rfl
      rw [List.flatMap_cons, List.drop_succ_cons, ← ih k, List.drop_append, hl, List.drop_of_length_le (by rw [hl]; omega), List.nil_append, show (k + 1) * 7 - 7 = k * 7 by omega]
def windL (L : List Ce) (q : Nat) (M : List Ce) : List Ce := L.take q ++ M ++ L.drop (q + M.length)
theorem windL_len (L : List Ce) (q : Nat) (M : List Ce) (h : q + M.length ≤ L.length) : (windL L q M).length = L.length := by unfold windL; simp; omega
theorem windL_at (L : List Ce) (q : Nat) (M : List Ce) (h : q + M.length ≤ L.length) (i : Nat) : atC (windL L q M) i = if q ≤ i ∧ i < q + M.length then atC M (i - q) else atC L i := by
  have h1 : (L.take q).length = q := by rw [List.length_take]; omega
  unfold windL
  rw [app_at, app_at, List.length_append, h1]
  by_cases c1 : i < q
  · rw [if_pos (by omega), if_pos c1, if_neg (by omega), atC_take L q i c1]
  · by_cases c2 : i < q + M.length
    · rw [if_pos c2, if_neg c1, if_pos (by omega)]
    · rw [if_neg c2, if_neg (by omega), atC_drop, show q + M.length + (i - (q + M.length)) = i by omega]
theorem OwnC.cur {w : World} {base g n cap : Nat} {L : List Ce} (h : OwnC w base (.slice (some ⟨g, 0, none⟩) n cap) L) (hn : L.length = n) :
    ∃ cur : Array Value, w.heap[g]? = some (.cells cur 63 (0, 0)) ∧ base ≤ g ∧ n ≤ cap ∧ cap ≤ maxLen ∧ cur.size = cap * 7 ∧ cur.toList.take (n * 7) = L.flatMap ceL := by
  subst hn
  rcases h.2 with ⟨h1, _⟩ | ⟨g', cap', cur, hv, hb, hg, hc, hm, hs, ht⟩
  · cases h1
  · simp only [Value.slice.injEq, Option.some.injEq, Addr.mk.injEq, and_true, true_and] at hv
    obtain ⟨rfl, rfl⟩ := hv
    exact ⟨cur, hg, hb, hc, hm, hs, ht⟩
theorem OwnC.relaid {w : World} {base g n cap : Nat} {L : List Ce} (h : OwnC w base (.slice (some ⟨g, 0, none⟩) n cap) L) (hn : L.length = n) (cur : Array Value) (hg : w.heap[g]? = some (.cells cur 63 (0, 0)))
    (q : Nat) (M : List Ce) (hq : q + M.length ≤ n) :
    OwnC (w.setRow g (cur.toList.take (q * 7) ++ M.flatMap ceL ++ cur.toList.drop (q * 7 + (M.flatMap ceL).length)).toArray) base (.slice (some ⟨g, 0, none⟩) n cap) (windL L q M) ∧
      w.grownBy (w.setRow g (cur.toList.take (q * 7) ++ M.flatMap ceL ++ cur.toList.drop (q * 7 + (M.flatMap ceL).length)).toArray) (some g) := by
  obtain ⟨cur', hg', hb, hc, hm, hs, ht⟩ := h.cur hn
  rw [hg] at hg'
  simp only [Option.some.injEq, Obj.cells.injEq, and_true] at hg'
  subst hg'
  have hl := windL_len L q M (by omega)
  refine ⟨⟨by rw [flat_len, hl], .inr ⟨g, cap, _, by rw [hl, hn], hb, setRow_heap w g cur _ 63 _ hg, by omega, hm, ?_, ?_⟩⟩, ⟨rfl, rfl, rfl, by simp [World.setRow], fun k _ hk => setRow_other w g k _ (fun e => hk (by simp [e]))⟩⟩
  · have : M.length * 7 ≤ n * 7 - q * 7 := by omega
    have : n * 7 ≤ cap * 7 := by omega
    rw [List.size_toArray, List.length_append, List.length_append, List.length_take, List.length_drop, flat_len, Array.length_toList, hs]; omega
  · rw [hl, hn]
    have e1 : cur.toList.take (q * 7) = (L.take q).flatMap ceL := by
      rw [← flat_take, ← ht, List.take_take, Nat.min_eq_left (by omega)]
    have e2 : (cur.toList.drop (q * 7 + (M.flatMap ceL).length)).take (n * 7 - (q + M.length) * 7) = (L.drop (q + M.length)).flatMap ceL := by
      rw [← flat_drop, ← ht, flat_len, ← Nat.add_mul, List.drop_take]
    unfold windL
    rw [List.flatMap_append, List.flatMap_append, ← e1, ← e2]
    have hl1 : (cur.toList.take (q * 7) ++ M.flatMap ceL).length = (q + M.length) * 7 := by
      rw [List.length_append, List.length_take, flat_len, Array.length_toList, hs]; omega
    rw [List.take_append, List.take_of_length_le (by rw [hl1]; omega), hl1]
theorem replC_flat (z : Ce) (k : Nat) : (Builtin.zeroCells (ceL z).toArray k).toList = (List.replicate k z).flatMap ceL := by
  apply List.ext_getElem?
  intro j
  have hl : (ceL z).length = 7 := rfl
  by_cases hj : j < k * 7
  · have h2 : j % 7 < 7 := Nat.mod_lt _ (by decide)
    have e := flat_get (List.replicate k z) (j / 7) (j % 7) (by simp; omega) h2
    rw [show j / 7 * 7 + j % 7 = j by omega] at e
    rw [e]
    have ea : atC (List.replicate k z) (j / 7) = z := by rw [atC_lt (by simp; omega)]; simp
    rw [ea]
    simp only [Builtin.zeroCells, List.size_toArray, hl]
    rw [Array.getElem?_toList, Array.getElem?_map, Array.getElem?_range]
    rw [if_pos hj]
    simp only [Option.map_some]
    rw [getElem!_pos _ _ (by simpa [hl] using h2)]
    simp
  · have h1 : ((Builtin.zeroCells (ceL z).toArray k).toList)[j]? = none := by
      apply List.getElem?_eq_none; simp [Builtin.zeroCells, hl]; omega
    have h2 : ((List.replicate k z).flatMap ceL)[j]? = none := by
      apply List.getElem?_eq_none; rw [flat_len]; simp; omega
    rw [h1, h2]
theorem under_cells : Try.prog.underlying 54 = some (.slice 63) := by kernel_rfl
theorem zero_cell (w : World) : (zeroValue 63).run Try.prog w = .ok (ceV Ce.zero) w := by
  obtain ⟨i, hi, hz, _⟩ := info_parts info_cell
  simp [zeroValue, typeInfo, hi, hz]
/-- 'clear' of a window. -/
theorem clear_oc {w : World} {ops : Array Oper} {rest : List Oper} {o : Oper} {ac : Act} {Q : Exit → Act → World → Prop} (hgd : o.guard = none) (s : Operand)
    (ho : o.op = .call { callee := .builtin .clear, args := #[s], argTypes := #[54] })
    (base g n cap q k c off : Nat) (L : List Ce) (h : OwnC w base (.slice (some ⟨g, 0, none⟩) n cap) L) (hn : L.length = n) (hq : q + k ≤ n) (hoff : off = q * 7) (hs : ac.eval s = .slice (some ⟨g, off, none⟩) k c)
    (hK : ∀ w', OwnC w' base (.slice (some ⟨g, 0, none⟩) n cap) (windL L q (List.replicate k Ce.zero)) → w.grownBy w' (some g) → wpList Try.prog ops Q rest (ac.put o.dst (.tuple #[])) w') :
    wpList Try.prog ops Q (o :: rest) ac w := by
  subst hoff
  refine wpList_plain hgd fun K hK' => ?_
  obtain ⟨cur, hg, hb, hc, hm, hsz, ht⟩ := h.cur hn
  have hwin := h.relaid hn cur hg q (List.replicate k Ce.zero) (by simpa using hq)
  by_cases h0 : k = 0
  · subst h0
    have hrun : ∀ ty, (Builtin.clear_ #[54] ty #[.slice (some ⟨g, q * 7, none⟩) 0 c]).run Try.prog w = .ok (.tuple #[]) w := fun ty => by
      simp [Builtin.clear_, run_underlying under_cells]
    unfold Oper.wp
    simp [execOp, ho, resolve, invoke, builtin, hs, hrun, Result.andThen]
    refine hK' _ _ (hK w ?_ ⟨rfl, rfl, rfl, Nat.le_refl _, fun _ _ _ => rfl⟩)
    have e : windL L q (List.replicate 0 Ce.zero) = L := by simp [windL]
    rw [e]; exact h
  · have hfl := flat_len (List.replicate k Ce.zero)
    rw [List.length_replicate] at hfl
    have hz : (ceV Ce.zero).cells = (ceL Ce.zero).toArray := rfl
    have hst := run_storeCells_at Try.prog g (q * 7) 63 ((List.replicate k Ce.zero).flatMap ceL) 0 cur w hg (by rw [hfl, hsz]; omega) (flat_one _)
    rw [Nat.add_zero] at hst
    obtain ⟨m, rfl⟩ : ∃ m, k = m + 1 := ⟨k - 1, by omega⟩
    have hrun : ∀ ty, (Builtin.clear_ #[54] ty #[.slice (some ⟨g, q * 7, none⟩) (m + 1) c]).run Try.prog w = .ok (.tuple #[]) (w.setRow g (cur.toList.take (q * 7) ++ (List.replicate (m + 1) Ce.zero).flatMap ceL ++ cur.toList.drop (q * 7 + ((List.replicate (m + 1) Ce.zero).flatMap ceL).length)).toArray) := fun ty => by
      simp only [Builtin.clear_]
      simp only [Sem.run_bind, run_underlying under_cells, Result.andThen_ok, zero_cell, hz, replC_flat, hst, List.getElem?_toArray, List.getElem?_cons_zero]
      simp
    unfold Oper.wp
    simp [execOp, ho, resolve, invoke, builtin, hs, hrun, Result.andThen]
    have := hK _ hwin.1 hwin.2
    simp at this
    exact hK' _ _ this
/-- 'make([]Cell, n)'. -/
theorem made_zero (n : Nat) : (madeCells (ceV Ce.zero).cells (n * 7)).toList = (List.replicate n Ce.zero).flatMap ceL := by
  apply List.ext_getElem?
  intro i
  by_cases hi : i < n * 7
  · have h1 : i / 7 < n := by omega
    have h2 : i % 7 < 7 := Nat.mod_lt _ (by decide)
    have e : i = i / 7 * 7 + i % 7 := by omega
    have hr : ((List.replicate n Ce.zero).flatMap ceL)[i]? = (ceL Ce.zero)[i % 7]? := by
      conv => lhs; rw [e]
      rw [flat_get _ (i / 7) (i % 7) (by simpa using h1) h2]
      simp [atC, h1]
    rw [hr]
    simp only [madeCells, Array.toList_map, List.getElem?_map, Array.toList_range]
    rw [List.getElem?_range hi]
    generalize he : i % 7 = k at *
    have hz : (ceV Ce.zero).cells.size = 7 := rfl
    simp only [Option.map_some, hz, he]
    match k, h2 with
    | 0, _ => rfl
    | 1, _ => rfl
    | 2, _ => rfl
    | 3, _ => rfl
    | 4, _ => rfl
    | 5, _ => rfl
    | 6, _ => rfl
  · rw [List.getElem?_eq_none (by simp [size_madeCells]; omega), List.getElem?_eq_none (by rw [flat_len]; simp; omega)]
theorem make_oc {w : World} {ops : Array Oper} {rest : List Oper} {o : Oper} {ac : Act} {Q : Exit → Act → World → Prop} (hgd : o.guard = none) (x y : Operand)
    (ho : o.op = Op.makeSlice 54 x y) (n : Nat) (hx : ac.eval x = .int .i64 (n : Int)) (hy : ac.eval y = .int .i64 (n : Int)) (hn : n ≤ 1073741824)
    (h : ∀ w', OwnC w' w.heap.size (.slice (some ⟨w.heap.size, 0, none⟩) n n) (List.replicate n Ce.zero) → Below w.heap.size w w' → wpList Try.prog ops Q rest (ac.put o.dst (.slice (some ⟨w.heap.size, 0, none⟩) n n)) w') :
    wpList Try.prog ops Q (o :: rest) ac w := by
  obtain ⟨i0, hi, hz0, hz1, hz2⟩ := info_parts info_cell
  refine wpList_make_full _ hgd x y 54 ho w.heap.size 63 i0 (ceV Ce.zero) 7 Try.underlying54 hi hz0 hz1 .i64 .i64 (n : Int) (n : Int) n hx hy rfl rfl (by rw [hz2]; omega) (by unfold maxLen; omega) (Nat.le_refl _) (fun w' ho' hg => ?_)
  refine h w' ?_ ((Below.refl _ _).grown hg (Nat.le_refl _) (fun k hk => by cases hk))
  rw [made_zero] at ho'
  unfold OwnC
  rw [List.length_replicate]
  exact ho'
/-- Rune and style of one cell are written, its part stays. -/
def putRS (w : World) (g o : Nat) (r : Int) (s : St) : World :=
  (((((w.setCell ⟨g, o, none⟩ (.int .i64 r)).setCell ⟨g, o + 1, none⟩ (.int .i64 s.fore)).setCell ⟨g, o + 2, none⟩ (.int .i64 s.back)).setCell ⟨g, o + 3, none⟩ (.bool s.bold)).setCell ⟨g, o + 4, none⟩ (.bool s.under)).setCell ⟨g, o + 5, none⟩ (.bool s.turned)
theorem flat_set6 (xs : List Ce) (r : Int) (s : St) : ∀ i, i < xs.length → (((((((xs.flatMap ceL).set (i * 7) (.int .i64 r)).set (i * 7 + 1) (.int .i64 s.fore)).set (i * 7 + 2) (.int .i64 s.back)).set (i * 7 + 3) (.bool s.bold)).set (i * 7 + 4) (.bool s.under)).set (i * 7 + 5) (.bool s.turned)) = (xs.set i ⟨r, s, (atC xs i).part⟩).flatMap ceL := by
  induction xs with
  | nil => intro i h; simp at h
  | cons d xs ih =>
    intro i h
    cases i with
    | zero => simp [ceL, atC]
    | succ i =>
      have e : ∀ k, (i + 1) * 7 + k = (i * 7 + k) + 7 := fun k => by omega
      have e0 : (i + 1) * 7 = (i * 7) + 7 := by omega
      rw [e 1, e 2, e 3, e 4, e 5, e0]
      have hs : ∀ (m : Nat) (u : Value) (l : List Value), ((ceL d ++ l).set (m + 7) u) = ceL d ++ l.set m u := fun m u l => by
        rw [List.set_append, if_neg (by simp [ceL])]
        simp [ceL]
      have e1 : atC (d :: xs) (i + 1) = atC xs i := by simp [atC]
      rw [List.flatMap_cons, hs, hs, hs, hs, hs, hs, ih i (by simpa using h), List.set_cons_succ, List.flatMap_cons, e1]
theorem OwnC.putRS {w : World} {base g n cap : Nat} {xs : List Ce} (h : OwnC w base (.slice (some ⟨g, 0, none⟩) n cap) xs) (hn : xs.length = n) (i : Nat) (hi : i < n) (r : Int) (s : St) :
    OwnC (putRS w g (i * 7) r s) base (.slice (some ⟨g, 0, none⟩) n cap) (xs.set i ⟨r, s, (atC xs i).part⟩) ∧ w.grownBy (Proofs.Ytpmaibkakkfaeaa.putRS w g (i * 7) r s) (some g) := by
  subst hn
  have h0 := World.ownsRow.stored h (i * 7) (.int .i64 r)
  have h1 := World.ownsRow.stored h0.1 (i * 7 + 1) (.int .i64 s.fore)
  have h2 := World.ownsRow.stored h1.1 (i * 7 + 2) (.int .i64 s.back)
  have h3 := World.ownsRow.stored h2.1 (i * 7 + 3) (.bool s.bold)
  have h4 := World.ownsRow.stored h3.1 (i * 7 + 4) (.bool s.under)
  have h5 := World.ownsRow.stored h4.1 (i * 7 + 5) (.bool s.turned)
  refine ⟨?_, grown_tr (grown_tr (grown_tr (grown_tr (grown_tr h0.2 h1.2) h2.2) h3.2) h4.2) h5.2⟩
  have := h5.1
  rw [flat_set6 xs r s i hi] at this
  unfold OwnC Proofs.Ytpmaibkakkfaeaa.putRS
  rw [List.length_set]
  exact this
theorem ownC_none (w : World) (base : Nat) : OwnC w base (.slice none 0 0) [] := ⟨rfl, .inl ⟨rfl, rfl⟩⟩
end Go.Proofs.Ytpmaibkakkfaeaa
namespace Go.Proofs.Ytpmaibkakkfaeaa
open Go.ChangeShapes Go.WideShapes Go.ChangeAt Go.RowKit
/-- A grid in a block of its own, open to stores. -/
def GrW (w : World) (B : Nat) (cols : Int) (v : Value) : Prop :=
  B < w.heap.size ∧ (w.cell? ⟨B, 0, none⟩ = some (.int .i64 cols) ∧ w.cell? ⟨B, 1, none⟩ = some v) ∧ (w.frozen? ⟨B, 0, none⟩ = false ∧ w.frozen? ⟨B, 1, none⟩ = false)
theorem GrW.grown {w w' : World} {B : Nat} {cols : Int} {v : Value} {row : Option Nat} (h : GrW w B cols v) (hg : w.grownBy w' row) (hr : row ≠ some B) : GrW w' B cols v := by
  have hb := hg.block B h.1 (Ne.symm hr)
  have hc : ∀ k, w'.cell? ⟨B, k, none⟩ = w.cell? ⟨B, k, none⟩ := fun k => World.cell?_of_block (w := w) hb
  have hz : ∀ k, w'.frozen? ⟨B, k, none⟩ = w.frozen? ⟨B, k, none⟩ := fun k => World.frozen?_of_block (w := w) hb
  refine ⟨Nat.lt_of_lt_of_le h.1 hg.size, ?_, ?_⟩
  · rw [hc, hc]; exact h.2.1
  · rw [hz, hz]; exact h.2.2
theorem GrW.below {w w' : World} {B : Nat} {cols : Int} {v : Value} (h : GrW w B cols v) (hb : Below w.heap.size w w') : GrW w' B cols v := h.grown (gbl hb none) (by simp)
theorem GrW.new (w : World) (cols : Int) (v : Value) (t : TypeId) : GrW (w.alloc (.cells #[.int .i64 cols, v] t)) w.heap.size cols v :=
  ⟨by simp, ⟨by simp [go_sem], by simp [go_sem]⟩, ⟨by simp [go_sem], by simp [go_sem]⟩⟩
/-- Other rows are written there. -/
def putG (w : World) (B : Nat) (v : Value) : World := w.setCell ⟨B, 1, none⟩ v
theorem putG_grown (w : World) (B : Nat) (v : Value) : w.grownBy (putG w B v) (some B) := setCell_gr w B 1 _
theorem GrW.put {w : World} {B : Nat} {cols : Int} {v : Value} (h : GrW w B cols v) (v' : Value) : GrW (putG w B v') B cols v' := by
  obtain ⟨hlt, ⟨c0, c1⟩, ⟨z0, z1⟩⟩ := h
  refine ⟨by simpa [putG] using hlt, ⟨?_, ?_⟩, ⟨?_, ?_⟩⟩
  all_goals simp only [putG]
  · rw [setCell_ne' _ _ _ _ _ (by decide)]; exact c0
  · simp [go_sem, c1]
  · simp [go_sem, z0]
  · simp [go_sem, z1]
/-- Another grid is written there whole. -/
def putG2 (w : World) (B : Nat) (cols : Int) (v : Value) : World := (w.setCell ⟨B, 0, none⟩ (.int .i64 cols)).setCell ⟨B, 1, none⟩ v
theorem putG2_grown (w : World) (B : Nat) (cols : Int) (v : Value) : w.grownBy (putG2 w B cols v) (some B) := grown_tr (setCell_gr w B 0 _) (setCell_gr _ B 1 _)
theorem GrW.put2 {w : World} {B : Nat} {cols : Int} {v : Value} (h : GrW w B cols v) (cols' : Int) (v' : Value) : GrW (putG2 w B cols' v') B cols' v' := by
  obtain ⟨hlt, ⟨c0, c1⟩, ⟨z0, z1⟩⟩ := h
  refine ⟨by simpa [putG2] using hlt, ⟨?_, ?_⟩, ⟨?_, ?_⟩⟩
  all_goals simp only [putG2]
  · rw [setCell_ne' _ _ _ _ _ (by decide)]; simp [go_sem, c0]
  · simp [go_sem, c1]
  · simp [go_sem, z0]
  · simp [go_sem, z1]
theorem OwnG.kept {w w' : World} {base B : Nat} {v : Value} {rows : List (List Ce)} {row : Option Nat} (h : OwnG w base B v rows) (hg : w.grownBy w' row) (hne : ∀ g, row = some g → g < base) : OwnG w' base B v rows := by
  obtain ⟨vs, hl, ho, hr, hB, hd⟩ := h
  refine ⟨vs, hl, World.ownsRow.kept ho hg ?_, fun i hi => (hr i hi).kept hg ?_, hB, hd⟩
  · cases hv : v.ownBlock with
    | none => exact .inl rfl
    | some q => right; intro e; have := hne q e.symm; have := (ho.lt q hv).1; omega
  · cases hv : (rowV vs i).ownBlock with
    | none => exact .inl rfl
    | some q => right; intro e; have := hne q e.symm; have := ((hr i hi).lt q hv).1; omega
theorem OwnG.lt {w : World} {base B : Nat} {v : Value} {rows : List (List Ce)} (h : OwnG w base B v rows) : ∀ g, v.ownBlock = some g → base ≤ g ∧ g < w.heap.size := by
  obtain ⟨vs, hl, ho, _⟩ := h
  exact fun g e => ho.lt g e
theorem OwnG.up {w : World} {base B B' : Nat} {v : Value} {rows : List (List Ce)} (h : OwnG w base B v rows) (hb : B ≤ B') : OwnG w base B' v rows := by
  obtain ⟨vs, hl, ho, hr, hB, hd⟩ := h
  exact ⟨vs, hl, ho, hr, fun i hi g e => Nat.lt_of_lt_of_le (hB i hi g e) hb, hd⟩
/-- One row more, as a step of a region. -/
theorem step_append_og {w : World} {ops : Array Oper} {o : Oper} {ac : Act} {K : Act → World → Prop} {Q : Exit → Act → World → Prop} {E : Prop} (hgd : o.guard = none) (s x : Operand)
    (ho : o.op = .call { callee := .builtin .append, args := #[s, x], argTypes := #[22, 22] })
    (base B : Nat) (v : Value) (rows : List (List Ce)) (r : Value) (xs : List Ce) (hs : ac.eval s = v) (k : OwnG w base B v rows) (hr : OwnC w base r xs) (hB : ∀ g, r.ownBlock = some g → B ≤ g) (hb : base ≤ w.heap.size) (hl : rows.length < 2000000)
    (g : Nat) (hg0 : w.heap.size = g) (hx : ac.eval x = .slice (some ⟨g, 0, none⟩) 1 1)
    (h : ∀ v' w', OwnG w' base w'.heap.size v' (rows ++ [xs]) → (w.alloc (.cells #[r] 54)).grownBy w' v.ownBlock → K (ac.put o.dst v') w') :
    if Region.wanted o (yielded ops ac.tmps) = true then Oper.wp Try.prog o ac (w.alloc (.cells #[r] 54)) K Q else E := by
  have hw : Region.wanted o (yielded ops ac.tmps) = true := by simp [Region.wanted, hgd]
  rw [if_pos hw]
  subst hg0
  obtain ⟨i0, hi, hz0, hz1, hz2⟩ := info_parts info_row
  obtain ⟨vs, hvl, hown, hrs, hlt, hd⟩ := k
  have hba := bal' w (Obj.cells #[r] 54)
  have hown2 := World.ownsRow.below hown hba
  refine wp_append_own _ s x _ ho base 54 i0 (.slice none 0 0) 1 24 under_rows hi hz0 hz1 hz2 rfl (by decide) v rows.length vs hs hown2 ⟨w.heap.size, 0, none⟩ 1 1 [r] hx rfl ?_ ?_ (by unfold maxLen; omega) (by omega) (by simp; omega) (fun v' w' ho' hg' _ => h v' w' (og_after hvl hown2 (fun i hi => (hrs i hi).below hba) hlt hd (hr.below hba) hB ho' hg') hg')
  · intro j u hj
    match j, hj with
    | 0, hj => simp at hj; subst hj; simp [Addr.add, go_sem]
  · intro u hu
    simp at hu
    subst hu
    rcases hr.shape with ⟨rfl, _⟩ | ⟨g, cap, rfl, _⟩ <;> rfl
end Go.Proofs.Ytpmaibkakkfaeaa
namespace Go.Proofs.Ytpmaibkakkfaeaa
open Go.ChangeShapes Go.WideShapes Go.ChangeAt Go.RowKit
theorem rowV_set {vs : List Value} {i : Nat} (hi : i < vs.length) (r : Value) (k : Nat) : rowV (vs.set i r) k = if k = i then r else rowV vs k := by
  unfold rowV
  by_cases e : k = i
  · subst e; rw [if_pos rfl]; simp [List.getD, hi]
  · rw [if_neg e]; simp [List.getD, Ne.symm e]
theorem rowX_set {rows : List (List Ce)} {i : Nat} (hi : i < rows.length) (x : List Ce) (k : Nat) : rowX (rows.set i x) k = if k = i then x else rowX rows k := by
  unfold rowX
  by_cases e : k = i
  · subst e; rw [if_pos rfl]; simp [List.getD, hi]
  · rw [if_neg e]; simp [List.getD, Ne.symm e]
/-- One row is written anew. -/
theorem OwnG.set {w : World} {base B g n cap : Nat} {rows : List (List Ce)} (h : OwnG w base B (.slice (some ⟨g, 0, none⟩) n cap) rows) (hn : rows.length = n) (i : Nat) (hi : i < n) (r : Value) (xs : List Ce) (hr : OwnC w base r xs) (hB : ∀ q, r.ownBlock = some q → B ≤ q) :
    OwnG (w.setCell ⟨g, i, none⟩ r) base (w.setCell ⟨g, i, none⟩ r).heap.size (.slice (some ⟨g, 0, none⟩) n cap) (rows.set i xs) ∧ w.grownBy (w.setCell ⟨g, i, none⟩ r) (some g) := by
  subst hn
  obtain ⟨vs, hvl, hown, hrs, hlt, hd⟩ := h
  have h0 := World.ownsRow.stored hown i r
  have hap : ∀ {u : Value} {ys : List Ce}, OwnC w base u ys → OwnC (w.setCell ⟨g, i, none⟩ r) base u ys := fun hu => hu.kept h0.2 (outer_apart hown hu)
  have hs2 := h0.2.size
  refine ⟨⟨vs.set i r, by simp [hvl], by rw [List.length_set]; exact h0.1, fun k hk => ?_, fun k hk q e => ?_, fun a b hab hb q e => ?_⟩, h0.2⟩
  · rw [List.length_set] at hk
    rw [rowV_set (by omega), rowX_set hi]
    by_cases e : k = i
    · rw [if_pos e, if_pos e]; exact hap hr
    · rw [if_neg e, if_neg e]; exact hap (hrs k hk)
  · rw [List.length_set] at hk
    rw [rowV_set (by omega)] at e
    by_cases c : k = i
    · rw [if_pos c] at e; have := (hr.lt q e).2; omega
    · rw [if_neg c] at e; have := ((hrs k hk).lt q e).2; omega
  · rw [List.length_set] at hb
    rw [rowV_set (by omega)] at e
    rw [rowV_set (by omega)]
    by_cases c : a = i
    · rw [if_pos c] at e
      rw [if_neg (by omega)]
      intro e2
      have := hlt b hb q e2
      have := hB q e
      omega
    · rw [if_neg c] at e
      by_cases c2 : b = i
      · rw [if_pos c2]
        intro e2
        have := hlt a (by omega) q e
        have := hB q e2
        omega
      · rw [if_neg c2]; exact hd a b hab hb q e
theorem made_none (n : Nat) : (madeCells (Value.slice none 0 0).cells (n * 1)).toList = List.replicate n (Value.slice none 0 0) := by
  apply List.ext_getElem?
  intro i
  by_cases hi : i < n
  · simp [madeCells, Value.cells, hi, Nat.mod_one]
  · simp [madeCells, Value.cells, hi]
end Go.Proofs.Ytpmaibkakkfaeaa
namespace Go.Proofs.Ytpmaibkakkfaeaa
open Go.ChangeShapes Go.WideShapes Go.ChangeAt Go.RowKit
/-- A new grid that grows beside the result's block. -/
def NG (M B : Nat) (cols : Int) (u : Value) (rows : List (List Ce)) (w0 W : World) : Prop :=
  GrW W M 0 (.slice none 0 0) ∧ GrW W (M + 1) cols u ∧ OwnG W (M + 2) B u rows ∧ M + 2 ≤ W.heap.size ∧ B ≤ W.heap.size ∧ Below M w0 W
theorem NG.below {M B : Nat} {cols : Int} {u : Value} {rows : List (List Ce)} {w0 W W' : World} (k : NG M B cols u rows w0 W) (hb : Below W.heap.size W W') : NG M B cols u rows w0 W' :=
  ⟨k.1.below hb, k.2.1.below hb, k.2.2.1.below hb, Nat.le_trans k.2.2.2.1 hb.size, Nat.le_trans k.2.2.2.2.1 hb.size, k.2.2.2.2.2.trans (hb.mono (by have := k.2.2.2.1; omega))⟩
theorem NG.drew {M B : Nat} {cols : Int} {u : Value} {rows : List (List Ce)} {w0 W : World} (k : NG M B cols u rows w0 W) : NG M B cols u rows w0 W.drew := k.below (bdr W)
theorem NG.more {M B : Nat} {cols : Int} {u v' : Value} {rows rows' : List (List Ce)} {w0 W W' : World} (k : NG M B cols u rows w0 W) (ho : OwnG W' (M + 2) W'.heap.size v' rows') (hg : W.grownBy W' u.ownBlock) :
    GrW W' M 0 (.slice none 0 0) ∧ GrW W' (M + 1) cols u ∧ OwnG W' (M + 2) W'.heap.size v' rows' ∧ M + 2 ≤ W'.heap.size ∧ W'.heap.size ≤ W'.heap.size ∧ Below M w0 W' := by
  have hne : ∀ g, u.ownBlock = some g → M + 2 ≤ g := fun g e => (k.2.2.1.lt g e).1
  refine ⟨k.1.grown hg (fun e => by have := hne _ e; omega), k.2.1.grown hg (fun e => by have := hne _ e; omega), ho, Nat.le_trans k.2.2.2.1 hg.size, Nat.le_refl _, ?_⟩
  exact k.2.2.2.2.2.grown hg (by have := k.2.2.2.1; omega) (fun g e => by have := hne g e; omega)
theorem ng_put {M : Nat} {cols : Int} {u : Value} {rows : List (List Ce)} {w0 W : World} {v' : Value} (k : GrW W M 0 (.slice none 0 0) ∧ GrW W (M + 1) cols u ∧ OwnG W (M + 2) W.heap.size v' rows ∧ M + 2 ≤ W.heap.size ∧ W.heap.size ≤ W.heap.size ∧ Below M w0 W) :
    NG M (putG W (M + 1) v').heap.size cols v' rows w0 (putG W (M + 1) v') := by
  have hg := putG_grown W (M + 1) v'
  refine ⟨k.1.grown hg (fun e => by cases e), k.2.1.put v', ((k.2.2.1).kept hg (fun g e => by cases e; omega)).up hg.size, Nat.le_trans k.2.2.2.1 hg.size, Nat.le_refl _, ?_⟩
  exact k.2.2.2.2.2.grown hg (by have := k.2.2.2.1; omega) (fun g e => by cases e; omega)
set_option maxHeartbeats 4000000 in
theorem l5New_any (cols n : Nat) (w : World) (hc : cols ≤ 1000) (hn : n ≤ 1000) :
    Calls Try.prog 24 #[.int .i64 cols, .int .i64 n] w fun e w' => ∃ u, e = .returned (gridV cols u) ∧ OwnG w' w.heap.size w'.heap.size u (newR cols n) ∧ Below w.heap.size w w' := by
  have hrow := fun W => l4Row_any cols St.zero W hc
  unfold stV at hrow
  simp only [St.zero] at hrow
  have k0 : NG w.heap.size ((w.alloc (Obj.cells #[Value.int IntKind.i64 0, Value.slice none 0 0] 24)).alloc (Obj.cells #[Value.int IntKind.i64 cols, Value.slice none 0 0] 24)).heap.size cols (.slice none 0 0) [] w ((w.alloc (Obj.cells #[Value.int IntKind.i64 0, Value.slice none 0 0] 24)).alloc (Obj.cells #[Value.int IntKind.i64 cols, Value.slice none 0 0] 24)) := by
    have h1 := GrW.new w 0 (.slice none 0 0) 24
    have h2 := GrW.new (w.alloc (Obj.cells #[Value.int IntKind.i64 0, Value.slice none 0 0] 24)) cols (.slice none 0 0) 24
    have hb1 := bal' w (Obj.cells #[Value.int IntKind.i64 0, Value.slice none 0 0] 24)
    have e : (w.alloc (Obj.cells #[Value.int IntKind.i64 0, Value.slice none 0 0] 24)).heap.size = w.heap.size + 1 := by simp
    rw [e] at h2
    exact ⟨h1.below (bal' _ _), h2, ownG_none _ _ _, by simp, Nat.le_refl _, hb1.trans ((bal' _ _).mono (by simp))⟩
  go_enter Try.func24, Try.ntmps24
  go_wp2
  go_loopw [6] (fun i wr => ∃ j : Nat, i = .int .i64 j ∧ j ≤ n ∧ ∃ u, NG w.heap.size wr.heap.size cols u (newR cols j) w wr) (fun i _ => n - (intOf i).toNat)
  case atStart => exact ⟨0, rfl, Nat.zero_le _, _, k0⟩
  case round =>
    clear k0
    obtain ⟨j, rfl, hj, u, k⟩ := hrel
    by_cases hlt : j < n
    · have hji : (j : Int) < (n : Int) := by omega
      have hsn : Hid (newR cols (j + 1) = newR cols j ++ [rowL cols St.zero]) := newR_snoc cols j
      have hlr : (newR cols j).length < 2000000 := by simp [newR]; omega
      generalize hBB : wr.heap.size = B at k
      generalize newR cols j = rows at *
      obtain ⟨⟨_, ⟨d0, d1⟩, ⟨y0, y1⟩⟩, ⟨_, ⟨c0, c1⟩, ⟨z0, z1⟩⟩, _⟩ := id k
      go_wp2
      refine wp_region_noPanic ?_
      refine wp_region_held_drew (S := fun _ => True) (by kernel_rfl) trivial (fun hHeld => ?_)
      refine' wpAnyH_take (i := 0) (v := _) rfl (by kernel_rfl) (by kernel_rfl) (by kernel_rfl) (fun _ _ _ h => h) (Or.inl ⟨by rfl, ?hy1⟩) hHeld ?hr1
      case hy1 => (intro w hSw; (try dsimp only at hSw); go_simp; (try with_reducible rfl))
      simp only [Act.put, List.setIfInBounds_toArray, List.set_cons_zero, List.set_cons_succ, List.getElem_toArray, List.getElem_cons_zero]
      refine' wpAnyH_take (i := 2) (v := _) rfl (by kernel_rfl) (by kernel_rfl) (by kernel_rfl) (fun _ _ _ h => h) (Or.inl ⟨by rfl, ?hy2⟩) hHeld ?hr2
      case hy2 => (intro w hSw; (try dsimp only at hSw); go_simp; (try with_reducible rfl))
      simp only [Act.put, List.setIfInBounds_toArray, List.set_cons_zero, List.set_cons_succ, List.getElem_toArray, List.getElem_cons_zero, List.getElem_cons_succ]
      refine' wpAnyH_take (i := 3) (v := _) rfl (by kernel_rfl) (by kernel_rfl) (by kernel_rfl) (fun _ _ _ h => h) (Or.inl ⟨by rfl, ?hy3⟩) hHeld ?hr3
      case hy3 => (intro w hSw; (try dsimp only at hSw); go_simp; (try with_reducible rfl))
      simp only [Act.put, List.setIfInBounds_toArray, List.set_cons_zero, List.set_cons_succ, List.getElem_toArray, List.getElem_cons_zero, List.getElem_cons_succ]
      refine wpAnyH_ready (rs := [1, 4]) (by kernel_rfl) (by simp) (AllReadyH.cons rfl (fun K hK => ?_) (AllReadyH.cons rfl (fun K hK => ?_) AllReadyH.nil))
      · go_simp
        refine hK.out _ _ trivial (fun hHeld => ?_)
        clear hK K
        (try simp only [Act.put, List.setIfInBounds_toArray, List.set_cons_zero, List.set_cons_succ, List.getElem_toArray, List.getElem_cons_zero, List.getElem_cons_succ])
        refine wpAnyH_ready (rs := [4]) (by kernel_rfl) (by simp) (AllReadyH.cons rfl (fun K hK => ?_) AllReadyH.nil)
        go_simp
        refine (hrow _).mono ?_
        rintro e w2 ⟨r, rfl, hor, hb2⟩
        have k2 := k.drew.below hb2
        have hB2 : ∀ g, r.ownBlock = some g → B ≤ g := fun g e => Nat.le_trans k.2.2.2.2.1 ((hor.lt g e).1)
        have hor2 := hor.low k.2.2.2.1
        clear hor hb2 k hrow
        obtain ⟨⟨_, ⟨d0, d1⟩, ⟨y0, y1⟩⟩, ⟨_, ⟨c0, c1⟩, ⟨z0, z1⟩⟩, _⟩ := id k2
        obtain ⟨ra, rn, rc, rfl⟩ : ∃ a n c, r = Value.slice a n c := by rcases hor2.shape with ⟨h, _⟩ | ⟨_, _, h, _⟩ <;> exact ⟨_, _, _, h⟩
        go_wp2_with fail
        refine hK.out _ _ trivial (fun hHeld => ?_)
        clear hK K
        (try simp only [Act.put, List.setIfInBounds_toArray, List.set_cons_zero, List.set_cons_succ, List.getElem_toArray, List.getElem_cons_zero, List.getElem_cons_succ])
        refine wpAnyH_ready (rs := [5]) (by kernel_rfl) (by simp) (AllReadyH.cons rfl (fun K hK => ?_) AllReadyH.nil)
        go_simp
        refine hK.out _ _ trivial (fun hHeld => ?_)
        clear hK K
        (try simp only [Act.put, List.setIfInBounds_toArray, List.set_cons_zero, List.set_cons_succ, List.getElem_toArray, List.getElem_cons_zero, List.getElem_cons_succ])
        refine wpAnyH_ready (rs := [6]) (by kernel_rfl) (by simp) (AllReadyH.cons rfl (fun K hK => ?_) AllReadyH.nil)
        refine step_append_og (by rfl) _ _ (by rfl) (w.heap.size + 2) B _ _ _ _ (by rfl) k2.2.2.1 hor2 hB2 k2.2.2.2.1 hlr _ rfl (by rfl) ?_
        intro v' w' ho' hg'
        have k4 := (k2.below (bal' _ _)).more ho' hg'
        clear k2 ho' hg' hor2 hB2 d0 d1 y0 y1 c0 c1 z0 z1
        obtain ⟨⟨_, ⟨d0, d1⟩, ⟨y0, y1⟩⟩, ⟨_, ⟨c0, c1⟩, ⟨z0, z1⟩⟩, _⟩ := id k4
        obtain ⟨va, vn, vc, rfl⟩ : ∃ a n c, v' = Value.slice a n c := by rcases k4.2.2.1.shape with ⟨h, _⟩ | ⟨_, _, h, _⟩ <;> exact ⟨_, _, _, h⟩
        refine hK.out _ _ trivial (fun hHeld => ?_)
        clear hK K
        (try simp only [Act.put, List.setIfInBounds_toArray, List.set_cons_zero, List.set_cons_succ, List.getElem_toArray, List.getElem_cons_zero, List.getElem_cons_succ])
        refine' wpAnyH_take (i := 7) (v := _) rfl (by kernel_rfl) (by kernel_rfl) (by kernel_rfl) (fun _ _ _ h => h) (Or.inl ⟨by rfl, ?hy4⟩) hHeld ?hr4
        case hy4 => (intro w hSw; (try dsimp only at hSw); go_simp; (try with_reducible rfl))
        simp only [Act.put, List.setIfInBounds_toArray, List.set_cons_zero, List.set_cons_succ, List.getElem_toArray, List.getElem_cons_zero, List.getElem_cons_succ]
        refine wpAnyH_ready (rs := [8]) (by kernel_rfl) (by simp) (AllReadyH.cons rfl (fun K hK => ?_) AllReadyH.nil)
        go_simp
        refine hK.out _ _ trivial (fun hHeld => ?_)
        clear hK K
        (try simp only [Act.put, List.setIfInBounds_toArray, List.set_cons_zero, List.set_cons_succ, List.getElem_toArray, List.getElem_cons_zero, List.getElem_cons_succ])
        refine wpAnyH_done (by kernel_rfl) ?_ _
        refine NoPanic.normal ?_
        have k5 := ng_put k4
        simp only [putG] at k5
        clear k4 d0 d1 y0 y1 c0 c1 z0 z1
        go_wp2
        go_roundw
        case rel => exact ⟨j + 1, by go_num, by omega, _, by rw [hsn.out]; exact k5⟩
        case measure => simp [intOf]; omega
      · go_simp
        refine (hrow _).mono ?_
        rintro e w2 ⟨r, rfl, hor, hb2⟩
        have k2 := k.drew.below hb2
        have hB2 : ∀ g, r.ownBlock = some g → B ≤ g := fun g e => Nat.le_trans k.2.2.2.2.1 ((hor.lt g e).1)
        have hor2 := hor.low k.2.2.2.1
        clear hor hb2 k hrow
        obtain ⟨⟨_, ⟨d0, d1⟩, ⟨y0, y1⟩⟩, ⟨_, ⟨c0, c1⟩, ⟨z0, z1⟩⟩, _⟩ := id k2
        obtain ⟨ra, rn, rc, rfl⟩ : ∃ a n c, r = Value.slice a n c := by rcases hor2.shape with ⟨h, _⟩ | ⟨_, _, h, _⟩ <;> exact ⟨_, _, _, h⟩
        go_wp2_with fail
        refine hK.out _ _ trivial (fun hHeld => ?_)
        clear hK K
        (try simp only [Act.put, List.setIfInBounds_toArray, List.set_cons_zero, List.set_cons_succ, List.getElem_toArray, List.getElem_cons_zero, List.getElem_cons_succ])
        refine wpAnyH_ready (rs := [1, 5]) (by kernel_rfl) (by simp) (AllReadyH.cons rfl (fun K hK => ?_) (AllReadyH.cons rfl (fun K hK => ?_) AllReadyH.nil))
        · go_simp
          refine hK.out _ _ trivial (fun hHeld => ?_)
          clear hK K
          (try simp only [Act.put, List.setIfInBounds_toArray, List.set_cons_zero, List.set_cons_succ, List.getElem_toArray, List.getElem_cons_zero, List.getElem_cons_succ])
          refine wpAnyH_ready (rs := [5]) (by kernel_rfl) (by simp) (AllReadyH.cons rfl (fun K hK => ?_) AllReadyH.nil)
          go_simp
          refine hK.out _ _ trivial (fun hHeld => ?_)
          clear hK K
          (try simp only [Act.put, List.setIfInBounds_toArray, List.set_cons_zero, List.set_cons_succ, List.getElem_toArray, List.getElem_cons_zero, List.getElem_cons_succ])
          refine wpAnyH_ready (rs := [6]) (by kernel_rfl) (by simp) (AllReadyH.cons rfl (fun K hK => ?_) AllReadyH.nil)
          refine step_append_og (by rfl) _ _ (by rfl) (w.heap.size + 2) B _ _ _ _ (by rfl) k2.2.2.1 hor2 hB2 k2.2.2.2.1 hlr _ rfl (by rfl) ?_
          intro v' w' ho' hg'
          have k4 := (k2.below (bal' _ _)).more ho' hg'
          clear k2 ho' hg' hor2 hB2 d0 d1 y0 y1 c0 c1 z0 z1
          obtain ⟨⟨_, ⟨d0, d1⟩, ⟨y0, y1⟩⟩, ⟨_, ⟨c0, c1⟩, ⟨z0, z1⟩⟩, _⟩ := id k4
          obtain ⟨va, vn, vc, rfl⟩ : ∃ a n c, v' = Value.slice a n c := by rcases k4.2.2.1.shape with ⟨h, _⟩ | ⟨_, _, h, _⟩ <;> exact ⟨_, _, _, h⟩
          refine hK.out _ _ trivial (fun hHeld => ?_)
          clear hK K
          (try simp only [Act.put, List.setIfInBounds_toArray, List.set_cons_zero, List.set_cons_succ, List.getElem_toArray, List.getElem_cons_zero, List.getElem_cons_succ])
          refine' wpAnyH_take (i := 7) (v := _) rfl (by kernel_rfl) (by kernel_rfl) (by kernel_rfl) (fun _ _ _ h => h) (Or.inl ⟨by rfl, ?hy5⟩) hHeld ?hr5
          case hy5 => (intro w hSw; (try dsimp only at hSw); go_simp; (try with_reducible rfl))
          simp only [Act.put, List.setIfInBounds_toArray, List.set_cons_zero, List.set_cons_succ, List.getElem_toArray, List.getElem_cons_zero, List.getElem_cons_succ]
          refine wpAnyH_ready (rs := [8]) (by kernel_rfl) (by simp) (AllReadyH.cons rfl (fun K hK => ?_) AllReadyH.nil)
          go_simp
          refine hK.out _ _ trivial (fun hHeld => ?_)
          clear hK K
          (try simp only [Act.put, List.setIfInBounds_toArray, List.set_cons_zero, List.set_cons_succ, List.getElem_toArray, List.getElem_cons_zero, List.getElem_cons_succ])
          refine wpAnyH_done (by kernel_rfl) ?_ _
          refine NoPanic.normal ?_
          have k5 := ng_put k4
          simp only [putG] at k5
          clear k4 d0 d1 y0 y1 c0 c1 z0 z1
          go_wp2
          go_roundw
          case rel => exact ⟨j + 1, by go_num, by omega, _, by rw [hsn.out]; exact k5⟩
          case measure => simp [intOf]; omega
        · go_simp
          refine hK.out _ _ trivial (fun hHeld => ?_)
          clear hK K
          (try simp only [Act.put, List.setIfInBounds_toArray, List.set_cons_zero, List.set_cons_succ, List.getElem_toArray, List.getElem_cons_zero, List.getElem_cons_succ])
          refine wpAnyH_ready (rs := [1]) (by kernel_rfl) (by simp) (AllReadyH.cons rfl (fun K hK => ?_) AllReadyH.nil)
          go_simp
          refine hK.out _ _ trivial (fun hHeld => ?_)
          clear hK K
          (try simp only [Act.put, List.setIfInBounds_toArray, List.set_cons_zero, List.set_cons_succ, List.getElem_toArray, List.getElem_cons_zero, List.getElem_cons_succ])
          refine wpAnyH_ready (rs := [6]) (by kernel_rfl) (by simp) (AllReadyH.cons rfl (fun K hK => ?_) AllReadyH.nil)
          refine step_append_og (by rfl) _ _ (by rfl) (w.heap.size + 2) B _ _ _ _ (by rfl) k2.2.2.1 hor2 hB2 k2.2.2.2.1 hlr _ rfl (by rfl) ?_
          intro v' w' ho' hg'
          have k4 := (k2.below (bal' _ _)).more ho' hg'
          clear k2 ho' hg' hor2 hB2 d0 d1 y0 y1 c0 c1 z0 z1
          obtain ⟨⟨_, ⟨d0, d1⟩, ⟨y0, y1⟩⟩, ⟨_, ⟨c0, c1⟩, ⟨z0, z1⟩⟩, _⟩ := id k4
          obtain ⟨va, vn, vc, rfl⟩ : ∃ a n c, v' = Value.slice a n c := by rcases k4.2.2.1.shape with ⟨h, _⟩ | ⟨_, _, h, _⟩ <;> exact ⟨_, _, _, h⟩
          refine hK.out _ _ trivial (fun hHeld => ?_)
          clear hK K
          (try simp only [Act.put, List.setIfInBounds_toArray, List.set_cons_zero, List.set_cons_succ, List.getElem_toArray, List.getElem_cons_zero, List.getElem_cons_succ])
          refine' wpAnyH_take (i := 7) (v := _) rfl (by kernel_rfl) (by kernel_rfl) (by kernel_rfl) (fun _ _ _ h => h) (Or.inl ⟨by rfl, ?hy6⟩) hHeld ?hr6
          case hy6 => (intro w hSw; (try dsimp only at hSw); go_simp; (try with_reducible rfl))
          simp only [Act.put, List.setIfInBounds_toArray, List.set_cons_zero, List.set_cons_succ, List.getElem_toArray, List.getElem_cons_zero, List.getElem_cons_succ]
          refine wpAnyH_ready (rs := [8]) (by kernel_rfl) (by simp) (AllReadyH.cons rfl (fun K hK => ?_) AllReadyH.nil)
          go_simp
          refine hK.out _ _ trivial (fun hHeld => ?_)
          clear hK K
          (try simp only [Act.put, List.setIfInBounds_toArray, List.set_cons_zero, List.set_cons_succ, List.getElem_toArray, List.getElem_cons_zero, List.getElem_cons_succ])
          refine wpAnyH_done (by kernel_rfl) ?_ _
          refine NoPanic.normal ?_
          have k5 := ng_put k4
          simp only [putG] at k5
          clear k4 d0 d1 y0 y1 c0 c1 z0 z1
          go_wp2
          go_roundw
          case rel => exact ⟨j + 1, by go_num, by omega, _, by rw [hsn.out]; exact k5⟩
          case measure => simp [intOf]; omega
    · have hjn : j = n := by omega
      have hji : ¬ (j : Int) < (n : Int) := by omega
      subst hjn
      clear hrow
      obtain ⟨⟨_, ⟨d0, d1⟩, ⟨y0, y1⟩⟩, ⟨_, ⟨c0, c1⟩, ⟨z0, z1⟩⟩, _⟩ := id k
      obtain ⟨ua, un, uc, rfl⟩ : ∃ a n c, u = Value.slice a n c := by rcases k.2.2.1.shape with ⟨h, _⟩ | ⟨_, _, h, _⟩ <;> exact ⟨_, _, _, h⟩
      have kF := (k.1.put2 cols (.slice ua un uc)).2.1
      have hgF := putG2_grown wr w.heap.size cols (.slice ua un uc)
      have hoF := ((k.2.2.1).kept hgF (fun g e => by cases e; omega)).up hgF.size
      have hbF := k.2.2.2.2.2.grown hgF (by omega) (fun g e => by cases e; omega)
      obtain ⟨f0, f1⟩ := kF
      simp only [putG2] at f0 f1 hoF hbF
      clear hgF
      go_wp2
      exact bodyPost_ret (v := .agg #[.int .i64 cols, .slice ua un uc]) (by simp [results, Try.results24, go_sem, f0, f1]) rfl ⟨_, rfl, hoF.low (by omega), hbF⟩
/-- What NewGrid gives. -/
def newOk (cols n : Int) : Prop := (1 ≤ cols ∧ cols ≤ 60) ∧ (1 ≤ n ∧ n ≤ 30)
instance (cols n : Int) : Decidable (newOk cols n) := by unfold newOk; exact inferInstance
set_option maxHeartbeats 2000000 in
theorem specNewGrid_any (cols n : Int) (w : World) :
    Calls Try.prog 9 #[.int .i64 cols, .int .i64 n] w fun e w' => ∃ u, e = .returned (.tuple #[gridV (if newOk cols n then cols else 0) u, .bool (decide (newOk cols n))]) ∧ OwnG w' w.heap.size w'.heap.size u (if newOk cols n then newR cols.toNat n.toNat else []) ∧ Below w.heap.size w w' := by
  have hin1 := fun W => l1In_any cols 1 60 W
  have hin2 := fun W => l1In_any n 1 30 W
  have hG := GrW.new w 0 (.slice none 0 0) 24
  have hb1 := bal' w (Obj.cells #[Value.int IntKind.i64 0, Value.slice none 0 0] 24)
  obtain ⟨_, ⟨c0, c1⟩, ⟨z0, z1⟩⟩ := id hG
  by_cases h1 : (1 : Int) ≤ cols ∧ cols ≤ 60
  · have e1 : decide ((1 : Int) ≤ cols ∧ cols ≤ 60) = true := decide_eq_true h1
    rw [e1] at hin1
    by_cases h2 : (1 : Int) ≤ n ∧ n ≤ 30
    · have e2 : decide ((1 : Int) ≤ n ∧ n ≤ 30) = true := decide_eq_true h2
      rw [e2] at hin2
      have hok : newOk cols n := ⟨h1, h2⟩
      obtain ⟨cn, rfl⟩ : ∃ k : Nat, cols = k := ⟨cols.toNat, by omega⟩
      obtain ⟨nn, rfl⟩ : ∃ k : Nat, n = k := ⟨n.toNat, by omega⟩
      have hnew := fun W => l5New_any cn nn W (by omega) (by omega)
      have hd : decide (newOk (cn : Int) (nn : Int)) = true := decide_eq_true hok
      rw [if_pos hok, if_pos hok, hd, Int.toNat_natCast, Int.toNat_natCast]
      clear hd hok e1 e2 h1 h2
      go_enter Try.func9, Try.ntmps9
      go_wp2_with fail
      refine (hin1 _).mono ?_
      rintro e w1 ⟨rfl, hw⟩
      subst hw
      go_wp2_with fail
      refine (hin2 _).mono ?_
      rintro e w1 ⟨rfl, hw⟩
      subst hw
      go_wp2_with fail
      refine (hnew _).mono ?_
      rintro e w2 ⟨u, rfl, hou, hb2⟩
      obtain ⟨ua, un, uc, rfl⟩ : ∃ a n c, u = Value.slice a n c := (by rcases hou.shape with ⟨h, _⟩ | ⟨_, _, h, _⟩ <;> exact ⟨_, _, _, h⟩)
      have hG2 := hG.below hb2
      have kF := (hG2.put2 cn (.slice ua un uc)).2.1
      have hgF := putG2_grown w2 w.heap.size cn (.slice ua un uc)
      have hs1 := hb2.size
      have e3 : (w.alloc (Obj.cells #[Value.int IntKind.i64 0, Value.slice none 0 0] 24)).heap.size = w.heap.size + 1 := by simp
      rw [e3] at hou
      have hoF := (hou.kept hgF (fun g e => by cases e; omega)).up hgF.size
      have hbF := (hb1.trans (hb2.mono hb1.size)).grown hgF (by omega) (fun g e => by cases e; exact Nat.le_refl _)
      clear c0 c1 z0 z1
      obtain ⟨_, ⟨d0, d1⟩, ⟨y0, y1⟩⟩ := hG2
      obtain ⟨f0, f1⟩ := kF
      simp only [putG2] at f0 f1 hoF hbF
      unfold gridV
      go_wp2
      exact bodyPost_ret (v := .tuple #[.agg #[.int .i64 cn, .slice ua un uc], .bool true]) (by simp [results, Try.results9, go_sem, f0, f1]) rfl ⟨_, rfl, hoF.low (by omega), hbF⟩
    · have e2 : decide ((1 : Int) ≤ n ∧ n ≤ 30) = false := decide_eq_false h2
      rw [e2] at hin2
      have hno : ¬ newOk cols n := fun h => h2 h.2
      rw [if_neg hno, if_neg hno, decide_eq_false hno]
      go_enter Try.func9, Try.ntmps9
      go_wp2_with fail
      refine (hin1 _).mono ?_
      rintro e w1 ⟨rfl, hw⟩
      subst hw
      go_wp2_with fail
      refine (hin2 _).mono ?_
      rintro e w1 ⟨rfl, hw⟩
      subst hw
      go_wp2_with fail
      exact bodyPost_ret (v := .tuple #[.agg #[.int .i64 0, .slice none 0 0], .bool false]) (by simp [results, Try.results9, go_sem]) rfl ⟨_, rfl, ownG_none _ _ _, hb1⟩
  · have e1 : decide ((1 : Int) ≤ cols ∧ cols ≤ 60) = false := decide_eq_false h1
    rw [e1] at hin1
    have hno : ¬ newOk cols n := fun h => h1 h.1
    rw [if_neg hno, if_neg hno, decide_eq_false hno]
    go_enter Try.func9, Try.ntmps9
    go_wp2_with fail
    refine (hin1 _).mono ?_
    rintro e w1 ⟨rfl, hw⟩
    subst hw
    go_wp2_with fail
    exact bodyPost_ret (v := .tuple #[.agg #[.int .i64 0, .slice none 0 0], .bool false]) (by simp [results, Try.results9, go_sem]) rfl ⟨_, rfl, ownG_none _ _ _, hb1⟩
end Go.Proofs.Ytpmaibkakkfaeaa
namespace Go.Proofs.Ytpmaibkakkfaeaa
open Go.ChangeShapes Go.WideShapes Go.ChangeAt Go.RowKit
/-- Nothing changes but the blocks from lo to below hi; new ones may come. -/
def GrB (lo hi : Nat) (w w' : World) : Prop := w'.os = w.os ∧ w'.tape = w.tape ∧ w'.output = w.output ∧ w.heap.size ≤ w'.heap.size ∧ ∀ k, k < w.heap.size → (k < lo ∨ hi ≤ k) → w'.heap[k]? = w.heap[k]?
theorem GrB.refl (lo hi : Nat) (w : World) : GrB lo hi w w := ⟨rfl, rfl, rfl, Nat.le_refl _, fun _ _ _ => rfl⟩
theorem GrB.trans {lo hi : Nat} {a b c : World} (h : GrB lo hi a b) (k : GrB lo hi b c) : GrB lo hi a c :=
  ⟨k.1.trans h.1, k.2.1.trans h.2.1, k.2.2.1.trans h.2.2.1, Nat.le_trans h.2.2.2.1 k.2.2.2.1, fun i hi ho => (k.2.2.2.2 i (Nat.lt_of_lt_of_le hi h.2.2.2.1) ho).trans (h.2.2.2.2 i hi ho)⟩
theorem GrB.size {lo hi : Nat} {w w' : World} (h : GrB lo hi w w') : w.heap.size ≤ w'.heap.size := h.2.2.2.1
theorem GrB.of_below {lo hi : Nat} {w w' : World} (h : Below w.heap.size w w') : GrB lo hi w w' := ⟨h.os, h.tape, h.output, h.size, fun k hk _ => h.block k hk⟩
theorem GrB.of_grown {lo hi : Nat} {w w' : World} {row : Option Nat} (h : w.grownBy w' row) (hr : ∀ g, row = some g → lo ≤ g ∧ g < hi) : GrB lo hi w w' :=
  ⟨h.os, h.tape, h.output, h.size, fun k hk ho => h.block k hk (fun e => by have := hr k e.symm; omega)⟩
theorem GrB.mono {lo hi lo' hi' : Nat} {w w' : World} (h : GrB lo hi w w') (h1 : lo' ≤ lo) (h2 : hi ≤ hi') : GrB lo' hi' w w' :=
  ⟨h.1, h.2.1, h.2.2.1, h.2.2.2.1, fun k hk ho => h.2.2.2.2 k hk (by omega)⟩
theorem GrB.to_below {lo hi B : Nat} {w w' : World} (h : GrB lo hi w w') (hB : B ≤ lo) (hs : B ≤ w.heap.size) : Below B w w' :=
  ⟨h.1, h.2.1, h.2.2.1, h.2.2.2.1, fun k hk => h.2.2.2.2 k (by omega) (by omega)⟩
theorem GrB.cell {lo hi k o : Nat} {w w' : World} (h : GrB lo hi w w') (hk : k < w.heap.size) (ho : k < lo ∨ hi ≤ k) : w'.cell? ⟨k, o, none⟩ = w.cell? ⟨k, o, none⟩ := World.cell?_of_block (w := w) (h.2.2.2.2 k hk ho)
theorem GrB.frozen {lo hi k o : Nat} {w w' : World} (h : GrB lo hi w w') (hk : k < w.heap.size) (ho : k < lo ∨ hi ≤ k) : w'.frozen? ⟨k, o, none⟩ = w.frozen? ⟨k, o, none⟩ := World.frozen?_of_block (w := w) (h.2.2.2.2 k hk ho)
/-- What is owned stays while the world changes elsewhere. -/
theorem _root_.Go.World.ownsRow.gr {lo hi : Nat} {w w' : World} {base : Nat} {e : TypeId} {size : Nat} {v : Value} {n : Nat} {xs : List Value} (h : w.ownsRow base e size v n xs) (hg : GrB lo hi w w') (hne : ∀ g, v.ownBlock = some g → g < lo ∨ hi ≤ g) : w'.ownsRow base e size v n xs := by
  refine ⟨h.1, ?_⟩
  rcases h.2 with h2 | ⟨g, cap, cur, hv, hbg, hgg, r⟩
  · exact .inl h2
  · exact .inr ⟨g, cap, cur, hv, hbg, by rw [hg.2.2.2.2 g (Array.getElem?_eq_some_iff.1 hgg).1 (hne g (by rw [hv]; rfl))]; exact hgg, r⟩
theorem OwnC.gr {lo hi : Nat} {w w' : World} {base : Nat} {v : Value} {xs : List Ce} (h : OwnC w base v xs) (hg : GrB lo hi w w') (hne : ∀ g, v.ownBlock = some g → g < lo ∨ hi ≤ g) : OwnC w' base v xs := World.ownsRow.gr (show w.ownsRow _ _ _ _ _ _ from h) hg hne
/-- A slice of rows of this call's own, its values named. -/
def OwnV (w : World) (base B : Nat) (v : Value) (vs : List Value) (rows : List (List Ce)) : Prop :=
  vs.length = rows.length ∧ w.ownsRow base 54 1 v rows.length vs ∧ (∀ i, i < rows.length → OwnC w base (rowV vs i) (rowX rows i)) ∧
    (∀ i, i < rows.length → ∀ g, (rowV vs i).ownBlock = some g → g < B) ∧ (∀ i j, i < j → j < rows.length → ∀ g, (rowV vs i).ownBlock = some g → (rowV vs j).ownBlock ≠ some g)
theorem OwnG.v {w : World} {base B : Nat} {v : Value} {rows : List (List Ce)} (h : OwnG w base B v rows) : ∃ vs, OwnV w base B v vs rows := h
theorem OwnV.g {w : World} {base B : Nat} {v : Value} {vs : List Value} {rows : List (List Ce)} (h : OwnV w base B v vs rows) : OwnG w base B v rows := ⟨vs, h⟩
theorem OwnV.apart {w : World} {base B : Nat} {v : Value} {vs : List Value} {rows : List (List Ce)} (h : OwnV w base B v vs rows) {i j : Nat} (hi : i < rows.length) (hj : j < rows.length) (hij : i ≠ j) : (rowV vs i).ownBlock = none ∨ (rowV vs i).ownBlock ≠ (rowV vs j).ownBlock := by
  cases hv : (rowV vs i).ownBlock with
  | none => exact .inl rfl
  | some g =>
    right
    intro e
    rcases Nat.lt_or_gt_of_ne hij with c | c
    · exact h.2.2.2.2 i j c hj g hv e.symm
    · exact h.2.2.2.2 j i c hi g e.symm hv
theorem apart_comm {a b : Option Nat} (h : a = none ∨ a ≠ b) : b = none ∨ b ≠ a := by
  cases b with
  | none => exact .inl rfl
  | some g => right; intro e; rcases h with h | h <;> rw [← e] at h <;> simp at h
theorem OwnV.below {w w' : World} {base B : Nat} {v : Value} {vs : List Value} {rows : List (List Ce)} (h : OwnV w base B v vs rows) (hb : Below w.heap.size w w') : OwnV w' base B v vs rows :=
  ⟨h.1, World.ownsRow.below h.2.1 hb, fun i hi => (h.2.2.1 i hi).below hb, h.2.2.2.1, h.2.2.2.2⟩
theorem OwnV.up {w : World} {base B B' : Nat} {v : Value} {vs : List Value} {rows : List (List Ce)} (h : OwnV w base B v vs rows) (hb : B ≤ B') : OwnV w base B' v vs rows :=
  ⟨h.1, h.2.1, h.2.2.1, fun i hi g e => Nat.lt_of_lt_of_le (h.2.2.2.1 i hi g e) hb, h.2.2.2.2⟩
/-- One row's cells change. -/
theorem OwnV.rowset {w w' : World} {base B : Nat} {v : Value} {vs : List Value} {rows : List (List Ce)} (h : OwnV w base B v vs rows) {j : Nat} (hj : j < rows.length) (ys : List Ce) (ho : OwnC w' base (rowV vs j) ys) (hg : w.grownBy w' (rowV vs j).ownBlock) : OwnV w' base B v vs (rows.set j ys) := by
  have hx : ∀ i, i < rows.length → rowX (rows.set j ys) i = if i = j then ys else rowX rows i := fun i hi => by
    unfold rowX
    by_cases e : i = j
    · subst e; rw [if_pos rfl]; simp [List.getD, hi]
    · rw [if_neg e]; simp [List.getD, Ne.symm e]
  refine ⟨by rw [List.length_set]; exact h.1, ?_, fun i hi => ?_, fun i hi => ?_, fun a b hab hb => ?_⟩
  · rw [List.length_set]
    exact World.ownsRow.kept h.2.1 hg (apart_comm (outer_apart h.2.1 (h.2.2.1 j hj)))
  · rw [List.length_set] at hi
    rw [hx i hi]
    by_cases e : i = j
    · subst e; rw [if_pos rfl]; exact ho
    · rw [if_neg e]; exact (h.2.2.1 i hi).kept hg (h.apart hi hj e)
  · rw [List.length_set] at hi; exact h.2.2.2.1 i hi
  · rw [List.length_set] at hb; exact h.2.2.2.2 a b hab hb
theorem OwnV.shape {w : World} {base B : Nat} {v : Value} {vs : List Value} {rows : List (List Ce)} (h : OwnV w base B v vs rows) : (v = .slice none 0 0 ∧ rows = []) ∨ ∃ g cap, v = .slice (some ⟨g, 0, none⟩) rows.length cap ∧ base ≤ g ∧ g < w.heap.size ∧ rows.length ≤ cap := h.g.shape
theorem OwnV.cell {w : World} {base B g n cap : Nat} {vs : List Value} {rows : List (List Ce)} (h : OwnV w base B (.slice (some ⟨g, 0, none⟩) n cap) vs rows) (hn : rows.length = n) (i : Nat) (hi : i < n) : w.cell? ⟨g, i, none⟩ = some (rowV vs i) := by
  subst hn
  rw [World.ownsRow.cellAt h.2.1 i (by have := h.1; omega), rowV_get (by have := h.1; omega)]
theorem OwnV.frozen {w : World} {base B g n cap : Nat} {vs : List Value} {rows : List (List Ce)} (h : OwnV w base B (.slice (some ⟨g, 0, none⟩) n cap) vs rows) (hn : rows.length = n) (i : Nat) : w.frozen? ⟨g, i, none⟩ = false := by
  subst hn
  exact World.ownsRow.frozenAt h.2.1 i
/-- All of it lies from lo to below hi. -/
def OwnR (w : World) (lo hi : Nat) (v : Value) (rows : List (List Ce)) : Prop := OwnG w lo hi v rows ∧ (∀ g, v.ownBlock = some g → g < hi) ∧ hi ≤ w.heap.size
theorem OwnR.of {w : World} {lo : Nat} {v : Value} {rows : List (List Ce)} (h : OwnG w lo w.heap.size v rows) : OwnR w lo w.heap.size v rows := ⟨h, fun g e => (h.lt g e).2, Nat.le_refl _⟩
theorem OwnG.gr {lo hi base B : Nat} {w w' : World} {v : Value} {rows : List (List Ce)} (h : OwnG w base B v rows) (hv : ∀ g, v.ownBlock = some g → g < B) (hg : GrB lo hi w w') (hne : B ≤ lo ∨ hi ≤ base) : OwnG w' base B v rows := by
  obtain ⟨vs, hl, ho, hr, hB, hd⟩ := h
  refine ⟨vs, hl, World.ownsRow.gr ho hg (fun g e => ?_), fun i hi => (hr i hi).gr hg (fun g e => ?_), hB, hd⟩
  · have := hv g e; have := (ho.lt g e).1; omega
  · have := hB i hi g e; have := ((hr i hi).lt g e).1; omega
theorem OwnR.gr {lo hi base B : Nat} {w w' : World} {v : Value} {rows : List (List Ce)} (h : OwnR w base B v rows) (hg : GrB lo hi w w') (hne : B ≤ lo ∨ hi ≤ base) : OwnR w' base B v rows :=
  ⟨h.1.gr h.2.1 hg hne, h.2.1, Nat.le_trans h.2.2 hg.size⟩
theorem OwnR.below {base B : Nat} {w w' : World} {v : Value} {rows : List (List Ce)} (h : OwnR w base B v rows) (hb : Below w.heap.size w w') : OwnR w' base B v rows := ⟨h.1.below hb, h.2.1, Nat.le_trans h.2.2 hb.size⟩
theorem OwnR.sl {base B : Nat} {w : World} {v : Value} {rows : List (List Ce)} (h : OwnR w base B v rows) : SlG w v rows := SlG.of_own h.1
theorem GrN.gr {lo hi B : Nat} {w w' : World} {cols : Int} {v : Value} (h : GrN w B cols v) (hg : GrB lo hi w w') (hne : B < lo ∨ hi ≤ B) : GrN w' B cols v :=
  ⟨Nat.lt_of_lt_of_le h.1 hg.size, by rw [hg.cell h.1 hne]; exact h.2.1, by rw [hg.cell h.1 hne]; exact h.2.2⟩
/-- Rows that are reckoned one by one. -/
def genR (n : Nat) (f : Nat → List Ce) : List (List Ce) := (List.range n).map f
theorem genR_len (n : Nat) (f : Nat → List Ce) : (genR n f).length = n := by simp [genR]
theorem genR_at (n : Nat) (f : Nat → List Ce) (i : Nat) (h : i < n) : rowX (genR n f) i = f i := by
  rw [rowX_lt (by rw [genR_len]; exact h)]
  simp [genR]
theorem ext_rowX (a b : List (List Ce)) (hl : a.length = b.length) (h : ∀ i, i < a.length → rowX a i = rowX b i) : a = b := by
  apply List.ext_getElem hl
  intro i h1 h2
  rw [← rowX_lt h1, ← rowX_lt h2]
  exact h i h1
theorem rowX_set' {rows : List (List Ce)} {j : Nat} (hj : j < rows.length) (ys : List Ce) (i : Nat) : rowX (rows.set j ys) i = if i = j then ys else rowX rows i := by
  unfold rowX
  by_cases e : i = j
  · subst e; rw [if_pos rfl]; simp [List.getD, hj]
  · rw [if_neg e]; simp [List.getD, Ne.symm e]
end Go.Proofs.Ytpmaibkakkfaeaa
namespace Go.Proofs.Ytpmaibkakkfaeaa
open Go.ChangeShapes Go.WideShapes Go.ChangeAt Go.RowKit
def mkC (q : Nat) : Ce := ⟨(q : Int), ⟨(q : Int) + 1, (q : Int) + 1 + 1, ((q : Int) + 1 + 1 + 1).tmod 3 == 0, ((q : Int) + 1 + 1 + 1 + 1).tmod 3 == 0, ((q : Int) + 1 + 1 + 1 + 1 + 1).tmod 3 == 0⟩, (q : Int) + 1 + 1 + 1 + 1 + 1 + 1⟩
def marksC (k n : Nat) : List Ce := (List.range n).map fun i => mkC (k + 7 * i)
theorem marksC_len (k n : Nat) : (marksC k n).length = n := by simp [marksC]
theorem marksC_at (k n i : Nat) (h : i < n) : atC (marksC k n) i = mkC (k + 7 * i) := by
  rw [atC_lt (by rw [marksC_len]; exact h)]
  simp [marksC]
set_option maxHeartbeats 4000000 in
set_option maxRecDepth 20000 in
theorem heldC_marks (v : Value) (k n : Nat) (w : World) (hv : SlC w v (marksC k n)) (hk : k ≤ 1073741824) (hl : n ≤ 1073741824) :
    Calls Try.prog 35 #[v, .int .i64 k] w fun e w' => e = .returned (.int .i64 ((k + 7 * n : Nat) : Int)) ∧ w' = w := by
  obtain ⟨a, c, rfl, hc0⟩ := id hv
  rw [marksC_len] at hv ⊢
  clear hc0
  go_enter Try.func35, Try.ntmps35
  go_wp2
  go_loop [1, 5] (fun q i => ∃ j : Nat, j ≤ n ∧ i = .int .i64 j ∧ q = .int .i64 ((k + 7 * j : Nat) : Int)) (fun _ i => n - (intOf i).toNat)
  case atStart => exact ⟨0, Nat.zero_le _, rfl, by simp⟩
  case round =>
    obtain ⟨j, hj, rfl, rfl⟩ := hrel
    by_cases hlt : j < n
    · have hji : (j : Int) < (n : Int) := by omega
      have hj0 : (0 : Int) ≤ (j : Int) := by omega
      obtain ⟨b, off, rfl, hbb, hat⟩ := hv.at j (by rw [marksC_len]; exact hlt)
      rw [marksC_at k n j hlt] at hat
      have hq : k + 7 * j ≤ 8 * 1073741824 := by omega
      have hq7 : Hid (((k + 7 * (j + 1) : Nat) : Int) = ((k + 7 * j : Nat) : Int) + 1 + 1 + 1 + 1 + 1 + 1 + 1) := by show _ = _; omega
      generalize k + 7 * j = q at *
      obtain ⟨c0, c1, c2, c3, c4, c5, c6⟩ := hat
      simp only [mkC] at c0 c1 c2 c3 c4 c5 c6
      clear hv
      go_wp2
      go_round
      case rel => exact ⟨j + 1, by omega, by go_num, by rw [hq7.out]⟩
      case measure => simp [intOf]; omega
    · have hjn : j = n := by omega
      subst hjn
      go_wp2
      go_ret
      exact ⟨rfl, rfl⟩
set_option maxHeartbeats 8000000 in
set_option maxRecDepth 20000 in
theorem markC_own (base : Nat) (v : Value) (k : Nat) (xs : List Ce) (w : World) (hown : OwnC w base v xs) (hk : k ≤ 1073741824) (hl : xs.length ≤ 1073741824) :
    Calls Try.prog 34 #[v, .int .i64 k] w fun e w' => e = .returned (.int .i64 ((k + 7 * xs.length : Nat) : Int)) ∧ OwnC w' base v (marksC k xs.length) ∧ w.grownBy w' v.ownBlock := by
  rcases hown.shape with ⟨rfl, rfl⟩ | ⟨g, cap, rfl, hbg, hlg, hcap⟩
  · go_enter Try.func34, Try.ntmps34
    go_wp2
    refine wp_loop_rounds 1 ?_
    rw [rounds_succ]
    go_wp2
    go_ret
    exact ⟨by simp, by simpa [marksC] using hown, World.grownBy.refl _ _⟩
  · generalize hn : xs.length = n at *
    go_enter Try.func34, Try.ntmps34
    go_wp2
    go_loopw [1, 5] (fun q i wr => ∃ (j : Nat) (ys : List Ce), j ≤ n ∧ i = .int .i64 j ∧ q = .int .i64 ((k + 7 * j : Nat) : Int) ∧ ys.length = n ∧ (∀ t, t < j → atC ys t = mkC (k + 7 * t)) ∧ OwnC wr base (.slice (some ⟨g, 0, none⟩) n cap) ys ∧ w.grownBy wr (some g)) (fun _ i _ => n - (intOf i).toNat)
    case atStart => exact ⟨0, xs, Nat.zero_le _, rfl, by simp, hn, (fun t h => absurd h (Nat.not_lt_zero t)), hown, World.grownBy.refl _ _⟩
    case round =>
      obtain ⟨j, ys, hj, rfl, rfl, hyl, hys, ho, hgr⟩ := hrel
      by_cases hlt : j < n
      · have hji : (j : Int) < (n : Int) := by omega
        have hj0 : (0 : Int) ≤ (j : Int) := by omega
        have hq : k + 7 * j ≤ 8 * 1073741824 := by omega
        have hq7 : Hid (((k + 7 * (j + 1) : Nat) : Int) = ((k + 7 * j : Nat) : Int) + 1 + 1 + 1 + 1 + 1 + 1 + 1) := by show _ = _; omega
        have hp := ho.put hyl j hlt (mkC (k + 7 * j))
        have hys2 : ∀ t, t < j + 1 → atC (ys.set j (mkC (k + 7 * j))) t = mkC (k + 7 * t) := by
          intro t ht
          rw [atC_set]
          by_cases e : t = j
          · subst e; rw [if_pos ⟨rfl, by omega⟩]
          · rw [if_neg (fun h => e h.1)]; exact hys t (by omega)
        have hyl2 : (ys.set j (mkC (k + 7 * j))).length = n := by simpa using hyl
        obtain ⟨kk, kg⟩ := hp
        have hgr2 := grown_tr hgr kg
        have hat := ho.at hyl j hlt
        have f0 := ho.frozen hyl (j * 7)
        have f1 := ho.frozen hyl (j * 7 + 1)
        have f2 := ho.frozen hyl (j * 7 + 2)
        have f3 := ho.frozen hyl (j * 7 + 3)
        have f4 := ho.frozen hyl (j * 7 + 4)
        have f5 := ho.frozen hyl (j * 7 + 5)
        have f6 := ho.frozen hyl (j * 7 + 6)
        clear hown ho hgr kg hys hyl hbg hlg
        generalize ys.set j (mkC (k + 7 * j)) = ys2 at *
        generalize k + 7 * j = q at *
        obtain ⟨c0, c1, c2, c3, c4, c5, c6⟩ := hat
        simp only [putCe, mkC] at kk hgr2
        go_wp2
        go_roundw
        case rel => exact ⟨j + 1, ys2, by omega, by go_num, by rw [hq7.out], hyl2, hys2, kk, hgr2⟩
        case measure => simp [intOf]; omega
      · have hjn : j = n := by omega
        have hji : ¬ (j : Int) < (n : Int) := by omega
        have hye : ys = marksC k n := ext_atC _ _ (by rw [marksC_len]; exact hyl) (fun i hi => by rw [marksC_at k n i (by omega)]; exact hys i (by omega))
        subst hjn
        clear hys hyl hown
        subst hye
        go_wp2
        go_ret
        exact ⟨rfl, ho, hgr⟩
end Go.Proofs.Ytpmaibkakkfaeaa
