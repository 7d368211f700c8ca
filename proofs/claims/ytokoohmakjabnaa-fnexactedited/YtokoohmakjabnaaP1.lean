/- Runes as numbers: what a text's first bytes are read to. Plain mathematics, no program. Widths, and what fits into some cells. Plain mathematics. Parsers as numbers: what a rune makes of one, and what is told of it. Plain mathematics, no program. Slices of int64 that can be read, and rows that stay. What a contract leaves, as growth. Lists of numbers that one call owns, apart from one another; parsers and actions in memory. Contract of l1In alone. Contracts: the specification's tests on parsers. The walk of the program's parser: what it tells, what comes next. The laws' own helper that copies a list of int64. The walk of the program's parser: its parameters. A row of numbers that one call owns: cut, longer, written over in part. slices.Delete at numbers: one of a row that one call owns. slices.Insert at numbers: one number into a row that one call owns. The steps from one list to the other. Plain mathematics. Edits that are done to a list. Plain mathematics. The laws' own helpers on lists of int64: like, marked, held. The specification's tables of two lists: distances, and what is shared. One operation alone may come up. The walk of the program's parser: past controls, letters, parameters, a title. The laws' own helper: two lists alike. Contracts of the program's Parsed and Step: first part. A struct of many cells, loaded and stored as a whole, behind a guard too. A part of a block that is a struct, loaded as a whole. The program's rows of distances: one that is all beyond. The program's route: its block, and what is read of it. The laws' own helpers on lists of edits: like, marked, held. The program's Edited: an edit that can be done, done. The specification's Edits. The program's Edited: all edits, one behind the other. Appends onto a row that lies somewhere, its place said. -/
import Derived.Laws.BytesArg
import GoSem.Core.Utf8
import Derived.Test.YtokoohmakjabnaaRows
import Derived.WalkKit
import Derived.ProofKit
import Derived.OpenShut
import Derived.LoopN
import Derived.WalkSpells
import Derived.Deep.QuietTactic
import Derived.BigQuiet
import Derived.Deep.AppendLies
import Derived.ShutString
import Derived.LoopTactic
import Derived.Deep.RegionHeld3
import Derived.OneCell
import Derived.Deep.RegionLaw
import Derived.WalkLawsBesides
import Derived.Lib.SliceRun
import Derived.Laws.IdiomCopy
import Derived.Deep.DeepAppendRoom
import Derived.Shelf.RegionOpenPlain
import Derived.Lib.AppendZerosOnto
import Derived.Lib.Overlaps
import Derived.Laws.Externs
import Derived.Deep.LoopGhost
import Derived.Laws.AppendOwnNone
import Derived.Laws.Rows
import Derived.Laws.Tables
import Derived.Maps.AppendAt
namespace Go.Proofs.Ytokoohmakjabnaa
def runeOk (r : Int) : Bool := decide (0 ≤ r ∧ r ≤ 1114111 ∧ (r < 55296 ∨ 57343 < r))

theorem runeOk_bd (r : Int) (h : runeOk r = true) : 0 ≤ r ∧ r ≤ 1114111 := by simp [runeOk] at h; omega

end Go.Proofs.Ytokoohmakjabnaa
namespace Go.Proofs.Ytokoohmakjabnaa
def widthV (r : Int) : Int :=
  if r < 32 ∨ runeOk r = false ∨ (127 ≤ r ∧ r ≤ 159) ∨ (768 ≤ r ∧ r ≤ 879) then 0
  else if (4352 ≤ r ∧ r ≤ 4447) ∨ (12288 ≤ r ∧ r ≤ 55295) ∨ (127744 ≤ r ∧ r ≤ 131071) then 2 else 1
end Go.Proofs.Ytokoohmakjabnaa
namespace Go.Proofs.Ytokoohmakjabnaa
structure Pa where
  state : Int
  params : List Int
  mark : Int
  text : List Int
structure Ac where
  kind : Int
  rune : Int
  params : List Int
  mark : Int
  text : List Int
def st0 (s : Int) : Pa := ⟨s, [], 0, []⟩
def one0 (ps : List Int) : List Int := if ps.length = 0 then [0] else ps
def digitP (ps : List Int) (d : Int) : List Int := (one0 ps).set ((one0 ps).length - 1) (min 9999 (10 * (one0 ps).getD ((one0 ps).length - 1) 0 + d))
def semiP (ps : List Int) : List Int := if (one0 ps).length < 16 then one0 ps ++ [0] else one0 ps
def acR (k r : Int) : Ac := ⟨k, r, [], 0, []⟩
def escM (r : Int) : Pa × List Ac :=
  if r = 91 then (st0 3, []) else if r = 93 then (st0 4, []) else if 48 ≤ r ∧ r ≤ 126 then (st0 1, [acR 3 r]) else (st0 1, [])
/-- Whether a list takes a rune in. -/
def takes (ps : List Int) (m r : Int) : Bool := decide (r = 63 ∧ ps.length = 0 ∧ m = 0 ∨ 48 ≤ r ∧ r ≤ 57 ∨ r = 59)
def takenP (p : Pa) (r : Int) : Pa :=
  if r = 63 ∧ p.params.length = 0 ∧ p.mark = 0 then ⟨p.state, p.params, 63, p.text⟩
  else if 48 ≤ r ∧ r ≤ 57 then ⟨p.state, digitP p.params (r - 48), p.mark, p.text⟩
  else ⟨p.state, semiP p.params, p.mark, p.text⟩
def listM (p : Pa) (r : Int) : Pa × List Ac :=
  if takes p.params p.mark r = true then (takenP p r, [])
  else if 64 ≤ r ∧ r ≤ 126 then (st0 1, [⟨4, r, p.params, p.mark, []⟩]) else (st0 1, [])
def titleM (p : Pa) (r : Int) : Pa × List Ac :=
  if r = 7 then (st0 1, [⟨5, 0, [], 0, p.text⟩])
  else if r = 27 then (⟨5, p.params, p.mark, p.text⟩, [])
  else if p.text.length < 40 then (⟨p.state, p.params, p.mark, p.text ++ [r]⟩, []) else (p, [])
def endM (p : Pa) (r : Int) : Pa × List Ac := if r = 92 then (st0 1, [⟨5, 0, [], 0, p.text⟩]) else (st0 1, [])
/-- A control that leaves the state as it is. -/
def stays (r : Int) : Bool := decide ((r < 32 ∨ r = 127) ∧ r ≠ -1 ∧ r ≠ 24 ∧ r ≠ 26 ∧ r ≠ 27)
def stepM (p : Pa) (r : Int) : Pa × List Ac :=
  if p.state = 4 then titleM p r
  else if p.state = 5 then endM p r
  else if r = 27 then (st0 2, [])
  else if r = 24 ∨ r = 26 then (st0 1, [])
  else if r < 32 ∨ r = 127 then (p, [acR 2 r])
  else if p.state = 2 then escM r
  else if p.state = 3 then listM p r
  else if 0 < widthV r then (p, [acR 1 r]) else (p, [])
def parsedM : Pa → List Int → Pa × List Ac
  | p, [] => (p, [])
  | p, r :: l => ((parsedM (stepM p r).1 l).1, (stepM p r).2 ++ (parsedM (stepM p r).1 l).2)
/-- What comes of a parser, of what is left and of what was told. -/
def Fin (p : Pa) (l : List Int) (t : List Ac) : Pa × List Ac := ((parsedM p l).1, t ++ (parsedM p l).2)
theorem Fin_cons (p : Pa) (r : Int) (l : List Int) (t : List Ac) : Fin p (r :: l) t = Fin (stepM p r).1 l (t ++ (stepM p r).2) := by simp [Fin, parsedM]
end Go.Proofs.Ytokoohmakjabnaa
namespace Go.Proofs.Ytokoohmakjabnaa
open Go.ChangeShapes Go.WideShapes Go.ChangeAt Go.RowKit
/-- What is owned stays owned while the world only grows above. -/
theorem _root_.Go.World.ownsRow.below {w w' : World} {base : Nat} {e : TypeId} {size : Nat} {v : Value} {n : Nat} {xs : List Value} (h : w.ownsRow base e size v n xs) (hb : Below w.heap.size w w') : w'.ownsRow base e size v n xs := by
  refine ⟨h.1, ?_⟩
  rcases h.2 with h2 | ⟨g, cap, cur, hv, hbg, hg, r⟩
  · exact .inl h2
  · exact .inr ⟨g, cap, cur, hv, hbg, by rw [hb.block g (Array.getElem?_eq_some_iff.1 hg).1]; exact hg, r⟩
/-- A slice that can be read: of no element, or a row of cells that hold the numbers. -/
def SlI (w : World) (v : Value) (xs : List Int) : Prop :=
  ∃ a c, v = .slice a xs.length c ∧ (xs = [] ∨ ∃ b off, a = some ⟨b, off, none⟩ ∧ b < w.heap.size ∧ ∀ i, i < xs.length → w.cell? ⟨b, off + i, none⟩ = some (.int .i64 (xs.getD i 0)))
theorem SlI.of_own {w : World} {base : Nat} {e : TypeId} {v : Value} {xs : List Int} (h : w.ownsRow base e 1 v xs.length (xs.map (Value.int .i64))) : SlI w v xs := by
  rcases h.2 with ⟨rfl, h2⟩ | ⟨g, cap, cur, rfl, hb, hg, hr⟩
  · exact ⟨none, 0, by rw [h2], .inl (List.eq_nil_of_length_eq_zero h2)⟩
  · refine ⟨_, cap, rfl, .inr ⟨g, 0, rfl, (Array.getElem?_eq_some_iff.1 hg).1, fun i hi => ?_⟩⟩
    have := h.cellAt i (by simpa using hi)
    rw [Nat.zero_add, this]
    simp [hi]
theorem SlI.below {w w' : World} {v : Value} {xs : List Int} (h : SlI w v xs) (hb : Below w.heap.size w w') : SlI w' v xs := by
  obtain ⟨a, c, hv, h | ⟨b, off, ha, hlt, hc⟩⟩ := h
  · exact ⟨a, c, hv, .inl h⟩
  · exact ⟨a, c, hv, .inr ⟨b, off, ha, Nat.lt_of_lt_of_le hlt hb.size, fun i hi => (hb.cell (p := ⟨b, off + i, none⟩) hlt).trans (hc i hi)⟩⟩
theorem SlI.drewN {w : World} {v : Value} {xs : List Int} (h : SlI w v xs) (n : Nat) : SlI (w.drewN n) v xs := h

/-- What a law is told of a slice of integers that came in: nil; or a row of cap cells, the numbers zs (the first len are its elements), each fitting its kind. -/
def IsRow (k : IntKind) (w : World) (a : Option Addr) (len cap : Nat) (zs : List Int) : Prop :=
  (a = none ∧ len = 0 ∧ cap = 0 ∧ zs = []) ∨
  ∃ x, a = some x ∧ len ≤ cap ∧ cap ≤ maxLen ∧ zs.length = cap ∧ (∀ i, i < zs.length → w.cell? (x.add i) = some (.int k (zs.getD i 0))) ∧ ∀ n ∈ zs, (Lit.int k n).wf = true
theorem SlI.of_row {w : World} {a : Option Addr} {len cap : Nat} {zs : List Int} (h : IsRow .i64 w a len cap zs) : SlI w (.slice a len cap) (zs.take len) ∧ (zs.take len).length = len := by
  rcases h with ⟨rfl, rfl, rfl, rfl⟩ | ⟨x, rfl, hl, hm, hz, hc, hw⟩
  · exact ⟨⟨none, 0, rfl, .inl rfl⟩, rfl⟩
  · have hlen : (zs.take len).length = len := by rw [List.length_take]; omega
    refine ⟨⟨some x, cap, by rw [hlen], ?_⟩, hlen⟩
    by_cases h0 : len = 0
    · left; subst h0; simp
    · right
      obtain ⟨b, off, spot⟩ := x
      have h1 := hc 0 (by omega)
      have hspot : spot = none := by simpa [Addr.add] using World.cell?_spot h1
      subst hspot
      refine ⟨b, off, rfl, World.block_lt_of_cell? w _ h1, fun i hi => ?_⟩
      rw [hlen] at hi
      have h2 := hc i (by omega)
      have e : (zs.take len).getD i 0 = zs.getD i 0 := by simp [List.getD, hi]
      rw [e, ← h2]
      by_cases hi0 : i = 0
      · subst hi0; simp [Addr.add]
      · simp [Addr.add, hi0]

end Go.Proofs.Ytokoohmakjabnaa
namespace Go.Proofs.Ytokoohmakjabnaa
open Go.ChangeShapes Go.WideShapes Go.ChangeAt Go.RowKit
theorem gbl {w w' : World} (h : Below w.heap.size w w') (row : Option Nat) : w.grownBy w' row := ⟨h.os, h.tape, h.output, h.size, fun k hk _ => h.block k hk⟩
theorem grown_tr {a b c : World} {row : Option Nat} (h : a.grownBy b row) (k : b.grownBy c row) : a.grownBy c row :=
  ⟨k.os.trans h.os, k.tape.trans h.tape, k.output.trans h.output, Nat.le_trans h.size k.size, fun i hi hr => (k.block i (Nat.lt_of_lt_of_le hi h.size) hr).trans (h.block i hi hr)⟩
theorem bal' (w : World) (o : Obj) : Below w.heap.size w (w.alloc o) := (Below.refl _ _).alloc (Nat.le_refl _) o
end Go.Proofs.Ytokoohmakjabnaa
namespace Go.Proofs.Ytokoohmakjabnaa
open Go.ChangeShapes Go.WideShapes Go.ChangeAt Go.RowKit
theorem own_low' {w : World} {base base' : Nat} {e : TypeId} {size : Nat} {v : Value} {n : Nat} {xs : List Value} (h : w.ownsRow base e size v n xs) (hb : base' ≤ base) : w.ownsRow base' e size v n xs := by
  refine ⟨h.1, ?_⟩
  rcases h.2 with h2 | ⟨g, cap, cur, hv, hbg, r⟩
  · exact .inl h2
  · exact .inr ⟨g, cap, cur, hv, Nat.le_trans hb hbg, r⟩
/-- A list of numbers of this call's own. -/
def OwnI (w : World) (base : Nat) (v : Value) (xs : List Int) : Prop := w.ownsRow base 2 1 v xs.length (xs.map (Value.int .i64))
theorem OwnI.below {w w' : World} {base : Nat} {v : Value} {xs : List Int} (h : OwnI w base v xs) (hb : Below w.heap.size w w') : OwnI w' base v xs := World.ownsRow.below h hb
theorem OwnI.kept {w w' : World} {base : Nat} {v : Value} {xs : List Int} {row : Option Nat} (h : OwnI w base v xs) (hg : w.grownBy w' row) (hne : v.ownBlock = none ∨ v.ownBlock ≠ row) : OwnI w' base v xs := World.ownsRow.kept (show w.ownsRow _ _ _ _ _ _ from h) hg hne
theorem OwnI.lt {w : World} {base : Nat} {v : Value} {xs : List Int} (h : OwnI w base v xs) : ∀ g, v.ownBlock = some g → base ≤ g ∧ g < w.heap.size := fun g e => World.ownsRow.lt h g e
theorem OwnI.sl {w : World} {base : Nat} {v : Value} {xs : List Int} (h : OwnI w base v xs) : SlI w v xs := SlI.of_own h
theorem OwnI.shape {w : World} {base : Nat} {v : Value} {xs : List Int} (h : OwnI w base v xs) : ∃ a n c, v = .slice a n c := by
  obtain ⟨a, c, hv, _⟩ := h.sl
  exact ⟨a, _, c, hv⟩
/-- Two slices over no common block. -/
def ApV (u v : Value) : Prop := ∀ g, u.ownBlock = some g → v.ownBlock ≠ some g
theorem ApV.symm {u v : Value} (h : ApV u v) : ApV v u := fun g e1 e2 => h g e2 e1
/-- Lists of numbers of this call's own, no two over one block. -/
def LiOk (w : World) (base : Nat) (L : List (Value × List Int)) : Prop := (∀ p ∈ L, OwnI w base p.1 p.2) ∧ L.Pairwise fun p q => ApV p.1 q.1
theorem LiOk.below {w w' : World} {base : Nat} {L : List (Value × List Int)} (h : LiOk w base L) (hb : Below w.heap.size w w') : LiOk w' base L := ⟨fun p hp => (h.1 p hp).below hb, h.2⟩
theorem LiOk.sub {w : World} {base : Nat} {L M : List (Value × List Int)} (h : LiOk w base L) (hp : M.Sublist L) : LiOk w base M :=
  ⟨fun _ hm => h.1 _ (hp.subset hm), h.2.sublist hp⟩
theorem LiOk.nil (w : World) (base : Nat) : LiOk w base [] := ⟨fun _ h => absurd h (List.not_mem_nil), List.Pairwise.nil⟩
theorem LiOk.tail {w : World} {base : Nat} {x : Value × List Int} {L : List (Value × List Int)} (h : LiOk w base (x :: L)) : LiOk w base L := h.sub (List.sublist_cons_self _ _)
theorem LiOk.head {w : World} {base : Nat} {x : Value × List Int} {L : List (Value × List Int)} (h : LiOk w base (x :: L)) : OwnI w base x.1 x.2 := h.1 x (List.mem_cons_self)
/-- One list more, over a block that is new. -/
theorem LiOk.new {w w' : World} {base : Nat} {L : List (Value × List Int)} (h : LiOk w base L) (hb : Below w.heap.size w w') {v : Value} {xs : List Int} (ho : OwnI w' base v xs) (hn : ∀ g, v.ownBlock = some g → w.heap.size ≤ g) : LiOk w' base ((v, xs) :: L) :=
  ⟨fun p hp => by
    rcases List.mem_cons.1 hp with rfl | hp
    · exact ho
    · exact (h.1 p hp).below hb, List.Pairwise.cons (fun q hq g e1 e2 => by have := hn g e1; have := ((h.1 q hq).lt g e2).2; omega) h.2⟩
/-- What is not among them changes. -/
theorem LiOk.kept {w w' : World} {base : Nat} {L : List (Value × List Int)} {row : Option Nat} (h : LiOk w base L) (hg : w.grownBy w' row) (hne : ∀ p ∈ L, p.1.ownBlock = none ∨ p.1.ownBlock ≠ row) : LiOk w' base L :=
  ⟨fun p hp => (h.1 p hp).kept hg (hne p hp), h.2⟩
/-- An action with the values of its lists. -/
structure Ax where
  a : Ac
  pv : Value
  tv : Value
def PaC (w : World) (B : Nat) (s : Int) (pv : Value) (m : Int) (tv : Value) : Prop :=
  B < w.heap.size ∧ (w.cell? ⟨B, 0, none⟩ = some (.int .i64 s) ∧ w.cell? ⟨B, 1, none⟩ = some pv ∧ w.cell? ⟨B, 2, none⟩ = some (.int .i64 m) ∧ w.cell? ⟨B, 3, none⟩ = some tv) ∧
    (w.frozen? ⟨B, 0, none⟩ = false ∧ w.frozen? ⟨B, 1, none⟩ = false ∧ w.frozen? ⟨B, 2, none⟩ = false ∧ w.frozen? ⟨B, 3, none⟩ = false)
theorem PaC.grown {w w' : World} {B : Nat} {s m : Int} {pv tv : Value} {row : Option Nat} (h : PaC w B s pv m tv) (hg : w.grownBy w' row) (hr : row ≠ some B) : PaC w' B s pv m tv := by
  have hb := hg.block B h.1 (Ne.symm hr)
  have hc : ∀ k, w'.cell? ⟨B, k, none⟩ = w.cell? ⟨B, k, none⟩ := fun k => World.cell?_of_block (w := w) hb
  have hz : ∀ k, w'.frozen? ⟨B, k, none⟩ = w.frozen? ⟨B, k, none⟩ := fun k => World.frozen?_of_block (w := w) hb
  refine ⟨Nat.lt_of_lt_of_le h.1 hg.size, ?_, ?_⟩
  · rw [hc, hc, hc, hc]; exact h.2.1
  · rw [hz, hz, hz, hz]; exact h.2.2
theorem PaC.below {w w' : World} {B : Nat} {s m : Int} {pv tv : Value} (h : PaC w B s pv m tv) (hb : Below w.heap.size w w') : PaC w' B s pv m tv := h.grown (gbl hb none) (by simp)
theorem PaC.new (w : World) (s m : Int) (pv tv : Value) (t : TypeId) : PaC (w.alloc (.cells #[.int .i64 s, pv, .int .i64 m, tv] t)) w.heap.size s pv m tv :=
  ⟨by simp, ⟨by simp [go_sem], by simp [go_sem], by simp [go_sem], by simp [go_sem]⟩, ⟨by simp [go_sem], by simp [go_sem], by simp [go_sem], by simp [go_sem]⟩⟩
end Go.Proofs.Ytokoohmakjabnaa
namespace Go.Proofs.Ytokoohmakjabnaa
open Go.ChangeShapes Go.WideShapes Go.ChangeAt Go.RowKit
theorem ret_bool {a b : Bool} (h : a = b) : Ending.returned (.bool a) = .returned (.bool b) := by rw [h]

theorem l1In_any (x lo hi : Int) (w : World) :
    Calls Try.prog 38 #[.int .i64 x, .int .i64 lo, .int .i64 hi] w fun e w' => e = .returned (.bool (decide (lo ≤ x ∧ x ≤ hi))) ∧ w' = w := by
  by_cases h1 : lo ≤ x
  · go_enter Try.func38, Try.ntmps38
    go_wp2
    go_ret
    exact ⟨ret_bool (by simp [h1]), rfl⟩
  · go_enter Try.func38, Try.ntmps38
    go_wp2
    go_ret
    exact ⟨ret_bool (by simp; omega), rfl⟩

end Go.Proofs.Ytokoohmakjabnaa
namespace Go.Proofs.Ytokoohmakjabnaa
open Go.ChangeShapes Go.WideShapes Go.ChangeAt Go.RowKit
theorem SlI.cons {w : World} {v : Value} {xs : List Int} (h : SlI w v xs) : ∃ a c, v = .slice a xs.length c ∧ ∀ j, j < xs.length → ∃ b off, a = some ⟨b, off, none⟩ ∧ w.cell? ⟨b, off + j, none⟩ = some (.int .i64 (xs.getD j 0)) := by
  obtain ⟨a, c, hv, h | ⟨b, off, ha, hlt, hc⟩⟩ := h
  · exact ⟨a, c, hv, fun j hj => by rw [h] at hj; simp at hj⟩
  · exact ⟨a, c, hv, fun j hj => ⟨b, off, ha, hc j hj⟩⟩
theorem SlI.shp {w : World} {v : Value} {xs : List Int} (h : SlI w v xs) : ∃ a c, v = .slice a xs.length c := by
  obtain ⟨a, c, hv, _⟩ := h
  exact ⟨a, c, hv⟩
end Go.Proofs.Ytokoohmakjabnaa
namespace Go.Proofs.Ytokoohmakjabnaa
open Go.ChangeShapes Go.WideShapes Go.ChangeAt Go.RowKit
/-- A slice that can be read and cut at its head. -/
def SlL (w : World) (v : Value) (xs : List Int) : Prop :=
  ∃ a c, v = .slice a xs.length c ∧ xs.length ≤ c ∧ (xs = [] ∨ ∃ b off, a = some ⟨b, off, none⟩ ∧ b < w.heap.size ∧ ∀ i, i < xs.length → w.cell? ⟨b, off + i, none⟩ = some (.int .i64 (xs.getD i 0)))
theorem SlL.sl {w : World} {v : Value} {xs : List Int} (h : SlL w v xs) : SlI w v xs := by
  obtain ⟨a, c, hv, _, hr⟩ := h
  exact ⟨a, c, hv, hr⟩
theorem SlL.below {w w' : World} {v : Value} {xs : List Int} (h : SlL w v xs) (hb : Below w.heap.size w w') : SlL w' v xs := by
  obtain ⟨a, c, hv, hc0, h | ⟨b, off, ha, hlt, hc⟩⟩ := h
  · exact ⟨a, c, hv, hc0, .inl h⟩
  · exact ⟨a, c, hv, hc0, .inr ⟨b, off, ha, Nat.lt_of_lt_of_le hlt hb.size, fun i hi => (hb.cell (p := ⟨b, off + i, none⟩) hlt).trans (hc i hi)⟩⟩
theorem SlL.of_own {w : World} {base : Nat} {v : Value} {xs : List Int} (h : OwnI w base v xs) : SlL w v xs := by
  rcases h.2 with ⟨rfl, h2⟩ | ⟨g, cap, cur, rfl, hb, hg, hn, hr⟩
  · exact ⟨none, 0, by rw [h2], by omega, .inl (List.eq_nil_of_length_eq_zero h2)⟩
  · refine ⟨_, cap, rfl, hn, .inr ⟨g, 0, rfl, (Array.getElem?_eq_some_iff.1 hg).1, fun i hi => ?_⟩⟩
    have := World.ownsRow.cellAt h i (by omega)
    rw [Nat.zero_add, this]
    simp [hi]
theorem SlL.tail {w : World} {a : Option Addr} {n c : Nat} {r : Int} {xs : List Int} (h : SlL w (.slice a n c) (r :: xs)) :
    ∃ b off, a = some ⟨b, off, none⟩ ∧ b < w.heap.size ∧ n = xs.length + 1 ∧ n ≤ c ∧ w.cell? ⟨b, off + 0, none⟩ = some (.int .i64 r) ∧ ∀ a' c', xs.length ≤ c' → (0 < xs.length → a' = some ⟨b, off + 1, none⟩) → SlL w (.slice a' xs.length c') xs := by
  obtain ⟨a0, c0, hv, hc0, h | ⟨b, off, ha, hlt, hc⟩⟩ := h
  · cases h
  · simp only [Value.slice.injEq] at hv
    obtain ⟨rfl, rfl, rfl⟩ := hv
    refine ⟨b, off, ha, hlt, rfl, hc0, by simpa using hc 0 (by simp), fun a' c' h1 h2 => ⟨a', c', rfl, h1, ?_⟩⟩
    by_cases h0 : xs = []
    · exact .inl h0
    · refine .inr ⟨b, off + 1, h2 (List.length_pos_iff.2 h0), hlt, fun i hi => ?_⟩
      have := hc (i + 1) (by simp; omega)
      rw [show off + 1 + i = off + (i + 1) by omega, this]
      simp
end Go.Proofs.Ytokoohmakjabnaa
namespace Go.Proofs.Ytokoohmakjabnaa
open Go.ChangeShapes Go.WideShapes Go.ChangeAt Go.RowKit
theorem info_i64 : (Try.prog.info? 2).map (fun i => (i.zero, i.size, i.bytes)) = some (some (.int .i64 0), 1, 8) := by kernel_rfl
set_option maxHeartbeats 400000 in
theorem toI_copy (v : Value) (xs : List Int) (w : World) (hv : SlI w v xs) (hl : xs.length ≤ 1073741824) :
    Calls Try.prog 16 #[v] w fun e w' => ∃ u, e = .returned u ∧ w'.ownsRow w.heap.size 2 1 u xs.length (xs.map (Value.int .i64)) ∧ Below w.heap.size w w' := by
  obtain ⟨i0, hi, hz0, hz1, hz2⟩ := info_parts info_i64
  obtain ⟨a, c, rfl, hc⟩ := hv
  generalize hn : xs.length = n at *
  go_enter Try.func16, Try.ntmps16
  go_wp2_with (refine wpList_make_full _ rfl _ _ 24 rfl w.heap.size 2 i0 (.int .i64 0) 1 Try.underlying24 hi hz0 hz1 .i64 .i64 (n : Int) (n : Int) n rfl rfl rfl rfl ?c1 ?c2 ?c3 ?_)
  case c1 => rw [hz2]; omega
  case c2 => unfold maxLen; omega
  case c3 => exact Nat.le_refl _
  intro w1 ho hg
  have hb1 : Below w.heap.size w w1 := (Below.refl _ _).grown hg (Nat.le_refl _) (fun k hk => by cases hk)
  clear hg
  go_wp2
  go_loopw [4] (fun i wr => ∃ (j : Nat) (ys : List Value), j ≤ n ∧ i = .int .i64 j ∧ wr.ownsRow w.heap.size 2 1 (.slice (some ⟨w.heap.size, 0, none⟩) n n) n ys ∧ ys.length = n ∧ (∀ t, t < j → ys[t]? = some (.int .i64 (xs.getD t 0))) ∧ Below w.heap.size w wr) (fun i _ => n - (intOf i).toNat)
  case atStart => exact ⟨0, _, Nat.zero_le _, rfl, ho, by simpa using ho.1, by simp, hb1⟩
  case round =>
    obtain ⟨j, ys, hj, rfl, ho, hyl, hys, hbel⟩ := hrel
    by_cases hlt : j < n
    · rcases hc with hc | ⟨b, off, rfl, hb, hc⟩
      · rw [hc] at hn; simp at hn; omega
      · have h0 : wr.cell? ⟨b, off + j, none⟩ = some (.int .i64 (xs.getD j 0)) := (hbel.cell (p := ⟨b, off + j, none⟩) hb).trans (hc j hlt)
        have h1 : ∃ u, wr.cell? ⟨w.heap.size, j, none⟩ = some u := by
          rw [ho.cellAt j (by omega)]; exact ⟨_, List.getElem?_eq_getElem (by omega)⟩
        obtain ⟨u, h1⟩ := h1
        have h2 := ho.frozenAt j
        obtain ⟨hst1, hst2⟩ := ho.stored j (.int .i64 (xs.getD j 0))
        have hy2 : ∀ t, t < j + 1 → (ys.set j (.int .i64 (xs.getD j 0)))[t]? = some (.int .i64 (xs.getD t 0)) := by
          intro t ht
          by_cases e : t = j
          · subst e; rw [List.getElem?_set_self (by omega)]
          · rw [List.getElem?_set_ne (by omega)]; exact hys t (by omega)
        clear ho hc hys
        generalize xs.getD j 0 = x at *
        have hbs := hbel.size
        go_wp2
        go_roundw
        case rel =>
          exact ⟨j + 1, ys.set j (.int .i64 x), by omega, by go_num, hst1, by simpa using hyl, hy2, hbel.grown hst2 hbs (fun k hk => by cases hk; exact Nat.le_refl _)⟩
        case measure => simp [intOf]; omega
    · have hjn : j = n := by omega
      subst hjn
      have hye : ys = xs.map (Value.int .i64) := by
        apply List.ext_getElem?
        intro i
        by_cases hi : i < j
        · rw [hys i hi]; simp [show i < xs.length by omega]
        · rw [List.getElem?_eq_none (by omega), List.getElem?_eq_none (by simp; omega)]
      go_wp2
      go_ret
      exact ⟨_, rfl, by rw [← hye]; exact ho, hbel⟩
end Go.Proofs.Ytokoohmakjabnaa
namespace Go.Proofs.Ytokoohmakjabnaa
open Go.ChangeShapes Go.WideShapes Go.ChangeAt Go.RowKit
theorem under_ints : Try.prog.underlying 24 = some (.slice 2) := by kernel_rfl
end Go.Proofs.Ytokoohmakjabnaa
namespace Go.Proofs.Ytokoohmakjabnaa
open Go.ChangeShapes Go.WideShapes Go.ChangeAt Go.RowKit
section
variable {w : World} {base g n cap : Nat} {e : TypeId} {xs : List Value}
/-- The row's block. -/
theorem own_cur (h : w.ownsRow base e 1 (.slice (some ⟨g, 0, none⟩) n cap) n xs) : ∃ cur : Array Value, base ≤ g ∧ w.heap[g]? = some (.cells cur e (0, 0)) ∧ n ≤ cap ∧ cap ≤ maxLen ∧ cur.size = cap ∧ cur.toList.take n = xs := by
  rcases h.2 with ⟨h', _⟩ | ⟨g', cap', cur, h', hb, hg, hnc, hcm, hcs, htake⟩
  · simp at h'
  · simp only [Value.slice.injEq, Option.some.injEq, Addr.mk.injEq, and_true, true_and] at h'
    obtain ⟨rfl, rfl⟩ := h'
    exact ⟨cur, hb, hg, hnc, hcm, by simpa using hcs, by simpa using htake⟩
theorem own_mk {cur : Array Value} (hb : base ≤ g) (hg : w.heap[g]? = some (.cells cur e (0, 0))) (hn : n ≤ cap) (hc : cap ≤ maxLen) (hs : cur.size = cap) : w.ownsRow base e 1 (.slice (some ⟨g, 0, none⟩) n cap) n (cur.toList.take n) :=
  ⟨by simp; omega, .inr ⟨g, cap, cur, rfl, hb, hg, hn, hc, by simpa using hs, by simp⟩⟩
theorem own_cut (h : w.ownsRow base e 1 (.slice (some ⟨g, 0, none⟩) n cap) n xs) {m : Nat} (hm : m ≤ n) : w.ownsRow base e 1 (.slice (some ⟨g, 0, none⟩) m cap) m (xs.take m) := by
  obtain ⟨cur, hb, hg, hn, hc, hs, ht⟩ := own_cur h
  have := own_mk (n := m) hb hg (by omega) hc hs
  rw [← ht, List.take_take, Nat.min_eq_left hm]
  exact this
theorem own_more (h : w.ownsRow base e 1 (.slice (some ⟨g, 0, none⟩) n cap) n xs) {m : Nat} (hm : n ≤ m) (hc : m ≤ cap) : ∃ ys : List Value, ys.length = m - n ∧ w.ownsRow base e 1 (.slice (some ⟨g, 0, none⟩) m cap) m (xs ++ ys) := by
  obtain ⟨cur, hb, hg, hn, hc', hs, ht⟩ := own_cur h
  refine ⟨(cur.toList.drop n).take (m - n), by simp; omega, ?_⟩
  have := own_mk (n := m) hb hg hc hc' hs
  have e : cur.toList.take m = cur.toList.take n ++ (cur.toList.drop n).take (m - n) := by
    rw [← List.take_add, show n + (m - n) = m by omega]
  rw [e, ht] at this
  exact this
theorem own_setCells : ∀ (news : List Value) (i : Nat) (w : World) (xs : List Value), w.ownsRow base e 1 (.slice (some ⟨g, 0, none⟩) n cap) n xs → i + news.length ≤ n → (w.setCells g i news).ownsRow base e 1 (.slice (some ⟨g, 0, none⟩) n cap) n (xs.take i ++ news ++ xs.drop (i + news.length)) ∧ w.grownBy (w.setCells g i news) (some g)
  | [], i, w, xs, h, _ => by
    simp only [World.setCells, List.append_nil, List.length_nil, Nat.add_zero, List.take_append_drop]
    exact ⟨h, World.grownBy.refl _ _⟩
  | v :: r, i, w, xs, h, hl => by
    have hx : xs.length = n := by simpa using h.1
    simp only [List.length_cons] at hl
    obtain ⟨h1, h2⟩ := h.stored i v
    obtain ⟨h3, h4⟩ := own_setCells r (i + 1) _ _ h1 (by omega)
    refine ⟨?_, grown_tr h2 h4⟩
    have e : (xs.set i v).take (i + 1) ++ r ++ (xs.set i v).drop (i + 1 + r.length) = xs.take i ++ v :: r ++ xs.drop (i + (r.length + 1)) := by
      rw [List.take_set, List.drop_set_of_lt (by omega), show i + 1 + r.length = i + (r.length + 1) by omega, List.take_add_one, List.getElem?_eq_getElem (by omega)]
      have hl2 : (xs.take i).length = i := by simp; omega
      rw [List.set_append_right _ _ (by omega), hl2]
      simp
    rw [World.setCells, List.length_cons, ← e]
    exact h3
theorem own_isSome (h : w.ownsRow base e 1 (.slice (some ⟨g, 0, none⟩) n cap) n xs) {j : Nat} (hj : j < n) : (w.cell? ⟨g, j, none⟩).isSome = true := by
  have hx : xs.length = n := by simpa using h.1
  rw [h.cellAt j (by omega), List.getElem?_eq_getElem (by omega)]
  rfl
end
theorem own_drew {w : World} {base : Nat} {e : TypeId} {v : Value} {n : Nat} {xs : List Value} (h : w.ownsRow base e 1 v n xs) : w.drew.ownsRow base e 1 v n xs := h
theorem grown_drew (w : World) (row : Option Nat) : w.grownBy w.drew row := ⟨rfl, rfl, rfl, Nat.le_refl _, fun _ _ _ => rfl⟩
end Go.Proofs.Ytokoohmakjabnaa
namespace Go.Proofs.Ytokoohmakjabnaa
open Go.ChangeShapes Go.WideShapes Go.ChangeAt Go.RowKit
theorem zero_i64 (w : World) : (zeroValue 2).run Try.prog w = .ok (.int .i64 0) w := by kernel_rfl
set_option maxHeartbeats 4000000 in
set_option maxRecDepth 20000 in
theorem delete_any (base g cap : Nat) (xs : List Int) (i : Nat) (w : World) (ho : OwnI w base (.slice (some ⟨g, 0, none⟩) xs.length cap) xs) (hi : i < xs.length) :
    Calls Try.prog 48 #[.slice (some ⟨g, 0, none⟩) xs.length cap, .int .i64 i, .int .i64 ((i : Int) + 1)] w fun e w' => e = .returned (.slice (some ⟨g, 0, none⟩) (xs.length - 1) cap) ∧ OwnI w' base (.slice (some ⟨g, 0, none⟩) (xs.length - 1) cap) (xs.take i ++ xs.drop (i + 1)) ∧ w.grownBy w' (some g) := by
  obtain ⟨i0, hi0, hz0, hz1, hz2⟩ := info_parts info_i64
  have hown := own_drew (show w.ownsRow base 2 1 _ xs.length (xs.map (Value.int .i64)) from ho)
  have hrest : xs.length - 1 = (xs.take i ++ xs.drop (i + 1)).length := by simp; omega
  obtain ⟨n, hn⟩ : ∃ n, Hid (n = xs.length) := ⟨_, rfl⟩
  rw [← hn.out] at hown hi ⊢
  obtain ⟨cur, _, _, hnc, hcm, _, _⟩ := own_cur hown
  obtain ⟨news, hnews⟩ : ∃ news, Hid (news = (xs.drop (i + 1)).map (Value.int .i64)) := ⟨_, rfl⟩
  have hlen : news.length = n - (i + 1) := by rw [hnews.out, hn.out]; simp
  obtain ⟨A, hA, hsrc⟩ : ∃ A : Addr, (if cap = i + 1 then (some (⟨g, 0, none⟩ : Addr)) else some ⟨g, i + 1, none⟩) = some A ∧ Hid (∀ t u, news[t]? = some u → w.drew.cell? (A.add t) = some u) := by
    by_cases h : cap = i + 1
    · refine ⟨⟨g, 0, none⟩, by rw [if_pos h], fun t u hu => ?_⟩
      have h0 : news.length = 0 := by rw [hlen]; omega
      rw [List.length_eq_zero_iff.1 h0] at hu
      simp at hu
    · refine ⟨⟨g, i + 1, none⟩, by rw [if_neg h], fun t u hu => ?_⟩
      have ht : t < news.length := (List.getElem?_eq_some_iff.1 hu).1
      rw [Addr.add_lit, hown.cellAt (i + 1 + t) (by omega)]
      rw [hnews.out, List.getElem?_map, List.getElem?_drop] at hu
      rw [List.getElem?_map]
      exact hu
  have s1 : Hid (news.length = (n - (i + 1)) * 1) := by rw [Nat.mul_one]; exact hlen
  have s2 : Hid (∀ u ∈ news, u.oneCell' = true) := by
    intro u hu
    rw [hnews.out] at hu
    obtain ⟨x, _, rfl⟩ := List.mem_map.1 hu
    rfl
  have s3 : Hid (∀ t, t < news.length → (w.drew.cell? ⟨g, 0 + i * 1 + t, none⟩).isSome = true ∧ w.drew.frozen? ⟨g, 0 + i * 1 + t, none⟩ = false) := by
    intro t ht
    rw [Nat.mul_one, Nat.zero_add]
    exact ⟨own_isSome hown (by omega), hown.frozenAt _⟩
  obtain ⟨W1, hW1⟩ : ∃ W1, Hid (W1 = w.drew.setCells g (0 + i * 1) news) := ⟨_, rfl⟩
  obtain ⟨o1, g1⟩ := own_setCells news i w.drew _ hown (by omega)
  rw [show i = 0 + i * 1 by omega, ← hW1.out] at g1
  rw [show w.drew.setCells g i news = w.drew.setCells g (0 + i * 1) news by rw [show 0 + i * 1 = i by omega], ← hW1.out] at o1
  obtain ⟨o2, g2⟩ := o1.stored (n - 1) (.int .i64 0)
  have hcl : ∀ ty c, (Builtin.clear_ #[24] ty #[.slice (some ⟨g, n - 1, none⟩) 1 c]).run Try.prog W1 = .ok (.tuple #[]) (W1.setCells g (n - 1) (List.replicate 1 (.int .i64 0))) :=
    fun ty c => Lib.run_clear_slice W1 _ _ ty _ under_ints zero_i64 rfl rfl g (n - 1) _ _ (by omega) (fun t ht => own_isSome o1 (by omega)) (fun t ht => o1.frozenAt _)
  have hW2 : W1.setCells g (n - 1) (List.replicate 1 (.int .i64 0)) = W1.setCell ⟨g, n - 1, none⟩ (.int .i64 0) := rfl
  rw [hW2] at hcl
  have hcut := own_cut o2 (m := n - 1) (by omega)
  have hxl : xs.length = n := hn.out.symm
  have hfin : ((List.take i (xs.map (Value.int .i64)) ++ news ++ List.drop (i + news.length) (xs.map (Value.int .i64))).set (n - 1) (.int .i64 0)).take (n - 1) = (xs.take i ++ xs.drop (i + 1)).map (Value.int .i64) := by
    rw [List.take_set_of_le (Nat.le_refl _), List.take_left' (by rw [List.length_append, List.length_take, List.length_map, hlen]; omega), hnews.out, List.map_append, List.map_take]
  rw [hfin] at hcut
  have hgr : w.grownBy (W1.setCell ⟨g, n - 1, none⟩ (.int .i64 0)) (some g) := grown_tr (grown_drew w (some g)) (grown_tr g1 g2)
  have hres : OwnI (W1.setCell ⟨g, n - 1, none⟩ (.int .i64 0)) base (.slice (some ⟨g, 0, none⟩) (n - 1) cap) (xs.take i ++ xs.drop (i + 1)) := by
    unfold OwnI
    rw [← hrest, ← hn.out]
    exact hcut
  have hW : Hid (W1 = w.drew.setCells g (0 + i * 1) news) := hW1
  have hfit : i + (n - (i + 1)) = n - 1 := by omega
  have hcap1 : i ≤ cap := by omega
  have hcap2 : i + 1 ≤ cap := by omega
  have hb1 : (0 : Int) ≤ (i : Int) + 1 := by omega
  have hb2 : (i : Int) + 1 ≤ (n : Int) := by omega
  have mixed : Try.prog.follows Departure.mixedOrders = true := by kernel_rfl
  replace hres := (show Hid _ from hres)
  replace hgr := (show Hid _ from hgr)
  replace hcl := (show Hid _ from hcl)
  clear hcut hfin hW2 o2 g2 o1 g1 hW1 hown ho hrest hxl hnews hlen
  go_enter Try.func48, Try.ntmps48
  go_wp2_with fail
  go_region_law_o (refine step_append_room rfl (.tmp 22) (.tmp 25) 24 rfl 2 i0 1 under_ints hi0 hz1 g 0 i cap (by simp [Act.eval, Act.put]) A (n - (i + 1)) (cap - (i + 1)) news (by simp [Act.eval, Act.put]) s1.out hsrc.out s2.out (by omega) s3.out ?_; rw [← hW.out])
  replace hcl := hcl.out
  have hc3 : ¬ (cap = n - 1) := by omega
  have hc4 : n - (n - 1) = 1 := by omega
  have hc5 : ((n - 1 : Nat) : Int) ≤ (n : Int) := by omega
  have hc6 : (0 : Int) ≤ ((n - 1 : Nat) : Int) := by omega
  go_wp2
  go_ret
  exact ⟨rfl, hres.out, hgr.out⟩
end Go.Proofs.Ytokoohmakjabnaa
namespace Go.Proofs.Ytokoohmakjabnaa
open Go.ChangeShapes Go.WideShapes Go.ChangeAt Go.RowKit Go.Lib
theorem wp_copy_runJ {P : Program} (w : World) {o : Oper} {a : Act} {K : Act → World → Prop} {Q : Exit → Act → World → Prop} (d s : Operand) (t t' : TypeId)
    (ho : o.op = .call { callee := .builtin .copy, args := #[d, s], argTypes := #[t, t'] }) (v u : Value) (hd : a.eval d = v) (hs : a.eval s = u) {v' : Value} {w' : World}
    (hr : (Builtin.copy_ #[t, t'] o.type #[v, u]).run P w = .ok v' w') (h : K (a.put o.dst v') w') : o.wp P a w K Q := by
  unfold Oper.wp execOp
  simp only [ho, resolve, invoke, builtin, Sem.run_bind, Sem.run_pure, Result.andThen_ok, List.map_toArray, List.map_cons, List.map_nil, hd, hs, hr]
  exact h
theorem wpList_copy_runJ {P : Program} (w : World) {ops : Array Oper} {rest : List Oper} {o : Oper} {a : Act} {Q : Exit → Act → World → Prop} (hgd : o.guard = none) (d s : Operand) (t t' : TypeId)
    (ho : o.op = .call { callee := .builtin .copy, args := #[d, s], argTypes := #[t, t'] }) (v u : Value) (hd : a.eval d = v) (hs : a.eval s = u) {v' : Value} {w' : World}
    (hr : (Builtin.copy_ #[t, t'] o.type #[v, u]).run P w = .ok v' w') (h : wpList P ops Q rest (a.put o.dst v') w') : wpList P ops Q (o :: rest) a w :=
  wpList_plain hgd fun _ hK => wp_copy_runJ w d s t t' ho v u hd hs hr (hK _ _ h)
theorem step_copy_runJ {P : Program} {ops : Array Oper} {o : Oper} {a : Act} {w : World} {K : Act → World → Prop} {Q : Exit → Act → World → Prop} {E : Prop}
    (hg : o.guard = none) (d x : Operand) (dT sT : TypeId) (hop : o.op = Op.call { callee := Callee.builtin Builtin.copy, args := #[d, x], argTypes := #[dT, sT] })
    (v u : Value) (hd : a.eval d = v) (hx : a.eval x = u) {v' : Value} {w' : World} (hr : (Builtin.copy_ #[dT, sT] o.type #[v, u]).run P w = .ok v' w') (hK : K (a.put o.dst v') w') :
    if Region.wanted o (yielded ops a.tmps) = true then Oper.wp P o a w K Q else E := by
  have hw : Region.wanted o (yielded ops a.tmps) = true := by simp [Region.wanted, hg]
  rw [if_pos hw]
  unfold Oper.wp
  simp [execOp, hop, resolve, invoke, builtin, hd, hx, hr, Result.andThen]
  exact hK
theorem under_int : Try.prog.underlying 3 = some (.int .i64) := by kernel_rfl
theorem size_i64 (w : World) : (Go.sizeOf 2).run Try.prog w = .ok 1 w := by kernel_rfl
section
variable (base : Nat) (xs : List Int) (y : Int) (vb : Nat) (w : World)
set_option maxHeartbeats 4000000 in
set_option maxRecDepth 20000 in
/-- At the end. -/
theorem insert_end (v : Value) (ho : OwnI w base v xs) (hb : base ≤ w.heap.size) (hl : xs.length ≤ 1000000) (hv : w.heap[vb]? = some (.cells #[.int .i64 y] 2 (0, 0))) :
    Calls Try.prog 49 #[v, .int .i64 xs.length, .slice (some ⟨vb, 0, none⟩) 1 1] w fun e w' => ∃ g cap, e = .returned (.slice (some ⟨g, 0, none⟩) (xs.length + 1) cap) ∧ OwnI w' base (.slice (some ⟨g, 0, none⟩) (xs.length + 1) cap) (xs ++ [y]) ∧ w.grownBy w' v.ownBlock ∧ (v.ownBlock = some g ∨ w.heap.size ≤ g) := by
  obtain ⟨i0, hi0, hz0, hz1, hz2⟩ := info_parts info_i64
  have hown : w.ownsRow base 2 1 v xs.length (xs.map (Value.int .i64)) := ho
  have hc : ∀ j u, [Value.int .i64 y][j]? = some u → w.cell? ((⟨vb, 0, none⟩ : Addr).add j) = some u := fun j u h => by
    rw [Addr.add_lit, Nat.zero_add, cell_of_row w vb j _ _ (0, 0) hv]
    simpa using h
  have h1 : ∀ u ∈ [Value.int .i64 y], u.oneCell' = true := by intro u hu; simp at hu; subst hu; rfl
  have hres : ∀ g cap w', w'.ownsRow base 2 1 (.slice (some ⟨g, 0, none⟩) (xs.length + 1) cap) (xs.length + 1) (xs.map (Value.int .i64) ++ [.int .i64 y]) → OwnI w' base (.slice (some ⟨g, 0, none⟩) (xs.length + 1) cap) (xs ++ [y]) := fun g cap w' h => by
    unfold OwnI
    rw [List.length_append, List.length_singleton, List.map_append]
    exact h
  obtain ⟨a, n', c, hsh⟩ := ho.shape
  have hn' : n' = xs.length := by
    rcases hown.2 with ⟨h, h2⟩ | ⟨g, cap, cur, h, _⟩
    · rw [hsh] at h; cases h; exact h2.symm
    · rw [hsh] at h; cases h; rfl
  subst hn'
  subst hsh
  have hnc : xs.length ≤ c := by
    rcases hown.2 with ⟨h, h2⟩ | ⟨g, cap, cur, h, _, _, h3, _⟩
    · omega
    · cases h; exact h3
  replace hres := (show Hid _ from hres)
  clear ho
  generalize xs.map (Value.int .i64) = ys at *
  generalize xs.length = n at *
  go_enter Try.func49, Try.ntmps49
  cases a with
  | none =>
    go_wp2_with (at_builtin; refine wpList_append_lies _ rfl _ _ 24 rfl base 2 i0 (.int .i64 0) 1 8 under_ints hi0 hz0 hz1 hz2 rfl (by decide) _ n _ rfl hown ⟨vb, 0, none⟩ 1 1 [.int .i64 y] rfl rfl hc h1 (by decide) (by unfold maxLen; omega) (by omega) hb _ rfl ?_; intro g cap w1 ho1 hg1 hat _)
    all_goals
      go_ret
      exact ⟨g, cap, rfl, hres.out _ _ _ ho1, hg1, hat.imp id (fun h => by omega)⟩
  | some ad =>
    obtain ⟨gb, go, gs⟩ := ad
    go_wp2_with (at_builtin; refine wpList_append_lies _ rfl _ _ 24 rfl base 2 i0 (.int .i64 0) 1 8 under_ints hi0 hz0 hz1 hz2 rfl (by decide) _ n _ rfl hown ⟨vb, 0, none⟩ 1 1 [.int .i64 y] rfl rfl hc h1 (by decide) (by unfold maxLen; omega) (by omega) hb _ rfl ?_; intro g cap w1 ho1 hg1 hat _)
    all_goals
      go_ret
      exact ⟨g, cap, rfl, hres.out _ _ _ ho1, hg1, hat.imp id (fun h => by omega)⟩
set_option maxHeartbeats 4000000 in
set_option maxRecDepth 20000 in
/-- Ahead of the end, with room. -/
theorem insert_room (g cap i : Nat) (ho : OwnI w base (.slice (some ⟨g, 0, none⟩) xs.length cap) xs) (hi : i < xs.length) (hroom : xs.length + 1 ≤ cap) (hv : w.heap[vb]? = some (.cells #[.int .i64 y] 2 (0, 0))) (hne : vb ≠ g) :
    Calls Try.prog 49 #[.slice (some ⟨g, 0, none⟩) xs.length cap, .int .i64 i, .slice (some ⟨vb, 0, none⟩) 1 1] w fun e w' => e = .returned (.slice (some ⟨g, 0, none⟩) (xs.length + 1) cap) ∧ OwnI w' base (.slice (some ⟨g, 0, none⟩) (xs.length + 1) cap) (xs.take i ++ y :: xs.drop i) ∧ w.grownBy w' (some g) := by
  have hown : w.ownsRow base 2 1 (.slice (some ⟨g, 0, none⟩) xs.length cap) xs.length (xs.map (Value.int .i64)) := ho
  obtain ⟨cur, _, hgc, _, hcm, hcs, _⟩ := own_cur hown
  obtain ⟨zs, hzl, hmore⟩ := own_more hown (m := xs.length + 1) (by omega) hroom
  have hmd := own_drew hmore
  obtain ⟨cs, hcsd⟩ : ∃ cs, Hid (cs = (xs.drop i).map (Value.int .i64)) := ⟨_, rfl⟩
  have hcl : cs.length = xs.length - i := by rw [hcsd.out]; simp
  obtain ⟨o1, g1⟩ := own_setCells cs (i + 1) _ _ hmd (by omega)
  obtain ⟨o2, g2⟩ := own_setCells [Value.int .i64 y] i _ _ o1 (by simp; omega)
  have hfin : List.take i (List.take (i + 1) (List.map (Value.int .i64) xs ++ zs) ++ cs ++ List.drop (i + 1 + cs.length) (List.map (Value.int .i64) xs ++ zs)) ++ [Value.int .i64 y] ++ List.drop (i + [Value.int .i64 y].length) (List.take (i + 1) (List.map (Value.int .i64) xs ++ zs) ++ cs ++ List.drop (i + 1 + cs.length) (List.map (Value.int .i64) xs ++ zs)) = (xs.take i ++ y :: xs.drop i).map (Value.int .i64) := by
    have l1 : (List.take (i + 1) (List.map (Value.int .i64) xs ++ zs)).length = i + 1 := by simp; omega
    have e3 : List.drop (i + 1 + cs.length) (List.map (Value.int .i64) xs ++ zs) = [] := List.drop_eq_nil_of_le (by simp; omega)
    rw [e3, List.append_nil, List.take_append_of_le_length (by omega), List.take_take, Nat.min_eq_left (by omega), List.take_append_of_le_length (by simp; omega)]
    simp only [List.length_singleton]
    rw [List.drop_left' l1, hcsd.out]
    simp
  rw [hfin] at o2
  have hres : OwnI ((w.drew.setCells g (i + 1) cs).setCells g i [Value.int .i64 y]) base (.slice (some ⟨g, 0, none⟩) (xs.length + 1) cap) (xs.take i ++ y :: xs.drop i) := by
    unfold OwnI
    rw [show (xs.take i ++ y :: xs.drop i).length = xs.length + 1 by simp; omega]
    exact o2
  have hgr := grown_tr (grown_drew w (some g)) (grown_tr g1 g2)
  have hc : ∀ j u, cs[j]? = some u → w.cell? ⟨g, 0 + i + j, none⟩ = some u := fun j u h => by
    rw [hcsd.out, List.getElem?_map, List.getElem?_drop] at h
    have hj : i + j < xs.length := by
      rcases Nat.lt_or_ge (i + j) xs.length with h' | h'
      · exact h'
      · rw [List.getElem?_eq_none h'] at h; cases h
    rw [hown.cellAt (0 + i + j) (by omega), Nat.zero_add, List.getElem?_map]
    exact h
  have h1c : ∀ u ∈ cs, u.oneCell' = true := by intro u hu; rw [hcsd.out] at hu; obtain ⟨x, _, rfl⟩ := List.mem_map.1 hu; rfl
  have h1v : ∀ u ∈ [Value.int .i64 y], u.oneCell' = true := by intro u hu; simp at hu; subst hu; rfl
  have hsp : ∀ j, j < xs.length + 1 → (w.drew.cell? ⟨g, j, none⟩).isSome = true := fun j hj => own_isSome hmd hj
  have hfz : ∀ j, w.drew.frozen? ⟨g, j, none⟩ = false := fun j => hmd.frozenAt j
  have hsz : (Try.prog.info? 2).map (·.size) = some 1 := by
    obtain ⟨i0, hi0, _, hz1, _⟩ := info_parts info_i64
    rw [hi0]; simp [hz1]
  have hsa : w.shape? vb = some (2, 1) := by simp [World.shape?, hv]
  have hsb : w.shape? g = some (2, cap) := by simp [World.shape?, hgc, hcs]
  have hfv : w.frozen? ⟨vb, 0, none⟩ = false := frozen_of_row w vb 0 _ _ hv
  have hfe : w.frozen? ⟨vb, 1, none⟩ = false := frozen_of_row w vb 1 _ _ hv
  have hov : ∀ lb cb, (callFunc 52 #[.slice (some ⟨vb, 0, none⟩) 1 1, .slice (some ⟨g, i + 1, none⟩) lb cb]).run Try.prog w = .ok (.value (.bool false)) w := fun lb cb => by
    rw [run_callFunc_extern Try.func52 (by kernel_rfl) (by kernel_rfl) (by kernel_rfl) (e := Extern.SlicesOverlaps.overlaps #[24, 24] #[4]) (by kernel_rfl),
      Lib.run_overlaps_apart w 24 4 2 under_ints 1 size_i64 ⟨vb, 0, none⟩ ⟨g, i + 1, none⟩ 1 1 lb cb hne 2 2 1 cap hsa hsb (by omega) hfv hfe]
    rfl
  have hvc : ∀ j u, [Value.int .i64 y][j]? = some u → w.cell? ⟨vb, 0 + j, none⟩ = some u := fun j u h => by
    rw [Nat.zero_add, cell_of_row w vb j _ _ (0, 0) hv]
    simpa using h
  obtain ⟨n, hn⟩ : ∃ n, Hid (n = xs.length) := ⟨_, rfl⟩
  rw [← hn.out] at hi hroom hcl hres hsp ⊢
  have hcp1 : ∀ ty dc sc, (Builtin.copy_ #[24, 24] ty #[.slice (some ⟨g, i + 1, none⟩) (n - i) dc, .slice (some ⟨g, i, none⟩) (n + 1 - i) sc]).run Try.prog w.drew = .ok (goInt cs.length) (w.drew.setCells g (i + 1) cs) := fun ty dc sc =>
    run_copy_cells w.drew _ _ ty 2 g (i + 1) (n - i) dc ⟨g, i, none⟩ (n + 1 - i) sc cs under_ints hsz (by rw [hcl]; simp only [Nat.min_def]; split <;> omega)
      (fun j u hj => by rw [Addr.add_lit]; have := hc j u hj; rw [Nat.zero_add] at this; exact this)
      (fun j hj => hsp _ (by omega)) (fun j hj => hfz _) h1c
  obtain ⟨W1, hW1⟩ : ∃ W1, Hid (W1 = w.drew.setCells g (i + 1) cs) := ⟨_, rfl⟩
  have hcp2 : ∀ (W : World), (∀ x, W.cell? x = W1.cell? x) → (∀ x, W.frozen? x = W1.frozen? x) → ∀ ty dc, (Builtin.copy_ #[24, 24] ty #[.slice (some ⟨g, i, none⟩) (n + 1 - i) dc, .slice (some ⟨vb, 0, none⟩) 1 1]).run Try.prog W = .ok (goInt [Value.int .i64 y].length) (W.setCells g i [Value.int .i64 y]) := fun W hWc hWf ty dc =>
    run_copy_cells W _ _ ty 2 g i (n + 1 - i) dc ⟨vb, 0, none⟩ 1 1 [Value.int .i64 y] under_ints hsz (by simp only [List.length_singleton, Nat.min_def]; split <;> omega)
      (fun j u hj => by
        rw [Addr.add_lit, hWc, hW1.out, World.cell?_setCells_out g _ _ _ _ (fun h _ => absurd h hne)]
        exact hvc j u hj)
      (fun j hj => by rw [hWc, hW1.out]; exact own_isSome o1 (by have := hn.out; simp at hj; omega)) (fun j hj => by rw [hWf, hW1.out]; exact o1.frozenAt _) h1v
  rw [← hW1.out] at hcp1 hres hgr
  have mixed : Try.prog.follows Departure.mixedOrders = true := by kernel_rfl
  have hz2 : ¬ ((i : Int) = (n : Int)) := by omega
  have hw1 : IntKind.i64.wrap ((i : Int) + 1) = (i : Int) + 1 := by rw [IntKind.wrap_i64]; unfold maxLen at hcm; omega
  have hw2 : IntKind.i64.wrap ((n : Int) + 1) = (n : Int) + 1 := by rw [IntKind.wrap_i64]; unfold maxLen at hcm; omega
  have hb1 : (0 : Int) ≤ (i : Int) + 1 := by omega
  have hin : i ≤ n := by omega
  have htn : ((i : Int) + 1).toNat = i + 1 := by omega
  have htn2 : ((n : Int) + 1).toNat = n + 1 := by omega
  have hb2 : ¬ (cap = i + 1) := by omega
  have hb3 : (i : Int) ≤ (n : Int) + 1 := by omega
  have hb4 : ¬ (cap = i) := by omega
  have hb5 : ¬ ((cap : Int) < (n : Int) + 1) := by omega
  have hb6 : (i : Int) + 1 ≤ (n : Int) + 1 := by omega
  have hb7 : (n : Int) + 1 ≤ (cap : Int) := by omega
  have hb8 : (0 : Int) ≤ (n : Int) + 1 := by omega
  replace hres := (show Hid _ from hres)
  replace hgr := (show Hid _ from hgr)
  clear hW1 hfin o2 g2 o1 g1 hc h1c h1v hsp hfz hsa hsb hfv hfe hvc hown ho hmore hmd hgc hcs hzl hcsd hsz hne hv
  go_enter Try.func49, Try.ntmps49
  go_wp2_with (simp only [hov])
  go_region_law_o (refine step_copy_runJ rfl _ _ 24 24 rfl _ _ (by simp [Act.eval, Act.put]) (by simp [Act.eval, Act.put]) (hcp1 _ _ _) ?_)
  go_wp2_with (at_builtin; refine wpList_copy_runJ _ rfl _ _ 24 24 rfl _ _ rfl rfl (hcp2 _ (fun _ => rfl) (fun _ => rfl) _ _) ?_)
  go_ret
  exact ⟨rfl, hres.out, hgr.out⟩
set_option maxHeartbeats 4000000 in
set_option maxRecDepth 20000 in
/-- Ahead of the end, without room: a new row. -/
theorem insert_grow (g cap i : Nat) (ho : OwnI w base (.slice (some ⟨g, 0, none⟩) xs.length cap) xs) (hbw : base ≤ w.heap.size) (hl : xs.length ≤ 1000000) (hi : i < xs.length) (hroom : cap < xs.length + 1) (hv : w.heap[vb]? = some (.cells #[.int .i64 y] 2 (0, 0))) :
    Calls Try.prog 49 #[.slice (some ⟨g, 0, none⟩) xs.length cap, .int .i64 i, .slice (some ⟨vb, 0, none⟩) 1 1] w fun e w' => ∃ cap', e = .returned (.slice (some ⟨w.heap.size, 0, none⟩) (xs.length + 1) cap') ∧ OwnI w' base (.slice (some ⟨w.heap.size, 0, none⟩) (xs.length + 1) cap') (xs.take i ++ y :: xs.drop i) ∧ Below w.heap.size w w' := by
  obtain ⟨i0, hi0, hz0, hz1, hz2⟩ := info_parts info_i64
  have hown : w.ownsRow base 2 1 (.slice (some ⟨g, 0, none⟩) xs.length cap) xs.length (xs.map (Value.int .i64)) := ho
  obtain ⟨cur, _, hgc, hnc, hcm, hcs, _⟩ := own_cur hown
  have hgw : g < w.heap.size := (ho.lt g rfl).2
  have hvw : vb < w.heap.size := (Array.getElem?_eq_some_iff.1 hv).1
  obtain ⟨cs, hcsd⟩ : ∃ cs, Hid (cs = (xs.drop i).map (Value.int .i64)) := ⟨_, rfl⟩
  obtain ⟨bs, hasd⟩ : ∃ bs, Hid (bs = (xs.take i).map (Value.int .i64)) := ⟨_, rfl⟩
  have hcl : cs.length = xs.length - i := by rw [hcsd.out]; simp
  have hal : bs.length = i := by rw [hasd.out]; simp; omega
  have hc : ∀ j u, cs[j]? = some u → w.cell? ⟨g, 0 + i + j, none⟩ = some u := fun j u h => by
    rw [hcsd.out, List.getElem?_map, List.getElem?_drop] at h
    have hj : i + j < xs.length := by
      rcases Nat.lt_or_ge (i + j) xs.length with h' | h'
      · exact h'
      · rw [List.getElem?_eq_none h'] at h; cases h
    rw [hown.cellAt (0 + i + j) (by omega), Nat.zero_add, List.getElem?_map]
    exact h
  have h1c : ∀ u ∈ cs, u.oneCell' = true := by intro u hu; rw [hcsd.out] at hu; obtain ⟨x, _, rfl⟩ := List.mem_map.1 hu; rfl
  have h1v : ∀ u ∈ [Value.int .i64 y], u.oneCell' = true := by intro u hu; simp at hu; subst hu; rfl
  have hvc : ∀ j u, [Value.int .i64 y][j]? = some u → w.cell? ⟨vb, 0 + j, none⟩ = some u := fun j u h => by
    rw [Nat.zero_add, cell_of_row w vb j _ _ (0, 0) hv]
    simpa using h
  have hsz : (Try.prog.info? 2).map (·.size) = some 1 := by rw [hi0]; simp [hz1]
  have hold : (Builtin.firstCells i0.size i (.slice (some ⟨g, 0, none⟩) i cap)).run Try.prog w.drew = .ok bs.toArray w.drew := by
    rw [hz1]
    exact run_firstCells_some w.drew 1 i ⟨g, 0, none⟩ i cap bs (by omega) (fun j u hj => by
      rw [Addr.add_lit, Nat.zero_add]
      have hj' : j < i := by have := (List.getElem?_eq_some_iff.1 hj).1; omega
      rw [hasd.out, List.getElem?_map, List.getElem?_take, if_pos hj'] at hj
      have : w.drew.cell? ⟨g, j, none⟩ = w.cell? ⟨g, j, none⟩ := rfl
      rw [this, hown.cellAt j (by omega), List.getElem?_map]
      exact hj)
  obtain ⟨n, hn⟩ : ∃ n, Hid (n = xs.length) := ⟨_, rfl⟩
  rw [← hn.out] at hi hroom hcl hl hnc ⊢
  have hkk : (n : Int) + 1 - (i : Int) = ((n + 1 - i : Nat) : Int) := by omega
  have hik : i + (n + 1 - i) = n + 1 := by omega
  have hrz : ∀ ty, (Builtin.append_ #[24, 3] ty #[.slice (some ⟨g, 0, none⟩) i cap, .int .i64 ((n : Int) + 1 - (i : Int))]).run Try.prog w =
      .ok (.slice (some ⟨w.heap.size, 0, none⟩) (n + 1) (grownCap w (n + 1) cap 2)) (w.drew.alloc (.cells (bs.toArray ++ Builtin.zeroCells (Value.int .i64 0).cells (n + 1 - i) ++ Builtin.zeroCells (Value.int .i64 0).cells (grownCap w (n + 1) cap 2 - (n + 1))) 2)) := fun ty => by
    have h := Lib.run_append_grow_zeros w 24 3 ty 2 i0 _ .i64 .i64 under_ints under_int hi0 hz0 (some ⟨g, 0, none⟩) i cap bs hold (n + 1 - i) (by omega) (by omega) (by omega) (by omega) (by rw [hz2]; omega) (by rw [hz2, hik]; exact growslice_fits hroom (by omega))
    rw [hik] at h
    rw [hkk]
    exact h
  have hGn : n + 1 ≤ grownCap w (n + 1) cap 2 := grownCap_ge w _ _ _
  have hG63 : grownCap w (n + 1) cap 2 ≤ maxLen := grownCap_le_maxLen w (n + 1) cap 2 (by unfold maxLen; omega)
  obtain ⟨G, hG⟩ : ∃ G, Hid (G = grownCap w (n + 1) cap 2) := ⟨_, rfl⟩
  rw [← hG.out] at hrz hGn hG63
  obtain ⟨ROW, hROW⟩ : ∃ ROW : Array Value, Hid (ROW = bs.toArray ++ Builtin.zeroCells (Value.int .i64 0).cells (n + 1 - i) ++ Builtin.zeroCells (Value.int .i64 0).cells (G - (n + 1))) := ⟨_, rfl⟩
  rw [← hROW.out] at hrz
  have hRs : ROW.size = G := by
    rw [hROW.out]
    simp [Builtin.zeroCells, Value.cells]
    omega
  have hRt : ROW.toList.take i = bs := by
    rw [hROW.out]
    simp only [Array.toList_append, List.append_assoc]
    exact List.take_left' hal
  obtain ⟨W1, hW1⟩ : ∃ W1, Hid (W1 = w.drew.alloc (.cells ROW 2)) := ⟨_, rfl⟩
  rw [← hW1.out] at hrz
  have hob : W1.ownsRow w.heap.size 2 1 (.slice (some ⟨w.heap.size, 0, none⟩) (n + 1) G) (n + 1) (ROW.toList.take (n + 1)) := by
    rw [hW1.out]
    exact own_mk (Nat.le_refl _) (heap_alloc_new w.drew _) hGn hG63 hRs
  have hbW1 : Below w.heap.size w W1 := by
    rw [hW1.out]
    exact ((Below.refl w.heap.size w).drew).alloc (Nat.le_refl _) _
  obtain ⟨o1, g1⟩ := own_setCells [Value.int .i64 y] i _ _ hob (by simp; omega)
  obtain ⟨o2, g2⟩ := own_setCells cs (i + 1) _ _ (own_drew o1) (by omega)
  have hfin : List.take (i + 1) (List.take i (ROW.toList.take (n + 1)) ++ [Value.int .i64 y] ++ List.drop (i + [Value.int .i64 y].length) (ROW.toList.take (n + 1))) ++ cs ++ List.drop (i + 1 + cs.length) (List.take i (ROW.toList.take (n + 1)) ++ [Value.int .i64 y] ++ List.drop (i + [Value.int .i64 y].length) (ROW.toList.take (n + 1))) = (xs.take i ++ y :: xs.drop i).map (Value.int .i64) := by
    have e1 : List.take i (ROW.toList.take (n + 1)) = bs := by rw [List.take_take, Nat.min_eq_left (by omega)]; exact hRt
    have e3 : List.drop (i + 1 + cs.length) (bs ++ [Value.int .i64 y] ++ List.drop (i + [Value.int .i64 y].length) (ROW.toList.take (n + 1))) = [] := List.drop_eq_nil_of_le (by simp; omega)
    rw [e1, e3, List.append_nil, List.take_left' (by simp; omega), hasd.out, hcsd.out]
    simp
  rw [hfin] at o2
  have hgo : OwnI ((W1.setCells w.heap.size i [Value.int .i64 y]).drew.setCells w.heap.size (i + 1) cs) base (.slice (some ⟨w.heap.size, 0, none⟩) (n + 1) G) (xs.take i ++ y :: xs.drop i) := by
    unfold OwnI
    rw [show (xs.take i ++ y :: xs.drop i).length = n + 1 by rw [hn.out]; simp; omega]
    exact own_low' o2 hbw
  have hbb : Below w.heap.size w ((W1.setCells w.heap.size i [Value.int .i64 y]).drew.setCells w.heap.size (i + 1) cs) := hbW1.grown (grown_tr g1 (grown_tr (grown_drew _ _) g2)) hbW1.size (fun k e => by cases e; exact Nat.le_refl _)
  have hN : ∀ j, j < n + 1 → (W1.cell? ⟨w.heap.size, j, none⟩).isSome = true := fun j hj => own_isSome hob hj
  have hNf : ∀ j, W1.frozen? ⟨w.heap.size, j, none⟩ = false := fun j => hob.frozenAt j
  have hOb : ∀ j u, w.cell? ⟨g, j, none⟩ = some u → W1.cell? ⟨g, j, none⟩ = some u := fun j u h => (hbW1.cell (p := ⟨g, j, none⟩) hgw).trans h
  have hOv : ∀ j u, w.cell? ⟨vb, j, none⟩ = some u → W1.cell? ⟨vb, j, none⟩ = some u := fun j u h => (hbW1.cell (p := ⟨vb, j, none⟩) hvw).trans h
  have hcpA : ∀ (W : World), (∀ x, W.cell? x = W1.cell? x) → (∀ x, W.frozen? x = W1.frozen? x) → ∀ ty dc, (Builtin.copy_ #[24, 24] ty #[.slice (some ⟨w.heap.size, i, none⟩) (n + 1 - i) dc, .slice (some ⟨vb, 0, none⟩) 1 1]).run Try.prog W = .ok (goInt [Value.int .i64 y].length) (W.setCells w.heap.size i [Value.int .i64 y]) := fun W hWc hWf ty dc =>
    run_copy_cells W _ _ ty 2 w.heap.size i (n + 1 - i) dc ⟨vb, 0, none⟩ 1 1 [Value.int .i64 y] under_ints hsz (by simp only [List.length_singleton, Nat.min_def]; split <;> omega)
      (fun j u hj => by rw [Addr.add_lit, hWc]; exact hOv _ u (hvc j u hj))
      (fun j hj => by rw [hWc]; exact hN _ (by simp at hj; omega)) (fun j hj => by rw [hWf]; exact hNf _) h1v
  obtain ⟨W2, hW2⟩ : ∃ W2, Hid (W2 = W1.setCells w.heap.size i [Value.int .i64 y]) := ⟨_, rfl⟩
  have hgN : g ≠ w.heap.size := by omega
  have hcpB : ∀ (W : World), (∀ x, W.cell? x = W2.cell? x) → (∀ x, W.frozen? x = W2.frozen? x) → ∀ ty dc sc, (Builtin.copy_ #[24, 24] ty #[.slice (some ⟨w.heap.size, i + 1, none⟩) (n - i) dc, .slice (some ⟨g, i, none⟩) (n - i) sc]).run Try.prog W = .ok (goInt cs.length) (W.setCells w.heap.size (i + 1) cs) := fun W hWc hWf ty dc sc =>
    run_copy_cells W _ _ ty 2 w.heap.size (i + 1) (n - i) dc ⟨g, i, none⟩ (n - i) sc cs under_ints hsz (by rw [hcl]; simp only [Nat.min_def]; split <;> omega)
      (fun j u hj => by
        rw [Addr.add_lit, hWc, hW2.out, World.cell?_setCells_out _ _ _ _ _ (fun h _ => absurd h hgN)]
        have := hc j u hj
        rw [Nat.zero_add] at this
        exact hOb _ u this)
      (fun j hj => by rw [hWc, hW2.out]; exact own_isSome o1 (by omega))
      (fun j hj => by rw [hWf, hW2.out]; exact o1.frozenAt _) h1c
  have mixed : Try.prog.follows Departure.mixedOrders = true := by kernel_rfl
  unfold maxLen at hG63 hcm
  have hz2 : ¬ ((i : Int) = (n : Int)) := by omega
  have hz3 : (cap : Int) < (n : Int) + 1 := by omega
  have hGi : ¬ (G = i) := by omega
  have hGim : ¬ (G = i + 1) := by omega
  have hci : ¬ (cap = i) := by omega
  have hw1 : IntKind.i64.wrap ((i : Int) + 1) = (i : Int) + 1 := by rw [IntKind.wrap_i64]; omega
  have hw2 : IntKind.i64.wrap ((n : Int) + 1) = (n : Int) + 1 := by rw [IntKind.wrap_i64]; omega
  have hw3 : IntKind.i64.wrap ((n : Int) + 1 - (i : Int)) = (n : Int) + 1 - (i : Int) := by rw [IntKind.wrap_i64]; omega
  have hb1 : (0 : Int) ≤ (i : Int) + 1 := by omega
  have hin : i ≤ n := by omega
  have htn : ((i : Int) + 1).toNat = i + 1 := by omega
  have hb3 : (i : Int) ≤ (n : Int) := by omega
  have hb6 : (i : Int) + 1 ≤ (n : Int) + 1 := by omega
  have hb7 : (i : Int) ≤ (n : Int) + 1 := by omega
  rw [hW2.out] at hcpB
  have hF1 : ∀ x, ((W1.setCells w.heap.size i [Value.int .i64 y]).drew).cell? x = (W1.setCells w.heap.size i [Value.int .i64 y]).cell? x := fun _ => rfl
  have hF2 : ∀ x, ((W1.setCells w.heap.size i [Value.int .i64 y]).drew).frozen? x = (W1.setCells w.heap.size i [Value.int .i64 y]).frozen? x := fun _ => rfl
  replace hgo := (show Hid _ from hgo)
  replace hbb := (show Hid _ from hbb)
  clear hW2 hW1 hROW hG hRs hRt hob hbW1 o1 g1 o2 g2 hfin hN hNf hOb hOv hold hc h1c h1v hvc hown ho hgc hcs hcsd hasd hal hv hkk hik hgw hvw
  go_enter Try.func49, Try.ntmps49
  go_wp2_with (first
    | (at_builtin; refine Lib.wpList_append_run _ rfl _ _ _ _ rfl _ _ rfl rfl _ _ (hrz _) ?_)
    | (at_builtin; refine wpList_copy_runJ _ rfl _ _ 24 24 rfl _ _ rfl rfl (hcpA _ (fun _ => rfl) (fun _ => rfl) _ _) ?_))
  go_region_law_o (refine step_copy_runJ rfl _ _ 24 24 rfl (.slice (some ⟨w.heap.size, i + 1, none⟩) (n - i) (G - (i + 1))) (.slice (some ⟨g, i, none⟩) (n - i) (cap - i)) (by simp [Act.eval, Act.put]) (by simp [Act.eval, Act.put]) (hcpB _ hF1 hF2 3 (G - (i + 1)) (cap - i)) ?_)
  go_wp2
  go_ret
  exact ⟨_, rfl, hgo.out, hbb.out⟩
/-- Anywhere. -/
theorem insert_any (v : Value) (i : Nat) (ho : OwnI w base v xs) (hb : base ≤ w.heap.size) (hl : xs.length ≤ 1000000) (hi : i ≤ xs.length) (hv : w.heap[vb]? = some (.cells #[.int .i64 y] 2 (0, 0))) (hne : v.ownBlock ≠ some vb) :
    Calls Try.prog 49 #[v, .int .i64 i, .slice (some ⟨vb, 0, none⟩) 1 1] w fun e w' => ∃ g cap, e = .returned (.slice (some ⟨g, 0, none⟩) (xs.length + 1) cap) ∧ OwnI w' base (.slice (some ⟨g, 0, none⟩) (xs.length + 1) cap) (xs.take i ++ y :: xs.drop i) ∧ w.grownBy w' v.ownBlock ∧ (v.ownBlock = some g ∨ w.heap.size ≤ g) := by
  by_cases h : i = xs.length
  · subst h
    simp only [List.take_length, List.drop_length]
    exact insert_end base xs y vb w v ho hb hl hv
  · obtain ⟨g, cap, rfl, _, _⟩ := World.ownsRow.form (show w.ownsRow base 2 1 v xs.length (xs.map (Value.int .i64)) from ho) (by omega)
    by_cases hr : xs.length + 1 ≤ cap
    · refine (insert_room base xs y vb w g cap i ho (by omega) hr hv (fun e => hne (by rw [e]; rfl))).mono ?_
      rintro e w' ⟨rfl, h1, h2⟩
      exact ⟨g, cap, rfl, h1, h2, .inl rfl⟩
    · refine (insert_grow base xs y vb w g cap i ho hb hl (by omega) (by omega) hv).mono ?_
      rintro e w' ⟨cap', rfl, h1, h2⟩
      exact ⟨_, cap', rfl, h1, ⟨h2.os, h2.tape, h2.output, h2.size, fun k hk _ => h2.block k hk⟩, .inr (Nat.le_refl _)⟩
end
end Go.Proofs.Ytokoohmakjabnaa
namespace Go.Proofs.Ytokoohmakjabnaa
/-- Edits as numbers, one behind the other. -/
def edV (es : List (Int × Int × Int)) : List Int := es.flatMap fun e => [e.1, e.2.1, e.2.2]
theorem edV_len (es : List (Int × Int × Int)) : (edV es).length = es.length * 3 := by
  induction es with
  | nil => rfl
  | cons e es ih => simp only [edV, List.flatMap_cons, List.length_append, List.length_cons, List.length_nil] at *; omega
end Go.Proofs.Ytokoohmakjabnaa
namespace Go.Proofs.Ytokoohmakjabnaa
/-- One edit (kind, place, value) done. -/
def edOne (l : List Int) (e : Int × Int × Int) : Option (List Int) :=
  if e.1 = 1 then (if 0 ≤ e.2.1 ∧ e.2.1 < l.length then some (l.take e.2.1.toNat ++ l.drop (e.2.1.toNat + 1)) else none)
  else if e.1 = 2 then (if 0 ≤ e.2.1 ∧ e.2.1 ≤ l.length ∧ l.length < 80 then some (l.take e.2.1.toNat ++ e.2.2 :: l.drop e.2.1.toNat) else none)
  else if e.1 = 3 then (if 0 ≤ e.2.1 ∧ e.2.1 < l.length then some (l.set e.2.1.toNat e.2.2) else none)
  else none
def edRun : List Int → List (Int × Int × Int) → Option (List Int)
  | l, [] => some l
  | l, e :: es => (edOne l e).bind fun m => edRun m es
def edOut : Option (List Int) → List Int
  | none => []
  | some m => m
def edAll (xs : List Int) (es : List (Int × Int × Int)) : Option (List Int) := if xs.length ≤ 80 ∧ es.length ≤ 80 then edRun xs es else none
theorem edOne_take (l : List Int) (a v : Int) (h : 0 ≤ a ∧ a < l.length) : edOne l (1, a, v) = some (l.take a.toNat ++ l.drop (a.toNat + 1)) := by
  unfold edOne; rw [if_pos rfl, if_pos h]
theorem edOne_put (l : List Int) (a v : Int) (h : 0 ≤ a ∧ a ≤ l.length ∧ l.length < 80) : edOne l (2, a, v) = some (l.take a.toNat ++ v :: l.drop a.toNat) := by
  unfold edOne; rw [if_neg (show ¬ (2 : Int) = 1 by decide), if_pos rfl, if_pos h]
theorem edOne_turn (l : List Int) (a v : Int) (h : 0 ≤ a ∧ a < l.length) : edOne l (3, a, v) = some (l.set a.toNat v) := by
  unfold edOne; rw [if_neg (show ¬ (3 : Int) = 1 by decide), if_neg (show ¬ (3 : Int) = 2 by decide), if_pos rfl, if_pos h]
theorem edOne_take' (l : List Int) (a v : Int) (h : ¬ (0 ≤ a ∧ a < l.length)) : edOne l (1, a, v) = none := by
  unfold edOne; rw [if_pos rfl, if_neg h]
theorem edOne_put' (l : List Int) (a v : Int) (h : ¬ (0 ≤ a ∧ a ≤ l.length ∧ l.length < 80)) : edOne l (2, a, v) = none := by
  unfold edOne; rw [if_neg (show ¬ (2 : Int) = 1 by decide), if_pos rfl, if_neg h]
theorem edOne_turn' (l : List Int) (a v : Int) (h : ¬ (0 ≤ a ∧ a < l.length)) : edOne l (3, a, v) = none := by
  unfold edOne; rw [if_neg (show ¬ (3 : Int) = 1 by decide), if_neg (show ¬ (3 : Int) = 2 by decide), if_pos rfl, if_neg h]
theorem edOne_none (l : List Int) (k a v : Int) (h1 : ¬ k = 1) (h2 : ¬ k = 2) (h3 : ¬ k = 3) : edOne l (k, a, v) = none := by
  unfold edOne; rw [if_neg h1, if_neg h2, if_neg h3]
theorem edOne_len {l m : List Int} {e : Int × Int × Int} (h : l.length ≤ 80) (he : edOne l e = some m) : m.length ≤ 80 := by
  unfold edOne at he
  split at he
  · split at he
    · cases he; simp; omega
    · cases he
  · split at he
    · split at he
      · cases he; simp; omega
      · cases he
    · split at he
      · split at he
        · cases he; simp; omega
        · cases he
      · cases he
theorem edRun_cons (l : List Int) (e : Int × Int × Int) (es : List (Int × Int × Int)) : edRun l (e :: es) = (edOne l e).bind fun m => edRun m es := rfl
theorem edRun_len : ∀ (es : List (Int × Int × Int)) (l m : List Int), l.length ≤ 80 → edRun l es = some m → m.length ≤ 80
  | [], l, m, h, he => by cases he; exact h
  | e :: es, l, m, h, he => by
    rw [edRun_cons] at he
    cases h1 : edOne l e with
    | none => rw [h1] at he; cases he
    | some k => rw [h1] at he; exact edRun_len es k m (edOne_len h h1) he
theorem edAll_len (xs : List Int) (es : List (Int × Int × Int)) : (edOut (edAll xs es)).length ≤ 80 := by
  unfold edAll
  split
  · rename_i h
    cases h1 : edRun xs es with
    | none => simp [edOut]
    | some m => exact edRun_len es xs m h.1 h1
  · simp [edOut]
end Go.Proofs.Ytokoohmakjabnaa
namespace Go.Proofs.Ytokoohmakjabnaa
open Go.ChangeShapes Go.WideShapes Go.ChangeAt Go.RowKit
set_option maxHeartbeats 400000 in
theorem eqI_same (va vb : Value) (xs : List Int) (w : World) (ha : SlI w va xs) (hb : SlI w vb xs) (hl : xs.length ≤ 1073741824) :
    Calls Try.prog 18 #[va, vb] w fun e w' => e = .returned (.bool true) ∧ ∃ n, w' = w.drewN n := by
  by_cases h0 : xs = []
  · subst h0
    obtain ⟨a, c, rfl, _⟩ := ha
    obtain ⟨a', c', rfl, _⟩ := hb
    go_enter Try.func18, Try.ntmps18
    go_wp2
    refine wp_loop_rounds 1 ?_
    rw [rounds_succ]
    go_wp2
    go_ret
    exact ⟨rfl, 0, rfl⟩
  · obtain ⟨_, c, rfl, e | ⟨b, off, rfl, _, hca⟩⟩ := ha
    · exact absurd e h0
    · obtain ⟨_, c', rfl, e | ⟨b', off', rfl, _, hcb⟩⟩ := hb
      · exact absurd e h0
      · generalize hn : xs.length = n at *
        clear h0 hn
        go_enter Try.func18, Try.ntmps18
        go_wp2
        go_loopw [5] (fun i wr => ∃ k : Nat, k ≤ n ∧ i = .int .i64 k ∧ ∃ m, wr = w.drewN m) (fun i _ => n - (intOf i).toNat)
        case atStart => exact ⟨0, Nat.zero_le _, rfl, 0, rfl⟩
        case round =>
          obtain ⟨k, hk, rfl, m, rfl⟩ := hrel
          by_cases hlt : k < n
          · have h1 : w.cell? ⟨b, off + k, none⟩ = some (.int .i64 (xs.getD k 0)) := hca k hlt
            have h2 : w.cell? ⟨b', off' + k, none⟩ = some (.int .i64 (xs.getD k 0)) := hcb k hlt
            have hi : (k : Int) < (n : Int) := by omega
            generalize xs.getD k 0 = x at *
            clear hca hcb
            go_wp2
            go_quiet (fail)
            go_wp2
            go_roundw
            case rel => exact ⟨k + 1, by omega, by go_num, m + nq, by simp⟩
            case measure => simp [intOf]; omega
          · go_wp2
            go_ret
            exact ⟨rfl, m, rfl⟩

theorem grown_trans {a b c : World} {row : Option Nat} (h : a.grownBy b row) (k : b.grownBy c row) : a.grownBy c row :=
  ⟨k.os.trans h.os, k.tape.trans h.tape, k.output.trans h.output, Nat.le_trans h.size k.size, fun i hi hr => (k.block i (Nat.lt_of_lt_of_le hi h.size) hr).trans (h.block i hi hr)⟩
def marksI (k : Int) (n : Nat) : List Int := (List.range n).map fun (i : Nat) => k + (i : Int)
theorem marksI_len (k : Int) (n : Nat) : (marksI k n).length = n := by simp [marksI]
theorem marksI_at (k : Int) (n i : Nat) (h : i < n) : (marksI k n).getD i 0 = k + (i : Int) := by simp [marksI, h]

set_option maxHeartbeats 400000 in
theorem heldI_marks (v : Value) (k : Int) (n : Nat) (w : World) (hv : SlI w v (marksI k n)) (hk : 0 ≤ k ∧ k ≤ 1073741824) (hl : n ≤ 1073741824) :
    Calls Try.prog 22 #[v, .int .i64 k] w fun e w' => e = .returned (.int .i64 (k + n)) ∧ w' = w := by
  obtain ⟨a, c, rfl, e | ⟨b, off, rfl, _, hc⟩⟩ := hv
  · have h0 : n = 0 := by have := marksI_len k n; rw [e] at this; simpa using this.symm
    subst h0
    rw [marksI_len]
    go_enter Try.func22, Try.ntmps22
    go_wp2
    refine wp_loop_rounds 1 ?_
    rw [rounds_succ]
    go_wp2
    go_ret
    exact ⟨by simp, rfl⟩
  · rw [marksI_len] at hc ⊢
    have hc2 : ∀ i, i < n → w.cell? ⟨b, off + i, none⟩ = some (.int .i64 (k + (i : Int))) := fun i hi => by rw [hc i hi, marksI_at k n i hi]
    clear hc
    go_enter Try.func22, Try.ntmps22
    go_wp2
    go_loop [1, 5] (fun q i => ∃ j : Nat, j ≤ n ∧ i = .int .i64 j ∧ q = .int .i64 (k + (j : Int))) (fun _ i => n - (intOf i).toNat)
    case atStart => exact ⟨0, Nat.zero_le _, rfl, by simp⟩
    case round =>
      obtain ⟨j, hj, rfl, rfl⟩ := hrel
      by_cases hlt : j < n
      · have h1 := hc2 j hlt
        clear hc2
        go_wp2
        go_round
        case rel => exact ⟨j + 1, by omega, by go_num, by go_num⟩
        case measure => simp [intOf]; omega
      · have hjn : j = n := by omega
        subst hjn
        go_wp2
        go_ret
        exact ⟨rfl, rfl⟩

/-- Two lists' prefixes marked: what stands there while it is marked. -/
theorem marked_all (k : Int) (n : Nat) (ys : List Value) (hl : ys.length = n) (h : ∀ i, i < n → ys[i]? = some (.int .i64 (k + (i : Int)))) : ys = (marksI k n).map (Value.int .i64) := by
  apply List.ext_getElem?
  intro i
  by_cases hi : i < n
  · rw [h i hi]; simp [marksI, hi]
  · rw [List.getElem?_eq_none (by omega), List.getElem?_eq_none (by simp [marksI]; omega)]

set_option maxHeartbeats 400000 in
theorem markI_own (base : Nat) (v : Value) (k : Int) (n : Nat) (xs : List Value) (w : World) (hown : w.ownsRow base 2 1 v n xs) (hk : 0 ≤ k ∧ k ≤ 1073741824) (hl : n ≤ 1073741824) :
    Calls Try.prog 20 #[v, .int .i64 k] w fun e w' => e = .returned (.int .i64 (k + n)) ∧ w'.ownsRow base 2 1 v n ((marksI k n).map (Value.int .i64)) ∧ w.grownBy w' v.ownBlock := by
  have hlen := hown.1
  rcases hown.2 with ⟨rfl, rfl⟩ | ⟨g, cap, cur, rfl, hb, hg, _⟩
  · go_enter Try.func20, Try.ntmps20
    go_wp2
    refine wp_loop_rounds 1 ?_
    rw [rounds_succ]
    go_wp2
    go_ret
    exact ⟨by simp, World.ownsRow_nil _ _ _ _, World.grownBy.refl _ _⟩
  · clear hg
    go_enter Try.func20, Try.ntmps20
    go_wp2
    go_loopw [1, 5] (fun q i wr => ∃ (j : Nat) (ys : List Value), j ≤ n ∧ i = .int .i64 j ∧ q = .int .i64 (k + (j : Int)) ∧ wr.ownsRow base 2 1 (.slice (some ⟨g, 0, none⟩) n cap) n ys ∧ ys.length = n ∧ (∀ t, t < j → ys[t]? = some (.int .i64 (k + (t : Int)))) ∧ w.grownBy wr (some g)) (fun _ i _ => n - (intOf i).toNat)
    case atStart => exact ⟨0, xs, Nat.zero_le _, rfl, by simp, hown, by simpa using hlen, by simp, World.grownBy.refl _ _⟩
    case round =>
      obtain ⟨j, ys, hj, rfl, rfl, ho, hyl, hys, hgr⟩ := hrel
      by_cases hlt : j < n
      · have h1 : ∃ u, wr.cell? ⟨g, j, none⟩ = some u := by
          rw [ho.cellAt j (by omega)]; exact ⟨_, List.getElem?_eq_getElem (by omega)⟩
        obtain ⟨u, h1⟩ := h1
        have h2 := ho.frozenAt j
        have hst := ho.stored j (.int .i64 (k + (j : Int)))
        obtain ⟨hst1, hst2⟩ := hst
        clear ho
        go_wp2
        go_roundw
        case rel =>
          refine ⟨j + 1, ys.set j (.int .i64 (k + (j : Int))), by omega, by go_num, by go_num, hst1, by simpa using hyl, ?_, grown_trans hgr hst2⟩
          intro t ht
          by_cases e : t = j
          · subst e; simp [hyl, hlt]
          · rw [List.getElem?_set_ne (by omega)]; exact hys t (by omega)
        case measure => simp [intOf]; omega
      · have hjn : j = n := by omega
        subst hjn
        go_wp2
        go_ret
        exact ⟨rfl, by rw [← marked_all k j ys hyl hys]; exact ho, hgr⟩

end Go.Proofs.Ytokoohmakjabnaa
namespace Go.Proofs.Ytokoohmakjabnaa
open Go.ChangeShapes Go.WideShapes Go.ChangeAt Go.RowKit
/-- A table of W numbers a row, filled up to a place. -/
def TabT (ys : List Value) (W m : Nat) (f : Nat → Nat → Int) (i j : Nat) : Prop :=
  ∀ i' j', j' < W → i' ≤ m → ys[i' * W + j']? = some (.int .i64 (if i' < i ∨ (i' = i ∧ j' < j) then f i' j' else 0))
theorem tab_lt {W m i j : Nat} (hi : i ≤ m) (hj : j < W) : i * W + j < (m + 1) * W := by
  have h1 : i * W ≤ m * W := Nat.mul_le_mul_right W hi
  have h2 : (m + 1) * W = m * W + W := by rw [Nat.add_mul]; simp
  omega
theorem tab_inj {W i j i' j' : Nat} (hj : j < W) (hj' : j' < W) (h : i * W + j = i' * W + j') : i = i' ∧ j = j' := by
  have hW : 0 < W := by omega
  have h1 : (i * W + j) / W = i := by rw [Nat.mul_comm, Nat.mul_add_div hW, Nat.div_eq_of_lt hj]; rfl
  have h2 : (i' * W + j') / W = i' := by rw [Nat.mul_comm, Nat.mul_add_div hW, Nat.div_eq_of_lt hj']; rfl
  have e : i = i' := by rw [← h1, ← h2, h]
  subst e
  exact ⟨rfl, by omega⟩
theorem TabT.zero (W m : Nat) (f : Nat → Nat → Int) : TabT (List.replicate ((m + 1) * W) (.int .i64 0)) W m f 0 0 := by
  intro i' j' hj hi
  have := tab_lt hi hj
  rw [if_neg (by omega)]
  simp [this]
theorem TabT.set {ys : List Value} {W m : Nat} {f : Nat → Nat → Int} {i j p : Nat} {x : Int} (h : TabT ys W m f i j) (hj : j < W) (hi : i ≤ m) (hp : p = i * W + j) (hl : ys.length = (m + 1) * W) (hx : x = f i j) : TabT (ys.set p (.int .i64 x)) W m f i (j + 1) := by
  subst hp; subst hx
  intro i' j' hj' hi'
  have hlt := tab_lt hi hj
  by_cases e : i' = i ∧ j' = j
  · obtain ⟨rfl, rfl⟩ := e
    rw [List.getElem?_set_self (by omega), if_pos (by omega)]
  · rw [List.getElem?_set_ne (fun q => e (by have := tab_inj hj hj' q; omega)), h i' j' hj' hi']
    have : (i' < i ∨ (i' = i ∧ j' < j + 1)) ↔ (i' < i ∨ (i' = i ∧ j' < j)) := by omega
    simp only [this]
theorem TabT.row {ys : List Value} {W m : Nat} {f : Nat → Nat → Int} {i : Nat} (h : TabT ys W m f i W) : TabT ys W m f (i + 1) 0 := by
  intro i' j' hj' hi'
  rw [h i' j' hj' hi']
  have : (i' < i + 1 ∨ (i' = i + 1 ∧ j' < 0)) ↔ (i' < i ∨ (i' = i ∧ j' < W)) := by omega
  simp only [this]
theorem TabT.at {ys : List Value} {W m : Nat} {f : Nat → Nat → Int} {i j : Nat} (h : TabT ys W m f i j) (i' j' : Nat) (hj' : j' < W) (hi' : i' ≤ m) (hd : i' < i ∨ (i' = i ∧ j' < j)) : ys[i' * W + j']? = some (.int .i64 (f i' j')) := by
  rw [h i' j' hj' hi', if_pos hd]
end Go.Proofs.Ytokoohmakjabnaa
namespace Go.Proofs.Ytokoohmakjabnaa
open Go.ChangeShapes Go.WideShapes Go.ChangeAt Go.RowKit
theorem allReady_1 {P : Program} {ops : Array Oper} {Q : Exit → Act → World → Prop} {md : Region.Mode} {S : World → Prop} {fuel : Nat} {listed : Array Bool} {a : Act} {w : World} {i : Nat} {o : Oper} (ho : ops[i]? = some o) (hg : o.guard = none)
    (h : ∀ K' : Act → World → Prop, Shut (∀ a w, S w → (S w → wpAnyH P md ops Q S fuel (listed.setIfInBounds i true) a w) → K' a w) → Oper.wp P o a w K' Q) : AllReadyH P md ops Q S fuel listed a w [i] :=
  AllReadyH.cons ho (fun K' hK => by rw [if_pos (by simp [Region.wanted, hg])]; exact h K' hK) AllReadyH.nil
end Go.Proofs.Ytokoohmakjabnaa
namespace Go.Proofs.Ytokoohmakjabnaa
open Go.ChangeShapes Go.WideShapes Go.ChangeAt Go.RowKit
def Runes6 (l : List Int) : Prop := ∀ x ∈ l, runeOk x = true
theorem Runes6.tail {l : List Int} (h : Runes6 l) : Runes6 l.tail := fun x hx => h x (List.mem_of_mem_tail hx)
theorem Runes6.head {r : Int} {l : List Int} (h : Runes6 (r :: l)) : 0 ≤ r ∧ r ≤ 1114111 := runeOk_bd r (h r (List.mem_cons_self))
def acs (X : List Ax) : List Ac := X.map (·.a)
/-- The rune that comes next, of which nothing is done yet. -/
def NextR (p q : Pa) (l l' : List Int) (X X' : List Ax) (r : Int) : Prop :=
  (r = -1 ∧ l' = [] ∧ Fin p l (acs X) = Fin q [] (acs X')) ∨ (0 ≤ r ∧ runeOk r = true ∧ l'.length < l.length ∧ Fin p l (acs X) = Fin q (r :: l') (acs X'))
def Room (l l' : List Int) (X X' : List Ax) (r : Int) : Prop := (r = -1 → X'.length + l'.length ≤ X.length + l.length) ∧ (r ≠ -1 → X'.length + l'.length < X.length + l.length) ∧ Runes6 l'
/-- One rune is done with, and the next one comes. -/
theorem NextR.go {p q q' : Pa} {l l' : List Int} {X X' Y : List Ax} {r : Int} (h : NextR p q l l' X X' r) (hR : Room l l' X X' r) (h1 : r ≠ -1) (hs : (stepM q r).1 = q') (ha : acs Y = acs X' ++ (stepM q r).2) (hY : Y.length ≤ X'.length + 1) :
    NextR p q' l l'.tail X Y (l'.headD (-1)) ∧ Room l l'.tail X Y (l'.headD (-1)) := by
  obtain ⟨_, hR2, hR3⟩ := hR
  have hR2 := hR2 h1
  rcases h with ⟨h, _⟩ | ⟨h0, hk, hlt, he⟩
  · exact absurd h h1
  · rw [Fin_cons, hs, ← ha] at he
    cases l' with
    | nil => exact ⟨.inl ⟨rfl, rfl, he⟩, fun _ => by simp at hR2 ⊢; omega, fun h => absurd rfl h, hR3⟩
    | cons a l' =>
      have hl : (a :: l').length = l'.length + 1 := rfl
      exact ⟨.inr ⟨hR3.head.1, hR3 a (List.mem_cons_self), by simp; omega, he⟩, fun _ => by simp at hR2 ⊢; omega, fun _ => by simp at hR2 ⊢; omega, hR3.tail⟩
theorem NextR.end {p q : Pa} {l l' : List Int} {X X' : List Ax} (h : NextR p q l l' X X' (-1)) : l' = [] ∧ Fin p l (acs X) = Fin q [] (acs X') := by
  rcases h with ⟨_, h⟩ | ⟨h0, _⟩
  · exact h
  · omega
theorem NextR.more {p q : Pa} {l l' : List Int} {X X' : List Ax} {r : Int} (h : NextR p q l l' X X' r) (hr : r ≠ -1) : 0 ≤ r ∧ runeOk r = true ∧ l'.length < l.length ∧ Fin p l (acs X) = Fin q (r :: l') (acs X') := by
  rcases h with ⟨h, _⟩ | h
  · exact absurd h hr
  · exact h
theorem NextR.trans {p q q2 : Pa} {l l' l2 : List Int} {X X' X2 : List Ax} {r r2 : Int} (h : NextR p q l l' X X' r) (hR : Room l l' X X' r) (h1 : r ≠ -1) {Y : List Ax} (hs : (stepM q r).1 = q2) (ha : acs Y = acs X' ++ (stepM q r).2) (hY : Y.length ≤ X'.length + 1) {q3 : Pa}
    (k : NextR q2 q3 l' l2 Y X2 r2) (kR : Room l' l2 Y X2 r2) : NextR p q3 l l2 X X2 r2 ∧ Room l l2 X X2 r2 := by
  obtain ⟨h0, hk, hlt, he⟩ := h.more h1
  rw [Fin_cons, hs, ← ha] at he
  obtain ⟨_, hR2, hR3⟩ := hR
  have hR2 := hR2 h1
  obtain ⟨k1, k2, k3⟩ := kR
  refine ⟨?_, fun e => by have := k1 e; omega, fun e => by have := k2 e; omega, k3⟩
  rcases k with ⟨a, b, c⟩ | ⟨a, b, c, d⟩
  · exact .inl ⟨a, b, he.trans c⟩
  · exact .inr ⟨a, b, by omega, he.trans d⟩
end Go.Proofs.Ytokoohmakjabnaa
namespace Go.Proofs.Ytokoohmakjabnaa
open Go.ChangeShapes Go.WideShapes Go.ChangeAt Go.RowKit
/-- A slice whose cells hold these values, one a place: what append takes its news from. -/
def ReadsRow (w : World) (u : Value) (news : List Value) : Prop :=
  (u = .slice none 0 0 ∧ news = []) ∨ ∃ ad c, u = .slice (some ad) news.length c ∧ ∀ j x, news[j]? = some x → w.cell? (ad.add j) = some x
theorem ReadsRow.of_own {w : World} {base : Nat} {e : TypeId} {v : Value} {n : Nat} {xs : List Value} (h : w.ownsRow base e 1 v n xs) : ReadsRow w v xs := by
  have hl : xs.length = n := by simpa using h.1
  rcases h.2 with ⟨rfl, rfl⟩ | ⟨g, cap, cur, hv, _⟩
  · exact .inl ⟨rfl, List.eq_nil_of_length_eq_zero hl⟩
  · exact .inr ⟨⟨g, 0, none⟩, cap, by rw [hv, hl], h.cells (by rw [hv]; rfl)⟩
theorem ReadsRow.below {w w' : World} {u : Value} {news : List Value} (h : ReadsRow w u news) (hb : Below w.heap.size w w') : ReadsRow w' u news := by
  rcases h with h | ⟨ad, c, hu, hc⟩
  · exact .inl h
  · refine .inr ⟨ad, c, hu, fun j x hx => ?_⟩
    have h1 := hc j x hx
    exact (hb.cell (World.block_lt_of_cell? w _ h1)).trans h1
theorem append_any {P : Program} {w : World} {ops : Array Oper} {rest : List Oper} {o : Oper} {a : Act} {Q : Exit → Act → World → Prop} (hgd : o.guard = none) (s x : Operand) (t : TypeId)
    (ho : o.op = .call { callee := .builtin .append, args := #[s, x], argTypes := #[t, t] })
    (base : Nat) (e : TypeId) (i : TypeInfo) (z : Value) (bytes : Nat) (ht : P.underlying t = some (.slice e)) (hi : P.info? e = some i) (hz : i.zero = some z)
    (hsize : i.size = 1) (hby : i.bytes = bytes) (hzs : z.cells.size = 1)
    (v : Value) (n : Nat) (xs : List Value) (hs : a.eval s = v) (hown : w.ownsRow base e 1 v n xs)
    (u : Value) (news : List Value) (hx : a.eval x = u) (hr : ReadsRow w u news) (h1 : ∀ u ∈ news, u.oneCell' = true)
    (h63 : n + news.length ≤ maxLen) (hbytes : (n + news.length) * bytes ≤ 140737488355328) (hbase : base ≤ w.heap.size)
    (h : ∀ v' w', w'.ownsRow base e 1 v' (n + news.length) (xs ++ news) → w.grownBy w' v.ownBlock → wpList P ops Q rest (a.put o.dst v') w') : wpList P ops Q (o :: rest) a w := by
  rcases hr with ⟨rfl, rfl⟩ | ⟨ad, c, rfl, hc⟩
  · exact wpList_append_own_none hgd s x t ho base e i 1 ht hi v n xs hs hown hx (h v w (by simpa using hown) (World.grownBy.refl _ _))
  · exact wpList_append_own w hgd s x t ho base e i z 1 bytes ht hi hz hsize hby hzs (by decide) v n xs hs hown ad news.length c news hx (by simp) hc h1 h63 hbytes hbase (fun v' w' a b _ => h v' w' a b)
end Go.Proofs.Ytokoohmakjabnaa
namespace Go.Proofs.Ytokoohmakjabnaa
open Go.ChangeShapes Go.WideShapes Go.ChangeAt Go.RowKit
/-- A slice that can be read, cut and copied. -/
def SlN (w : World) (v : Value) (xs : List Int) : Prop :=
  ∃ a c, v = .slice a xs.length c ∧ xs.length ≤ c ∧ (a = none → c = 0) ∧ (xs = [] ∨ ∃ b off, a = some ⟨b, off, none⟩ ∧ b < w.heap.size ∧ ∀ i, i < xs.length → w.cell? ⟨b, off + i, none⟩ = some (.int .i64 (xs.getD i 0)))
theorem SlN.l {w : World} {v : Value} {xs : List Int} (h : SlN w v xs) : SlL w v xs := by
  obtain ⟨a, c, hv, hc, _, hr⟩ := h
  exact ⟨a, c, hv, hc, hr⟩
theorem SlN.below {w w' : World} {v : Value} {xs : List Int} (h : SlN w v xs) (hb : Below w.heap.size w w') : SlN w' v xs := by
  obtain ⟨a, c, hv, hc0, hn, h | ⟨b, off, ha, hlt, hc⟩⟩ := h
  · exact ⟨a, c, hv, hc0, hn, .inl h⟩
  · exact ⟨a, c, hv, hc0, hn, .inr ⟨b, off, ha, Nat.lt_of_lt_of_le hlt hb.size, fun i hi => (hb.cell (p := ⟨b, off + i, none⟩) hlt).trans (hc i hi)⟩⟩
theorem SlN.of_own {w : World} {base : Nat} {v : Value} {xs : List Int} (h : OwnI w base v xs) : SlN w v xs := by
  rcases h.2 with ⟨rfl, h2⟩ | ⟨g, cap, cur, rfl, hb, hg, hn, hr⟩
  · exact ⟨none, 0, by rw [h2], by omega, fun _ => rfl, .inl (List.eq_nil_of_length_eq_zero h2)⟩
  · refine ⟨_, cap, rfl, hn, (fun e => by cases e), .inr ⟨g, 0, rfl, (Array.getElem?_eq_some_iff.1 hg).1, fun i hi => ?_⟩⟩
    have := World.ownsRow.cellAt h i (by omega)
    rw [Nat.zero_add, this]
    simp [hi]
theorem SlN.shp {w : World} {v : Value} {xs : List Int} (h : SlN w v xs) : ∃ a c, v = .slice a xs.length c := h.l.sl.shp
theorem SlN.reads {w : World} {v : Value} {xs : List Int} (h : SlN w v xs) : ReadsRow w v (xs.map (Value.int .i64)) := by
  obtain ⟨a, c, hv, hc, hn, hr⟩ := h
  cases a with
  | none =>
    have hc0 := hn rfl
    subst hc0
    have hx : xs = [] := List.eq_nil_of_length_eq_zero (by omega)
    subst hx
    exact .inl ⟨hv, rfl⟩
  | some ad =>
    refine .inr ⟨ad, c, by rw [hv, List.length_map], fun j x hj => ?_⟩
    have hjl : j < xs.length := by
      have := (List.getElem?_eq_some_iff.1 hj).1
      simpa using this
    rcases hr with h | ⟨b, off, ha, _, hcl⟩
    · rw [h] at hjl; simp at hjl
    · cases ha
      rw [Addr.add_mid, hcl j hjl, ← hj]
      simp [hjl]
theorem ints_one (xs : List Int) : ∀ u ∈ xs.map (Value.int .i64), u.oneCell' = true := by
  intro u hu
  obtain ⟨x, _, rfl⟩ := List.mem_map.1 hu
  rfl
/-- A list's copy onto an empty one: what is asked at the append and what holds behind it. -/
theorem copy_i {w : World} {ops : Array Oper} {rest : List Oper} {o : Oper} {ac : Act} {Q : Exit → Act → World → Prop} (hgd : o.guard = none) (s x : Operand)
    (ho : o.op = .call { callee := .builtin .append, args := #[s, x], argTypes := #[24, 24] })
    (v : Value) (xs : List Int) (hs : ac.eval s = .slice (some ⟨w.heap.size, 0, none⟩) 0 0) (k : SlN w v xs) (hl : xs.length ≤ 1073741824) (hx : ac.eval x = v)
    (h : ∀ v' w', OwnI w' w.heap.size v' xs → Below w.heap.size w w' → wpList Try.prog ops Q rest (ac.put o.dst v') w') :
    wpList Try.prog ops Q (o :: rest) ac (w.alloc (.cells #[] 2)) := by
  obtain ⟨i0, hi, hz0, hz1, hz2⟩ := info_parts info_i64
  have hba := bal' w (Obj.cells #[] 2)
  have hown : (w.alloc (.cells #[] 2)).ownsRow w.heap.size 2 1 (.slice (some ⟨w.heap.size, 0, none⟩) 0 0) 0 [] := by
    have := World.ownsRow_lit (base := w.heap.size) (e := 2) (size := 1) w #[] 0 (Nat.le_refl _) (Nat.zero_le _) rfl
    simpa using this
  refine append_any hgd s x _ ho w.heap.size 2 i0 (.int .i64 0) 8 under_ints hi hz0 hz1 hz2 rfl _ 0 [] hs hown v (xs.map (Value.int .i64)) hx (k.reads.below hba) (ints_one xs) (by unfold maxLen; simp; omega) (by simp; omega) (by simp) (fun v' w' ho' hg' => ?_)
  have e : 0 + (xs.map (Value.int .i64)).length = xs.length := by simp
  rw [e] at ho'
  refine h v' w' (by simpa [OwnI] using ho') (hba.grown hg' (by simp) (fun q e => by simp [Value.ownBlock] at e; omega))
set_option maxRecDepth 20000 in
theorem copiedNumbers_any (v : Value) (xs : List Int) (w : World) (hv : SlN w v xs) (hl : xs.length ≤ 1073741824) :
    Calls Try.prog 33 #[v] w fun e w' => ∃ u, e = .returned u ∧ OwnI w' w.heap.size u xs ∧ Below w.heap.size w w' := by
  obtain ⟨a, c, rfl⟩ := hv.shp
  go_enter Try.func33, Try.ntmps33
  go_wp2_with (refine copy_i (by rfl) _ _ (by rfl) _ xs (by rfl) hv hl (by rfl) ?_; intro v' w1 ho hb)
  go_wp2
  go_ret
  exact ⟨_, rfl, ho, hb⟩
/-- Four cells of a parser are written. -/
def putP (w : World) (B : Nat) (s : Int) (pv : Value) (m : Int) (tv : Value) : World := (((w.setCell ⟨B, 0, none⟩ (.int .i64 s)).setCell ⟨B, 1, none⟩ pv).setCell ⟨B, 2, none⟩ (.int .i64 m)).setCell ⟨B, 3, none⟩ tv
theorem PaC.put {w : World} {B : Nat} {s m : Int} {pv tv : Value} (h : PaC w B s pv m tv) (s' m' : Int) (pv' tv' : Value) : PaC (putP w B s' pv' m' tv') B s' pv' m' tv' := by
  obtain ⟨hlt, ⟨c0, c1, c2, c3⟩, ⟨z0, z1, z2, z3⟩⟩ := h
  refine ⟨by simpa [putP] using hlt, ⟨?_, ?_, ?_, ?_⟩, ⟨?_, ?_, ?_, ?_⟩⟩
  all_goals simp only [putP]
  · simp [go_sem, c0]
  · simp [go_sem, c1]
  · simp [go_sem, c2]
  · simp [go_sem, c3]
  all_goals simp [go_sem, z0, z1, z2, z3]
end Go.Proofs.Ytokoohmakjabnaa
namespace Go.Proofs.Ytokoohmakjabnaa
open Go.ChangeShapes Go.WideShapes Go.ChangeAt Go.RowKit
def setV (L : List Value) : Nat → List Value → List Value
  | _, [] => L
  | k, v :: l => setV (L.set k v) (k + 1) l
/-- A block's cells, named. -/
def BlkC (w : World) (B : Nat) (e : TypeId) (L : List Value) : Prop := w.heap[B]? = some (.cells L.toArray e (0, 0))
end Go.Proofs.Ytokoohmakjabnaa
namespace Go.Proofs.Ytokoohmakjabnaa
open Go.ChangeShapes Go.WideShapes Go.ChangeAt Go.RowKit
theorem BlkC.lt {w : World} {B : Nat} {e : TypeId} {cs : List Value} (h : BlkC w B e cs) : B < w.heap.size := (Array.getElem?_eq_some_iff.1 h).1
theorem BlkC.kept {w w' : World} {B : Nat} {e : TypeId} {cs : List Value} {row : Option Nat} (h : BlkC w B e cs) (hg : w.grownBy w' row) (hne : row ≠ some B) : BlkC w' B e cs := by
  unfold BlkC
  rw [hg.block B h.lt (Ne.symm hne)]
  exact h
theorem BlkC.below {w w' : World} {B : Nat} {e : TypeId} {cs : List Value} (h : BlkC w B e cs) (hb : Below w.heap.size w w') : BlkC w' B e cs := by
  unfold BlkC
  rw [hb.block B h.lt]
  exact h
theorem BlkC.new (w : World) (e : TypeId) (cs : List Value) : BlkC (w.alloc (.cells cs.toArray e)) w.heap.size e cs := heap_alloc_new w _
end Go.Proofs.Ytokoohmakjabnaa
namespace Go.Proofs.Ytokoohmakjabnaa
open Go.ChangeShapes Go.WideShapes Go.ChangeAt Go.RowKit
/-- A row of 41 numbers. -/
def rowV (f : Nat → Int) : List Value := (List.range 41).map (fun j => .int .i64 (f j))
theorem rowV_len (f : Nat → Int) : (rowV f).length = 41 := by simp [rowV]
theorem rowV_get (f : Nat → Int) (j : Nat) (h : j < 41) : (rowV f)[j]? = some (.int .i64 (f j)) := by simp [rowV, h]
theorem cell_blk {w : World} {B : Nat} {e : TypeId} {cs : List Value} (h : BlkC w B e cs) (k : Nat) : w.cell? ⟨B, k, none⟩ = cs[k]? := by
  rw [cell_of_row w B k cs.toArray e (0, 0) h]; simp
theorem blk_set {w : World} {B : Nat} {e : TypeId} {cs : List Value} (h : BlkC w B e cs) (k : Nat) (v : Value) : BlkC (w.setCell ⟨B, k, none⟩ v) B e (cs.set k v) := by
  unfold BlkC; rw [heap_setCell_same w B k _ _ v h]; simp
end Go.Proofs.Ytokoohmakjabnaa
namespace Go.Proofs.Ytokoohmakjabnaa
open Go.ChangeShapes Go.WideShapes Go.ChangeAt Go.RowKit
/-- A route's block: the lists, the ways, the limit, the rows. -/
def RtB (w : World) (B : Nat) (va vb vw : Value) (L : Int) (R : Nat → Nat → Int) : Prop :=
  ∃ cs : List Value, BlkC w B 68 cs ∧ cs.length = 1685 ∧ cs[0]? = some va ∧ cs[1]? = some vb ∧ cs[2]? = some vw ∧ cs[3]? = some (.int .i64 L) ∧ ∀ i j, i ≤ 40 → j ≤ 40 → cs[4 + i * 41 + j]? = some (.int .i64 (R i j))
theorem RtB.lt {w : World} {B : Nat} {va vb vw : Value} {L : Int} {R : Nat → Nat → Int} (h : RtB w B va vb vw L R) : B < w.heap.size := by
  obtain ⟨cs, hb, _⟩ := h
  exact hb.lt
theorem RtB.below {w w' : World} {B : Nat} {va vb vw : Value} {L : Int} {R : Nat → Nat → Int} (h : RtB w B va vb vw L R) (hb : Below w.heap.size w w') : RtB w' B va vb vw L R := by
  obtain ⟨cs, h1, h2⟩ := h
  exact ⟨cs, h1.below hb, h2⟩
theorem RtB.cells {w : World} {B : Nat} {va vb vw : Value} {L : Int} {R : Nat → Nat → Int} (h : RtB w B va vb vw L R) : w.cell? ⟨B, 0, none⟩ = some va ∧ w.cell? ⟨B, 1, none⟩ = some vb ∧ w.cell? ⟨B, 2, none⟩ = some vw ∧ w.cell? ⟨B, 3, none⟩ = some (.int .i64 L) := by
  obtain ⟨cs, h1, _, h2, h3, h4, h5, _⟩ := h
  exact ⟨(cell_blk h1 0).trans h2, (cell_blk h1 1).trans h3, (cell_blk h1 2).trans h4, (cell_blk h1 3).trans h5⟩
theorem RtB.at {w : World} {B : Nat} {va vb vw : Value} {L : Int} {R : Nat → Nat → Int} (h : RtB w B va vb vw L R) (i j : Nat) (hi : i ≤ 40) (hj : j ≤ 40) : w.cell? ⟨B, 4 + i * 41 + j, none⟩ = some (.int .i64 (R i j)) := by
  obtain ⟨cs, h1, _, _, _, _, _, h6⟩ := h
  exact (cell_blk h1 _).trans (h6 i j hi hj)
/-- One number of the rows becomes another. -/
def putR (R : Nat → Nat → Int) (i j : Nat) (x : Int) : Nat → Nat → Int := fun i' j' => if i' = i ∧ j' = j then x else R i' j'
/-- A row becomes all one number. -/
def rowR (R : Nat → Nat → Int) (i : Nat) (f : Nat → Int) : Nat → Nat → Int := fun i' j' => if i' = i then f j' else R i' j'
theorem RtB.put {w : World} {B : Nat} {va vb vw : Value} {L : Int} {R : Nat → Nat → Int} (h : RtB w B va vb vw L R) (i j : Nat) (hi : i ≤ 40) (hj : j ≤ 40) (x : Int) : RtB (w.setCell ⟨B, 4 + i * 41 + j, none⟩ (.int .i64 x)) B va vb vw L (putR R i j x) := by
  obtain ⟨cs, h1, hl, h2, h3, h4, h5, h6⟩ := h
  refine ⟨_, blk_set h1 _ _, by rw [List.length_set]; exact hl, ?_, ?_, ?_, ?_, fun i' j' hi' hj' => ?_⟩
  · rw [List.getElem?_set_ne (by omega)]; exact h2
  · rw [List.getElem?_set_ne (by omega)]; exact h3
  · rw [List.getElem?_set_ne (by omega)]; exact h4
  · rw [List.getElem?_set_ne (by omega)]; exact h5
  · unfold putR
    by_cases e : i' = i ∧ j' = j
    · obtain ⟨rfl, rfl⟩ := e
      rw [List.getElem?_set_self (by omega), if_pos ⟨rfl, rfl⟩]
    · rw [List.getElem?_set_ne (by omega), if_neg e]; exact h6 i' j' hi' hj'
theorem setV_get : ∀ (l : List Value) (k : Nat) (L : List Value) (p : Nat), k + l.length ≤ L.length → (setV L k l)[p]? = if k ≤ p ∧ p < k + l.length then l[p - k]? else L[p]?
  | [], k, L, p, _ => by rw [if_neg (by rw [List.length_nil]; omega)]; rfl
  | v :: l, k, L, p, h => by
    rw [List.length_cons] at h ⊢
    rw [setV, setV_get l (k + 1) _ p (by rw [List.length_set]; omega)]
    by_cases e : p = k
    · subst e
      rw [if_neg (by omega), if_pos (by omega), List.getElem?_set_self (by omega), Nat.sub_self]; rfl
    · rw [List.getElem?_set_ne (fun q => e q.symm)]
      by_cases hin : k ≤ p ∧ p < k + (l.length + 1)
      · rw [if_pos (by omega), if_pos hin, show p - k = (p - (k + 1)) + 1 by omega, List.getElem?_cons_succ]
      · rw [if_neg (by omega), if_neg hin]
theorem setV_len : ∀ (l : List Value) (k : Nat) (L : List Value), (setV L k l).length = L.length
  | [], _, _ => rfl
  | v :: l, k, L => by rw [setV, setV_len l (k + 1), List.length_set]
theorem RtB.row {w' : World} {B : Nat} {va vb vw : Value} {L : Int} {R : Nat → Nat → Int} {cs : List Value} (hl : cs.length = 1685) (h2 : cs[0]? = some va) (h3 : cs[1]? = some vb) (h4 : cs[2]? = some vw) (h5 : cs[3]? = some (.int .i64 L)) (h6 : ∀ i j, i ≤ 40 → j ≤ 40 → cs[4 + i * 41 + j]? = some (.int .i64 (R i j))) (i : Nat) (hi : i ≤ 40) (f : Nat → Int) (h : BlkC w' B 68 (setV cs (4 + i * 41) (rowV f))) : RtB w' B va vb vw L (rowR R i f) := by
  have hlen : 4 + i * 41 + (rowV f).length ≤ cs.length := by rw [rowV_len]; omega
  refine ⟨_, h, by rw [setV_len]; exact hl, ?_, ?_, ?_, ?_, fun i' j' hi' hj' => ?_⟩
  · rw [setV_get _ _ _ _ hlen, if_neg (by omega)]; exact h2
  · rw [setV_get _ _ _ _ hlen, if_neg (by omega)]; exact h3
  · rw [setV_get _ _ _ _ hlen, if_neg (by omega)]; exact h4
  · rw [setV_get _ _ _ _ hlen, if_neg (by omega)]; exact h5
  · unfold rowR
    rw [setV_get _ _ _ _ hlen, rowV_len]
    by_cases e : i' = i
    · subst e
      rw [if_pos (by omega), if_pos rfl, show 4 + i' * 41 + j' - (4 + i' * 41) = j' by omega]
      exact rowV_get f j' (by omega)
    · rw [if_neg (by omega), if_neg e]; exact h6 i' j' hi' hj'
end Go.Proofs.Ytokoohmakjabnaa
namespace Go.Proofs.Ytokoohmakjabnaa
open Go.ChangeShapes Go.WideShapes Go.ChangeAt Go.RowKit
/-- A slice of n edits that can be read, its numbers one behind the other. -/
def SlE (w : World) (v : Value) (n : Nat) (L : List Int) : Prop :=
  L.length = n * 3 ∧ ∃ a c, v = .slice a n c ∧ (n = 0 ∨ ∃ b, a = some ⟨b, 0, none⟩ ∧ b < w.heap.size ∧ ∀ i, i < n * 3 → w.cell? ⟨b, i, none⟩ = some (.int .i64 (L.getD i 0)))
theorem SlE.below {w w' : World} {v : Value} {n : Nat} {L : List Int} (h : SlE w v n L) (hb : Below w.heap.size w w') : SlE w' v n L := by
  obtain ⟨hl, a, c, hv, h | ⟨b, ha, hlt, hc⟩⟩ := h
  · exact ⟨hl, a, c, hv, .inl h⟩
  · exact ⟨hl, a, c, hv, .inr ⟨b, ha, Nat.lt_of_lt_of_le hlt hb.size, fun i hi => (hb.cell (p := ⟨b, i, none⟩) hlt).trans (hc i hi)⟩⟩
theorem SlE.of_own {w : World} {base : Nat} {e : TypeId} {v : Value} {n : Nat} {L : List Int} (h : w.ownsRow base e 3 v n (L.map (Value.int .i64))) : SlE w v n L := by
  have hl : L.length = n * 3 := by have := h.1; simpa using this
  refine ⟨hl, ?_⟩
  rcases h.2 with ⟨rfl, h2⟩ | ⟨g, cap, cur, rfl, hb, hg, hr⟩
  · exact ⟨none, 0, by rw [h2], .inl h2⟩
  · refine ⟨_, cap, rfl, .inr ⟨g, rfl, (Array.getElem?_eq_some_iff.1 hg).1, fun i hi => ?_⟩⟩
    rw [h.cellAt i hi]
    simp [List.getD_eq_getElem?_getD, show i < L.length by omega]
theorem eqEdit_same (x y z : Int) (w : World) :
    Calls Try.prog 40 #[.agg #[.int .i64 x, .int .i64 y, .int .i64 z], .agg #[.int .i64 x, .int .i64 y, .int .i64 z]] w fun e w' => e = .returned (.bool true) ∧ Below w.heap.size w w' := by
  go_enter Try.func40, Try.ntmps40
  go_wp2
  go_ret
  exact ⟨rfl, ((Below.refl _ _).alloc (Nat.le_refl _) _).alloc (by simp) _⟩
set_option maxHeartbeats 1000000 in
theorem eqE_same (va vb : Value) (n : Nat) (L : List Int) (w : World) (ha : SlE w va n L) (hb : SlE w vb n L) (hn : n ≤ 1073741824) :
    Calls Try.prog 19 #[va, vb] w fun e w' => e = .returned (.bool true) ∧ Below w.heap.size w w' := by
  obtain ⟨hl, a, c, rfl, hca⟩ := ha
  obtain ⟨_, a', c', rfl, hcb⟩ := hb
  by_cases h0 : n = 0
  · subst h0
    clear hca hcb
    go_enter Try.func19, Try.ntmps19
    go_wp2
    refine wp_loop_rounds 1 ?_
    rw [rounds_succ]
    go_wp2
    go_ret
    exact ⟨rfl, Below.refl _ _⟩
  rcases hca with h | ⟨b, rfl, hbl, hs1⟩
  · exact absurd h h0
  rcases hcb with h | ⟨b', rfl, hbl', hs2⟩
  · exact absurd h h0
  have hcs : ∀ j W, j < n → Below w.heap.size w W → W.cell? ⟨b, j * 3, none⟩ = some (.int .i64 (L.getD (j * 3) 0)) ∧ W.cell? ⟨b, j * 3 + 1, none⟩ = some (.int .i64 (L.getD (j * 3 + 1) 0)) ∧ W.cell? ⟨b, j * 3 + 2, none⟩ = some (.int .i64 (L.getD (j * 3 + 2) 0)) ∧ W.cell? ⟨b', j * 3, none⟩ = some (.int .i64 (L.getD (j * 3) 0)) ∧ W.cell? ⟨b', j * 3 + 1, none⟩ = some (.int .i64 (L.getD (j * 3 + 1) 0)) ∧ W.cell? ⟨b', j * 3 + 2, none⟩ = some (.int .i64 (L.getD (j * 3 + 2) 0)) := fun j W hj k => by
    have e1 : ∀ q, W.cell? ⟨b, q, none⟩ = w.cell? ⟨b, q, none⟩ := fun q => k.cell (p := ⟨b, q, none⟩) hbl
    have e2 : ∀ q, W.cell? ⟨b', q, none⟩ = w.cell? ⟨b', q, none⟩ := fun q => k.cell (p := ⟨b', q, none⟩) hbl'
    rw [e1, e1, e1, e2, e2, e2]
    exact ⟨hs1 _ (by omega), hs1 _ (by omega), hs1 _ (by omega), hs2 _ (by omega), hs2 _ (by omega), hs2 _ (by omega)⟩
  replace hcs := (show Hid _ from hcs)
  clear hs1 hs2 h0
  go_enter Try.func19, Try.ntmps19
  go_wp2
  go_loopw [5] (fun i wr => ∃ k : Nat, k ≤ n ∧ i = .int .i64 k ∧ Below w.heap.size w wr) (fun i _ => n - (intOf i).toNat)
  case atStart => exact ⟨0, Nat.zero_le _, rfl, Below.refl _ _⟩
  case round =>
    obtain ⟨j, hj, rfl, kb⟩ := hrel
    by_cases hlt : j < n
    · have hi : (j : Int) < (n : Int) := by omega
      have hcl := fun W (k : Below wr.heap.size wr W) => hcs.out j W hlt (kb.trans (k.mono kb.size))
      have hd : Below wr.heap.size wr wr.drew := ⟨rfl, rfl, rfl, Nat.le_refl _, fun _ _ => rfl⟩
      generalize L.getD (j * 3) 0 = x at *
      generalize L.getD (j * 3 + 1) 0 = y at *
      generalize L.getD (j * 3 + 2) 0 = z at *
      go_wp2
      refine wp_region_noPanic ?_
      refine wp_region_held_drew (S := (fun W => W.cell? ⟨b, j * 3, none⟩ = some (.int .i64 x) ∧ W.cell? ⟨b, j * 3 + 1, none⟩ = some (.int .i64 y) ∧ W.cell? ⟨b, j * 3 + 2, none⟩ = some (.int .i64 z) ∧ W.cell? ⟨b', j * 3, none⟩ = some (.int .i64 x) ∧ W.cell? ⟨b', j * 3 + 1, none⟩ = some (.int .i64 y) ∧ W.cell? ⟨b', j * 3 + 2, none⟩ = some (.int .i64 z))) (by kernel_rfl) (hcl _ hd) (fun hHeld => ?_)
      refine' wpAnyH_take (i := 0) (v := _) rfl (by kernel_rfl) (by kernel_rfl) (by kernel_rfl) (fun _ _ _ h => h) (Or.inl ⟨by rfl, ?hy1001⟩) hHeld ?hr1001
      case hy1001 => (intro w hSw; (try dsimp only at hSw); go_simp; (try with_reducible rfl))
      simp only [Act.put, List.setIfInBounds_toArray, List.set_cons_zero, List.set_cons_succ, List.getElem_toArray, List.getElem_cons_zero]
      refine' wpAnyH_take (i := 1) (v := _) rfl (by kernel_rfl) (by kernel_rfl) (by kernel_rfl) (fun _ _ _ h => h) (Or.inl ⟨by rfl, ?hy1002⟩) hHeld ?hr1002
      case hy1002 => (intro w hSw; (try dsimp only at hSw); go_simp; (try with_reducible rfl))
      simp only [Act.put, List.setIfInBounds_toArray, List.set_cons_zero, List.set_cons_succ, List.getElem_toArray, List.getElem_cons_zero, List.getElem_cons_succ]
      refine' wpAnyH_take (i := 2) (v := _) rfl (by kernel_rfl) (by kernel_rfl) (by kernel_rfl) (fun _ _ _ h => h) (Or.inl ⟨by rfl, ?hy1003⟩) hHeld ?hr1003
      case hy1003 => (intro w hSw; (try dsimp only at hSw); go_simp; (try with_reducible rfl))
      simp only [Act.put, List.setIfInBounds_toArray, List.set_cons_zero, List.set_cons_succ, List.getElem_toArray, List.getElem_cons_zero, List.getElem_cons_succ]
      refine' wpAnyH_take (i := 3) (v := _) rfl (by kernel_rfl) (by kernel_rfl) (by kernel_rfl) (fun _ _ _ h => h) (Or.inl ⟨by rfl, ?hy1004⟩) hHeld ?hr1004
      case hy1004 => (intro w hSw; (try dsimp only at hSw); go_simp; (try with_reducible rfl))
      simp only [Act.put, List.setIfInBounds_toArray, List.set_cons_zero, List.set_cons_succ, List.getElem_toArray, List.getElem_cons_zero, List.getElem_cons_succ]
      refine' wpAnyH_take (i := 4) (v := _) rfl (by kernel_rfl) (by kernel_rfl) (by kernel_rfl) (fun _ _ _ h => h) (Or.inl ⟨by rfl, ?hy1005⟩) hHeld ?hr1005
      case hy1005 => (intro w hSw; (try dsimp only at hSw); go_simp; (try with_reducible rfl))
      simp only [Act.put, List.setIfInBounds_toArray, List.set_cons_zero, List.set_cons_succ, List.getElem_toArray, List.getElem_cons_zero, List.getElem_cons_succ]
      refine' wpAnyH_take (i := 5) (v := _) rfl (by kernel_rfl) (by kernel_rfl) (by kernel_rfl) (fun _ _ _ h => h) (Or.inl ⟨by rfl, ?hy1006⟩) hHeld ?hr1006
      case hy1006 => (intro w hSw; (try dsimp only at hSw); go_simp; (try with_reducible rfl))
      simp only [Act.put, List.setIfInBounds_toArray, List.set_cons_zero, List.set_cons_succ, List.getElem_toArray, List.getElem_cons_zero, List.getElem_cons_succ]
      refine' wpAnyH_take (i := 6) (v := _) rfl (by kernel_rfl) (by kernel_rfl) (by kernel_rfl) (fun _ _ _ h => h) (Or.inl ⟨by rfl, ?hy1007⟩) hHeld ?hr1007
      case hy1007 => (intro w hSw; (try dsimp only at hSw); go_simp; (try with_reducible rfl))
      simp only [Act.put, List.setIfInBounds_toArray, List.set_cons_zero, List.set_cons_succ, List.getElem_toArray, List.getElem_cons_zero, List.getElem_cons_succ]
      refine' wpAnyH_take (i := 7) (v := _) rfl (by kernel_rfl) (by kernel_rfl) (by kernel_rfl) (fun _ _ _ h => h) (Or.inl ⟨by rfl, ?hy1008⟩) hHeld ?hr1008
      case hy1008 => (intro w hSw; (try dsimp only at hSw); go_simp; (try with_reducible rfl))
      simp only [Act.put, List.setIfInBounds_toArray, List.set_cons_zero, List.set_cons_succ, List.getElem_toArray, List.getElem_cons_zero, List.getElem_cons_succ]
      refine wpAnyH_ready (rs := [8]) (by kernel_rfl) (by simp) (allReady_1 rfl rfl (fun K hK => ?_))
      go_simp
      refine (eqEdit_same x y z _).mono ?_
      rintro e w9 ⟨rfl, hb9⟩
      replace hd := hd.trans (hb9.mono hd.size)
      go_wp2_with fail
      refine hK.out _ _ (hcl _ hd) (fun hHeld => ?_)
      clear hK K
      (try simp only [Act.put, List.setIfInBounds_toArray, List.set_cons_zero, List.set_cons_succ, List.getElem_toArray, List.getElem_cons_zero, List.getElem_cons_succ])
      refine' wpAnyH_take (i := 9) (v := _) rfl (by kernel_rfl) (by kernel_rfl) (by kernel_rfl) (fun _ _ _ h => h) (Or.inl ⟨by rfl, ?hy1009⟩) hHeld ?hr1009
      case hy1009 => (intro w hSw; (try dsimp only at hSw); go_simp; (try with_reducible rfl))
      simp only [Act.put, List.setIfInBounds_toArray, List.set_cons_zero, List.set_cons_succ, List.getElem_toArray, List.getElem_cons_zero, List.getElem_cons_succ]
      refine wpAnyH_done (by kernel_rfl) ?_ _
      refine NoPanic.normal ?_
      have kb2 := kb.trans (hd.mono kb.size)
      clear hHeld hd hb9 hcl
      go_wp2
      go_roundw
      case rel => exact ⟨j + 1, by omega, by go_num, kb2⟩
      case measure => simp [intOf]; omega
    · have hi : ¬ (j : Int) < (n : Int) := by omega
      go_wp2
      go_ret
      exact ⟨rfl, kb⟩
theorem marks3 (k : Int) (n : Nat) (ys : List Value) (hl : ys.length = n * 3) (h : ∀ t, t < n * 3 → ys[t]? = some (.int .i64 (k + (t : Int)))) : ys = (marksI k (n * 3)).map (Value.int .i64) := marked_all k (n * 3) ys hl h
set_option maxHeartbeats 1000000 in
theorem markE_own (base : Nat) (v : Value) (k : Int) (n : Nat) (xs : List Value) (w : World) (hown : w.ownsRow base 56 3 v n xs) (hk : 0 ≤ k ∧ k ≤ 1073741824) (hn : n ≤ 1073741824) :
    Calls Try.prog 21 #[v, .int .i64 k] w fun e w' => e = .returned (.int .i64 (k + 3 * n)) ∧ w'.ownsRow base 56 3 v n ((marksI k (n * 3)).map (Value.int .i64)) ∧ w.grownBy w' v.ownBlock := by
  have hlen := hown.1
  rcases hown.2 with ⟨rfl, rfl⟩ | ⟨g, cap, cur, rfl, hb, hg, _⟩
  · go_enter Try.func21, Try.ntmps21
    go_wp2
    refine wp_loop_rounds 1 ?_
    rw [rounds_succ]
    go_wp2
    go_ret
    exact ⟨by simp, World.ownsRow_nil _ _ _ _, World.grownBy.refl _ _⟩
  · clear hg
    go_enter Try.func21, Try.ntmps21
    go_wp2
    go_loopw [1, 5] (fun q i wr => ∃ (j : Nat) (ys : List Value), j ≤ n ∧ i = .int .i64 j ∧ (∃ p : Int, q = .int .i64 p ∧ p = k + 3 * (j : Int)) ∧ wr.ownsRow base 56 3 (.slice (some ⟨g, 0, none⟩) n cap) n ys ∧ ys.length = n * 3 ∧ Hid (∀ t, t < j * 3 → ys[t]? = some (.int .i64 (k + (t : Int)))) ∧ w.grownBy wr (some g)) (fun _ i _ => n - (intOf i).toNat)
    case atStart => exact ⟨0, xs, Nat.zero_le _, rfl, ⟨k, rfl, by simp⟩, hown, by simpa using hlen, fun t ht => by omega, World.grownBy.refl _ _⟩
    case round =>
      obtain ⟨j, ys, hj, rfl, ⟨p, rfl, hp⟩, ho, hyl, hys, hgr⟩ := hrel
      by_cases hlt : j < n
      · have hi : (j : Int) < (n : Int) := by omega
        obtain ⟨p1, hp1⟩ : ∃ p1, Hid (p1 = p + 1) := ⟨_, rfl⟩
        obtain ⟨p2, hp2⟩ : ∃ p2, Hid (p2 = p1 + 1) := ⟨_, rfl⟩
        obtain ⟨p3, hp3⟩ : ∃ p3, Hid (p3 = p2 + 1) := ⟨_, rfl⟩
        have hq1 := hp1.out
        have hq2 := hp2.out
        have hq3 := hp3.out
        have e1 : IntKind.i64.wrap (p + 1) = p1 := by simp [IntKind.wrap, IntKind.bits, IntKind.signed]; omega
        have e2 : IntKind.i64.wrap (p1 + 1) = p2 := by simp [IntKind.wrap, IntKind.bits, IntKind.signed]; omega
        have e3 : IntKind.i64.wrap (p2 + 1) = p3 := by simp [IntKind.wrap, IntKind.bits, IntKind.signed]; omega
        have hpn : p3 = k + 3 * ((j + 1 : Nat) : Int) := by omega
        obtain ⟨s1, t1⟩ := ho.stored (j * 3) (.int .i64 p)
        obtain ⟨s2, t2⟩ := s1.stored (j * 3 + 1) (.int .i64 p1)
        obtain ⟨s3, t3⟩ := s2.stored (j * 3 + 2) (.int .i64 p2)
        have hle : ∀ q, q < 3 → ∀ (W : World) (zs : List Value), W.ownsRow base 56 3 (.slice (some ⟨g, 0, none⟩) n cap) n zs → ∃ u, W.cell? ⟨g, j * 3 + q, none⟩ = some u := fun q hq W zs h => by
          rw [h.cellAt (j * 3 + q) (by omega)]
          have := h.1
          exact ⟨_, List.getElem?_eq_getElem (by omega)⟩
        obtain ⟨u0, h0⟩ := hle 0 (by omega) _ _ ho
        obtain ⟨u1, h1⟩ := hle 1 (by omega) _ _ s1
        obtain ⟨u2, h2⟩ := hle 2 (by omega) _ _ s2
        rw [Nat.add_zero] at h0
        have f0 := ho.frozenAt (j * 3)
        have f1 := s1.frozenAt (j * 3 + 1)
        have f2 := s2.frozenAt (j * 3 + 2)
        have hys3 : ∀ t, t < (j + 1) * 3 → (((ys.set (j * 3) (.int .i64 p)).set (j * 3 + 1) (.int .i64 p1)).set (j * 3 + 2) (.int .i64 p2))[t]? = some (.int .i64 (k + (t : Int))) := fun t ht => by
          by_cases q2 : t = j * 3 + 2
          · subst q2; rw [List.getElem?_set_self (by simp; omega)]; congr 2; omega
          rw [List.getElem?_set_ne (fun q => q2 q.symm)]
          by_cases q1 : t = j * 3 + 1
          · subst q1; rw [List.getElem?_set_self (by simp; omega)]; congr 2; omega
          rw [List.getElem?_set_ne (fun q => q1 q.symm)]
          by_cases q0 : t = j * 3
          · subst q0; rw [List.getElem?_set_self (by omega)]; congr 2; omega
          rw [List.getElem?_set_ne (fun q => q0 q.symm)]
          exact hys.out t (by omega)
        have hg3 := grown_trans hgr (grown_trans t1 (grown_trans t2 t3))
        replace hp := (show Hid _ from hp)
        replace hpn := (show Hid _ from hpn)
        replace hys3 := (show Hid _ from hys3)
        clear hle ho s1 s2 t1 t2 t3 hys hgr hq1 hq2 hq3
        go_wp2
        go_roundw
        case rel => exact ⟨j + 1, _, by omega, by go_num, ⟨p3, rfl, hpn.out⟩, s3, by simp [hyl], hys3, hg3⟩
        case measure => simp [intOf]; omega
      · have hjn : j = n := by omega
        subst hjn
        replace hp := (show Hid _ from hp)
        go_wp2
        go_ret
        exact ⟨congrArg (fun z => Ending.returned (.int .i64 z)) hp.out, by rw [← marks3 k j ys hyl hys.out]; exact ho, hgr⟩
end Go.Proofs.Ytokoohmakjabnaa
namespace Go.Proofs.Ytokoohmakjabnaa
open Go.ChangeShapes Go.WideShapes Go.ChangeAt Go.RowKit
def edB (k a : Int) (n : Nat) : Bool := decide (((k = 1 ∨ k = 3) ∧ 0 ≤ a ∧ a < n) ∨ (k = 2 ∧ 0 ≤ a ∧ a ≤ n ∧ n < 80))
theorem edOne_some (l : List Int) (k a v : Int) : (edOne l (k, a, v)).isSome = edB k a l.length := by
  unfold edOne edB
  simp only
  by_cases h1 : k = 1
  · rw [if_pos h1]
    by_cases h : 0 ≤ a ∧ a < l.length
    · rw [if_pos h]; simp [h1, h.1, h.2]
    · rw [if_neg h]
      symm
      simp only [Option.isSome_none, decide_eq_false_iff_not]
      omega
  · rw [if_neg h1]
    by_cases h2 : k = 2
    · rw [if_pos h2]
      by_cases h : 0 ≤ a ∧ a ≤ l.length ∧ l.length < 80
      · rw [if_pos h]; simp [h2, h.1, h.2.1, h.2.2]
      · rw [if_neg h]
        symm
        simp only [Option.isSome_none, decide_eq_false_iff_not]
        omega
    · rw [if_neg h2]
      by_cases h3 : k = 3
      · rw [if_pos h3]
        by_cases h : 0 ≤ a ∧ a < l.length
        · rw [if_pos h]; simp [h3, h.1, h.2]
        · rw [if_neg h]
          symm
          simp only [Option.isSome_none, decide_eq_false_iff_not]
          omega
      · rw [if_neg h3]
        symm
        simp only [Option.isSome_none, decide_eq_false_iff_not]
        omega
set_option maxHeartbeats 1000000 in
theorem editOk_any (k a y : Int) (n : Nat) (w : World) (hn : n ≤ 1000) :
    Calls Try.prog 34 #[.agg #[.int .i64 k, .int .i64 a, .int .i64 y], .int .i64 n] w fun e w' => e = .returned (.bool (edB k a n)) ∧ Below w.heap.size w w' := by
  have hb := bal' w (Obj.cells #[.int .i64 k, .int .i64 a, .int .i64 y] 56)
  obtain ⟨r, hr⟩ : ∃ r, Hid (r = edB k a n) := ⟨_, rfl⟩
  rw [← hr.out]
  have hrT : Hid ((((k = 1 ∨ k = 3) ∧ 0 ≤ a ∧ a < n) ∨ (k = 2 ∧ 0 ≤ a ∧ a ≤ n ∧ n < 80)) → r = true) := fun h => by rw [hr.out]; exact decide_eq_true h
  have hrF : Hid (¬ (((k = 1 ∨ k = 3) ∧ 0 ≤ a ∧ a < n) ∨ (k = 2 ∧ 0 ≤ a ∧ a ≤ n ∧ n < 80)) → r = false) := fun h => by rw [hr.out]; exact decide_eq_false h
  clear hr
  replace hb := (show Hid _ from hb)
  by_cases h1 : k = 1
  · by_cases p0 : 0 ≤ a
    · by_cases p1 : a < n
      · have hv := hrT.out (.inl ⟨.inl h1, p0, p1⟩)
        subst hv
        clear hrT hrF
        go_enter Try.func34, Try.ntmps34
        go_wp2
        go_ret
        exact ⟨rfl, bal' w _⟩
      · have hv := hrF.out (by omega)
        subst hv
        clear hrT hrF
        go_enter Try.func34, Try.ntmps34
        go_wp2
        go_ret
        exact ⟨rfl, bal' w _⟩
    · have hv := hrF.out (by omega)
      subst hv
      clear hrT hrF
      go_enter Try.func34, Try.ntmps34
      go_wp2
      go_ret
      exact ⟨rfl, bal' w _⟩
  · by_cases h3 : k = 3
    · by_cases p0 : 0 ≤ a
      · by_cases p1 : a < n
        · have hv := hrT.out (.inl ⟨.inr h3, p0, p1⟩)
          subst hv
          clear hrT hrF
          go_enter Try.func34, Try.ntmps34
          go_wp2
          go_ret
          exact ⟨rfl, bal' w _⟩
        · have hv := hrF.out (by omega)
          subst hv
          clear hrT hrF
          go_enter Try.func34, Try.ntmps34
          go_wp2
          go_ret
          exact ⟨rfl, bal' w _⟩
      · have hv := hrF.out (by omega)
        subst hv
        clear hrT hrF
        go_enter Try.func34, Try.ntmps34
        go_wp2
        go_ret
        exact ⟨rfl, bal' w _⟩
    · by_cases h2 : k = 2
      · by_cases p0 : 0 ≤ a
        · by_cases p1 : a ≤ n
          · by_cases p2 : n < 80
            · have hv := hrT.out (.inr ⟨h2, p0, p1, p2⟩)
              have p2i : (n : Int) < 80 := by omega
              subst hv
              clear hrT hrF
              go_enter Try.func34, Try.ntmps34
              go_wp2
              go_ret
              exact ⟨rfl, bal' w _⟩
            · have hv := hrF.out (by omega)
              have p2i : ¬ (n : Int) < 80 := by omega
              subst hv
              clear hrT hrF
              go_enter Try.func34, Try.ntmps34
              go_wp2
              go_ret
              exact ⟨rfl, bal' w _⟩
          · have hv := hrF.out (by omega)
            subst hv
            clear hrT hrF
            go_enter Try.func34, Try.ntmps34
            go_wp2
            go_ret
            exact ⟨rfl, bal' w _⟩
        · have hv := hrF.out (by omega)
          subst hv
          clear hrT hrF
          go_enter Try.func34, Try.ntmps34
          go_wp2
          go_ret
          exact ⟨rfl, bal' w _⟩
      · have hv := hrF.out (by omega)
        subst hv
        clear hrT hrF
        go_enter Try.func34, Try.ntmps34
        go_wp2
        go_ret
        exact ⟨rfl, bal' w _⟩
set_option maxHeartbeats 1000000 in
set_option maxRecDepth 20000 in
theorem doEdit_any (base : Nat) (v : Value) (xs ys : List Int) (k a y : Int) (w : World) (ho : OwnI w base v xs) (hbw : base ≤ w.heap.size) (hl : xs.length ≤ 80) (he : edOne xs (k, a, y) = some ys) :
    Calls Try.prog 35 #[v, .agg #[.int .i64 k, .int .i64 a, .int .i64 y]] w fun e w' => ∃ v', e = .returned v' ∧ OwnI w' base v' ys ∧ w.grownBy w' v.ownBlock ∧ (∀ g, v'.ownBlock = some g → v.ownBlock = some g ∨ w.heap.size ≤ g) := by
  have hok : edB k a xs.length = true := by rw [← edOne_some xs k a y, he]; rfl
  have hok2 := of_decide_eq_true hok
  have hb0 := bal' w (Obj.cells #[.int .i64 k, .int .i64 a, .int .i64 y] 56)
  have hg0 := World.grownBy_alloc w (Obj.cells #[.int .i64 k, .int .i64 a, .int .i64 y] 56) v.ownBlock
  have ho1 := ho.below hb0
  obtain ⟨i, hi⟩ : ∃ i : Nat, a = (i : Int) := ⟨a.toNat, by omega⟩
  subst hi
  obtain ⟨sa, sn, sc, hsh⟩ := ho.shape
  by_cases h1 : k = 1
  · subst h1
    have hil : i < xs.length := by omega
    have hys : ys = xs.take i ++ xs.drop (i + 1) := by rw [edOne_take xs i y (by omega)] at he; cases he; rfl
    subst hys
    obtain ⟨g, cap, hv, _, _⟩ := World.ownsRow.form (show w.ownsRow base 2 1 v xs.length (xs.map (Value.int .i64)) from ho) (by omega)
    subst hv
    have hd := delete_any base g cap xs i _ ho1 hil
    have hw : IntKind.i64.wrap ((i : Int) + 1) = (i : Int) + 1 := by rw [IntKind.wrap_i64]; omega
    clear ho ho1 he hok hok2 hsh
    replace hg0 := (show Hid _ from hg0)
    go_enter Try.func35, Try.ntmps35
    go_wp2_with fail
    refine hd.mono ?_
    rintro e w1 ⟨rfl, ho, hg⟩
    go_wp2
    go_ret
    exact ⟨_, rfl, ho, grown_tr hg0.out hg, fun q e => .inl e⟩
  · by_cases h2 : k = 2
    · subst h2
      have hil : i ≤ xs.length := by omega
      have hys : ys = xs.take i ++ y :: xs.drop i := by rw [edOne_put xs i y (by omega)] at he; cases he; rfl
      subst hys
      have hb2 := bal' (w.alloc (Obj.cells #[.int .i64 2, .int .i64 i, .int .i64 y] 56)) (Obj.cells #[.int .i64 y] 2)
      have hg2 := World.grownBy_alloc (w.alloc (Obj.cells #[.int .i64 2, .int .i64 i, .int .i64 y] 56)) (Obj.cells #[.int .i64 y] 2) v.ownBlock
      have hvb := heap_alloc_new (w.alloc (Obj.cells #[.int .i64 2, .int .i64 i, .int .i64 y] 56)) (Obj.cells #[.int .i64 y] 2)
      have hsz : (w.alloc (Obj.cells #[.int .i64 2, .int .i64 i, .int .i64 y] 56)).heap.size = w.heap.size + 1 := by simp
      rw [hsz] at hvb
      have hin := insert_any base xs y (w.heap.size + 1) _ v i (ho1.below hb2) (by simp; omega) (by omega) hil hvb (fun e => by have := (ho.lt _ e).2; omega)
      have hgg := grown_tr hg0 hg2
      subst hsh
      clear ho ho1 he hok hok2 hb2 hg2 hvb hg0 hb0 hsz
      replace hgg := (show Hid _ from hgg)
      go_enter Try.func35, Try.ntmps35
      go_wp2_with fail
      refine hin.mono ?_
      rintro e w1 ⟨g, cap, rfl, ho, hg, hat⟩
      go_wp2
      go_ret
      exact ⟨_, rfl, ho, grown_tr hgg.out hg, fun q e => by
        have e2 : some g = some q := e
        injection e2 with e2
        subst e2
        rcases hat with h | h
        · exact .inl h
        · right; simp at h; omega⟩
    · have h3 : k = 3 := by omega
      subst h3
      have hil : i < xs.length := by omega
      have hys : ys = xs.set i y := by rw [edOne_turn xs i y (by omega)] at he; cases he; rfl
      subst hys
      obtain ⟨g, cap, hv, _, hgl⟩ := World.ownsRow.form (show w.ownsRow base 2 1 v xs.length (xs.map (Value.int .i64)) from ho) (by omega)
      subst hv
      have hown : (w.alloc (Obj.cells #[.int .i64 3, .int .i64 i, .int .i64 y] 56)).ownsRow base 2 1 (.slice (some ⟨g, 0, none⟩) xs.length cap) xs.length (xs.map (Value.int .i64)) := ho1
      obtain ⟨o2, g2⟩ := (show w.ownsRow base 2 1 (.slice (some ⟨g, 0, none⟩) xs.length cap) xs.length (xs.map (Value.int .i64)) from ho).stored i (.int .i64 y)
      have hcell : (w.alloc (Obj.cells #[.int .i64 3, .int .i64 i, .int .i64 y] 56)).cell? ⟨g, i, none⟩ = some (.int .i64 (xs.getD i 0)) := by
        rw [hown.cellAt i (by omega), List.getElem?_map, List.getElem?_eq_getElem hil]
        simp [hil]
      have hfz := hown.frozenAt i
      have hres0 : OwnI (w.setCell ⟨g, i, none⟩ (.int .i64 y)) base (.slice (some ⟨g, 0, none⟩) xs.length cap) (xs.set i y) := by
        unfold OwnI
        rw [List.length_set, List.map_set]
        exact o2
      have hres := hres0.below (bal' (w.setCell ⟨g, i, none⟩ (.int .i64 y)) (Obj.cells #[.int .i64 3, .int .i64 i, .int .i64 y] 56))
      have hgr := grown_tr g2 (World.grownBy_alloc (w.setCell ⟨g, i, none⟩ (.int .i64 y)) (Obj.cells #[.int .i64 3, .int .i64 i, .int .i64 y] 56) (some g))
      have hne : ¬ g = w.heap.size := by omega
      have hi2 : (i : Int) < (xs.length : Int) := by omega
      clear ho ho1 he hok hok2 hsh hown o2 g2 hg0 hb0 hres0
      replace hgr := (show Hid _ from hgr)
      replace hres := (show Hid _ from hres)
      go_enter Try.func35, Try.ntmps35
      go_wp2
      go_ret
      exact ⟨_, rfl, hres.out, hgr.out, fun q e => .inl e⟩
end Go.Proofs.Ytokoohmakjabnaa
namespace Go.Proofs.Ytokoohmakjabnaa
open Go.ChangeShapes Go.WideShapes Go.ChangeAt Go.RowKit
theorem info_ed : (Try.prog.info? 56).map (fun i => (i.zero, i.size, i.bytes)) = some (some (.agg #[.int .i64 0, .int .i64 0, .int .i64 0]), 3, 24) := by kernel_rfl
theorem under_eds : Try.prog.underlying 27 = some (.slice 56) := by kernel_rfl
/-- A list of edits that one call owns. -/
def OwnE (w : World) (base g cap : Nat) (es : List (Int × Int × Int)) : Prop := w.ownsRow base 56 3 (.slice (some ⟨g, 0, none⟩) es.length cap) es.length ((edV es).map (Value.int .i64))
theorem OwnE.lt {w : World} {base g cap : Nat} {es : List (Int × Int × Int)} (h : OwnE w base g cap es) : base ≤ g ∧ g < w.heap.size := World.ownsRow.lt h g rfl
end Go.Proofs.Ytokoohmakjabnaa
namespace Go.Proofs.Ytokoohmakjabnaa
open Go.ChangeShapes Go.WideShapes Go.ChangeAt Go.RowKit
theorem edV_at : ∀ (es : List (Int × Int × Int)) (j : Nat), j < es.length → (edV es).getD (j * 3) 0 = (es.getD j (0, 0, 0)).1 ∧ (edV es).getD (j * 3 + 1) 0 = (es.getD j (0, 0, 0)).2.1 ∧ (edV es).getD (j * 3 + 2) 0 = (es.getD j (0, 0, 0)).2.2
  | [], j, h => by simp at h
  | e :: es, 0, _ => by simp [edV]
  | e :: es, j + 1, h => by
    have ih := edV_at es j (by simpa using h)
    have e1 : ∀ q, (edV (e :: es)).getD ((j + 1) * 3 + q) 0 = (edV es).getD (j * 3 + q) 0 := fun q => by
      have h1 : edV (e :: es) = e.1 :: e.2.1 :: e.2.2 :: edV es := rfl
      rw [h1, show (j + 1) * 3 + q = j * 3 + q + 1 + 1 + 1 by omega]
      rfl
    have h0 := e1 0
    simp only [Nat.add_zero] at h0
    rw [h0, e1, e1]
    simpa using ih
theorem edDrop (es : List (Int × Int × Int)) (j : Nat) (h : j < es.length) : es.drop j = es.getD j (0, 0, 0) :: es.drop (j + 1) := by
  rw [List.drop_eq_getElem_cons h]; simp [h]
theorem own_shp {w : World} {base : Nat} {v : Value} {xs : List Int} (h : OwnI w base v xs) : ∃ a c, v = .slice a xs.length c := by
  rcases h.2 with ⟨h1, h2⟩ | ⟨g, cap, cur, h1, _⟩
  · exact ⟨none, 0, by rw [h1, h2]⟩
  · exact ⟨_, cap, h1⟩
def edAns (o : Option (List Int)) : Bool := o.isSome
set_option maxHeartbeats 4000000 in
set_option maxRecDepth 20000 in
theorem implEdited_any (v lv : Value) (xs : List Int) (es : List (Int × Int × Int)) (w : World) (hv : SlN w v xs) (he : SlE w lv es.length (edV es)) :
    Calls Try.prog 9 #[v, lv] w fun e w' => ∃ u, e = .returned (.tuple #[u, .bool (edAns (edAll xs es))]) ∧ OwnI w' w.heap.size u (edOut (edAll xs es)) ∧ Below w.heap.size w w' := by
  obtain ⟨a, c, rfl⟩ := hv.shp
  obtain ⟨_, a', c', rfl, hes⟩ := he
  have hnil : ∀ W, Below w.heap.size w W → OwnI (W.alloc (Obj.cells #[] 2)) w.heap.size (.slice (some ⟨W.heap.size, 0, none⟩) 0 0) [] := fun W k => World.ownsRow_lit (base := w.heap.size) (e := 2) (size := 1) W #[] 0 k.size (Nat.zero_le _) rfl
  by_cases h1 : xs.length ≤ 80
  case neg =>
    have hA : edAll xs es = none := if_neg (by omega)
    rw [hA]
    have h1i : (80 : Int) < (xs.length : Int) := by omega
    have hn := hnil w (Below.refl _ _)
    have hb := bal' w (Obj.cells #[] 2)
    replace hn := (show Hid _ from hn)
    clear hv hes hnil hA h1
    go_enter Try.func9, Try.ntmps9
    go_wp2
    exact bodyPost_ret (results_tmp2 rfl _ _ _) rfl ⟨_, rfl, hn.out, hb⟩
  by_cases h2 : es.length ≤ 80
  case neg =>
    have hA : edAll xs es = none := if_neg (by omega)
    rw [hA]
    have h1i : ¬ (80 : Int) < (xs.length : Int) := by omega
    have h2i : (80 : Int) < (es.length : Int) := by omega
    have hn := hnil w (Below.refl _ _)
    have hb := bal' w (Obj.cells #[] 2)
    replace hn := (show Hid _ from hn)
    clear hv hes hnil hA h1 h2
    go_enter Try.func9, Try.ntmps9
    go_wp2
    exact bodyPost_ret (results_tmp2 rfl _ _ _) rfl ⟨_, rfl, hn.out, hb⟩
  have hA : edAll xs es = edRun xs es := if_pos ⟨h1, h2⟩
  rw [hA]
  have h1i : ¬ (80 : Int) < (xs.length : Int) := by omega
  have h2i : ¬ (80 : Int) < (es.length : Int) := by omega
  have hcopy := copiedNumbers_any _ xs w hv (by omega)
  -- the edits, wherever they lie
  have hE : Hid (∀ j, j < es.length → ∃ b, a' = some ⟨b, 0, none⟩ ∧ ∀ W, Below w.heap.size w W → W.cell? ⟨b, j * 3, none⟩ = some (.int .i64 (es.getD j (0, 0, 0)).1) ∧ W.cell? ⟨b, j * 3 + 1, none⟩ = some (.int .i64 (es.getD j (0, 0, 0)).2.1) ∧ W.cell? ⟨b, j * 3 + 2, none⟩ = some (.int .i64 (es.getD j (0, 0, 0)).2.2)) := fun j hj => by
    rcases hes with h | ⟨b, hb, hlt, hc⟩
    · omega
    · refine ⟨b, hb, fun W k => ?_⟩
      have e : ∀ q, W.cell? ⟨b, q, none⟩ = w.cell? ⟨b, q, none⟩ := fun q => k.cell (p := ⟨b, q, none⟩) hlt
      obtain ⟨q0, q1, q2⟩ := edV_at es j hj
      rw [e, e, e, hc _ (by omega), hc _ (by omega), hc _ (by omega), q0, q1, q2]
      exact ⟨rfl, rfl, rfl⟩
  obtain ⟨R, hR⟩ : ∃ R, Hid (R = edRun xs es) := ⟨_, rfl⟩
  rw [← hR.out]
  have hDr : Hid (∀ j, j < es.length → es.drop j = es.getD j (0, 0, 0) :: es.drop (j + 1)) := fun j h => edDrop es j h
  have hDn : Hid (es.drop es.length = []) := List.drop_length
  replace hnil := (show Hid _ from hnil)
  obtain ⟨n, hn⟩ : ∃ n, Hid (n = es.length) := ⟨_, rfl⟩
  rw [← hn.out] at hE hDr hDn h2i ⊢
  have hn80 : n ≤ 80 := by have := hn.out; omega
  clear hv hes hA h2 hn
  go_enter Try.func9, Try.ntmps9
  go_wp2_with fail
  refine hcopy.mono ?_
  rintro e w1 ⟨u, rfl, ho, hb⟩
  have hRun0 : Hid (edRun xs (es.drop 0) = R) := by show _ = _; rw [List.drop_zero]; exact hR.out.symm
  replace ho := (show Hid _ from ho)
  clear hcopy hR h1i
  go_wp2
  go_loopw [6, 22] (fun mv iv wr => ∃ (j : Nat) (ys : List Int), j ≤ n ∧ iv = .int .i64 j ∧ OwnI wr w.heap.size mv ys ∧ ys.length ≤ 80 ∧ Hid (edRun ys (es.drop j) = R) ∧ Below w.heap.size w wr) (fun _ iv _ => n - (intOf iv).toNat)
  case atStart => exact ⟨0, xs, Nat.zero_le _, rfl, ho.out, h1, hRun0, hb⟩
  case round =>
    obtain ⟨j, ys, hj, rfl, hy, hyl, hq, kb⟩ := hrel
    clear ho hb hRun0 h1
    obtain ⟨ya, yc, hsh⟩ := own_shp hy
    subst hsh
    by_cases hlt : j < n
    · have hi : (j : Int) < (n : Int) := by omega
      obtain ⟨b, hb, hc⟩ := hE.out j hlt
      subst hb
      obtain ⟨⟨k, a2, y⟩, hked⟩ : ∃ e, Hid (e = es.getD j (0, 0, 0)) := ⟨_, rfl⟩
      rw [← hked.out] at hc
      obtain ⟨c0, c1, c2⟩ := hc wr kb
      simp only at c0 c1 c2
      have hrun : Hid ((edOne ys (k, a2, y)).bind (fun m => edRun m (es.drop (j + 1))) = R) := by
        show _ = _
        rw [← hq.out, hDr.out j hlt, edRun_cons, ← hked.out]
      have hok := fun W => editOk_any k a2 y ys.length W (by omega)
      rw [← edOne_some ys k a2 y] at hok
      have hba := bal' wr (Obj.cells #[.int .i64 k, .int .i64 a2, .int .i64 y] 56)
      have hXe := BlkC.new wr 56 [.int .i64 k, .int .i64 a2, .int .i64 y]
      replace hc := (show Hid _ from hc)
      replace hy := (show Hid _ from hy)
      clear hc hked hq
      go_wp2_with fail
      refine (hok _).mono ?_
      rintro e w2 ⟨rfl, hb2⟩
      have kb2 := kb.trans ((hba.trans (hb2.mono hba.size)).mono kb.size)
      have hy2 := (hy.out.below hba).below hb2
      have hX2 := BlkC.below hXe hb2
      clear hok hXe c0 c1 c2
      have l0 : w2.cell? ⟨wr.heap.size, 0, none⟩ = some (.int .i64 k) := cell_of_row w2 wr.heap.size 0 _ _ (0, 0) hX2
      have l1 : w2.cell? ⟨wr.heap.size, 1, none⟩ = some (.int .i64 a2) := cell_of_row w2 wr.heap.size 1 _ _ (0, 0) hX2
      have l2 : w2.cell? ⟨wr.heap.size, 2, none⟩ = some (.int .i64 y) := cell_of_row w2 wr.heap.size 2 _ _ (0, 0) hX2
      cases ho1 : edOne ys (k, a2, y) with
      | none =>
        have hRn : R = none := by rw [← hrun.out, ho1]; rfl
        subst hRn
        have hn := hnil.out w2 kb2
        have hbn := kb2.trans ((bal' w2 (Obj.cells #[] 2)).mono kb2.size)
        replace hn := (show Hid _ from hn)
        clear hy2 hX2 hrun ho1 hb2 hba hy
        simp only [Option.isSome_none] at *
        go_wp2
        exact bodyPost_ret (results_tmp2 rfl _ _ _) rfl ⟨_, rfl, hn.out, hbn⟩
      | some m =>
        rw [ho1] at hrun
        have hdo := doEdit_any w.heap.size _ ys m k a2 y w2 hy2 kb2.size hyl ho1
        have hml := edOne_len hyl ho1
        have hbd := fun q e => (hy2.lt q e).1
        clear hy2 hX2 ho1 hb2 hba hy
        simp only [Option.isSome_some] at *
        go_wp2_with fail
        refine hdo.mono ?_
        rintro e w3 ⟨u3, rfl, ho3, hg3, hat3⟩
        have kb3 := kb2.grown hg3 kb2.size hbd
        go_wp2
        go_roundw
        case rel => exact ⟨j + 1, m, by omega, by go_num, ho3, hml, hrun, kb3⟩
        case measure => simp [intOf]; omega
    · have hjn : j = n := by omega
      subst hjn
      have hi : ¬ (j : Int) < (j : Int) := by omega
      have hRs : R = some ys := by rw [← hq.out, hDn.out]; rfl
      subst hRs
      replace hy := (show Hid _ from hy)
      go_wp2
      exact bodyPost_ret (results_tmp2 rfl _ _ _) rfl ⟨_, rfl, hy.out, kb⟩
end Go.Proofs.Ytokoohmakjabnaa
namespace Go.Proofs.Ytokoohmakjabnaa
open Go.ChangeShapes Go.WideShapes Go.ChangeAt Go.RowKit
theorem run_append_some {P : Program} (w : World) (t ty : TypeId) (base : Nat) (e : TypeId) (i : TypeInfo) (z : Value) (size bytes : Nat) (ht : P.underlying t = some (.slice e)) (hi : P.info? e = some i) (hz : i.zero = some z)
    (hsize : i.size = size) (hby : i.bytes = bytes) (hzs : z.cells.size = size) (hsz : 0 < size)
    (g0 c0 n : Nat) (xs : List Value) (hown : w.ownsRow base e size (.slice (some ⟨g0, 0, none⟩) n c0) n xs)
    (ad : Addr) (m c : Nat) (news : List Value) (hl : news.length = m * size) (hnews : ∀ j u, news[j]? = some u → w.cell? (ad.add j) = some u) (h1 : ∀ u ∈ news, u.oneCell' = true)
    (h63 : n + m ≤ maxLen) (hbytes : (n + m) * bytes ≤ 140737488355328) (hbase : base ≤ w.heap.size) :
    ∃ g cap w', (Builtin.append_ #[t, t] ty #[.slice (some ⟨g0, 0, none⟩) n c0, .slice (some ad) m c]).run P w = .ok (.slice (some ⟨g, 0, none⟩) (n + m) cap) w' ∧
      w'.ownsRow base e size (.slice (some ⟨g, 0, none⟩) (n + m) cap) (n + m) (xs ++ news) ∧ w.grownBy w' (some g0) ∧ (g = g0 ∨ g = w.heap.size) := by
  obtain ⟨v', w', hr, h2, h3, h4, h5⟩ := run_append_own_at (P := P) w base t ty e i z size bytes ht hi hz hsize hby hzs hsz _ n xs hown ad m c news hl hnews h1 h63 hbytes hbase
  rcases h2.2 with ⟨hv, _⟩ | ⟨g, cap, cur, hv, _⟩
  · have := (h4.1 hv).1
    simp at this
  · subst hv
    refine ⟨g, cap, w', hr, h2, h3, ?_⟩
    rcases h5 with h5 | h5
    · left
      have e2 : some g = some g0 := h5
      injection e2
    · right
      have e2 : some g = some w.heap.size := h5
      injection e2
theorem wp_append_some {P : Program} {w : World} {o : Oper} {a : Act} {K : Act → World → Prop} {Q : Exit → Act → World → Prop} (s x : Operand) (t : TypeId)
    (ho : o.op = .call { callee := .builtin .append, args := #[s, x], argTypes := #[t, t] })
    (base : Nat) (e : TypeId) (i : TypeInfo) (z : Value) (size bytes : Nat) (ht : P.underlying t = some (.slice e)) (hi : P.info? e = some i) (hz : i.zero = some z)
    (hsize : i.size = size) (hby : i.bytes = bytes) (hzs : z.cells.size = size) (hsz : 0 < size)
    (g0 c0 n : Nat) (xs : List Value) (hs : a.eval s = .slice (some ⟨g0, 0, none⟩) n c0) (hown : w.ownsRow base e size (.slice (some ⟨g0, 0, none⟩) n c0) n xs)
    (ad : Addr) (m c : Nat) (news : List Value) (hx : a.eval x = .slice (some ad) m c) (hl : news.length = m * size) (hnews : ∀ j u, news[j]? = some u → w.cell? (ad.add j) = some u) (h1 : ∀ u ∈ news, u.oneCell' = true)
    (h63 : n + m ≤ maxLen) (hbytes : (n + m) * bytes ≤ 140737488355328) (hbase : base ≤ w.heap.size)
    (h : ∀ g cap w', w'.ownsRow base e size (.slice (some ⟨g, 0, none⟩) (n + m) cap) (n + m) (xs ++ news) → w.grownBy w' (some g0) → (g = g0 ∨ g = w.heap.size) → K (a.put o.dst (.slice (some ⟨g, 0, none⟩) (n + m) cap)) w') : o.wp P a w K Q := by
  obtain ⟨g, cap, w', hr, h2, h3, h4⟩ := run_append_some (P := P) w t o.type base e i z size bytes ht hi hz hsize hby hzs hsz g0 c0 n xs hown ad m c news hl hnews h1 h63 hbytes hbase
  unfold Oper.wp execOp
  simp only [ho, resolve, invoke, builtin, Sem.run_bind, Sem.run_pure, Result.andThen_ok, List.map_toArray, List.map_cons, List.map_nil, hs, hx, hr]
  exact h g cap w' h2 h3 h4
theorem wpList_append_some {P : Program} {w : World} {ops : Array Oper} {rest : List Oper} {o : Oper} {a : Act} {Q : Exit → Act → World → Prop} (hgd : o.guard = none) (s x : Operand) (t : TypeId)
    (ho : o.op = .call { callee := .builtin .append, args := #[s, x], argTypes := #[t, t] })
    (base : Nat) (e : TypeId) (i : TypeInfo) (z : Value) (size bytes : Nat) (ht : P.underlying t = some (.slice e)) (hi : P.info? e = some i) (hz : i.zero = some z)
    (hsize : i.size = size) (hby : i.bytes = bytes) (hzs : z.cells.size = size) (hsz : 0 < size)
    (g0 c0 n : Nat) (xs : List Value) (hs : a.eval s = .slice (some ⟨g0, 0, none⟩) n c0) (hown : w.ownsRow base e size (.slice (some ⟨g0, 0, none⟩) n c0) n xs)
    (ad : Addr) (m c : Nat) (news : List Value) (hx : a.eval x = .slice (some ad) m c) (hl : news.length = m * size) (hnews : ∀ j u, news[j]? = some u → w.cell? (ad.add j) = some u) (h1 : ∀ u ∈ news, u.oneCell' = true)
    (h63 : n + m ≤ maxLen) (hbytes : (n + m) * bytes ≤ 140737488355328) (hbase : base ≤ w.heap.size)
    (h : ∀ g cap w', w'.ownsRow base e size (.slice (some ⟨g, 0, none⟩) (n + m) cap) (n + m) (xs ++ news) → w.grownBy w' (some g0) → (g = g0 ∨ g = w.heap.size) → wpList P ops Q rest (a.put o.dst (.slice (some ⟨g, 0, none⟩) (n + m) cap)) w') : wpList P ops Q (o :: rest) a w :=
  wpList_plain hgd fun _ hK => wp_append_some s x t ho base e i z size bytes ht hi hz hsize hby hzs hsz g0 c0 n xs hs hown ad m c news hx hl hnews h1 h63 hbytes hbase fun g cap w' h2 h3 h4 => hK _ _ (h g cap w' h2 h3 h4)
theorem step_append_some {P : Program} {w : World} {ops : Array Oper} {o : Oper} {a : Act} {K : Act → World → Prop} {Q : Exit → Act → World → Prop} {E : Prop} (hgd : o.guard = none) (s x : Operand) (t : TypeId)
    (ho : o.op = .call { callee := .builtin .append, args := #[s, x], argTypes := #[t, t] })
    (base : Nat) (e : TypeId) (i : TypeInfo) (z : Value) (size bytes : Nat) (ht : P.underlying t = some (.slice e)) (hi : P.info? e = some i) (hz : i.zero = some z)
    (hsize : i.size = size) (hby : i.bytes = bytes) (hzs : z.cells.size = size) (hsz : 0 < size)
    (g0 c0 n : Nat) (xs : List Value) (hs : a.eval s = .slice (some ⟨g0, 0, none⟩) n c0) (hown : w.ownsRow base e size (.slice (some ⟨g0, 0, none⟩) n c0) n xs)
    (ad : Addr) (m c : Nat) (news : List Value) (hx : a.eval x = .slice (some ad) m c) (hl : news.length = m * size) (hnews : ∀ j u, news[j]? = some u → w.cell? (ad.add j) = some u) (h1 : ∀ u ∈ news, u.oneCell' = true)
    (h63 : n + m ≤ maxLen) (hbytes : (n + m) * bytes ≤ 140737488355328) (hbase : base ≤ w.heap.size)
    (h : ∀ g cap w', w'.ownsRow base e size (.slice (some ⟨g, 0, none⟩) (n + m) cap) (n + m) (xs ++ news) → w.grownBy w' (some g0) → (g = g0 ∨ g = w.heap.size) → K (a.put o.dst (.slice (some ⟨g, 0, none⟩) (n + m) cap)) w') :
    if Region.wanted o (yielded ops a.tmps) = true then Oper.wp P o a w K Q else E := by
  have hw : Region.wanted o (yielded ops a.tmps) = true := by simp [Region.wanted, hgd]
  rw [if_pos hw]
  exact wp_append_some s x t ho base e i z size bytes ht hi hz hsize hby hzs hsz g0 c0 n xs hs hown ad m c news hx hl hnews h1 h63 hbytes hbase h
/-- A list's copy onto an empty literal, its place said. -/
theorem copy_some {w : World} {ops : Array Oper} {rest : List Oper} {o : Oper} {ac : Act} {Q : Exit → Act → World → Prop} (hgd : o.guard = none) (s x : Operand)
    (ho : o.op = .call { callee := .builtin .append, args := #[s, x], argTypes := #[24, 24] })
    (v : Value) (xs : List Int) (hs : ac.eval s = .slice (some ⟨w.heap.size, 0, none⟩) 0 0) (k : SlN w v xs) (hl : xs.length ≤ 1073741824) (hx : ac.eval x = v)
    (h : ∀ g cap w', OwnI w' w.heap.size (.slice (some ⟨g, 0, none⟩) xs.length cap) xs → Below w.heap.size w w' → w.heap.size ≤ g → wpList Try.prog ops Q rest (ac.put o.dst (.slice (some ⟨g, 0, none⟩) xs.length cap)) w') :
    wpList Try.prog ops Q (o :: rest) ac (w.alloc (.cells #[] 2)) := by
  obtain ⟨i0, hi, hz0, hz1, hz2⟩ := info_parts info_i64
  have hba := bal' w (Obj.cells #[] 2)
  have hown : (w.alloc (.cells #[] 2)).ownsRow w.heap.size 2 1 (.slice (some ⟨w.heap.size, 0, none⟩) 0 0) 0 [] := by
    have := World.ownsRow_lit (base := w.heap.size) (e := 2) (size := 1) w #[] 0 (Nat.le_refl _) (Nat.zero_le _) rfl
    simpa using this
  rcases (k.below hba).reads with ⟨hv, hn⟩ | ⟨ad, c, hv, hc⟩
  · have hx0 : xs = [] := by simpa using hn
    subst hx0
    rw [hv] at hx
    refine wpList_append_own_none hgd s x _ ho w.heap.size 2 i0 1 under_ints hi _ 0 [] hs hown hx ?_
    exact h w.heap.size 0 _ (by simpa [OwnI] using hown) hba (Nat.le_refl _)
  · rw [List.length_map] at hv
    rw [hv] at hx
    refine wpList_append_some hgd s x _ ho w.heap.size 2 i0 (.int .i64 0) 1 8 under_ints hi hz0 hz1 hz2 rfl (by decide) w.heap.size 0 0 [] hs hown ad xs.length c (xs.map (Value.int .i64)) hx (by simp) hc (ints_one xs) (by unfold maxLen; omega) (by omega) (by simp) (fun g cap w' ho' hg' hat => ?_)
    have e0 : 0 + xs.length = xs.length := by omega
    rw [e0] at ho' ⊢
    refine h g cap w' (by simpa [OwnI] using ho') (hba.grown hg' (by simp) (fun q e => by cases e; exact Nat.le_refl _)) ?_
    rcases hat with e | e
    · omega
    · rw [e]; simp
/-- A part of a row that one call owns can be read. -/
theorem slN_drop {w : World} {base g cap : Nat} {xs : List Int} (h : OwnI w base (.slice (some ⟨g, 0, none⟩) xs.length cap) xs) (i : Nat) (hi : i ≤ xs.length) : SlN w (.slice (if cap = i then some ⟨g, 0, none⟩ else some ⟨g, i, none⟩) (xs.length - i) (cap - i)) (xs.drop i) := by
  have hown : w.ownsRow base 2 1 (.slice (some ⟨g, 0, none⟩) xs.length cap) xs.length (xs.map (Value.int .i64)) := h
  obtain ⟨cur, _, hg, hn, _, _, _⟩ := own_cur hown
  refine ⟨if cap = i then some ⟨g, 0, none⟩ else some ⟨g, i, none⟩, cap - i, by rw [List.length_drop], by simp; omega, fun e => absurd e (by split <;> simp), ?_⟩
  by_cases h0 : i = xs.length
  · left; subst h0; simp
  · right
    have hc : ¬ cap = i := by omega
    refine ⟨g, i, by rw [if_neg hc], (Array.getElem?_eq_some_iff.1 hg).1, fun j hj => ?_⟩
    rw [List.length_drop] at hj
    rw [hown.cellAt (i + j) (by omega), List.getElem?_map, List.getElem?_eq_getElem (by omega)]
    simp [show i + j < xs.length by omega]
theorem slN_take {w : World} {base g cap : Nat} {xs : List Int} (h : OwnI w base (.slice (some ⟨g, 0, none⟩) xs.length cap) xs) (i : Nat) (hi : i ≤ xs.length) : OwnI w base (.slice (some ⟨g, 0, none⟩) i cap) (xs.take i) := by
  have := own_cut (show w.ownsRow base 2 1 (.slice (some ⟨g, 0, none⟩) xs.length cap) xs.length (xs.map (Value.int .i64)) from h) hi
  unfold OwnI
  rw [List.length_take, Nat.min_eq_left hi, List.map_take]
  exact this
end Go.Proofs.Ytokoohmakjabnaa
