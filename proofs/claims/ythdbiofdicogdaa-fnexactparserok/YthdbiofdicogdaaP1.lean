/- Runes as numbers: what a text's first bytes are read to. Plain mathematics, no program. Widths, and what fits into some cells. Plain mathematics. Parsers as numbers: what a rune makes of one, and what is told of it. Plain mathematics, no program. Slices of int64 that can be read, and rows that stay. What a contract leaves, as growth. Lists of numbers that one call owns, apart from one another; parsers and actions in memory. Contract of l1In alone. Contracts of the rune functions. Contracts: the specification's tests on parsers. Contracts: the program's tests on parsers. The walk of the program's parser: what it tells, what comes next. The laws' own helper that copies a list of int64. The walk of the program's parser: past controls, letters, parameters, a title. The laws' own helper: two lists alike. Contracts of the program's Parsed and Step: first part. A parser's block in memory, whole. The laws' own helpers on lists of int64: like, marked, held. The laws' own helpers on parsers: size, copy, likeness. The walk of the exact law of ParserOk. What an argument that is a parser is, once it can be read. -/
import Derived.Laws.BytesArg
import GoSem.Core.Utf8
import Derived.Test.YthdbiofdicogdaaRows
import Derived.WalkKit
import Derived.ProofKit
import Derived.OpenShut
import Derived.LoopN
import Derived.WalkSpells
import Derived.Deep.QuietTactic
import Derived.BigQuiet
import Derived.Deep.AppendLies
import Derived.ShutString
import Derived.LoopTactic
import Derived.Deep.RegionHeld3
import Derived.OneCell
import Derived.Deep.RegionLaw
import Derived.Deep.LoopGhost
import Derived.Laws.AppendOwnNone
import Derived.ChangeOld
import Derived.Below
namespace Go.Proofs.Ythdbiofdicogdaa
def runeOk (r : Int) : Bool := decide (0 ≤ r ∧ r ≤ 1114111 ∧ (r < 55296 ∨ 57343 < r))

theorem runeOk_is (r : Int) (b : Bool) (h : b = true ↔ (0 ≤ r ∧ r ≤ 1114111 ∧ (r < 55296 ∨ 57343 < r))) : b = runeOk r := by
  rw [Bool.eq_iff_iff, h]; simp [runeOk]
theorem runeOk_bd (r : Int) (h : runeOk r = true) : 0 ≤ r ∧ r ≤ 1114111 := by simp [runeOk] at h; omega

end Go.Proofs.Ythdbiofdicogdaa
namespace Go.Proofs.Ythdbiofdicogdaa
def widthV (r : Int) : Int :=
  if r < 32 ∨ runeOk r = false ∨ (127 ≤ r ∧ r ≤ 159) ∨ (768 ≤ r ∧ r ≤ 879) then 0
  else if (4352 ≤ r ∧ r ≤ 4447) ∨ (12288 ≤ r ∧ r ≤ 55295) ∨ (127744 ≤ r ∧ r ≤ 131071) then 2 else 1
end Go.Proofs.Ythdbiofdicogdaa
namespace Go.Proofs.Ythdbiofdicogdaa
structure Pa where
  state : Int
  params : List Int
  mark : Int
  text : List Int
structure Ac where
  kind : Int
  rune : Int
  params : List Int
  mark : Int
  text : List Int
def st0 (s : Int) : Pa := ⟨s, [], 0, []⟩
def one0 (ps : List Int) : List Int := if ps.length = 0 then [0] else ps
def digitP (ps : List Int) (d : Int) : List Int := (one0 ps).set ((one0 ps).length - 1) (min 9999 (10 * (one0 ps).getD ((one0 ps).length - 1) 0 + d))
def semiP (ps : List Int) : List Int := if (one0 ps).length < 16 then one0 ps ++ [0] else one0 ps
def acR (k r : Int) : Ac := ⟨k, r, [], 0, []⟩
def escM (r : Int) : Pa × List Ac :=
  if r = 91 then (st0 3, []) else if r = 93 then (st0 4, []) else if 48 ≤ r ∧ r ≤ 126 then (st0 1, [acR 3 r]) else (st0 1, [])
/-- Whether a list takes a rune in. -/
def takes (ps : List Int) (m r : Int) : Bool := decide (r = 63 ∧ ps.length = 0 ∧ m = 0 ∨ 48 ≤ r ∧ r ≤ 57 ∨ r = 59)
def takenP (p : Pa) (r : Int) : Pa :=
  if r = 63 ∧ p.params.length = 0 ∧ p.mark = 0 then ⟨p.state, p.params, 63, p.text⟩
  else if 48 ≤ r ∧ r ≤ 57 then ⟨p.state, digitP p.params (r - 48), p.mark, p.text⟩
  else ⟨p.state, semiP p.params, p.mark, p.text⟩
def listM (p : Pa) (r : Int) : Pa × List Ac :=
  if takes p.params p.mark r = true then (takenP p r, [])
  else if 64 ≤ r ∧ r ≤ 126 then (st0 1, [⟨4, r, p.params, p.mark, []⟩]) else (st0 1, [])
def titleM (p : Pa) (r : Int) : Pa × List Ac :=
  if r = 7 then (st0 1, [⟨5, 0, [], 0, p.text⟩])
  else if r = 27 then (⟨5, p.params, p.mark, p.text⟩, [])
  else if p.text.length < 40 then (⟨p.state, p.params, p.mark, p.text ++ [r]⟩, []) else (p, [])
def endM (p : Pa) (r : Int) : Pa × List Ac := if r = 92 then (st0 1, [⟨5, 0, [], 0, p.text⟩]) else (st0 1, [])
/-- A control that leaves the state as it is. -/
def stays (r : Int) : Bool := decide ((r < 32 ∨ r = 127) ∧ r ≠ -1 ∧ r ≠ 24 ∧ r ≠ 26 ∧ r ≠ 27)
def stepM (p : Pa) (r : Int) : Pa × List Ac :=
  if p.state = 4 then titleM p r
  else if p.state = 5 then endM p r
  else if r = 27 then (st0 2, [])
  else if r = 24 ∨ r = 26 then (st0 1, [])
  else if r < 32 ∨ r = 127 then (p, [acR 2 r])
  else if p.state = 2 then escM r
  else if p.state = 3 then listM p r
  else if 0 < widthV r then (p, [acR 1 r]) else (p, [])
def parsedM : Pa → List Int → Pa × List Ac
  | p, [] => (p, [])
  | p, r :: l => ((parsedM (stepM p r).1 l).1, (stepM p r).2 ++ (parsedM (stepM p r).1 l).2)
/-- What comes of a parser, of what is left and of what was told. -/
def Fin (p : Pa) (l : List Int) (t : List Ac) : Pa × List Ac := ((parsedM p l).1, t ++ (parsedM p l).2)
theorem Fin_cons (p : Pa) (r : Int) (l : List Int) (t : List Ac) : Fin p (r :: l) t = Fin (stepM p r).1 l (t ++ (stepM p r).2) := by simp [Fin, parsedM]
/-- Whether a list's numbers are all runes. -/
def runesB (l : List Int) : Bool := l.all runeOk
def paramsB (l : List Int) : Bool := l.all (fun x => decide (0 ≤ x ∧ x ≤ 9999))
def okV (p : Pa) : Bool := decide (1 ≤ p.state ∧ p.state ≤ 5 ∧ p.params.length ≤ 16 ∧ (p.mark = 0 ∨ p.mark = 63) ∧ p.text.length ≤ 40 ∧ (p.state = 3 ∨ p.params.length = 0 ∧ p.mark = 0) ∧ (4 ≤ p.state ∨ p.text.length = 0)) && runesB p.text && paramsB p.params
theorem runesB_at {l : List Int} (h : runesB l = true) (i : Nat) (hi : i < l.length) : runeOk (l.getD i 0) = true := by
  have : l.getD i 0 = l[i] := by simp [List.getD, hi]
  rw [this]; exact List.all_eq_true.1 h _ (List.getElem_mem hi)
theorem runesB_no {l : List Int} (i : Nat) (hi : i < l.length) (h : runeOk (l.getD i 0) = false) : runesB l = false := by
  rw [Bool.eq_false_iff]; intro hh
  rw [runesB_at hh i hi] at h; cases h
theorem runesB_yes {l : List Int} (h : ∀ i, i < l.length → runeOk (l.getD i 0) = true) : runesB l = true := by
  refine List.all_eq_true.2 fun x hx => ?_
  obtain ⟨i, hi, rfl⟩ := List.getElem_of_mem hx
  have := h i hi
  simpa [List.getD, hi] using this
theorem paramsB_at {l : List Int} (h : paramsB l = true) (i : Nat) (hi : i < l.length) : 0 ≤ l.getD i 0 ∧ l.getD i 0 ≤ 9999 := by
  have : l.getD i 0 = l[i] := by simp [List.getD, hi]
  rw [this]; exact of_decide_eq_true (List.all_eq_true.1 h _ (List.getElem_mem hi))
theorem paramsB_no {l : List Int} (i : Nat) (hi : i < l.length) (h : ¬ (0 ≤ l.getD i 0 ∧ l.getD i 0 ≤ 9999)) : paramsB l = false := by
  rw [Bool.eq_false_iff]; intro hh
  exact h (paramsB_at hh i hi)
theorem paramsB_yes {l : List Int} (h : ∀ i, i < l.length → 0 ≤ l.getD i 0 ∧ l.getD i 0 ≤ 9999) : paramsB l = true := by
  refine List.all_eq_true.2 fun x hx => decide_eq_true ?_
  obtain ⟨i, hi, rfl⟩ := List.getElem_of_mem hx
  have := h i hi
  simpa [List.getD, hi] using this
end Go.Proofs.Ythdbiofdicogdaa
namespace Go.Proofs.Ythdbiofdicogdaa
open Go.ChangeShapes Go.WideShapes Go.ChangeAt Go.RowKit
/-- What is owned stays owned while the world only grows above. -/
theorem _root_.Go.World.ownsRow.below {w w' : World} {base : Nat} {e : TypeId} {size : Nat} {v : Value} {n : Nat} {xs : List Value} (h : w.ownsRow base e size v n xs) (hb : Below w.heap.size w w') : w'.ownsRow base e size v n xs := by
  refine ⟨h.1, ?_⟩
  rcases h.2 with h2 | ⟨g, cap, cur, hv, hbg, hg, r⟩
  · exact .inl h2
  · exact .inr ⟨g, cap, cur, hv, hbg, by rw [hb.block g (Array.getElem?_eq_some_iff.1 hg).1]; exact hg, r⟩
/-- A slice that can be read: of no element, or a row of cells that hold the numbers. -/
def SlI (w : World) (v : Value) (xs : List Int) : Prop :=
  ∃ a c, v = .slice a xs.length c ∧ (xs = [] ∨ ∃ b off, a = some ⟨b, off, none⟩ ∧ b < w.heap.size ∧ ∀ i, i < xs.length → w.cell? ⟨b, off + i, none⟩ = some (.int .i64 (xs.getD i 0)))
theorem SlI.of_own {w : World} {base : Nat} {e : TypeId} {v : Value} {xs : List Int} (h : w.ownsRow base e 1 v xs.length (xs.map (Value.int .i64))) : SlI w v xs := by
  rcases h.2 with ⟨rfl, h2⟩ | ⟨g, cap, cur, rfl, hb, hg, hr⟩
  · exact ⟨none, 0, by rw [h2], .inl (List.eq_nil_of_length_eq_zero h2)⟩
  · refine ⟨_, cap, rfl, .inr ⟨g, 0, rfl, (Array.getElem?_eq_some_iff.1 hg).1, fun i hi => ?_⟩⟩
    have := h.cellAt i (by simpa using hi)
    rw [Nat.zero_add, this]
    simp [hi]
theorem SlI.below {w w' : World} {v : Value} {xs : List Int} (h : SlI w v xs) (hb : Below w.heap.size w w') : SlI w' v xs := by
  obtain ⟨a, c, hv, h | ⟨b, off, ha, hlt, hc⟩⟩ := h
  · exact ⟨a, c, hv, .inl h⟩
  · exact ⟨a, c, hv, .inr ⟨b, off, ha, Nat.lt_of_lt_of_le hlt hb.size, fun i hi => (hb.cell (p := ⟨b, off + i, none⟩) hlt).trans (hc i hi)⟩⟩
theorem SlI.drewN {w : World} {v : Value} {xs : List Int} (h : SlI w v xs) (n : Nat) : SlI (w.drewN n) v xs := h

end Go.Proofs.Ythdbiofdicogdaa
namespace Go.Proofs.Ythdbiofdicogdaa
open Go.ChangeShapes Go.WideShapes Go.ChangeAt Go.RowKit
theorem gbl {w w' : World} (h : Below w.heap.size w w') (row : Option Nat) : w.grownBy w' row := ⟨h.os, h.tape, h.output, h.size, fun k hk _ => h.block k hk⟩
theorem setCell_gr (w : World) (B o : Nat) (u : Value) : w.grownBy (w.setCell ⟨B, o, none⟩ u) (some B) :=
  ⟨rfl, rfl, rfl, by simp, fun k _ hk => heap_setCell_other w ⟨B, o, none⟩ k _ (fun e => hk (by simp [e]))⟩
theorem grown_tr {a b c : World} {row : Option Nat} (h : a.grownBy b row) (k : b.grownBy c row) : a.grownBy c row :=
  ⟨k.os.trans h.os, k.tape.trans h.tape, k.output.trans h.output, Nat.le_trans h.size k.size, fun i hi hr => (k.block i (Nat.lt_of_lt_of_le hi h.size) hr).trans (h.block i hi hr)⟩
theorem bal' (w : World) (o : Obj) : Below w.heap.size w (w.alloc o) := (Below.refl _ _).alloc (Nat.le_refl _) o
theorem bdr (w : World) : Below w.heap.size w w.drew := ⟨rfl, rfl, rfl, Nat.le_refl _, fun _ _ => rfl⟩
end Go.Proofs.Ythdbiofdicogdaa
namespace Go.Proofs.Ythdbiofdicogdaa
open Go.ChangeShapes Go.WideShapes Go.ChangeAt Go.RowKit
theorem own_low' {w : World} {base base' : Nat} {e : TypeId} {size : Nat} {v : Value} {n : Nat} {xs : List Value} (h : w.ownsRow base e size v n xs) (hb : base' ≤ base) : w.ownsRow base' e size v n xs := by
  refine ⟨h.1, ?_⟩
  rcases h.2 with h2 | ⟨g, cap, cur, hv, hbg, r⟩
  · exact .inl h2
  · exact .inr ⟨g, cap, cur, hv, Nat.le_trans hb hbg, r⟩
/-- A list of numbers of this call's own. -/
def OwnI (w : World) (base : Nat) (v : Value) (xs : List Int) : Prop := w.ownsRow base 2 1 v xs.length (xs.map (Value.int .i64))
theorem OwnI.below {w w' : World} {base : Nat} {v : Value} {xs : List Int} (h : OwnI w base v xs) (hb : Below w.heap.size w w') : OwnI w' base v xs := World.ownsRow.below h hb
theorem OwnI.kept {w w' : World} {base : Nat} {v : Value} {xs : List Int} {row : Option Nat} (h : OwnI w base v xs) (hg : w.grownBy w' row) (hne : v.ownBlock = none ∨ v.ownBlock ≠ row) : OwnI w' base v xs := World.ownsRow.kept (show w.ownsRow _ _ _ _ _ _ from h) hg hne
theorem OwnI.low {w : World} {base base' : Nat} {v : Value} {xs : List Int} (h : OwnI w base v xs) (hb : base' ≤ base) : OwnI w base' v xs := own_low' h hb
theorem OwnI.lt {w : World} {base : Nat} {v : Value} {xs : List Int} (h : OwnI w base v xs) : ∀ g, v.ownBlock = some g → base ≤ g ∧ g < w.heap.size := fun g e => World.ownsRow.lt h g e
theorem OwnI.sl {w : World} {base : Nat} {v : Value} {xs : List Int} (h : OwnI w base v xs) : SlI w v xs := SlI.of_own h
theorem OwnI.shape {w : World} {base : Nat} {v : Value} {xs : List Int} (h : OwnI w base v xs) : ∃ a n c, v = .slice a n c := by
  obtain ⟨a, c, hv, _⟩ := h.sl
  exact ⟨a, _, c, hv⟩
/-- Two slices over no common block. -/
def ApV (u v : Value) : Prop := ∀ g, u.ownBlock = some g → v.ownBlock ≠ some g
theorem ApV.symm {u v : Value} (h : ApV u v) : ApV v u := fun g e1 e2 => h g e2 e1
/-- Lists of numbers of this call's own, no two over one block. -/
def LiOk (w : World) (base : Nat) (L : List (Value × List Int)) : Prop := (∀ p ∈ L, OwnI w base p.1 p.2) ∧ L.Pairwise fun p q => ApV p.1 q.1
theorem LiOk.below {w w' : World} {base : Nat} {L : List (Value × List Int)} (h : LiOk w base L) (hb : Below w.heap.size w w') : LiOk w' base L := ⟨fun p hp => (h.1 p hp).below hb, h.2⟩
theorem LiOk.low {w : World} {base base' : Nat} {L : List (Value × List Int)} (h : LiOk w base L) (hb : base' ≤ base) : LiOk w base' L := ⟨fun p hp => (h.1 p hp).low hb, h.2⟩
theorem LiOk.perm {w : World} {base : Nat} {L M : List (Value × List Int)} (h : LiOk w base L) (hp : L.Perm M) : LiOk w base M :=
  ⟨fun _ hm => h.1 _ (hp.mem_iff.2 hm), (hp.pairwise_iff (fun {_ _} h => ApV.symm h)).1 h.2⟩
theorem LiOk.sub {w : World} {base : Nat} {L M : List (Value × List Int)} (h : LiOk w base L) (hp : M.Sublist L) : LiOk w base M :=
  ⟨fun _ hm => h.1 _ (hp.subset hm), h.2.sublist hp⟩
theorem LiOk.tail {w : World} {base : Nat} {x : Value × List Int} {L : List (Value × List Int)} (h : LiOk w base (x :: L)) : LiOk w base L := h.sub (List.sublist_cons_self _ _)
theorem LiOk.head {w : World} {base : Nat} {x : Value × List Int} {L : List (Value × List Int)} (h : LiOk w base (x :: L)) : OwnI w base x.1 x.2 := h.1 x (List.mem_cons_self)
/-- One list more, over a block that is new. -/
theorem LiOk.new {w w' : World} {base : Nat} {L : List (Value × List Int)} (h : LiOk w base L) (hb : Below w.heap.size w w') {v : Value} {xs : List Int} (ho : OwnI w' base v xs) (hn : ∀ g, v.ownBlock = some g → w.heap.size ≤ g) : LiOk w' base ((v, xs) :: L) :=
  ⟨fun p hp => by
    rcases List.mem_cons.1 hp with rfl | hp
    · exact ho
    · exact (h.1 p hp).below hb, List.Pairwise.cons (fun q hq g e1 e2 => by have := hn g e1; have := ((h.1 q hq).lt g e2).2; omega) h.2⟩
/-- What is not among them changes. -/
theorem LiOk.kept {w w' : World} {base : Nat} {L : List (Value × List Int)} {row : Option Nat} (h : LiOk w base L) (hg : w.grownBy w' row) (hne : ∀ p ∈ L, p.1.ownBlock = none ∨ p.1.ownBlock ≠ row) : LiOk w' base L :=
  ⟨fun p hp => (h.1 p hp).kept hg (hne p hp), h.2⟩
/-- An action with the values of its lists. -/
structure Ax where
  a : Ac
  pv : Value
  tv : Value
/-- A parser in a block of its own. -/
def paV (p : Pa) (pv tv : Value) : Value := .agg #[.int .i64 p.state, pv, .int .i64 p.mark, tv]
def PaC (w : World) (B : Nat) (s : Int) (pv : Value) (m : Int) (tv : Value) : Prop :=
  B < w.heap.size ∧ (w.cell? ⟨B, 0, none⟩ = some (.int .i64 s) ∧ w.cell? ⟨B, 1, none⟩ = some pv ∧ w.cell? ⟨B, 2, none⟩ = some (.int .i64 m) ∧ w.cell? ⟨B, 3, none⟩ = some tv) ∧
    (w.frozen? ⟨B, 0, none⟩ = false ∧ w.frozen? ⟨B, 1, none⟩ = false ∧ w.frozen? ⟨B, 2, none⟩ = false ∧ w.frozen? ⟨B, 3, none⟩ = false)
theorem PaC.grown {w w' : World} {B : Nat} {s m : Int} {pv tv : Value} {row : Option Nat} (h : PaC w B s pv m tv) (hg : w.grownBy w' row) (hr : row ≠ some B) : PaC w' B s pv m tv := by
  have hb := hg.block B h.1 (Ne.symm hr)
  have hc : ∀ k, w'.cell? ⟨B, k, none⟩ = w.cell? ⟨B, k, none⟩ := fun k => World.cell?_of_block (w := w) hb
  have hz : ∀ k, w'.frozen? ⟨B, k, none⟩ = w.frozen? ⟨B, k, none⟩ := fun k => World.frozen?_of_block (w := w) hb
  refine ⟨Nat.lt_of_lt_of_le h.1 hg.size, ?_, ?_⟩
  · rw [hc, hc, hc, hc]; exact h.2.1
  · rw [hz, hz, hz, hz]; exact h.2.2
theorem PaC.below {w w' : World} {B : Nat} {s m : Int} {pv tv : Value} (h : PaC w B s pv m tv) (hb : Below w.heap.size w w') : PaC w' B s pv m tv := h.grown (gbl hb none) (by simp)
theorem PaC.new (w : World) (s m : Int) (pv tv : Value) (t : TypeId) : PaC (w.alloc (.cells #[.int .i64 s, pv, .int .i64 m, tv] t)) w.heap.size s pv m tv :=
  ⟨by simp, ⟨by simp [go_sem], by simp [go_sem], by simp [go_sem], by simp [go_sem]⟩, ⟨by simp [go_sem], by simp [go_sem], by simp [go_sem], by simp [go_sem]⟩⟩
end Go.Proofs.Ythdbiofdicogdaa
namespace Go.Proofs.Ythdbiofdicogdaa
open Go.ChangeShapes Go.WideShapes Go.ChangeAt Go.RowKit
theorem ret_bool {a b : Bool} (h : a = b) : Ending.returned (.bool a) = .returned (.bool b) := by rw [h]

theorem l1In_any (x lo hi : Int) (w : World) :
    Calls Try.prog 10 #[.int .i64 x, .int .i64 lo, .int .i64 hi] w fun e w' => e = .returned (.bool (decide (lo ≤ x ∧ x ≤ hi))) ∧ w' = w := by
  by_cases h1 : lo ≤ x
  · go_enter Try.func10, Try.ntmps10
    go_wp2
    go_ret
    exact ⟨ret_bool (by simp [h1]), rfl⟩
  · go_enter Try.func10, Try.ntmps10
    go_wp2
    go_ret
    exact ⟨ret_bool (by simp; omega), rfl⟩

end Go.Proofs.Ythdbiofdicogdaa
namespace Go.Proofs.Ythdbiofdicogdaa
open Go.ChangeShapes Go.WideShapes Go.ChangeAt Go.RowKit
theorem implRuneOk_any (r : Int) (w : World) :
    Calls Try.prog 19 #[.int .i64 r] w fun e w' => e = .returned (.bool (runeOk r)) ∧ w' = w := by
  go_enter Try.func19, Try.ntmps19
  go_wp2
  all_goals
    go_ret
    exact ⟨ret_bool (runeOk_is _ _ (by simp <;> omega)), rfl⟩

set_option maxHeartbeats 400000 in
theorem specRuneOk_any (r : Int) (w : World) :
    Calls Try.prog 17 #[.int .i64 r] w fun e w' => e = .returned (.bool (runeOk r)) ∧ w' = w := by
  go_enter Try.func17, Try.ntmps17
  go_wp2_with (go_at_call 10; refine (l1In_any _ _ _ _).mono ?_; rintro e w' ⟨rfl, rfl⟩)
  all_goals
    go_ret
    exact ⟨ret_bool (runeOk_is _ _ (by simp <;> omega)), rfl⟩

end Go.Proofs.Ythdbiofdicogdaa
namespace Go.Proofs.Ythdbiofdicogdaa
open Go.ChangeShapes Go.WideShapes Go.ChangeAt Go.RowKit
theorem SlI.cons {w : World} {v : Value} {xs : List Int} (h : SlI w v xs) : ∃ a c, v = .slice a xs.length c ∧ ∀ j, j < xs.length → ∃ b off, a = some ⟨b, off, none⟩ ∧ w.cell? ⟨b, off + j, none⟩ = some (.int .i64 (xs.getD j 0)) := by
  obtain ⟨a, c, hv, h | ⟨b, off, ha, hlt, hc⟩⟩ := h
  · exact ⟨a, c, hv, fun j hj => by rw [h] at hj; simp at hj⟩
  · exact ⟨a, c, hv, fun j hj => ⟨b, off, ha, hc j hj⟩⟩
theorem SlI.shp {w : World} {v : Value} {xs : List Int} (h : SlI w v xs) : ∃ a c, v = .slice a xs.length c := by
  obtain ⟨a, c, hv, _⟩ := h
  exact ⟨a, c, hv⟩
set_option maxHeartbeats 1000000 in
theorem specRunes6_any (v : Value) (xs : List Int) (most : Nat) (w : World) (hv : SlI w v xs) (_hl : xs.length ≤ 1073741824) (_hm : most ≤ 1073741824) :
    Calls Try.prog 11 #[v, .int .i64 most] w fun e w' => e = .returned (.bool (decide (xs.length ≤ most) && runesB xs)) ∧ w' = w := by
  obtain ⟨a, c, rfl, hc⟩ := hv.cons
  clear hv
  by_cases h : most < xs.length
  · have hi : (most : Int) < (xs.length : Int) := by omega
    have hV : Hid ((decide (xs.length ≤ most) && runesB xs) = false) := by show _ = _; rw [decide_eq_false (by omega), Bool.false_and]
    clear hc
    go_enter Try.func11, Try.ntmps11
    go_wp2
    go_ret
    exact ⟨by rw [hV.out]; rfl, rfl⟩
  · have hi : ¬ (most : Int) < (xs.length : Int) := by omega
    have hV : Hid ((decide (xs.length ≤ most) && runesB xs) = runesB xs) := by show _ = _; rw [decide_eq_true (by omega), Bool.true_and]
    rw [hV.out]
    clear hV
    go_enter Try.func11, Try.ntmps11
    go_wp2
    go_loop [5] (fun i => ∃ j : Nat, i = .int .i64 j ∧ j ≤ xs.length ∧ Hid (∀ k, k < j → runeOk (xs.getD k 0) = true)) (fun i => xs.length - (intOf i).toNat)
    case atStart => exact ⟨0, rfl, Nat.zero_le _, (fun k hk => absurd hk (Nat.not_lt_zero k))⟩
    case round =>
      obtain ⟨j, rfl, hj, hall⟩ := hrel
      by_cases hlt : j < xs.length
      · have hji : (j : Int) < (xs.length : Int) := by omega
        have hj0 : (0 : Int) ≤ (j : Int) := by omega
        obtain ⟨b, off, rfl, hcj⟩ := hc j hlt
        have hno : runeOk (xs.getD j 0) = false → Hid (runesB xs = false) := fun h => runesB_no j hlt h
        have hstep : runeOk (xs.getD j 0) = true → Hid (∀ k, k < j + 1 → runeOk (xs.getD k 0) = true) := fun h => (show ∀ k, k < j + 1 → runeOk (xs.getD k 0) = true from fun k hk => by
          by_cases e : k = j
          · rw [e]; exact h
          · exact hall.out k (by omega))
        have hok := specRuneOk_any (xs.getD j 0) w
        clear hc hall
        generalize xs.getD j 0 = x at *
        generalize runeOk x = ok at *
        go_wp2_with fail
        refine hok.mono ?_
        rintro e w2 ⟨rfl, hw⟩
        subst hw
        clear hok
        cases ok
        · have hV := hno rfl
          clear hno hstep
          go_wp2
          go_ret
          exact ⟨by rw [hV.out]; rfl, rfl⟩
        · have hall2 := hstep rfl
          clear hno hstep
          go_wp2
          go_round
          case rel => exact ⟨j + 1, by go_num, by omega, hall2⟩
          case measure => simp [intOf]; omega
      · have hjn : j = xs.length := by omega
        have hji : ¬ (j : Int) < (xs.length : Int) := by omega
        have hV : Hid (runesB xs = true) := runesB_yes (by rw [← hjn]; exact hall.out)
        clear hc hall
        subst hjn
        go_wp2
        go_ret
        exact ⟨by rw [hV.out]; rfl, rfl⟩
set_option maxHeartbeats 4000000 in
set_option maxRecDepth 20000 in
theorem specParserOk_m0 (s : Int) (ps ts : List Int) (pv tv : Value) (w : World) (hp : SlI w pv ps) (ht : SlI w tv ts) (hpl : ps.length ≤ 1073741824) (htl : ts.length ≤ 1073741824)
    (h1a : 1 ≤ s) (h1b : s ≤ 5) (h2 : ps.length ≤ 16) (hrt : (decide (ts.length ≤ 40) && runesB ts) = true) :
    Calls Try.prog 5 #[paV ⟨s, ps, 0, ts⟩ pv tv] w fun e w' => e = .returned (.bool (paramsB ps && (decide (s = 3) || decide (ps.length = 0) && decide ((0 : Int) = 0)) && (decide (4 ≤ s) || decide (ts.length = 0)))) ∧ Below w.heap.size w w' := by
  have hb0 := bal' w (Obj.cells #[.int .i64 s, pv, .int .i64 0, tv] 27)
  have hP := PaC.new w s 0 pv tv 27
  have hp1 := hp.below hb0
  have ht1 := ht.below hb0
  have hR1 := specRunes6_any tv ts 40 _ ht1 htl (by decide)
  rw [hrt] at hR1
  obtain ⟨pa, pc, rfl, hpc⟩ := hp1.cons
  obtain ⟨ta, tc, rfl⟩ := ht1.shp
  have h2i : ¬ (16 : Int) < (ps.length : Int) := by omega
  obtain ⟨rv, hrv⟩ : ∃ rv, Hid (rv = (paramsB ps && (decide (s = 3) || decide (ps.length = 0) && decide ((0 : Int) = 0)) && (decide (4 ≤ s) || decide (ts.length = 0)))) := ⟨_, rfl⟩
  rw [← hrv.out]
  unfold paV
  obtain ⟨_, ⟨c0, c1, c2, c3⟩, _⟩ := id hP
  clear hP hp ht hp1 ht1 hrt hpl htl
  go_enter Try.func5, Try.ntmps5
  go_wp2_with (first | (go_at_call 10; refine (l1In_any _ _ _ _).mono ?_; rintro e w' ⟨rfl, rfl⟩) | (go_at_call 11; refine hR1.mono ?_; rintro e w' ⟨rfl, rfl⟩))
  clear hR1
  go_loop [3] (fun i => ∃ j : Nat, i = .int .i64 j ∧ j ≤ ps.length ∧ Hid (∀ k, k < j → 0 ≤ ps.getD k 0 ∧ ps.getD k 0 ≤ 9999)) (fun i => ps.length - (intOf i).toNat)
  case atStart => exact ⟨0, rfl, Nat.zero_le _, (fun k hk => absurd hk (Nat.not_lt_zero k))⟩
  case round =>
    obtain ⟨j, rfl, hj, hall⟩ := hrel
    by_cases hlt : j < ps.length
    · have hji : (j : Int) < (ps.length : Int) := by omega
      have hj0 : (0 : Int) ≤ (j : Int) := by omega
      obtain ⟨b, off, rfl, hcj⟩ := hpc j hlt
      have hno : ¬ (0 ≤ ps.getD j 0 ∧ ps.getD j 0 ≤ 9999) → Hid (paramsB ps = false) := fun h => paramsB_no j hlt h
      have hstep : (0 ≤ ps.getD j 0 ∧ ps.getD j 0 ≤ 9999) → Hid (∀ k, k < j + 1 → 0 ≤ ps.getD k 0 ∧ ps.getD k 0 ≤ 9999) := fun h => (show ∀ k, k < j + 1 → 0 ≤ ps.getD k 0 ∧ ps.getD k 0 ≤ 9999 from fun k hk => by
        by_cases e : k = j
        · rw [e]; exact h
        · exact hall.out k (by omega))
      have hin := fun W => l1In_any (ps.getD j 0) 0 9999 W
      clear hpc hall
      generalize ps.getD j 0 = x at *
      by_cases hx : 0 ≤ x ∧ x ≤ 9999
      · have hall2 := hstep hx
        rw [decide_eq_true hx] at hin
        clear hno hstep hx
        go_wp2_with (go_at_call 10; refine (hin _).mono ?_; rintro e w' ⟨rfl, rfl⟩)
        go_round
        case rel => exact ⟨j + 1, by go_num, by omega, hall2⟩
        case measure => simp [intOf]; omega
      · have hV : Hid (rv = false) := by show _ = _; rw [hrv.out, (hno hx).out, Bool.false_and, Bool.false_and]
        rw [decide_eq_false hx] at hin
        clear hno hstep hx
        go_wp2_with (go_at_call 10; refine (hin _).mono ?_; rintro e w' ⟨rfl, rfl⟩)
        go_ret
        exact ⟨by rw [hV.out]; rfl, hb0⟩
    · have hjn : j = ps.length := by omega
      have hji : ¬ (j : Int) < (ps.length : Int) := by omega
      have hV : Hid (paramsB ps = true) := paramsB_yes (by rw [← hjn]; exact hall.out)
      have hr1 : Hid (rv = ((decide (s = 3) || decide (ps.length = 0) && decide ((0 : Int) = 0)) && (decide (4 ≤ s) || decide (ts.length = 0)))) := by show _ = _; rw [hrv.out, hV.out, Bool.true_and]; try simp
      clear hpc hall hjn hrv hV
      generalize ps.length = np at *
      generalize ts.length = nt at *
      by_cases q1 : s = 3
      · subst q1
        by_cases q3 : nt = 0
        · subst q3
          have hv : Hid (rv = true) := by show _ = _; rw [hr1.out]; rfl
          clear hr1
          go_wp2
          go_ret
          exact ⟨by rw [hv.out]; first | rfl | simp [*], hb0⟩
        · have q3i : ((nt : Int) == 0) = false := by simp; omega
          have hv : Hid (rv = false) := by show _ = _; rw [hr1.out, decide_eq_false q3]; rfl
          clear hr1 q3
          go_wp2
          go_ret
          exact ⟨by rw [hv.out]; first | rfl | simp [*], hb0⟩
      · have q1i : (s == 3) = false := by simp [q1]
        have hr2 : Hid (rv = ((decide (np = 0) && decide ((0 : Int) = 0)) && (decide (4 ≤ s) || decide (nt = 0)))) := by show _ = _; rw [hr1.out, decide_eq_false q1, Bool.false_or]
        clear hr1 q1
        by_cases q2 : np = 0
        · subst q2
          by_cases q4 : 4 ≤ s
          · have hv : Hid (rv = decide ((0 : Int) = 0)) := by show _ = _; rw [hr2.out, decide_eq_true q4]; rfl
            clear hr2
            go_wp2
            go_ret
            exact ⟨by rw [hv.out]; first | rfl | simp [*], hb0⟩
          · have q4i : s < 4 := by omega
            have q4b : decide (4 ≤ s) = false := decide_eq_false q4
            by_cases q3 : nt = 0
            · subst q3
              have hv : Hid (rv = decide ((0 : Int) = 0)) := by show _ = _; rw [hr2.out, decide_eq_false q4]; rfl
              clear hr2 q4
              go_wp2
              go_ret
              exact ⟨by rw [hv.out]; first | rfl | simp [*], hb0⟩
            · have q3i : ((nt : Int) == 0) = false := by simp; omega
              have hv : Hid (rv = false) := by show _ = _; rw [hr2.out, decide_eq_false q4, decide_eq_false q3]; rfl
              clear hr2 q3 q4
              go_wp2
              go_ret
              exact ⟨by rw [hv.out]; first | rfl | simp [*], hb0⟩
        · have q2i : ((np : Int) == 0) = false := by simp; omega
          have hv : Hid (rv = false) := by show _ = _; rw [hr2.out, decide_eq_false q2]; rfl
          clear hr2 q2
          by_cases q4 : 4 ≤ s
          · go_wp2
            go_ret
            exact ⟨by rw [hv.out]; first | rfl | simp [*], hb0⟩
          · have q4i : s < 4 := by omega
            have q4b : decide (4 ≤ s) = false := decide_eq_false q4
            by_cases q3 : nt = 0
            · subst q3
              go_wp2
              go_ret
              exact ⟨by rw [hv.out]; first | rfl | simp [*], hb0⟩
            · have q3i : ((nt : Int) == 0) = false := by simp; omega
              clear q3
              go_wp2
              go_ret
              exact ⟨by rw [hv.out]; first | rfl | simp [*], hb0⟩
set_option maxHeartbeats 4000000 in
set_option maxRecDepth 20000 in
theorem specParserOk_m63 (s : Int) (ps ts : List Int) (pv tv : Value) (w : World) (hp : SlI w pv ps) (ht : SlI w tv ts) (hpl : ps.length ≤ 1073741824) (htl : ts.length ≤ 1073741824)
    (h1a : 1 ≤ s) (h1b : s ≤ 5) (h2 : ps.length ≤ 16) (hrt : (decide (ts.length ≤ 40) && runesB ts) = true) :
    Calls Try.prog 5 #[paV ⟨s, ps, 63, ts⟩ pv tv] w fun e w' => e = .returned (.bool (paramsB ps && (decide (s = 3) || decide (ps.length = 0) && decide ((63 : Int) = 0)) && (decide (4 ≤ s) || decide (ts.length = 0)))) ∧ Below w.heap.size w w' := by
  have hb0 := bal' w (Obj.cells #[.int .i64 s, pv, .int .i64 63, tv] 27)
  have hP := PaC.new w s 63 pv tv 27
  have hp1 := hp.below hb0
  have ht1 := ht.below hb0
  have hR1 := specRunes6_any tv ts 40 _ ht1 htl (by decide)
  rw [hrt] at hR1
  obtain ⟨pa, pc, rfl, hpc⟩ := hp1.cons
  obtain ⟨ta, tc, rfl⟩ := ht1.shp
  have h2i : ¬ (16 : Int) < (ps.length : Int) := by omega
  obtain ⟨rv, hrv⟩ : ∃ rv, Hid (rv = (paramsB ps && (decide (s = 3) || decide (ps.length = 0) && decide ((63 : Int) = 0)) && (decide (4 ≤ s) || decide (ts.length = 0)))) := ⟨_, rfl⟩
  rw [← hrv.out]
  unfold paV
  obtain ⟨_, ⟨c0, c1, c2, c3⟩, _⟩ := id hP
  clear hP hp ht hp1 ht1 hrt hpl htl
  go_enter Try.func5, Try.ntmps5
  go_wp2_with (first | (go_at_call 10; refine (l1In_any _ _ _ _).mono ?_; rintro e w' ⟨rfl, rfl⟩) | (go_at_call 11; refine hR1.mono ?_; rintro e w' ⟨rfl, rfl⟩))
  clear hR1
  go_loop [3] (fun i => ∃ j : Nat, i = .int .i64 j ∧ j ≤ ps.length ∧ Hid (∀ k, k < j → 0 ≤ ps.getD k 0 ∧ ps.getD k 0 ≤ 9999)) (fun i => ps.length - (intOf i).toNat)
  case atStart => exact ⟨0, rfl, Nat.zero_le _, (fun k hk => absurd hk (Nat.not_lt_zero k))⟩
  case round =>
    obtain ⟨j, rfl, hj, hall⟩ := hrel
    by_cases hlt : j < ps.length
    · have hji : (j : Int) < (ps.length : Int) := by omega
      have hj0 : (0 : Int) ≤ (j : Int) := by omega
      obtain ⟨b, off, rfl, hcj⟩ := hpc j hlt
      have hno : ¬ (0 ≤ ps.getD j 0 ∧ ps.getD j 0 ≤ 9999) → Hid (paramsB ps = false) := fun h => paramsB_no j hlt h
      have hstep : (0 ≤ ps.getD j 0 ∧ ps.getD j 0 ≤ 9999) → Hid (∀ k, k < j + 1 → 0 ≤ ps.getD k 0 ∧ ps.getD k 0 ≤ 9999) := fun h => (show ∀ k, k < j + 1 → 0 ≤ ps.getD k 0 ∧ ps.getD k 0 ≤ 9999 from fun k hk => by
        by_cases e : k = j
        · rw [e]; exact h
        · exact hall.out k (by omega))
      have hin := fun W => l1In_any (ps.getD j 0) 0 9999 W
      clear hpc hall
      generalize ps.getD j 0 = x at *
      by_cases hx : 0 ≤ x ∧ x ≤ 9999
      · have hall2 := hstep hx
        rw [decide_eq_true hx] at hin
        clear hno hstep hx
        go_wp2_with (go_at_call 10; refine (hin _).mono ?_; rintro e w' ⟨rfl, rfl⟩)
        go_round
        case rel => exact ⟨j + 1, by go_num, by omega, hall2⟩
        case measure => simp [intOf]; omega
      · have hV : Hid (rv = false) := by show _ = _; rw [hrv.out, (hno hx).out, Bool.false_and, Bool.false_and]
        rw [decide_eq_false hx] at hin
        clear hno hstep hx
        go_wp2_with (go_at_call 10; refine (hin _).mono ?_; rintro e w' ⟨rfl, rfl⟩)
        go_ret
        exact ⟨by rw [hV.out]; rfl, hb0⟩
    · have hjn : j = ps.length := by omega
      have hji : ¬ (j : Int) < (ps.length : Int) := by omega
      have hV : Hid (paramsB ps = true) := paramsB_yes (by rw [← hjn]; exact hall.out)
      have hr1 : Hid (rv = ((decide (s = 3) || decide (ps.length = 0) && decide ((63 : Int) = 0)) && (decide (4 ≤ s) || decide (ts.length = 0)))) := by show _ = _; rw [hrv.out, hV.out, Bool.true_and]; try simp
      clear hpc hall hjn hrv hV
      generalize ps.length = np at *
      generalize ts.length = nt at *
      by_cases q1 : s = 3
      · subst q1
        by_cases q3 : nt = 0
        · subst q3
          have hv : Hid (rv = true) := by show _ = _; rw [hr1.out]; rfl
          clear hr1
          go_wp2
          go_ret
          exact ⟨by rw [hv.out]; first | rfl | simp [*], hb0⟩
        · have q3i : ((nt : Int) == 0) = false := by simp; omega
          have hv : Hid (rv = false) := by show _ = _; rw [hr1.out, decide_eq_false q3]; rfl
          clear hr1 q3
          go_wp2
          go_ret
          exact ⟨by rw [hv.out]; first | rfl | simp [*], hb0⟩
      · have q1i : (s == 3) = false := by simp [q1]
        have hr2 : Hid (rv = ((decide (np = 0) && decide ((63 : Int) = 0)) && (decide (4 ≤ s) || decide (nt = 0)))) := by show _ = _; rw [hr1.out, decide_eq_false q1, Bool.false_or]
        clear hr1 q1
        by_cases q2 : np = 0
        · subst q2
          by_cases q4 : 4 ≤ s
          · have hv : Hid (rv = decide ((63 : Int) = 0)) := by show _ = _; rw [hr2.out, decide_eq_true q4]; rfl
            clear hr2
            go_wp2
            go_ret
            exact ⟨by rw [hv.out]; first | rfl | simp [*], hb0⟩
          · have q4i : s < 4 := by omega
            have q4b : decide (4 ≤ s) = false := decide_eq_false q4
            by_cases q3 : nt = 0
            · subst q3
              have hv : Hid (rv = decide ((63 : Int) = 0)) := by show _ = _; rw [hr2.out, decide_eq_false q4]; rfl
              clear hr2 q4
              go_wp2
              go_ret
              exact ⟨by rw [hv.out]; first | rfl | simp [*], hb0⟩
            · have q3i : ((nt : Int) == 0) = false := by simp; omega
              have hv : Hid (rv = false) := by show _ = _; rw [hr2.out, decide_eq_false q4, decide_eq_false q3]; rfl
              clear hr2 q3 q4
              go_wp2
              go_ret
              exact ⟨by rw [hv.out]; first | rfl | simp [*], hb0⟩
        · have q2i : ((np : Int) == 0) = false := by simp; omega
          have hv : Hid (rv = false) := by show _ = _; rw [hr2.out, decide_eq_false q2]; rfl
          clear hr2 q2
          by_cases q4 : 4 ≤ s
          · go_wp2
            go_ret
            exact ⟨by rw [hv.out]; first | rfl | simp [*], hb0⟩
          · have q4i : s < 4 := by omega
            have q4b : decide (4 ≤ s) = false := decide_eq_false q4
            by_cases q3 : nt = 0
            · subst q3
              go_wp2
              go_ret
              exact ⟨by rw [hv.out]; first | rfl | simp [*], hb0⟩
            · have q3i : ((nt : Int) == 0) = false := by simp; omega
              clear q3
              go_wp2
              go_ret
              exact ⟨by rw [hv.out]; first | rfl | simp [*], hb0⟩
set_option maxHeartbeats 4000000 in
set_option maxRecDepth 20000 in
theorem specParserOk_any (p : Pa) (pv tv : Value) (w : World) (hp : SlI w pv p.params) (ht : SlI w tv p.text) (hpl : p.params.length ≤ 1073741824) (htl : p.text.length ≤ 1073741824) :
    Calls Try.prog 5 #[paV p pv tv] w fun e w' => e = .returned (.bool (okV p)) ∧ Below w.heap.size w w' := by
  obtain ⟨s, ps, m, ts⟩ := p
  have hb0 := bal' w (Obj.cells #[.int .i64 s, pv, .int .i64 m, tv] 27)
  have hP := PaC.new w s m pv tv 27
  have hp1 := hp.below hb0
  have ht1 := ht.below hb0
  have hR := fun W h => specRunes6_any tv ts 40 W h htl (by decide)
  obtain ⟨pa, pc, rfl, hpc⟩ := hp1.cons
  obtain ⟨ta, tc, rfl⟩ := ht1.shp
  simp only at *
  have hval : ∀ b, b = (decide (1 ≤ s ∧ s ≤ 5) && decide (ps.length ≤ 16) && decide (m = 0 ∨ m = 63) && (decide (ts.length ≤ 40) && runesB ts) && paramsB ps && (decide (s = 3) || decide (ps.length = 0) && decide (m = 0)) && (decide (4 ≤ s) || decide (ts.length = 0))) → Hid (okV ⟨s, ps, m, ts⟩ = b) := fun b h => by
    show _ = _
    rw [h]
    unfold okV
    rw [Bool.eq_iff_iff]
    simp only [Bool.and_eq_true, Bool.or_eq_true, decide_eq_true_eq]
    constructor
    · rintro ⟨⟨⟨a1, a2, a3, a4, a5, a6, a7⟩, a8⟩, a9⟩; exact ⟨⟨⟨⟨⟨⟨⟨a1, a2⟩, a3⟩, a4⟩, a5, a8⟩, a9⟩, a6⟩, a7⟩
    · rintro ⟨⟨⟨⟨⟨⟨⟨a1, a2⟩, a3⟩, a4⟩, a5, a8⟩, a9⟩, a6⟩, a7⟩; exact ⟨⟨⟨a1, a2, a3, a4, a5, a6, a7⟩, a8⟩, a9⟩
  unfold paV at *
  obtain ⟨_, ⟨c0, c1, c2, c3⟩, _⟩ := id hP
  clear hP hp1
  have hR1 := hR _ ht1
  clear hR ht1
  generalize hrt0 : (decide (ts.length ≤ 40) && runesB ts) = rt at *
  by_cases h1 : 1 ≤ s ∧ s ≤ 5
  · obtain ⟨h1a, h1b⟩ := h1
    by_cases h2 : ps.length ≤ 16
    · have h2i : ¬ (16 : Int) < (ps.length : Int) := by omega
      by_cases h3 : m = 0 ∨ m = 63
      · have hm : ∃ x : Bool, (m != 0) = x := ⟨_, rfl⟩
        cases rt
        · have hV := hval false (by simp)
          clear hval hpc
          go_enter Try.func5, Try.ntmps5
          rcases h3 with rfl | rfl
          all_goals
            go_wp2_with (first | (go_at_call 10; refine (l1In_any _ _ _ _).mono ?_; rintro e w' ⟨rfl, rfl⟩) | (go_at_call 11; refine hR1.mono ?_; rintro e w' ⟨rfl, rfl⟩))
            go_ret
            exact ⟨by rw [hV.out]; rfl, hb0⟩
        · have hv2 : ∀ b, b = (paramsB ps && (decide (s = 3) || decide (ps.length = 0) && decide (m = 0)) && (decide (4 ≤ s) || decide (ts.length = 0))) → Hid (okV ⟨s, ps, m, ts⟩ = b) := fun b h => hval b (by rw [h, decide_eq_true (show 1 ≤ s ∧ s ≤ 5 from ⟨h1a, h1b⟩), decide_eq_true h2, decide_eq_true h3]; try simp)
          have hrt : (decide (ts.length ≤ 40) && runesB ts) = true := hrt0.symm ▸ rfl
          rcases h3 with rfl | rfl
          · exact (specParserOk_m0 s ps ts _ _ w hp ht hpl htl h1a h1b h2 hrt).mono fun _ _ ⟨he, hb⟩ => ⟨by rw [he, (hv2 _ rfl).out], hb⟩
          · exact (specParserOk_m63 s ps ts _ _ w hp ht hpl htl h1a h1b h2 hrt).mono fun _ _ ⟨he, hb⟩ => ⟨by rw [he, (hv2 _ rfl).out], hb⟩
      · have hV := hval false (by rw [decide_eq_false h3]; simp)
        have h3a : ¬ m = 0 := fun e => h3 (.inl e)
        have h3b : ¬ m = 63 := fun e => h3 (.inr e)
        clear hval hpc h3
        go_enter Try.func5, Try.ntmps5
        go_wp2_with (go_at_call 10; refine (l1In_any _ _ _ _).mono ?_; rintro e w' ⟨rfl, rfl⟩)
        all_goals go_ret
        exact ⟨by rw [hV.out]; rfl, hb0⟩
    · have h2i : (16 : Int) < (ps.length : Int) := by omega
      have hV := hval false (by rw [decide_eq_false h2]; simp)
      clear hval hpc
      go_enter Try.func5, Try.ntmps5
      go_wp2_with (go_at_call 10; refine (l1In_any _ _ _ _).mono ?_; rintro e w' ⟨rfl, rfl⟩)
      go_ret
      exact ⟨by rw [hV.out]; rfl, hb0⟩
  · have hV := hval false (by rw [decide_eq_false h1]; simp)
    have h1i : Hid ((decide (1 ≤ s ∧ s ≤ 5)) = false) := decide_eq_false h1
    clear hval hpc
    have hin := fun W => l1In_any s 1 5 W
    rw [h1i.out] at hin
    clear h1
    go_enter Try.func5, Try.ntmps5
    go_wp2_with (go_at_call 10; refine (hin _).mono ?_; rintro e w' ⟨rfl, rfl⟩)
    go_ret
    exact ⟨by rw [hV.out]; rfl, hb0⟩
end Go.Proofs.Ythdbiofdicogdaa
namespace Go.Proofs.Ythdbiofdicogdaa
open Go.ChangeShapes Go.WideShapes Go.ChangeAt Go.RowKit
set_option maxHeartbeats 1000000 in
theorem allRunes_any (v : Value) (xs : List Int) (w : World) (hv : SlI w v xs) (hl : xs.length ≤ 1073741824) :
    Calls Try.prog 18 #[v] w fun e w' => e = .returned (.bool (runesB xs)) ∧ w' = w := by
  obtain ⟨a, c, rfl, hc⟩ := hv.cons
  clear hv
  go_enter Try.func18, Try.ntmps18
  go_wp2
  go_loop [4, 7] (fun _ i => ∃ j : Nat, i = .int .i64 j ∧ j ≤ xs.length ∧ Hid (∀ k, k < j → runeOk (xs.getD k 0) = true)) (fun _ i => xs.length - (intOf i).toNat)
  case atStart => exact ⟨0, rfl, Nat.zero_le _, (fun k hk => absurd hk (Nat.not_lt_zero k))⟩
  case round =>
    obtain ⟨j, rfl, hj, hall⟩ := hrel
    by_cases hlt : j < xs.length
    · have hji : (j : Int) < (xs.length : Int) := by omega
      have hj0 : (0 : Int) ≤ (j : Int) := by omega
      obtain ⟨b, off, rfl, hcj⟩ := hc j hlt
      have hno : runeOk (xs.getD j 0) = false → Hid (runesB xs = false) := fun h => runesB_no j hlt h
      have hstep : runeOk (xs.getD j 0) = true → Hid (∀ k, k < j + 1 → runeOk (xs.getD k 0) = true) := fun h => (show ∀ k, k < j + 1 → runeOk (xs.getD k 0) = true from fun k hk => by
        by_cases e : k = j
        · rw [e]; exact h
        · exact hall.out k (by omega))
      have hok := implRuneOk_any (xs.getD j 0) w
      clear hc hall
      generalize xs.getD j 0 = x at *
      generalize runeOk x = ok at *
      go_wp2_with fail
      refine hok.mono ?_
      rintro e w2 ⟨rfl, hw⟩
      subst hw
      clear hok
      cases ok
      · have hV := hno rfl
        clear hno hstep
        go_wp2
        go_ret
        exact ⟨by rw [hV.out]; rfl, rfl⟩
      · have hall2 := hstep rfl
        clear hno hstep
        go_wp2
        go_round
        case rel => exact ⟨j + 1, by go_num, by omega, hall2⟩
        case measure => simp [intOf]; omega
    · have hjn : j = xs.length := by omega
      have hji : ¬ (j : Int) < (xs.length : Int) := by omega
      have hV : Hid (runesB xs = true) := runesB_yes (by rw [← hjn]; exact hall.out)
      clear hc hall
      subst hjn
      go_wp2
      go_ret
      exact ⟨by rw [hV.out]; rfl, rfl⟩
set_option maxHeartbeats 1000000 in
theorem paramsOk_any (v : Value) (xs : List Int) (w : World) (hv : SlI w v xs) (hl : xs.length ≤ 1073741824) :
    Calls Try.prog 13 #[v] w fun e w' => e = .returned (.bool (paramsB xs && decide (xs.length ≤ 16))) ∧ w' = w := by
  obtain ⟨a, c, rfl, hc⟩ := hv.cons
  clear hv
  obtain ⟨rv, hrv⟩ : ∃ rv, Hid (rv = (paramsB xs && decide (xs.length ≤ 16))) := ⟨_, rfl⟩
  rw [← hrv.out]
  go_enter Try.func13, Try.ntmps13
  go_wp2
  go_loop [4, 7] (fun _ i => ∃ j : Nat, i = .int .i64 j ∧ j ≤ xs.length ∧ Hid (∀ k, k < j → 0 ≤ xs.getD k 0 ∧ xs.getD k 0 ≤ 9999)) (fun _ i => xs.length - (intOf i).toNat)
  case atStart => exact ⟨0, rfl, Nat.zero_le _, (fun k hk => absurd hk (Nat.not_lt_zero k))⟩
  case round =>
    obtain ⟨j, rfl, hj, hall⟩ := hrel
    by_cases hlt : j < xs.length
    · have hji : (j : Int) < (xs.length : Int) := by omega
      have hj0 : (0 : Int) ≤ (j : Int) := by omega
      obtain ⟨b, off, rfl, hcj⟩ := hc j hlt
      have hno : ¬ (0 ≤ xs.getD j 0 ∧ xs.getD j 0 ≤ 9999) → Hid (rv = false) := fun h => (show rv = false by rw [hrv.out, paramsB_no j hlt h]; rfl)
      have hstep : (0 ≤ xs.getD j 0 ∧ xs.getD j 0 ≤ 9999) → Hid (∀ k, k < j + 1 → 0 ≤ xs.getD k 0 ∧ xs.getD k 0 ≤ 9999) := fun h => (show ∀ k, k < j + 1 → 0 ≤ xs.getD k 0 ∧ xs.getD k 0 ≤ 9999 from fun k hk => by
        by_cases e : k = j
        · rw [e]; exact h
        · exact hall.out k (by omega))
      clear hc hall
      generalize xs.getD j 0 = x at *
      by_cases h1 : x < 0
      · have hV := hno (by omega)
        clear hno hstep
        go_wp2
        go_ret
        exact ⟨by rw [hV.out]; rfl, rfl⟩
      · by_cases h2 : 9999 < x
        · have hV := hno (by omega)
          clear hno hstep
          go_wp2
          go_ret
          exact ⟨by rw [hV.out]; rfl, rfl⟩
        · have hall2 := hstep (by omega)
          clear hno hstep
          go_wp2
          go_round
          case rel => exact ⟨j + 1, by go_num, by omega, hall2⟩
          case measure => simp [intOf]; omega
    · have hjn : j = xs.length := by omega
      have hji : ¬ (j : Int) < (xs.length : Int) := by omega
      have hV : Hid (rv = decide (xs.length ≤ 16)) := by
        show _ = _
        rw [hrv.out, paramsB_yes (by rw [← hjn]; exact hall.out), Bool.true_and]
      clear hc hall hrv
      subst hjn
      by_cases h3 : xs.length ≤ 16
      · have h3i : (xs.length : Int) ≤ 16 := by omega
        rw [decide_eq_true h3] at hV
        go_wp2
        go_ret
        exact ⟨by rw [hV.out]; simp, rfl⟩
      · have h3i : ¬ (xs.length : Int) ≤ 16 := by omega
        rw [decide_eq_false h3] at hV
        go_wp2
        go_ret
        exact ⟨by rw [hV.out]; simp, rfl⟩
theorem markOk_any (m : Int) (w : World) :
    Calls Try.prog 14 #[.int .i64 m] w fun e w' => e = .returned (.bool (decide (m = 0 ∨ m = 63))) ∧ w' = w := by
  by_cases h : m = 0
  · subst h
    go_enter Try.func14, Try.ntmps14
    go_wp2
    go_ret
    exact ⟨rfl, rfl⟩
  · by_cases h2 : m = 63
    · subst h2
      go_enter Try.func14, Try.ntmps14
      go_wp2
      go_ret
      exact ⟨rfl, rfl⟩
    · have hi : (m == 0) = false := by simp [h]
      have hi2 : (m == 63) = false := by simp [h2]
      have hV : Hid (decide (m = 0 ∨ m = 63) = false) := decide_eq_false (by omega)
      clear h h2
      go_enter Try.func14, Try.ntmps14
      go_wp2
      go_ret
      exact ⟨by rw [hV.out]; rfl, rfl⟩
theorem titleOk_any (v : Value) (xs : List Int) (w : World) (hv : SlI w v xs) (hl : xs.length ≤ 1073741824) :
    Calls Try.prog 15 #[v] w fun e w' => e = .returned (.bool (decide (xs.length ≤ 40) && runesB xs)) ∧ w' = w := by
  have hR := allRunes_any v xs w hv hl
  obtain ⟨a, c, rfl⟩ := hv.shp
  clear hv
  obtain ⟨rv, hrv⟩ : ∃ rv, Hid (rv = (decide (xs.length ≤ 40) && runesB xs)) := ⟨_, rfl⟩
  rw [← hrv.out]
  by_cases h3 : xs.length ≤ 40
  · have h3i : (xs.length : Int) ≤ 40 := by omega
    have hV : Hid (rv = runesB xs) := by show _ = _; rw [hrv.out, decide_eq_true h3, Bool.true_and]
    clear hrv
    generalize runesB xs = q at *
    go_enter Try.func15, Try.ntmps15
    go_wp2_with (go_at_call 18; refine hR.mono ?_; rintro e w' ⟨rfl, rfl⟩)
    go_ret
    exact ⟨by rw [hV.out]; first | rfl | simp, rfl⟩
  · have h3i : ¬ (xs.length : Int) ≤ 40 := by omega
    have hV : Hid (rv = false) := by show _ = _; rw [hrv.out, decide_eq_false h3, Bool.false_and]
    clear hR hrv
    go_enter Try.func15, Try.ntmps15
    go_wp2
    go_ret
    exact ⟨by rw [hV.out]; first | rfl | simp, rfl⟩
set_option maxHeartbeats 4000000 in
set_option maxRecDepth 20000 in
theorem implParserOk_any (p : Pa) (pv tv : Value) (w : World) (hp : SlI w pv p.params) (ht : SlI w tv p.text) (hpl : p.params.length ≤ 1073741824) (htl : p.text.length ≤ 1073741824) :
    Calls Try.prog 7 #[paV p pv tv] w fun e w' => e = .returned (.bool (okV p)) ∧ Below w.heap.size w w' := by
  obtain ⟨s, ps, m, ts⟩ := p
  have hb0 := bal' w (Obj.cells #[.int .i64 s, pv, .int .i64 m, tv] 27)
  have hP := PaC.new w s m pv tv 27
  have hp1 := hp.below hb0
  have ht1 := ht.below hb0
  have hR := titleOk_any tv ts _ ht1 htl
  have hQ := paramsOk_any pv ps _ hp1 hpl
  have hM := fun W => markOk_any m W
  obtain ⟨pa, pc, rfl⟩ := hp1.shp
  obtain ⟨ta, tc, rfl⟩ := ht1.shp
  simp only at *
  obtain ⟨rv, hrv⟩ : ∃ rv, Hid (rv = okV ⟨s, ps, m, ts⟩) := ⟨_, rfl⟩
  rw [← hrv.out]
  have hval : Hid (rv = (decide (1 ≤ s ∧ s ≤ 5) && (paramsB ps && decide (ps.length ≤ 16)) && decide (m = 0 ∨ m = 63) && (decide (ts.length ≤ 40) && runesB ts) && (decide (s = 3) || decide (ps.length = 0) && decide (m = 0)) && (decide (4 ≤ s) || decide (ts.length = 0)))) := by
    show _ = _
    rw [hrv.out]
    unfold okV
    rw [Bool.eq_iff_iff]
    simp only [Bool.and_eq_true, Bool.or_eq_true, decide_eq_true_eq]
    constructor
    · rintro ⟨⟨⟨a1, a2, a3, a4, a5, a6, a7⟩, a8⟩, a9⟩; exact ⟨⟨⟨⟨⟨⟨a1, a2⟩, a9, a3⟩, a4⟩, a5, a8⟩, a6⟩, a7⟩
    · rintro ⟨⟨⟨⟨⟨⟨a1, a2⟩, a9, a3⟩, a4⟩, a5, a8⟩, a6⟩, a7⟩; exact ⟨⟨⟨a1, a2, a3, a4, a5, a6, a7⟩, a8⟩, a9⟩
  have hps0 : ps.length = 0 → (paramsB ps && decide (ps.length ≤ 16)) = true := fun h => by
    rw [List.eq_nil_of_length_eq_zero h]; rfl
  have hts0 : ts.length = 0 → (decide (ts.length ≤ 40) && runesB ts) = true := fun h => by
    rw [List.eq_nil_of_length_eq_zero h]; rfl
  unfold paV
  obtain ⟨_, ⟨c0, c1, c2, c3⟩, _⟩ := id hP
  clear hP hp ht hp1 hrv ht1
  generalize (paramsB ps && decide (ps.length ≤ 16)) = qp at *
  generalize (decide (ts.length ≤ 40) && runesB ts) = qt at *
  generalize hnp : ps.length = np at *
  generalize hnt : ts.length = nt at *
  clear hnp hnt
  have zm : ∀ b, (b = true ↔ m = 0) → True := fun _ _ => trivial
  clear zm
  have hnm : m = 0 → decide (m = 0 ∨ m = 63) = true := fun h => by simp [h]
  generalize hmk : decide (m = 0 ∨ m = 63) = mk at *
  by_cases hs1 : s = 1 ∨ s = 2
  · have e1 : Hid (rv = (decide (np = 0) && decide (m = 0) && decide (nt = 0))) := by
      show _ = _
      rw [hval.out]
      by_cases z1 : np = 0
      · by_cases z2 : m = 0
        · by_cases z3 : nt = 0
          · rw [hps0 z1, hts0 z3, hnm z2]; rcases hs1 with rfl | rfl <;> simp [z1, z2, z3]
          · rcases hs1 with rfl | rfl <;> simp [z3]
        · rcases hs1 with rfl | rfl <;> simp [z2]
      · rcases hs1 with rfl | rfl <;> simp [z1]
    clear hval hps0 hts0 hnm hmk hR hQ hM
    by_cases z1 : np = 0
    · subst z1
      by_cases z2 : m = 0
      · subst z2
        by_cases z3 : nt = 0
        · subst z3
          rcases hs1 with rfl | rfl
          all_goals
            go_enter Try.func7, Try.ntmps7
            go_wp2
            go_ret
            exact ⟨by rw [e1.out]; rfl, hb0⟩
        · have z3i : ((nt : Int) == 0) = false := by simp; omega
          have e2 : Hid (rv = false) := by show _ = _; rw [e1.out]; simp [z3]
          clear e1 z3
          rcases hs1 with rfl | rfl
          all_goals
            go_enter Try.func7, Try.ntmps7
            go_wp2
            go_ret
            exact ⟨by rw [e2.out]; rfl, hb0⟩
      · have z2i : (m == 0) = false := by simp [z2]
        have e2 : Hid (rv = false) := by show _ = _; rw [e1.out]; simp [z2]
        clear e1 z2
        rcases hs1 with rfl | rfl
        all_goals
          go_enter Try.func7, Try.ntmps7
          go_wp2
          go_ret
          exact ⟨by rw [e2.out]; rfl, hb0⟩
    · have z1i : ((np : Int) == 0) = false := by simp; omega
      have e2 : Hid (rv = false) := by show _ = _; rw [e1.out]; simp [z1]
      clear e1 z1
      rcases hs1 with rfl | rfl
      all_goals
        go_enter Try.func7, Try.ntmps7
        go_wp2
        go_ret
        exact ⟨by rw [e2.out]; rfl, hb0⟩
  · by_cases hs3 : s = 3
    · subst hs3
      have e1 : Hid (rv = (qp && mk && decide (nt = 0))) := by
        show _ = _
        rw [hval.out]
        by_cases z3 : nt = 0
        · rw [hts0 z3]; simp [z3]
        · simp [z3]
      clear hval hps0 hts0 hnm hmk hR hs1
      cases qp
      · go_enter Try.func7, Try.ntmps7
        go_wp2_with (go_at_call 13; refine hQ.mono ?_; rintro e w' ⟨rfl, rfl⟩)
        go_ret
        exact ⟨by rw [e1.out]; rfl, hb0⟩
      · cases mk
        · go_enter Try.func7, Try.ntmps7
          go_wp2_with (first | (go_at_call 13; refine hQ.mono ?_; rintro e w' ⟨rfl, rfl⟩) | (go_at_call 14; refine (hM _).mono ?_; rintro e w' ⟨rfl, rfl⟩))
          go_ret
          exact ⟨by rw [e1.out]; rfl, hb0⟩
        · by_cases z3 : nt = 0
          · subst z3
            go_enter Try.func7, Try.ntmps7
            go_wp2_with (first | (go_at_call 13; refine hQ.mono ?_; rintro e w' ⟨rfl, rfl⟩) | (go_at_call 14; refine (hM _).mono ?_; rintro e w' ⟨rfl, rfl⟩))
            go_ret
            exact ⟨by rw [e1.out]; rfl, hb0⟩
          · have z3i : ((nt : Int) == 0) = false := by simp; omega
            have e2 : Hid (rv = false) := by show _ = _; rw [e1.out]; simp [z3]
            clear e1 z3
            go_enter Try.func7, Try.ntmps7
            go_wp2_with (first | (go_at_call 13; refine hQ.mono ?_; rintro e w' ⟨rfl, rfl⟩) | (go_at_call 14; refine (hM _).mono ?_; rintro e w' ⟨rfl, rfl⟩))
            go_ret
            exact ⟨by rw [e2.out]; rfl, hb0⟩
    · by_cases hs4 : s = 4 ∨ s = 5
      · have e1 : Hid (rv = (decide (np = 0) && decide (m = 0) && qt)) := by
          show _ = _
          rw [hval.out]
          by_cases z1 : np = 0
          · by_cases z2 : m = 0
            · rw [hps0 z1, hnm z2]; rcases hs4 with rfl | rfl <;> simp [z1, z2]
            · rcases hs4 with rfl | rfl <;> simp [z2]
          · rcases hs4 with rfl | rfl <;> simp [z1]
        clear hval hps0 hts0 hnm hmk hQ hM hs1 hs3
        by_cases z1 : np = 0
        · subst z1
          by_cases z2 : m = 0
          · subst z2
            rcases hs4 with rfl | rfl
            all_goals
              go_enter Try.func7, Try.ntmps7
              go_wp2_with (go_at_call 15; refine hR.mono ?_; rintro e w' ⟨rfl, rfl⟩)
              go_ret
              exact ⟨by rw [e1.out]; rfl, hb0⟩
          · have z2i : (m == 0) = false := by simp [z2]
            have e2 : Hid (rv = false) := by show _ = _; rw [e1.out]; simp [z2]
            clear e1 z2 hR
            rcases hs4 with rfl | rfl
            all_goals
              go_enter Try.func7, Try.ntmps7
              go_wp2
              go_ret
              exact ⟨by rw [e2.out]; rfl, hb0⟩
        · have z1i : ((np : Int) == 0) = false := by simp; omega
          have e2 : Hid (rv = false) := by show _ = _; rw [e1.out]; simp [z1]
          clear e1 z1 hR
          rcases hs4 with rfl | rfl
          all_goals
            go_enter Try.func7, Try.ntmps7
            go_wp2
            go_ret
            exact ⟨by rw [e2.out]; rfl, hb0⟩
      · have e1 : Hid (rv = false) := by
          show _ = _
          rw [hval.out, decide_eq_false (by omega)]; simp
        have i1 : (s == 1) = false := by simp; omega
        have i2 : (s == 2) = false := by simp; omega
        have i3 : (s == 3) = false := by simp; omega
        have i4 : (s == 4) = false := by simp; omega
        have i5 : (s == 5) = false := by simp; omega
        clear hval hps0 hts0 hnm hmk hR hQ hM hs1 hs3 hs4
        go_enter Try.func7, Try.ntmps7
        go_wp2
        go_ret
        exact ⟨by rw [e1.out]; rfl, hb0⟩
end Go.Proofs.Ythdbiofdicogdaa
namespace Go.Proofs.Ythdbiofdicogdaa
open Go.ChangeShapes Go.WideShapes Go.ChangeAt Go.RowKit
/-- A slice that can be read and cut at its head. -/
def SlL (w : World) (v : Value) (xs : List Int) : Prop :=
  ∃ a c, v = .slice a xs.length c ∧ xs.length ≤ c ∧ (xs = [] ∨ ∃ b off, a = some ⟨b, off, none⟩ ∧ b < w.heap.size ∧ ∀ i, i < xs.length → w.cell? ⟨b, off + i, none⟩ = some (.int .i64 (xs.getD i 0)))
theorem SlL.sl {w : World} {v : Value} {xs : List Int} (h : SlL w v xs) : SlI w v xs := by
  obtain ⟨a, c, hv, _, hr⟩ := h
  exact ⟨a, c, hv, hr⟩
theorem SlL.below {w w' : World} {v : Value} {xs : List Int} (h : SlL w v xs) (hb : Below w.heap.size w w') : SlL w' v xs := by
  obtain ⟨a, c, hv, hc0, h | ⟨b, off, ha, hlt, hc⟩⟩ := h
  · exact ⟨a, c, hv, hc0, .inl h⟩
  · exact ⟨a, c, hv, hc0, .inr ⟨b, off, ha, Nat.lt_of_lt_of_le hlt hb.size, fun i hi => (hb.cell (p := ⟨b, off + i, none⟩) hlt).trans (hc i hi)⟩⟩
theorem SlL.of_own {w : World} {base : Nat} {v : Value} {xs : List Int} (h : OwnI w base v xs) : SlL w v xs := by
  rcases h.2 with ⟨rfl, h2⟩ | ⟨g, cap, cur, rfl, hb, hg, hn, hr⟩
  · exact ⟨none, 0, by rw [h2], by omega, .inl (List.eq_nil_of_length_eq_zero h2)⟩
  · refine ⟨_, cap, rfl, hn, .inr ⟨g, 0, rfl, (Array.getElem?_eq_some_iff.1 hg).1, fun i hi => ?_⟩⟩
    have := World.ownsRow.cellAt h i (by omega)
    rw [Nat.zero_add, this]
    simp [hi]
theorem SlL.tail {w : World} {a : Option Addr} {n c : Nat} {r : Int} {xs : List Int} (h : SlL w (.slice a n c) (r :: xs)) :
    ∃ b off, a = some ⟨b, off, none⟩ ∧ b < w.heap.size ∧ n = xs.length + 1 ∧ n ≤ c ∧ w.cell? ⟨b, off + 0, none⟩ = some (.int .i64 r) ∧ ∀ a' c', xs.length ≤ c' → (0 < xs.length → a' = some ⟨b, off + 1, none⟩) → SlL w (.slice a' xs.length c') xs := by
  obtain ⟨a0, c0, hv, hc0, h | ⟨b, off, ha, hlt, hc⟩⟩ := h
  · cases h
  · simp only [Value.slice.injEq] at hv
    obtain ⟨rfl, rfl, rfl⟩ := hv
    refine ⟨b, off, ha, hlt, rfl, hc0, by simpa using hc 0 (by simp), fun a' c' h1 h2 => ⟨a', c', rfl, h1, ?_⟩⟩
    by_cases h0 : xs = []
    · exact .inl h0
    · refine .inr ⟨b, off + 1, h2 (List.length_pos_iff.2 h0), hlt, fun i hi => ?_⟩
      have := hc (i + 1) (by simp; omega)
      rw [show off + 1 + i = off + (i + 1) by omega, this]
      simp
end Go.Proofs.Ythdbiofdicogdaa
namespace Go.Proofs.Ythdbiofdicogdaa
open Go.ChangeShapes Go.WideShapes Go.ChangeAt Go.RowKit
theorem info_i64 : (Try.prog.info? 2).map (fun i => (i.zero, i.size, i.bytes)) = some (some (.int .i64 0), 1, 8) := by kernel_rfl
set_option maxHeartbeats 400000 in
theorem toI_copy (v : Value) (xs : List Int) (w : World) (hv : SlI w v xs) (hl : xs.length ≤ 1073741824) :
    Calls Try.prog 12 #[v] w fun e w' => ∃ u, e = .returned u ∧ w'.ownsRow w.heap.size 2 1 u xs.length (xs.map (Value.int .i64)) ∧ Below w.heap.size w w' := by
  obtain ⟨i0, hi, hz0, hz1, hz2⟩ := info_parts info_i64
  obtain ⟨a, c, rfl, hc⟩ := hv
  generalize hn : xs.length = n at *
  go_enter Try.func12, Try.ntmps12
  go_wp2_with (refine wpList_make_full _ rfl _ _ 22 rfl w.heap.size 2 i0 (.int .i64 0) 1 Try.underlying22 hi hz0 hz1 .i64 .i64 (n : Int) (n : Int) n rfl rfl rfl rfl ?c1 ?c2 ?c3 ?_)
  case c1 => rw [hz2]; omega
  case c2 => unfold maxLen; omega
  case c3 => exact Nat.le_refl _
  intro w1 ho hg
  have hb1 : Below w.heap.size w w1 := (Below.refl _ _).grown hg (Nat.le_refl _) (fun k hk => by cases hk)
  clear hg
  go_wp2
  go_loopw [4] (fun i wr => ∃ (j : Nat) (ys : List Value), j ≤ n ∧ i = .int .i64 j ∧ wr.ownsRow w.heap.size 2 1 (.slice (some ⟨w.heap.size, 0, none⟩) n n) n ys ∧ ys.length = n ∧ (∀ t, t < j → ys[t]? = some (.int .i64 (xs.getD t 0))) ∧ Below w.heap.size w wr) (fun i _ => n - (intOf i).toNat)
  case atStart => exact ⟨0, _, Nat.zero_le _, rfl, ho, by simpa using ho.1, by simp, hb1⟩
  case round =>
    obtain ⟨j, ys, hj, rfl, ho, hyl, hys, hbel⟩ := hrel
    by_cases hlt : j < n
    · rcases hc with hc | ⟨b, off, rfl, hb, hc⟩
      · rw [hc] at hn; simp at hn; omega
      · have h0 : wr.cell? ⟨b, off + j, none⟩ = some (.int .i64 (xs.getD j 0)) := (hbel.cell (p := ⟨b, off + j, none⟩) hb).trans (hc j hlt)
        have h1 : ∃ u, wr.cell? ⟨w.heap.size, j, none⟩ = some u := by
          rw [ho.cellAt j (by omega)]; exact ⟨_, List.getElem?_eq_getElem (by omega)⟩
        obtain ⟨u, h1⟩ := h1
        have h2 := ho.frozenAt j
        obtain ⟨hst1, hst2⟩ := ho.stored j (.int .i64 (xs.getD j 0))
        have hy2 : ∀ t, t < j + 1 → (ys.set j (.int .i64 (xs.getD j 0)))[t]? = some (.int .i64 (xs.getD t 0)) := by
          intro t ht
          by_cases e : t = j
          · subst e; rw [List.getElem?_set_self (by omega)]
          · rw [List.getElem?_set_ne (by omega)]; exact hys t (by omega)
        clear ho hc hys
        generalize xs.getD j 0 = x at *
        have hbs := hbel.size
        go_wp2
        go_roundw
        case rel =>
          exact ⟨j + 1, ys.set j (.int .i64 x), by omega, by go_num, hst1, by simpa using hyl, hy2, hbel.grown hst2 hbs (fun k hk => by cases hk; exact Nat.le_refl _)⟩
        case measure => simp [intOf]; omega
    · have hjn : j = n := by omega
      subst hjn
      have hye : ys = xs.map (Value.int .i64) := by
        apply List.ext_getElem?
        intro i
        by_cases hi : i < j
        · rw [hys i hi]; simp [show i < xs.length by omega]
        · rw [List.getElem?_eq_none (by omega), List.getElem?_eq_none (by simp; omega)]
      go_wp2
      go_ret
      exact ⟨_, rfl, by rw [← hye]; exact ho, hbel⟩
end Go.Proofs.Ythdbiofdicogdaa
namespace Go.Proofs.Ythdbiofdicogdaa
open Go.ChangeShapes Go.WideShapes Go.ChangeAt Go.RowKit
def Runes6 (l : List Int) : Prop := ∀ x ∈ l, runeOk x = true
theorem Runes6.tail {l : List Int} (h : Runes6 l) : Runes6 l.tail := fun x hx => h x (List.mem_of_mem_tail hx)
theorem Runes6.head {r : Int} {l : List Int} (h : Runes6 (r :: l)) : 0 ≤ r ∧ r ≤ 1114111 := runeOk_bd r (h r (List.mem_cons_self))
def acs (X : List Ax) : List Ac := X.map (·.a)
/-- The rune that comes next, of which nothing is done yet. -/
def NextR (p q : Pa) (l l' : List Int) (X X' : List Ax) (r : Int) : Prop :=
  (r = -1 ∧ l' = [] ∧ Fin p l (acs X) = Fin q [] (acs X')) ∨ (0 ≤ r ∧ runeOk r = true ∧ l'.length < l.length ∧ Fin p l (acs X) = Fin q (r :: l') (acs X'))
def Room (l l' : List Int) (X X' : List Ax) (r : Int) : Prop := (r = -1 → X'.length + l'.length ≤ X.length + l.length) ∧ (r ≠ -1 → X'.length + l'.length < X.length + l.length) ∧ Runes6 l'
theorem NextR.more {p q : Pa} {l l' : List Int} {X X' : List Ax} {r : Int} (h : NextR p q l l' X X' r) (hr : r ≠ -1) : 0 ≤ r ∧ runeOk r = true ∧ l'.length < l.length ∧ Fin p l (acs X) = Fin q (r :: l') (acs X') := by
  rcases h with ⟨h, _⟩ | h
  · exact absurd h hr
  · exact h
theorem NextR.trans {p q q2 : Pa} {l l' l2 : List Int} {X X' X2 : List Ax} {r r2 : Int} (h : NextR p q l l' X X' r) (hR : Room l l' X X' r) (h1 : r ≠ -1) {Y : List Ax} (hs : (stepM q r).1 = q2) (ha : acs Y = acs X' ++ (stepM q r).2) (hY : Y.length ≤ X'.length + 1) {q3 : Pa}
    (k : NextR q2 q3 l' l2 Y X2 r2) (kR : Room l' l2 Y X2 r2) : NextR p q3 l l2 X X2 r2 ∧ Room l l2 X X2 r2 := by
  obtain ⟨h0, hk, hlt, he⟩ := h.more h1
  rw [Fin_cons, hs, ← ha] at he
  obtain ⟨_, hR2, hR3⟩ := hR
  have hR2 := hR2 h1
  obtain ⟨k1, k2, k3⟩ := kR
  refine ⟨?_, fun e => by have := k1 e; omega, fun e => by have := k2 e; omega, k3⟩
  rcases k with ⟨a, b, c⟩ | ⟨a, b, c, d⟩
  · exact .inl ⟨a, b, he.trans c⟩
  · exact .inr ⟨a, b, by omega, he.trans d⟩
end Go.Proofs.Ythdbiofdicogdaa
namespace Go.Proofs.Ythdbiofdicogdaa
open Go.ChangeShapes Go.WideShapes Go.ChangeAt Go.RowKit
/-- A slice whose cells hold these values, one a place: what append takes its news from. -/
def ReadsRow (w : World) (u : Value) (news : List Value) : Prop :=
  (u = .slice none 0 0 ∧ news = []) ∨ ∃ ad c, u = .slice (some ad) news.length c ∧ ∀ j x, news[j]? = some x → w.cell? (ad.add j) = some x
theorem ReadsRow.of_own {w : World} {base : Nat} {e : TypeId} {v : Value} {n : Nat} {xs : List Value} (h : w.ownsRow base e 1 v n xs) : ReadsRow w v xs := by
  have hl : xs.length = n := by simpa using h.1
  rcases h.2 with ⟨rfl, rfl⟩ | ⟨g, cap, cur, hv, _⟩
  · exact .inl ⟨rfl, List.eq_nil_of_length_eq_zero hl⟩
  · exact .inr ⟨⟨g, 0, none⟩, cap, by rw [hv, hl], h.cells (by rw [hv]; rfl)⟩
theorem ReadsRow.below {w w' : World} {u : Value} {news : List Value} (h : ReadsRow w u news) (hb : Below w.heap.size w w') : ReadsRow w' u news := by
  rcases h with h | ⟨ad, c, hu, hc⟩
  · exact .inl h
  · refine .inr ⟨ad, c, hu, fun j x hx => ?_⟩
    have h1 := hc j x hx
    exact (hb.cell (World.block_lt_of_cell? w _ h1)).trans h1
end Go.Proofs.Ythdbiofdicogdaa
namespace Go.Proofs.Ythdbiofdicogdaa
open Go.ChangeShapes Go.WideShapes Go.ChangeAt Go.RowKit
/-- A slice that can be read, cut and copied. -/
def SlN (w : World) (v : Value) (xs : List Int) : Prop :=
  ∃ a c, v = .slice a xs.length c ∧ xs.length ≤ c ∧ (a = none → c = 0) ∧ (xs = [] ∨ ∃ b off, a = some ⟨b, off, none⟩ ∧ b < w.heap.size ∧ ∀ i, i < xs.length → w.cell? ⟨b, off + i, none⟩ = some (.int .i64 (xs.getD i 0)))
theorem SlN.l {w : World} {v : Value} {xs : List Int} (h : SlN w v xs) : SlL w v xs := by
  obtain ⟨a, c, hv, hc, _, hr⟩ := h
  exact ⟨a, c, hv, hc, hr⟩
theorem SlN.below {w w' : World} {v : Value} {xs : List Int} (h : SlN w v xs) (hb : Below w.heap.size w w') : SlN w' v xs := by
  obtain ⟨a, c, hv, hc0, hn, h | ⟨b, off, ha, hlt, hc⟩⟩ := h
  · exact ⟨a, c, hv, hc0, hn, .inl h⟩
  · exact ⟨a, c, hv, hc0, hn, .inr ⟨b, off, ha, Nat.lt_of_lt_of_le hlt hb.size, fun i hi => (hb.cell (p := ⟨b, off + i, none⟩) hlt).trans (hc i hi)⟩⟩
theorem SlN.of_own {w : World} {base : Nat} {v : Value} {xs : List Int} (h : OwnI w base v xs) : SlN w v xs := by
  rcases h.2 with ⟨rfl, h2⟩ | ⟨g, cap, cur, rfl, hb, hg, hn, hr⟩
  · exact ⟨none, 0, by rw [h2], by omega, fun _ => rfl, .inl (List.eq_nil_of_length_eq_zero h2)⟩
  · refine ⟨_, cap, rfl, hn, (fun e => by cases e), .inr ⟨g, 0, rfl, (Array.getElem?_eq_some_iff.1 hg).1, fun i hi => ?_⟩⟩
    have := World.ownsRow.cellAt h i (by omega)
    rw [Nat.zero_add, this]
    simp [hi]
theorem SlN.shp {w : World} {v : Value} {xs : List Int} (h : SlN w v xs) : ∃ a c, v = .slice a xs.length c := h.l.sl.shp
/-- Four cells of a parser are written. -/
def putP (w : World) (B : Nat) (s : Int) (pv : Value) (m : Int) (tv : Value) : World := (((w.setCell ⟨B, 0, none⟩ (.int .i64 s)).setCell ⟨B, 1, none⟩ pv).setCell ⟨B, 2, none⟩ (.int .i64 m)).setCell ⟨B, 3, none⟩ tv
theorem putP_grown (w : World) (B : Nat) (s : Int) (pv : Value) (m : Int) (tv : Value) : w.grownBy (putP w B s pv m tv) (some B) :=
  grown_tr (grown_tr (grown_tr (setCell_gr w B 0 _) (setCell_gr _ B 1 _)) (setCell_gr _ B 2 _)) (setCell_gr _ B 3 _)
theorem PaC.put {w : World} {B : Nat} {s m : Int} {pv tv : Value} (h : PaC w B s pv m tv) (s' m' : Int) (pv' tv' : Value) : PaC (putP w B s' pv' m' tv') B s' pv' m' tv' := by
  obtain ⟨hlt, ⟨c0, c1, c2, c3⟩, ⟨z0, z1, z2, z3⟩⟩ := h
  refine ⟨by simpa [putP] using hlt, ⟨?_, ?_, ?_, ?_⟩, ⟨?_, ?_, ?_, ?_⟩⟩
  all_goals simp only [putP]
  · simp [go_sem, c0]
  · simp [go_sem, c1]
  · simp [go_sem, c2]
  · simp [go_sem, c3]
  all_goals simp [go_sem, z0, z1, z2, z3]
end Go.Proofs.Ythdbiofdicogdaa
namespace Go.Proofs.Ythdbiofdicogdaa
open Go.ChangeShapes Go.WideShapes Go.ChangeAt Go.RowKit
/-- A parser's block, whole. -/
def PbB (w : World) (B : Nat) (s : Int) (pv : Value) (m : Int) (tv : Value) : Prop := w.heap[B]? = some (.cells #[.int .i64 s, pv, .int .i64 m, tv] 27 (0, 0))
theorem PbB.lt {w : World} {B : Nat} {s m : Int} {pv tv : Value} (h : PbB w B s pv m tv) : B < w.heap.size := (Array.getElem?_eq_some_iff.1 h).1
theorem PbB.cells {w : World} {B : Nat} {s m : Int} {pv tv : Value} (h : PbB w B s pv m tv) :
    w.cell? ⟨B, 0, none⟩ = some (.int .i64 s) ∧ w.cell? ⟨B, 1, none⟩ = some pv ∧ w.cell? ⟨B, 2, none⟩ = some (.int .i64 m) ∧ w.cell? ⟨B, 3, none⟩ = some tv := by
  refine ⟨?_, ?_, ?_, ?_⟩ <;> (rw [cell_of_row w B _ _ _ (0, 0) h]; rfl)
theorem PbB.frozen {w : World} {B : Nat} {s m : Int} {pv tv : Value} (h : PbB w B s pv m tv) : w.frozen? ⟨B, 0, none⟩ = false ∧ w.frozen? ⟨B, 1, none⟩ = false ∧ w.frozen? ⟨B, 2, none⟩ = false ∧ w.frozen? ⟨B, 3, none⟩ = false :=
  ⟨frozen_of_row w B 0 _ _ h, frozen_of_row w B 1 _ _ h, frozen_of_row w B 2 _ _ h, frozen_of_row w B 3 _ _ h⟩
theorem PbB.set {w : World} {B : Nat} {s m : Int} {pv tv : Value} (h : PbB w B s pv m tv) (j : Nat) (u : Value) : (w.setCell ⟨B, j, none⟩ u).heap[B]? = some (.cells ((#[.int .i64 s, pv, .int .i64 m, tv] : Array Value).setIfInBounds j u) 27 (0, 0)) := heap_setCell_same w B j _ _ u h
theorem PbB.put {w : World} {B : Nat} {s m : Int} {pv tv : Value} (h : PbB w B s pv m tv) (s' m' : Int) (pv' tv' : Value) : PbB (putP w B s' pv' m' tv') B s' pv' m' tv' := by
  have k0 : PbB (w.setCell ⟨B, 0, none⟩ (.int .i64 s')) B s' pv m tv := h.set 0 _
  have k1 : PbB _ B s' pv' m tv := k0.set 1 _
  have k2 : PbB _ B s' pv' m' tv := k1.set 2 _
  exact k2.set 3 _
theorem PbB.kept {w w' : World} {B : Nat} {s m : Int} {pv tv : Value} {row : Option Nat} (h : PbB w B s pv m tv) (hg : w.grownBy w' row) (hne : row ≠ some B) : PbB w' B s pv m tv := by
  unfold PbB
  rw [hg.block B h.lt (Ne.symm hne)]
  exact h
theorem PbB.below {w w' : World} {B : Nat} {s m : Int} {pv tv : Value} (h : PbB w B s pv m tv) (hb : Below w.heap.size w w') : PbB w' B s pv m tv := h.kept (gbl hb none) (by simp)
theorem PbB.new (w : World) (s m : Int) (pv tv : Value) : PbB (w.alloc (.cells #[.int .i64 s, pv, .int .i64 m, tv] 27)) w.heap.size s pv m tv := heap_alloc_new w _
end Go.Proofs.Ythdbiofdicogdaa
namespace Go.Proofs.Ythdbiofdicogdaa
open Go.ChangeShapes Go.WideShapes Go.ChangeAt Go.RowKit
set_option maxHeartbeats 400000 in
theorem eqI_same (va vb : Value) (xs : List Int) (w : World) (ha : SlI w va xs) (hb : SlI w vb xs) (hl : xs.length ≤ 1073741824) :
    Calls Try.prog 16 #[va, vb] w fun e w' => e = .returned (.bool true) ∧ ∃ n, w' = w.drewN n := by
  by_cases h0 : xs = []
  · subst h0
    obtain ⟨a, c, rfl, _⟩ := ha
    obtain ⟨a', c', rfl, _⟩ := hb
    go_enter Try.func16, Try.ntmps16
    go_wp2
    refine wp_loop_rounds 1 ?_
    rw [rounds_succ]
    go_wp2
    go_ret
    exact ⟨rfl, 0, rfl⟩
  · obtain ⟨_, c, rfl, e | ⟨b, off, rfl, _, hca⟩⟩ := ha
    · exact absurd e h0
    · obtain ⟨_, c', rfl, e | ⟨b', off', rfl, _, hcb⟩⟩ := hb
      · exact absurd e h0
      · generalize hn : xs.length = n at *
        clear h0 hn
        go_enter Try.func16, Try.ntmps16
        go_wp2
        go_loopw [5] (fun i wr => ∃ k : Nat, k ≤ n ∧ i = .int .i64 k ∧ ∃ m, wr = w.drewN m) (fun i _ => n - (intOf i).toNat)
        case atStart => exact ⟨0, Nat.zero_le _, rfl, 0, rfl⟩
        case round =>
          obtain ⟨k, hk, rfl, m, rfl⟩ := hrel
          by_cases hlt : k < n
          · have h1 : w.cell? ⟨b, off + k, none⟩ = some (.int .i64 (xs.getD k 0)) := hca k hlt
            have h2 : w.cell? ⟨b', off' + k, none⟩ = some (.int .i64 (xs.getD k 0)) := hcb k hlt
            have hi : (k : Int) < (n : Int) := by omega
            generalize xs.getD k 0 = x at *
            clear hca hcb
            go_wp2
            go_quiet (fail)
            go_wp2
            go_roundw
            case rel => exact ⟨k + 1, by omega, by go_num, m + nq, by simp⟩
            case measure => simp [intOf]; omega
          · go_wp2
            go_ret
            exact ⟨rfl, m, rfl⟩

end Go.Proofs.Ythdbiofdicogdaa
namespace Go.Proofs.Ythdbiofdicogdaa
open Go.ChangeShapes Go.WideShapes Go.ChangeAt Go.RowKit
theorem szI_any (v : Value) (xs : List Int) (left : Nat) (w : World) (hv : SlI w v xs) (hl : xs.length ≤ maxLen) (hf : left ≤ 4611686018427387904) :
    Calls Try.prog 9 #[v, .int .i64 left] w fun e w' => e = .returned (.int .i64 (if left < xs.length then -1 else ((left - xs.length : Nat) : Int))) ∧ w' = w := by
  unfold maxLen at hl
  obtain ⟨a, c, rfl⟩ := hv.shp
  clear hv
  generalize xs.length = n at *
  by_cases h : left < n
  · have h2 : (left : Int) - (n : Int) < 0 := by omega
    rw [if_pos h]
    go_enter Try.func9, Try.ntmps9
    go_wp2
    go_ret
    exact ⟨rfl, rfl⟩
  · have h2 : ¬ (left : Int) - (n : Int) < 0 := by omega
    have h3 : Hid (((left - n : Nat) : Int) = (left : Int) - (n : Int)) := by show _ = _; omega
    rw [if_neg h]
    go_enter Try.func9, Try.ntmps9
    go_wp2
    go_ret
    exact ⟨by rw [h3.out]; rfl, rfl⟩
def szP (n m left : Nat) : Int := if left < n then -1 else if left - n < m then -1 else ((left - n - m : Nat) : Int)
set_option maxHeartbeats 1000000 in
theorem szParser_any (p : Pa) (pv tv : Value) (left : Nat) (w : World) (hp : SlI w pv p.params) (ht : SlI w tv p.text) (hpl : p.params.length ≤ maxLen) (htl : p.text.length ≤ maxLen) (hf : left ≤ 4611686018427387904) :
    Calls Try.prog 4 #[paV p pv tv, .int .i64 left] w fun e w' => e = .returned (.int .i64 (szP p.params.length p.text.length left)) ∧ Below w.heap.size w w' := by
  obtain ⟨s, ps, m, ts⟩ := p
  have hb := bal' w (Obj.cells #[.int .i64 s, pv, .int .i64 m, tv] 24)
  have hP := PaC.new w s m pv tv 24
  have h1 := szI_any pv ps left _ (hp.below hb) hpl hf
  have h2 := fun l h => szI_any tv ts l _ (ht.below hb) htl h
  unfold paV at *
  simp only at *
  obtain ⟨pa, pc, hpv⟩ := hp.shp
  obtain ⟨ta, tc, htv⟩ := ht.shp
  subst hpv; subst htv
  obtain ⟨_, ⟨c0, c1, c2, c3⟩, _⟩ := id hP
  obtain ⟨rv, hrv⟩ : ∃ rv, Hid (rv = szP ps.length ts.length left) := ⟨_, rfl⟩
  rw [← hrv.out]
  by_cases q1 : left < ps.length
  · have hv : Hid (rv = -1) := by show _ = _; rw [hrv.out]; unfold szP; rw [if_pos q1]
    rw [if_pos q1] at h1
    clear h2 hp ht hP hrv
    go_enter Try.func4, Try.ntmps4
    go_wp2_with (go_at_call 9; refine h1.mono ?_; rintro e w' ⟨rfl, rfl⟩)
    go_ret
    exact ⟨by rw [hv.out]; rfl, hb⟩
  · rw [if_neg q1] at h1
    have h3 := h2 (left - ps.length) (by omega)
    have hn : ¬ (((left - ps.length : Nat) : Int) < 0) := by omega
    obtain ⟨l2, hl2⟩ : ∃ l2, Hid (l2 = left - ps.length) := ⟨_, rfl⟩
    rw [← hl2.out] at h1 h3 hn
    by_cases q2 : l2 < ts.length
    · have hv : Hid (rv = -1) := by show _ = _; rw [hrv.out]; unfold szP; rw [if_neg q1, if_pos (by rw [← hl2.out]; exact q2)]
      rw [if_pos q2] at h3
      clear h2 hp ht hP hrv hl2
      go_enter Try.func4, Try.ntmps4
      go_wp2_with fail
      refine h1.mono ?_
      rintro e w3 ⟨rfl, hw⟩
      subst hw
      clear h1
      go_wp2_with fail
      refine h3.mono ?_
      rintro e w4 ⟨rfl, hw⟩
      subst hw
      clear h3
      go_wp2
      go_ret
      exact ⟨by rw [hv.out]; rfl, hb⟩
    · obtain ⟨l3, hl3⟩ : ∃ l3, Hid (l3 = l2 - ts.length) := ⟨_, rfl⟩
      have hv : Hid (rv = (l3 : Int)) := by show _ = _; rw [hrv.out, hl3.out, hl2.out]; unfold szP; rw [if_neg q1, if_neg (by rw [← hl2.out]; exact q2)]
      rw [if_neg q2, ← hl3.out] at h3
      have hn3 : ¬ ((l3 : Int) < 0) := by omega
      clear h2 hp ht hP hrv hl2 hl3
      go_enter Try.func4, Try.ntmps4
      go_wp2_with fail
      refine h1.mono ?_
      rintro e w3 ⟨rfl, hw⟩
      subst hw
      clear h1
      go_wp2_with fail
      refine h3.mono ?_
      rintro e w4 ⟨rfl, hw⟩
      subst hw
      clear h3
      go_wp2
      go_ret
      exact ⟨by rw [hv.out]; rfl, hb⟩
theorem drewN_bel (w : World) (n : Nat) : Below w.heap.size w (w.drewN n) := by
  induction n with
  | zero => exact Below.refl _ _
  | succ n ih => exact ih.trans ((bdr _).mono ih.size)
set_option maxHeartbeats 2000000 in
theorem eqParser_same (p : Pa) (pv tv pv2 tv2 : Value) (w : World) (hp : SlI w pv p.params) (ht : SlI w tv p.text) (hp2 : SlI w pv2 p.params) (ht2 : SlI w tv2 p.text) (hpl : p.params.length ≤ 1073741824) (htl : p.text.length ≤ 1073741824) :
    Calls Try.prog 8 #[paV p pv tv, paV p pv2 tv2] w fun e w' => e = .returned (.bool true) ∧ Below w.heap.size w w' := by
  obtain ⟨s, ps, m, ts⟩ := p
  have hb1 := bal' w (Obj.cells #[.int .i64 s, pv, .int .i64 m, tv] 27)
  have hb2 := bal' (w.alloc (Obj.cells #[.int .i64 s, pv, .int .i64 m, tv] 27)) (Obj.cells #[.int .i64 s, pv2, .int .i64 m, tv2] 27)
  have hbb := hb1.trans (hb2.mono hb1.size)
  have hP := (PaC.new w s m pv tv 27).below hb2
  have hR := PaC.new (w.alloc (Obj.cells #[.int .i64 s, pv, .int .i64 m, tv] 27)) s m pv2 tv2 27
  rw [show (w.alloc (Obj.cells #[.int .i64 s, pv, .int .i64 m, tv] 27)).heap.size = w.heap.size + 1 by simp] at hR
  have e1 := eqI_same pv pv2 ps _ (hp.below hbb) (hp2.below hbb) hpl
  have e2 := fun W h1 h2 => eqI_same tv tv2 ts W h1 h2 htl
  have ht3 := ht.below hbb
  have ht4 := ht2.below hbb
  unfold paV at *
  simp only at *
  obtain ⟨pa, pc, hpv⟩ := hp.shp
  obtain ⟨ta, tc, htv⟩ := ht.shp
  obtain ⟨pa2, pc2, hpv2⟩ := hp2.shp
  obtain ⟨ta2, tc2, htv2⟩ := ht2.shp
  subst hpv; subst htv; subst hpv2; subst htv2
  obtain ⟨_, ⟨c0, c1, c2, c3⟩, _⟩ := id hP
  obtain ⟨_, ⟨d0, d1, d2, d3⟩, _⟩ := id hR
  clear hp ht hp2 ht2 hb1 hb2
  go_enter Try.func8, Try.ntmps8
  go_wp2_with fail
  refine e1.mono ?_
  rintro e w3 ⟨rfl, n, hw⟩
  have hbn : Below _ _ w3 := hw ▸ drewN_bel _ n
  have hP3 := hP.below hbn
  have hR3 := hR.below hbn
  have e3 := e2 w3 (ht3.below hbn) (ht4.below hbn)
  have hb3 := hbb.trans (hbn.mono hbb.size)
  clear hw hbn hP hR e1 e2 ht3 ht4 hbb c0 c1 c2 c3 d0 d1 d2 d3
  obtain ⟨_, ⟨c0, c1, c2, c3⟩, _⟩ := hP3
  obtain ⟨_, ⟨d0, d1, d2, d3⟩, _⟩ := hR3
  go_wp2_with fail
  refine e3.mono ?_
  rintro e w4 ⟨rfl, n2, hw⟩
  have hbn : Below w3.heap.size w3 w4 := hw ▸ drewN_bel _ n2
  have hb4 := hb3.trans (hbn.mono hb3.size)
  clear hw hbn e3 hb3 c0 c1 c2 c3 d0 d1 d2 d3
  go_wp2
  go_ret
  exact ⟨rfl, hb4⟩
set_option maxHeartbeats 4000000 in
set_option maxRecDepth 20000 in
theorem toParser_copy (p : Pa) (pv tv : Value) (w : World) (hp : SlI w pv p.params) (ht : SlI w tv p.text) (hpl : p.params.length ≤ 1073741824) (htl : p.text.length ≤ 1073741824) :
    Calls Try.prog 6 #[paV p pv tv] w fun e w' => ∃ pv' tv', e = .returned (paV p pv' tv') ∧ LiOk w' w.heap.size [(pv', p.params), (tv', p.text)] ∧ Below w.heap.size w w' := by
  obtain ⟨s, ps, m, ts⟩ := p
  have hto1 := fun W h => toI_copy pv ps W h hpl
  have hto2 := fun W h => toI_copy tv ts W h htl
  unfold paV at *
  simp only at *
  obtain ⟨pa, pc, hpv⟩ := hp.shp
  obtain ⟨ta, tc, htv⟩ := ht.shp
  subst hpv; subst htv
  have hb0 := bal' w (Obj.cells #[.int .i64 s, .slice pa ps.length pc, .int .i64 m, .slice ta ts.length tc] 24)
  have hA := PaC.new w s m (.slice pa ps.length pc) (.slice ta ts.length tc) 24
  have z0 : (w.alloc (Obj.cells #[.int .i64 s, .slice pa ps.length pc, .int .i64 m, .slice ta ts.length tc] 24)).heap.size = w.heap.size + 1 := by simp
  have hp1 := hp.below hb0
  have ht1 := ht.below hb0
  generalize hw1 : w.alloc (Obj.cells #[.int .i64 s, .slice pa ps.length pc, .int .i64 m, .slice ta ts.length tc] 24) = w1 at *
  have hb1 := bal' w1 (Obj.cells #[.int .i64 0, .slice none 0 0, .int .i64 0, .slice none 0 0] 27)
  have hb2 := bal' (w1.alloc (Obj.cells #[.int .i64 0, .slice none 0 0, .int .i64 0, .slice none 0 0] 27)) (Obj.cells #[.int .i64 s, .slice none 0 0, .int .i64 0, .slice none 0 0] 27)
  have hbb := hb1.trans (hb2.mono hb1.size)
  have hR := (PbB.new w1 0 0 (.slice none 0 0) (.slice none 0 0)).below hb2
  have hO := PbB.new (w1.alloc (Obj.cells #[.int .i64 0, .slice none 0 0, .int .i64 0, .slice none 0 0] 27)) s 0 (.slice none 0 0) (.slice none 0 0)
  rw [show (w1.alloc (Obj.cells #[.int .i64 0, .slice none 0 0, .int .i64 0, .slice none 0 0] 27)).heap.size = w.heap.size + 2 by simp [z0]] at hO
  rw [z0] at hR
  have hA2 := hA.below hbb
  have hp2 := hp1.below hbb
  have ht2 := ht1.below hbb
  have z3 : ((w1.alloc (Obj.cells #[.int .i64 0, .slice none 0 0, .int .i64 0, .slice none 0 0] 27)).alloc (Obj.cells #[.int .i64 s, .slice none 0 0, .int .i64 0, .slice none 0 0] 27)).heap.size = w.heap.size + 3 := by simp [z0]
  have hbw := hb0.trans (hbb.mono hb0.size)
  obtain ⟨_, ⟨c0, c1, c2, c3⟩, _⟩ := id hA2
  have hT := hto1 _ hp2
  subst hw1
  have htw := ht
  clear hA hp hp1 ht ht1 hb0 hb1 hb2 hto1 hp2
  go_enter Try.func6, Try.ntmps6
  go_wp2_with fail
  refine hT.mono ?_
  rintro e w4 ⟨u, rfl, hou, hb4⟩
  have hR4 := hR.below hb4
  have hO4 := hO.below hb4
  have hA4 := hA2.below hb4
  have ht4 := ht2.below hb4
  have hou : OwnI w4 (w.heap.size + 3) u ps := by rw [← z3]; exact hou
  obtain ⟨ua, un, uc, hu⟩ := hou.shape
  subst hu
  have hs4 : w.heap.size + 3 ≤ w4.heap.size := by rw [← z3]; exact hb4.size
  have hb4w := hbw.trans (hb4.mono hbw.size)
  -- the first list and the mark are stored
  have g1 := setCell_gr w4 (w.heap.size + 2) 1 (.slice ua un uc)
  have k1 : PbB (w4.setCell ⟨w.heap.size + 2, 1, none⟩ (.slice ua un uc)) (w.heap.size + 2) s (.slice ua un uc) 0 (.slice none 0 0) := hO4.set 1 _
  have g2 := setCell_gr (w4.setCell ⟨w.heap.size + 2, 1, none⟩ (.slice ua un uc)) (w.heap.size + 2) 2 (.int .i64 m)
  have k2 : PbB ((w4.setCell ⟨w.heap.size + 2, 1, none⟩ (.slice ua un uc)).setCell ⟨w.heap.size + 2, 2, none⟩ (.int .i64 m)) (w.heap.size + 2) s (.slice ua un uc) m (.slice none 0 0) := k1.set 2 _
  have gg := grown_tr g1 g2
  have hb5 : Below (w.heap.size + 2) w4 ((w4.setCell ⟨w.heap.size + 2, 1, none⟩ (.slice ua un uc)).setCell ⟨w.heap.size + 2, 2, none⟩ (.int .i64 m)) := (Below.refl _ _).grown gg (by omega) (fun k e => by cases e; exact Nat.le_refl _)
  have hou5 := hou.kept gg (.inr (fun e => by have := (hou.lt _ e).1; omega))
  have hA5 := hA4.grown gg (by simp)
  have hR5 := hR4.kept gg (by simp)
  have ht0 : SlI ((w4.setCell ⟨w.heap.size + 2, 1, none⟩ (.slice ua un uc)).setCell ⟨w.heap.size + 2, 2, none⟩ (.int .i64 m)) (.slice ta ts.length tc) ts := htw.below (hb4w.grown gg (by omega) (fun k e => by cases e; omega))
  have z5 : ((w4.setCell ⟨w.heap.size + 2, 1, none⟩ (.slice ua un uc)).setCell ⟨w.heap.size + 2, 2, none⟩ (.int .i64 m)).heap.size = w4.heap.size := by simp
  have hT2 := hto2 _ ht0
  obtain ⟨_, ⟨e0, e1, e2, e3⟩, _⟩ := id hA4
  obtain ⟨r0, r1, r2, r3⟩ := hO4.cells
  obtain ⟨y0, y1, y2, y3⟩ := hO4.frozen
  have hb5w := hb4w.grown gg (by omega) (fun k e => by cases e; omega)
  clear hT hb4 hR hO hA2 c0 c1 c2 c3 ht2 ht4 hbb hR4 hO4 hA4 hou k1 g1 g2 gg hb5 ht0 htw hto2 hb4w
  obtain ⟨W5, hW5⟩ : ∃ W5, W5 = (w4.setCell ⟨w.heap.size + 2, 1, none⟩ (.slice ua un uc)).setCell ⟨w.heap.size + 2, 2, none⟩ (.int .i64 m) := ⟨_, rfl⟩
  rw [← hW5] at k2 hou5 hA5 hR5 z5 hb5w
  have hW6 := (show Hid _ from hW5)
  clear hW5
  go_wp2_with fail
  refine hT2.mono ?_
  rintro e w6 ⟨t, rfl, hot, hb6⟩
  rw [← hW6.out] at hot hb6
  clear hT2 e0 e1 e2 e3 r0 r1 r2 r3 y0 y1 y2 y3 hW6
  have k6 := k2.below hb6
  have hR6 := hR5.below hb6
  have hou6 := hou5.below hb6
  have hot : OwnI w6 w4.heap.size t ts := by rw [← z5]; exact hot
  obtain ⟨sa, sn, sc, hu⟩ := hot.shape
  subst hu
  have g7 := setCell_gr w6 (w.heap.size + 2) 3 (.slice sa sn sc)
  have k7 : PbB (w6.setCell ⟨w.heap.size + 2, 3, none⟩ (.slice sa sn sc)) (w.heap.size + 2) s (.slice ua un uc) m (.slice sa sn sc) := k6.set 3 _
  have hR7 := hR6.kept g7 (by simp)
  have hL6 : LiOk w6 w.heap.size [(.slice ua un uc, ps), (.slice sa sn sc, ts)] :=
    ((show LiOk W5 w.heap.size [(.slice ua un uc, ps)] from ⟨fun p hp => by rw [List.mem_singleton] at hp; subst hp; exact hou5.low (by omega), List.pairwise_singleton _ _⟩).new hb6 (hot.low (by omega)) (fun g e => by rw [z5]; exact (hot.lt g e).1)).perm (List.Perm.swap _ _ _)
  have hne : ∀ p ∈ [((.slice ua un uc : Value), ps), (.slice sa sn sc, ts)], ∀ k, p.1.ownBlock = some k → w.heap.size + 3 ≤ k := fun p hp k e => by
    simp only [List.mem_cons, List.mem_nil_iff, or_false] at hp
    rcases hp with rfl | rfl
    · exact (hou6.lt k e).1
    · have := (hot.lt k e).1; omega
  have hb6w := hb5w.trans (hb6.mono hb5w.size)
  have hs6 : w4.heap.size ≤ w6.heap.size := by rw [← z5]; exact hb6.size
  have hb7 := hb6w.grown g7 (by omega) (fun k e => by cases e; omega)
  have hL7 := hL6.kept g7 (fun p hp => .inr fun e => by have := hne p hp _ e; omega)
  have g8 := putP_grown (w6.setCell ⟨w.heap.size + 2, 3, none⟩ (.slice sa sn sc)) (w.heap.size + 1) s (.slice ua un uc) m (.slice sa sn sc)
  have hF := (hR7.put s m (.slice ua un uc) (.slice sa sn sc)).cells
  have hL8 := hL7.kept g8 (fun p hp => .inr fun e => by have := hne p hp _ e; omega)
  have hb8 := hb7.grown g8 (by simp; omega) (fun k e => by cases e; omega)
  obtain ⟨e0, e1, e2, e3⟩ := k6.cells
  obtain ⟨y0, y1, y2, y3⟩ := k6.frozen
  obtain ⟨r0, r1, r2, r3⟩ := hR7.cells
  obtain ⟨q0, q1, q2, q3⟩ := hR7.frozen
  obtain ⟨f0, f1, f2, f3⟩ := hF
  obtain ⟨j0, j1, j2, j3⟩ := k7.cells
  simp only [putP] at f0 f1 f2 f3 hL8 hb8
  have hfin := (show Hid _ from And.intro hL8 hb8)
  clear hL8 hb8 hL7 hb7 hL6 hne hb6w hs6 g7 g8 k6 k7 hR6 hR7 hou6 hot hb6 hou5 k2 hA5 hR5 hb5w z5
  go_wp2
  exact bodyPost_ret (v := .agg #[.int .i64 s, .slice ua un uc, .int .i64 m, .slice sa sn sc]) (by simp [results, Try.results6, go_sem, f0, f1, f2, f3]) rfl ⟨_, _, rfl, hfin.out⟩
end Go.Proofs.Ythdbiofdicogdaa
namespace Go.Proofs.Ythdbiofdicogdaa
open Go.ChangeShapes Go.WideShapes Go.ChangeAt Go.RowKit
theorem szP_neg {n m left : Nat} (h : szP n m left < 0) : szP n m left = -1 := by
  unfold szP at *
  by_cases h1 : left < n
  · rw [if_pos h1]
  · rw [if_neg h1] at h ⊢
    by_cases h2 : left - n < m
    · rw [if_pos h2]
    · rw [if_neg h2] at h; omega
theorem szP_fit {n m left : Nat} (h : ¬ szP n m left < 0) : n ≤ left ∧ m ≤ left := by
  unfold szP at h
  split at h
  · exact absurd (by decide) h
  · split at h
    · exact absurd (by decide) h
    · omega
set_option maxHeartbeats 4000000 in
set_option maxRecDepth 20000 in
theorem walk_FnExactParserOk (w : World) (p : Pa) (pv tv : Value) (hp : SlN w pv p.params) (ht : SlN w tv p.text) (hpl : p.params.length ≤ maxLen) (htl : p.text.length ≤ maxLen) :
    Calls Try.prog 3 #[paV p pv tv] w fun e w' => e = .returned (.bool true) ∧ Below w.heap.size w w' := by
  have hz := fun W h1 h2 => szParser_any p pv tv 1048576 W h1 h2 hpl htl (by decide)
  have hbA := bal' w (Obj.cells #[.int .i64 p.state, pv, .int .i64 p.mark, tv] 24)
  have hGA := PaC.new w p.state p.mark pv tv 24
  have hpA := hp.below hbA
  have htA := ht.below hbA
  obtain ⟨pa, pc, hpv⟩ := hp.shp
  obtain ⟨ta, tc, htv⟩ := ht.shp
  subst hpv; subst htv
  obtain ⟨_, ⟨c0, c1, c2, c3⟩, _⟩ := id hGA
  by_cases hL : szP p.params.length p.text.length 1048576 < 0
  · have hzv : Hid (szP p.params.length p.text.length 1048576 = -1) := szP_neg hL
    have hz2 := hz _ hpA.l.sl htA.l.sl
    unfold paV at *
    clear hz hGA hpA htA hp ht
    generalize szP p.params.length p.text.length 1048576 = z at *
    go_enter Try.func3, Try.ntmps3
    go_wp2_with fail
    refine hz2.mono ?_
    rintro e w1 ⟨rfl, hb⟩
    go_wp2
    go_ret
    exact ⟨rfl, hbA.trans (hb.mono hbA.size)⟩
  · obtain ⟨hl1, hl2⟩ := szP_fit hL
    have hz2 := hz _ hpA.l.sl htA.l.sl
    have hto := fun W h1 h2 => toParser_copy p (.slice pa p.params.length pc) (.slice ta p.text.length tc) W h1 h2 (by omega) (by omega)
    have hsp := fun a b W h1 h2 => specParserOk_any p a b W h1 h2 (by omega) (by omega)
    have him := fun a b W h1 h2 => implParserOk_any p a b W h1 h2 (by omega) (by omega)
    have heq := fun a b a2 b2 W h1 h2 h3 h4 => eqParser_same p a b a2 b2 W h1 h2 h3 h4 (by omega) (by omega)
    unfold paV at *
    clear hz hp ht hpl htl hl1 hl2
    generalize szP p.params.length p.text.length 1048576 = z at *
    generalize okV p = ok at *
    have hne : (ok != ok) = false := by simp
    go_enter Try.func3, Try.ntmps3
    go_wp2_with fail
    refine hz2.mono ?_
    rintro e w1 ⟨rfl, hb⟩
    have hb1 := hbA.trans (hb.mono hbA.size)
    have hG1 := hGA.below hb
    have hp1 := hpA.below hb
    have ht1 := htA.below hb
    clear hbA hGA hpA htA hb c0 c1 c2 c3 hz2
    obtain ⟨_, ⟨c0, c1, c2, c3⟩, _⟩ := id hG1
    go_wp2_with fail
    refine (hto _ hp1.l.sl ht1.l.sl).mono ?_
    rintro e w2 ⟨u, v, rfl, ho, hb⟩
    have hb2 := hb1.trans (hb.mono hb1.size)
    have hG2 := hG1.below hb
    have hp2 := hp1.below hb
    have ht2 := ht1.below hb
    obtain ⟨ua, un, uc, hu⟩ := ho.head.shape
    obtain ⟨va, vn, vc, hv⟩ := ho.tail.head.shape
    simp only at hu hv
    subst hu; subst hv
    clear hb1 hG1 hp1 ht1 hb c0 c1 c2 c3
    go_wp2_with fail
    refine (hsp _ _ _ ho.head.sl ho.tail.head.sl).mono ?_
    rintro e w3 ⟨rfl, hb⟩
    have hb3 := hb2.trans (hb.mono hb2.size)
    have hG3 := hG2.below hb
    have hp3 := hp2.below hb
    have ht3 := ht2.below hb
    clear hb2 hG2 hp2 ht2 hb ho
    obtain ⟨_, ⟨c0, c1, c2, c3⟩, _⟩ := id hG3
    go_wp2_with fail
    refine (hto _ hp3.l.sl ht3.l.sl).mono ?_
    rintro e w4 ⟨x, y, rfl, ho, hb⟩
    obtain ⟨xa, xn, xc, hu⟩ := ho.head.shape
    obtain ⟨ya, yn, yc, hv⟩ := ho.tail.head.shape
    simp only at hu hv
    subst hu; subst hv
    have hal := bal' w4 (Obj.cells #[.int .i64 p.state, .slice xa xn xc, .int .i64 p.mark, .slice ya yn yc] 27)
    have hX := PaC.new w4 p.state p.mark (.slice xa xn xc) (.slice ya yn yc) 27
    have hb4 := (hb3.trans (hb.mono hb3.size)).trans (hal.mono (Nat.le_trans hb3.size hb.size))
    have hG4 := (hG3.below hb).below hal
    have hp4 := (hp3.below hb).below hal
    have ht4 := (ht3.below hb).below hal
    have hx4 := (SlI.below ho.head.sl hal)
    have hy4 := (SlI.below ho.tail.head.sl hal)
    simp only at hx4 hy4
    clear hb3 hG3 hp3 ht3 hb ho hal c0 c1 c2 c3
    obtain ⟨_, ⟨d0, d1, d2, d3⟩, _⟩ := id hX
    go_wp2_with fail
    refine (him _ _ _ hx4 hy4).mono ?_
    rintro e w5 ⟨rfl, hb⟩
    have hb5 := hb4.trans (hb.mono hb4.size)
    have hG5 := hG4.below hb
    have hp5 := hp4.below hb
    have ht5 := ht4.below hb
    have hX5 := hX.below hb
    have hx5 := hx4.below hb
    have hy5 := hy4.below hb
    clear hb4 hG4 hp4 ht4 hX hx4 hy4 hb d0 d1 d2 d3
    have hall : ∀ W, Below w5.heap.size w5 W → W.cell? ⟨w.heap.size, 0, none⟩ = some (.int .i64 p.state) ∧ W.cell? ⟨w.heap.size, 1, none⟩ = some (.slice pa p.params.length pc) ∧ W.cell? ⟨w.heap.size, 2, none⟩ = some (.int .i64 p.mark) ∧ W.cell? ⟨w.heap.size, 3, none⟩ = some (.slice ta p.text.length tc) ∧ W.cell? ⟨w4.heap.size, 0, none⟩ = some (.int .i64 p.state) ∧ W.cell? ⟨w4.heap.size, 1, none⟩ = some (.slice xa xn xc) ∧ W.cell? ⟨w4.heap.size, 2, none⟩ = some (.int .i64 p.mark) ∧ W.cell? ⟨w4.heap.size, 3, none⟩ = some (.slice ya yn yc) ∧ Below w5.heap.size w5 W :=
      fun W h => ⟨(hG5.below h).2.1.1, (hG5.below h).2.1.2.1, (hG5.below h).2.1.2.2.1, (hG5.below h).2.1.2.2.2, (hX5.below h).2.1.1, (hX5.below h).2.1.2.1, (hX5.below h).2.1.2.2.1, (hX5.below h).2.1.2.2.2, h⟩
    have hkd := hall _ (bdr w5)
    go_wp2
    go_region_held3 (fun W => W.cell? ⟨w.heap.size, 0, none⟩ = some (.int .i64 p.state) ∧ W.cell? ⟨w.heap.size, 1, none⟩ = some (.slice pa p.params.length pc) ∧ W.cell? ⟨w.heap.size, 2, none⟩ = some (.int .i64 p.mark) ∧ W.cell? ⟨w.heap.size, 3, none⟩ = some (.slice ta p.text.length tc) ∧ W.cell? ⟨w4.heap.size, 0, none⟩ = some (.int .i64 p.state) ∧ W.cell? ⟨w4.heap.size, 1, none⟩ = some (.slice xa xn xc) ∧ W.cell? ⟨w4.heap.size, 2, none⟩ = some (.int .i64 p.mark) ∧ W.cell? ⟨w4.heap.size, 3, none⟩ = some (.slice ya yn yc) ∧ Below w5.heap.size w5 W) (first | with_reducible assumption)
      (first
        | (go_at_call 6; refine (hto _ (hp5.below (bdr w5)).l.sl (ht5.below (bdr w5)).l.sl).mono ?_; rintro e wa ⟨m1, m2, rfl, ho, hb⟩; have hka := hall _ ((bdr w5).trans (hb.mono (bdr w5).size)); have ho1 := ho.head.sl; have ho2 := ho.tail.head.sl; obtain ⟨ma, mn, mc, hu⟩ := ho.head.shape; obtain ⟨na, nn, nc, hv⟩ := ho.tail.head.shape; simp only at hu hv ho1 ho2; subst hu; subst hv)
        | (go_at_call 8; refine (heq _ _ _ _ _ (hx5.below hka.2.2.2.2.2.2.2.2) (hy5.below hka.2.2.2.2.2.2.2.2) ho1 ho2).mono ?_; rintro e wb ⟨rfl, hb'⟩; have hkb := hall _ (hka.2.2.2.2.2.2.2.2.trans (hb'.mono hka.2.2.2.2.2.2.2.2.size))))
    go_wp2
    go_ret
    exact ⟨rfl, hb5.trans (hkb.2.2.2.2.2.2.2.2.mono hb5.size)⟩
end Go.Proofs.Ythdbiofdicogdaa
namespace Go.Proofs.Ythdbiofdicogdaa
open Go.ChangeShapes Go.WideShapes Go.ChangeAt Go.RowKit
section
variable {H : Type} {enc : TypeId × Value → H} {w : World} {base : Nat} {spare : Nat → Bool} {held : Bool}
theorem slN_of {w : World} {x : Addr} {l c : Nat} {zs : List Int} (hl : l ≤ c) (hz : l ≤ zs.length) (hc : ∀ i, i < zs.length → w.cell? (x.add i) = some (.int .i64 (zs.getD i 0))) : SlN w (.slice (some x) l c) (zs.take l) ∧ (zs.take l).length = l := by
  have hlen : (zs.take l).length = l := by rw [List.length_take]; omega
  refine ⟨⟨some x, c, by rw [hlen], by rw [hlen]; exact hl, (fun e => by cases e), ?_⟩, hlen⟩
  by_cases h0 : l = 0
  · left; subst h0; simp
  · right
    obtain ⟨b, off, spot⟩ := x
    have h1 := hc 0 (by omega)
    have hspot : spot = none := by simpa [Addr.add] using World.cell?_spot h1
    subst hspot
    refine ⟨b, off, rfl, World.block_lt_of_cell? w _ h1, fun i hi => ?_⟩
    rw [hlen] at hi
    have h2 := hc i (by omega)
    have e : (zs.take l).getD i 0 = zs.getD i 0 := by simp [List.getD, hi]
    rw [e, ← h2]
    by_cases hi0 : i = 0
    · subst hi0; simp [Addr.add]
    · simp [Addr.add, hi0]
theorem ints_tr {fuel : Nat} {cs : List Value} {y : DataW H × List MemPlace} (hf : DataW.trod enc Try.prog w base spare held fuel 22 cs = some y) :
    ∃ (v : Value) (xs : List Int), cs = [v] ∧ SlN w v xs ∧ xs.length ≤ maxLen := by
  rcases open_ints Try.underlying22 Try.underlying2 (by kernel_rfl) hf with ⟨hcs, _⟩ | ⟨x, l, c, zs, hcs, _, hl, hm, hz, _, hcell, hwz⟩
  · exact ⟨_, [], hcs, ⟨none, 0, rfl, Nat.le_refl _, fun _ => rfl, .inl rfl⟩, by simp⟩
  · have := slN_of (w := w) (x := x) hl (by rw [hz]; split <;> omega) hcell
    exact ⟨_, _, hcs, this.1, by rw [this.2]; omega⟩
set_option maxRecDepth 20000 in
theorem parser_view {b0 : Nat} {r : Reach} {v : Value} {d : DataW H} {p : List MemPlace} (hv : Value.okWide Try.prog w r b0 24 v) (h : DataW.Trod enc Try.prog w base spare held 24 v d p) :
    ∃ (q : Pa) (pv tv : Value), v = paV q pv tv ∧ SlN w pv q.params ∧ SlN w tv q.text ∧ q.params.length ≤ maxLen ∧ q.text.length ≤ maxLen := by
  obtain ⟨cs, rfl, hsz⟩ := okWide_struct Try.underlying24 hv
  obtain ⟨fuel, hf⟩ := h
  obtain ⟨xs, n, _, _, hl, hlen, hfs⟩ := DataW.trod_struct Try.underlying24 hf
  have e : Try.prog.cellsOf 24 = 4 := by kernel_rfl
  have ei : Try.prog.cellsOf 2 = 1 := by kernel_rfl
  have er : Try.prog.cellsOf 22 = 1 := by kernel_rfl
  obtain ⟨l⟩ := cs
  match l, hsz.trans e, xs, hlen with
  | [c0, c1, c2, c3], _, [x0, x1, x2, x3], _ =>
    have h0 := hfs 0 _ rfl
    have h1 := hfs 1 _ rfl
    have h2 := hfs 2 _ rfl
    have h3 := hfs 3 _ rfl
    simp [Value.cells, ei, er] at h0 h1 h2 h3
    obtain ⟨k0, q0, _, _⟩ := DataW.trod_int Try.underlying2 h0
    obtain ⟨u1, y1, q1, s1, l1⟩ := ints_tr h1
    obtain ⟨k2, q2, _, _⟩ := DataW.trod_int Try.underlying2 h2
    obtain ⟨u3, y3, q3, s3, l3⟩ := ints_tr h3
    simp at q0 q1 q2 q3
    subst q0; subst q1; subst q2; subst q3
    exact ⟨⟨k0, y1, k2, y3⟩, _, _, rfl, s1, s3, l1, l3⟩
end
end Go.Proofs.Ythdbiofdicogdaa
