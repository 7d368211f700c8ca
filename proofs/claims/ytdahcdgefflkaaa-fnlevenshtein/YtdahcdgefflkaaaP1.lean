/- The cursor over the bytes of a draw: what its functions leave. Slices of int64 that can be read, and rows that stay. The cursor: made, asked, kept. Runes as numbers: what a text's first bytes are read to. Plain mathematics, no program. The laws' own helper that copies a list of int64. Two lists drawn. A law's bytes: how they are read, and whether they are too many. The laws' own helper: two lists alike. How far two lists are apart: distances, cut at a limit, and what is shared. Plain mathematics. The specification's tables of two lists: distances, and what is shared. One operation alone may come up. Widths, and what fits into some cells. Plain mathematics. Parsers as numbers: what a rune makes of one, and what is told of it. Plain mathematics, no program. What a contract leaves, as growth. Lists of numbers that one call owns, apart from one another; parsers and actions in memory. Contracts: the specification's tests on parsers. The walk of the program's parser: what it tells, what comes next. The walk of the program's parser: past controls, letters, parameters, a title. Contracts of the program's Parsed and Step: first part. A struct of many cells, loaded and stored as a whole, behind a guard too. A part of a block that is a struct, loaded as a whole. The program's rows of distances: one that is all beyond. The program's route: its block, and what is read of it. The laws' own helpers: a number picked of a law's bytes; lists that are alike or not. Distances of lists: the same both ways, no way round is shorter, and what is shared. Plain mathematics. The specification's table of distances. The specification's Apart and Shared. -/
import Derived.Test.YtdahcdgefflkaaaRows
import Derived.WalkKit
import Derived.ProofKit
import Derived.OpenShut
import Derived.LoopN
import Derived.WalkSpells
import Derived.Deep.QuietTactic
import Derived.BigQuiet
import Derived.Laws.Bits128
import Derived.Laws.BytesArg
import GoSem.Core.Utf8
import Derived.Laws.AppendOwnNone
import Derived.Deep.RegionHeld3
import Derived.Deep.AppendLies
import Derived.LoopTactic
import Derived.OneCell
import Derived.Deep.RegionLaw
import Derived.Deep.LoopGhost
import Derived.Laws.Rows
import Derived.Laws.Tables
namespace Go.Proofs.Ytdahcdgefflkaaa
open Go.ChangeShapes Go.WideShapes Go.ChangeAt Go.RowKit
theorem and_mask (n : Int) (k : Nat) (hk : k < 63) (m : Int) (hN : (BitVec.ofInt 64 m).toNat = 2 ^ k - 1) : 0 ≤ bits .and .i64 n m ∧ bits .and .i64 n m < 2 ^ k := by
  have key : (BitVec.ofInt 64 n &&& BitVec.ofInt 64 m).toNat = (n % ((2 ^ 64 : Nat) : Int)).toNat % 2 ^ k := by
    rw [BitVec.toNat_and, BitVec.toNat_ofInt, hN, Nat.and_two_pow_sub_one_eq_mod]
  have e : bits .and .i64 n m = IntKind.i64.wrap ((BitVec.ofInt 64 n &&& BitVec.ofInt 64 m).toNat : Nat) := rfl
  rw [e, key, IntKind.wrap_i64]
  have hlt : (n % ((2 ^ 64 : Nat) : Int)).toNat % 2 ^ k < 2 ^ k := Nat.mod_lt _ (Nat.two_pow_pos k)
  have hp : (2 : Nat) ^ k ≤ 2 ^ 62 := Nat.pow_le_pow_right (by omega) (by omega)
  have hc : ((2 ^ k : Nat) : Int) = (2 : Int) ^ k := by simp
  rw [← hc]
  generalize (n % ((2 ^ 64 : Nat) : Int)).toNat % 2 ^ k = q at *
  generalize 2 ^ k = K at *
  omega
theorem and_255 (n : Int) : 0 ≤ bits .and .i64 n 255 ∧ bits .and .i64 n 255 ≤ 255 := by
  have := and_mask n 8 (by decide) 255 (by decide)
  omega
/-- A slice of bytes that can be read. -/
def SlB (w : World) (v : Value) (xs : List Int) : Prop :=
  ∃ a c, v = .slice a xs.length c ∧ xs.length ≤ 4096 ∧ (∀ x ∈ xs, 0 ≤ x ∧ x < 256) ∧ (xs = [] ∨ ∃ b off, a = some ⟨b, off, none⟩ ∧ b < w.heap.size ∧ ∀ i, i < xs.length → w.cell? ⟨b, off + i, none⟩ = some (.int .u8 (xs.getD i 0)))
theorem SlB.below {w w' : World} {v : Value} {xs : List Int} (h : SlB w v xs) (hb : Below w.heap.size w w') : SlB w' v xs := by
  obtain ⟨a, c, hv, h1, h2, h | ⟨b, off, ha, hlt, hc⟩⟩ := h
  · exact ⟨a, c, hv, h1, h2, .inl h⟩
  · exact ⟨a, c, hv, h1, h2, .inr ⟨b, off, ha, Nat.lt_of_lt_of_le hlt hb.size, fun i hi => (hb.cell (p := ⟨b, off + i, none⟩) hlt).trans (hc i hi)⟩⟩

/-- The cursor's struct lies in block g: the bytes' slice, a place in it, a number. -/
def CurAt (w : World) (g : Nat) (v : Value) (xs : List Int) : Prop :=
  g < w.heap.size ∧ w.frozen? ⟨g, 0, none⟩ = false ∧ w.frozen? ⟨g, 1, none⟩ = false ∧ w.frozen? ⟨g, 2, none⟩ = false ∧ w.cell? ⟨g, 0, none⟩ = some v ∧
  (∃ i : Nat, i ≤ xs.length ∧ w.cell? ⟨g, 1, none⟩ = some (.int .i64 i)) ∧ (∃ h : Int, w.cell? ⟨g, 2, none⟩ = some (.int .i64 h)) ∧
  ∃ a c, v = .slice a xs.length c ∧ xs.length ≤ 4096 ∧ (∀ x ∈ xs, 0 ≤ x ∧ x < 256) ∧ (xs = [] ∨ ∃ b off, a = some ⟨b, off, none⟩ ∧ b < g ∧ ∀ i, i < xs.length → w.cell? ⟨b, off + i, none⟩ = some (.int .u8 (xs.getD i 0)))

theorem CurAt.drewN {w : World} {g : Nat} {v : Value} {xs : List Int} (h : CurAt w g v xs) (n : Nat) : CurAt (w.drewN n) g v xs := h
theorem setCell_cell_ne (w : World) (g a b : Nat) (u : Value) (h : a ≠ b) : (w.setCell ⟨g, b, none⟩ u).cell? ⟨g, a, none⟩ = w.cell? ⟨g, a, none⟩ := by
  simp [World.setCell, World.cell?, Array.getElem?_modify]
  cases hh : w.heap[g]? with
  | none => simp
  | some o => cases o <;> simp [Ne.symm h]
theorem setCell_far (w : World) (p q : Addr) (u : Value) (h : q.block ≠ p.block) : (w.setCell p u).cell? q = w.cell? q :=
  World.cell?_of_block (Below.heap_setCell _ _ _ _ h)
theorem setCell_frozen (w : World) (p q : Addr) (u : Value) : (w.setCell p u).frozen? q = w.frozen? q := by simp [go_sem]
theorem setCell_same (w : World) (p : Addr) (u v : Value) (h : w.cell? p = some v) : (w.setCell p u).cell? p = some u := by simp [go_sem, h]
theorem CurAt.set2 {w : World} {g : Nat} {v : Value} {xs : List Int} (hc : CurAt w g v xs) (H : Int) : CurAt (w.setCell ⟨g, 2, none⟩ (.int .i64 H)) g v xs ∧ w.grownBy (w.setCell ⟨g, 2, none⟩ (.int .i64 H)) (some g) := by
  obtain ⟨hg, z0, z1, z2, c0, ⟨i, hi, c1⟩, ⟨h, c2⟩, a, c, hv, hl, hx, hr⟩ := hc
  refine ⟨⟨by simpa using hg, by rw [setCell_frozen]; exact z0, by rw [setCell_frozen]; exact z1, by rw [setCell_frozen]; exact z2, ?_, ⟨i, hi, ?_⟩, ⟨H, setCell_same _ _ _ _ c2⟩, a, c, hv, hl, hx, ?_⟩, ⟨rfl, rfl, rfl, by simp, fun k _ hk => heap_setCell_other w ⟨g, 2, none⟩ k _ (fun e => hk (by simp [e]))⟩⟩
  · rw [setCell_cell_ne _ _ _ _ _ (by decide)]; exact c0
  · rw [setCell_cell_ne _ _ _ _ _ (by decide)]; exact c1
  · rcases hr with hr | ⟨b, off, ha, hb, hr⟩
    · exact .inl hr
    · exact .inr ⟨b, off, ha, hb, fun j hj => by rw [setCell_far _ _ _ _ (by dsimp only; omega)]; exact hr j hj⟩
theorem CurAt.set1 {w : World} {g : Nat} {v : Value} {xs : List Int} (hc : CurAt w g v xs) (q : Int) (k : Nat) (hq : q = (k : Int)) (hk : k ≤ xs.length) : CurAt (w.setCell ⟨g, 1, none⟩ (.int .i64 q)) g v xs ∧ w.grownBy (w.setCell ⟨g, 1, none⟩ (.int .i64 q)) (some g) := by
  obtain ⟨hg, z0, z1, z2, c0, ⟨i, hi, c1⟩, ⟨h, c2⟩, a, c, hv, hl, hx, hr⟩ := hc
  subst hq
  refine ⟨⟨by simpa using hg, by rw [setCell_frozen]; exact z0, by rw [setCell_frozen]; exact z1, by rw [setCell_frozen]; exact z2, ?_, ⟨k, hk, setCell_same _ _ _ _ c1⟩, ⟨h, ?_⟩, a, c, hv, hl, hx, ?_⟩, ⟨rfl, rfl, rfl, by simp, fun k _ hk => heap_setCell_other w ⟨g, 1, none⟩ k _ (fun e => hk (by simp [e]))⟩⟩
  · rw [setCell_cell_ne _ _ _ _ _ (by decide)]; exact c0
  · rw [setCell_cell_ne _ _ _ _ _ (by decide)]; exact c2
  · rcases hr with hr | ⟨b, off, ha, hb, hr⟩
    · exact .inl hr
    · exact .inr ⟨b, off, ha, hb, fun j hj => by rw [setCell_far _ _ _ _ (by dsimp only; omega)]; exact hr j hj⟩
theorem gtr {a b c : World} {row : Option Nat} (h : a.grownBy b row) (k : b.grownBy c row) : a.grownBy c row :=
  ⟨k.os.trans h.os, k.tape.trans h.tape, k.output.trans h.output, Nat.le_trans h.size k.size, fun i hi hr => (k.block i (Nat.lt_of_lt_of_le hi h.size) hr).trans (h.block i hi hr)⟩
theorem gdr {a b : World} {row : Option Nat} (h : a.grownBy b row) (n : Nat) : a.grownBy (b.drewN n) row := ⟨h.os, h.tape, h.output, h.size, h.block⟩

set_option maxHeartbeats 1000000 in
theorem l1Byte_a (g : Nat) (v : Value) (xs : List Int) (w : World) (hc : CurAt w g v xs) :
    Calls Try.prog 58 #[.pointer (some ⟨g, 0, none⟩)] w fun e w' => ∃ x, e = .returned (.int .i64 x) ∧ 0 ≤ x ∧ x ≤ 255 ∧ CurAt w' g v xs ∧ w.grownBy w' (some g) := by
  have HC : Hid (CurAt w g v xs) := hc
  obtain ⟨hg, z0, z1, z2, c0, ⟨i, hi, c1⟩, ⟨h, c2⟩, a, c, rfl, hl, hx, hr⟩ := hc
  by_cases hlt : i < xs.length
  · rcases hr with hr | ⟨b, off, rfl, hbg, hr⟩
    · rw [hr] at hlt; simp at hlt
    · have hbne : b ≠ g := by omega
      have hri := hr i hlt
      have hxi := hx (xs.getD i 0) (by simp [List.getD, hlt])
      generalize xs.getD i 0 = y at *
      have hlti : (i : Int) < (xs.length : Int) := by omega
      go_enter Try.func58, Try.ntmps58
      go_wp2
      generalize wrap64 (wrap64 (h * 6364136223846793005) + 1442695040888963407) = H
      go_quiet (fail)
      go_wp2
      generalize bits BinOp.and IntKind.i64 (bits BinOp.xor IntKind.i64 (H / 8589934592) (H / 35184372088832)) 255 = X
      go_quiet (fail)
      go_wp2
      go_quiet (fail)
      go_wp2
      go_ret
      have k2 := HC.out.set2 H
      have k1 := fun n => (k2.1.drewN n).set1 ((i : Int) + 1) (i + 1) (by omega) (by omega)
      exact ⟨_, rfl, (and_255 _).1, (and_255 _).2, (k1 _).1, gtr (gdr k2.2 _) (k1 _).2⟩
  · have hlti : ¬ (i : Int) < (xs.length : Int) := by omega
    go_enter Try.func58, Try.ntmps58
    go_wp2
    generalize wrap64 (wrap64 (h * 6364136223846793005) + 1442695040888963407) = H
    go_quiet (fail)
    go_wp2
    go_quiet (fail)
    go_wp2
    go_ret
    have k2 := HC.out.set2 H
    exact ⟨_, rfl, (and_255 _).1, (and_255 _).2, (k2.1.drewN _).drewN _, gdr (gdr k2.2 _) _⟩

set_option maxHeartbeats 1000000 in
theorem l1Below_a (g : Nat) (v : Value) (xs : List Int) (n : Int) (w : World) (hc : CurAt w g v xs) :
    Calls Try.prog 45 #[.pointer (some ⟨g, 0, none⟩), .int .i64 n] w fun e w' => ∃ x, e = .returned (.int .i64 x) ∧ 0 ≤ x ∧ (0 < n → x < n) ∧ (n ≤ 0 → x = 0) ∧ CurAt w' g v xs ∧ w.grownBy w' (some g) := by
  by_cases h0 : n ≤ 0
  · go_enter Try.func45, Try.ntmps45
    go_wp2
    go_ret
    exact ⟨0, rfl, by omega, by omega, by omega, hc, World.grownBy.refl _ _⟩
  · have hz : (n == 0) = false := by simp; omega
    by_cases h1 : n ≤ 256
    · go_enter Try.func45, Try.ntmps45
      go_wp2_with fail
      refine (l1Byte_a g v xs _ hc).mono ?_
      rintro e w1 ⟨x, rfl, hx0, hx1, hc1, hg1⟩
      go_wp2
      go_ret
      have hm0 := Int.emod_nonneg x (show n ≠ 0 by omega)
      have hm1 := Int.emod_lt_of_pos x (show 0 < n by omega)
      exact ⟨_, rfl, hm0, fun _ => hm1, fun h => by omega, hc1, hg1⟩
    · go_enter Try.func45, Try.ntmps45
      go_wp2_with fail
      refine (l1Byte_a g v xs _ hc).mono ?_
      rintro e w1 ⟨x1, rfl, hx10, hx11, hc1, hg1⟩
      go_wp2_with fail
      refine (l1Byte_a g v xs _ hc1).mono ?_
      rintro e w2 ⟨x2, rfl, hx20, hx21, hc2, hg2⟩
      go_wp2_with fail
      refine (l1Byte_a g v xs _ hc2).mono ?_
      rintro e w3 ⟨x3, rfl, hx30, hx31, hc3, hg3⟩
      go_wp2_with fail
      refine (l1Byte_a g v xs _ hc3).mono ?_
      rintro e w4 ⟨x4, rfl, hx40, hx41, hc4, hg4⟩
      go_wp2
      go_ret
      have hm0 := Int.emod_nonneg (x1 * 16777216 + x2 * 65536 + x3 * 256 + x4) (show n ≠ 0 by omega)
      have hm1 := Int.emod_lt_of_pos (x1 * 16777216 + x2 * 65536 + x3 * 256 + x4) (show 0 < n by omega)
      exact ⟨_, rfl, hm0, fun _ => hm1, fun h => by omega, hc4, gtr (gtr (gtr hg1 hg2) hg3) hg4⟩
end Go.Proofs.Ytdahcdgefflkaaa
namespace Go.Proofs.Ytdahcdgefflkaaa
open Go.ChangeShapes Go.WideShapes Go.ChangeAt Go.RowKit
/-- What is owned stays owned while the world only grows above. -/
theorem _root_.Go.World.ownsRow.below {w w' : World} {base : Nat} {e : TypeId} {size : Nat} {v : Value} {n : Nat} {xs : List Value} (h : w.ownsRow base e size v n xs) (hb : Below w.heap.size w w') : w'.ownsRow base e size v n xs := by
  refine ⟨h.1, ?_⟩
  rcases h.2 with h2 | ⟨g, cap, cur, hv, hbg, hg, r⟩
  · exact .inl h2
  · exact .inr ⟨g, cap, cur, hv, hbg, by rw [hb.block g (Array.getElem?_eq_some_iff.1 hg).1]; exact hg, r⟩
/-- A slice that can be read: of no element, or a row of cells that hold the numbers. -/
def SlI (w : World) (v : Value) (xs : List Int) : Prop :=
  ∃ a c, v = .slice a xs.length c ∧ (xs = [] ∨ ∃ b off, a = some ⟨b, off, none⟩ ∧ b < w.heap.size ∧ ∀ i, i < xs.length → w.cell? ⟨b, off + i, none⟩ = some (.int .i64 (xs.getD i 0)))
theorem SlI.of_own {w : World} {base : Nat} {e : TypeId} {v : Value} {xs : List Int} (h : w.ownsRow base e 1 v xs.length (xs.map (Value.int .i64))) : SlI w v xs := by
  rcases h.2 with ⟨rfl, h2⟩ | ⟨g, cap, cur, rfl, hb, hg, hr⟩
  · exact ⟨none, 0, by rw [h2], .inl (List.eq_nil_of_length_eq_zero h2)⟩
  · refine ⟨_, cap, rfl, .inr ⟨g, 0, rfl, (Array.getElem?_eq_some_iff.1 hg).1, fun i hi => ?_⟩⟩
    have := h.cellAt i (by simpa using hi)
    rw [Nat.zero_add, this]
    simp [hi]
theorem SlI.below {w w' : World} {v : Value} {xs : List Int} (h : SlI w v xs) (hb : Below w.heap.size w w') : SlI w' v xs := by
  obtain ⟨a, c, hv, h | ⟨b, off, ha, hlt, hc⟩⟩ := h
  · exact ⟨a, c, hv, .inl h⟩
  · exact ⟨a, c, hv, .inr ⟨b, off, ha, Nat.lt_of_lt_of_le hlt hb.size, fun i hi => (hb.cell (p := ⟨b, off + i, none⟩) hlt).trans (hc i hi)⟩⟩
theorem SlI.drewN {w : World} {v : Value} {xs : List Int} (h : SlI w v xs) (n : Nat) : SlI (w.drewN n) v xs := h

/-- What a law is told of a slice of integers that came in: nil; or a row of cap cells, the numbers zs (the first len are its elements), each fitting its kind. -/
def IsRow (k : IntKind) (w : World) (a : Option Addr) (len cap : Nat) (zs : List Int) : Prop :=
  (a = none ∧ len = 0 ∧ cap = 0 ∧ zs = []) ∨
  ∃ x, a = some x ∧ len ≤ cap ∧ cap ≤ maxLen ∧ zs.length = cap ∧ (∀ i, i < zs.length → w.cell? (x.add i) = some (.int k (zs.getD i 0))) ∧ ∀ n ∈ zs, (Lit.int k n).wf = true
theorem SlI.of_row {w : World} {a : Option Addr} {len cap : Nat} {zs : List Int} (h : IsRow .i64 w a len cap zs) : SlI w (.slice a len cap) (zs.take len) ∧ (zs.take len).length = len := by
  rcases h with ⟨rfl, rfl, rfl, rfl⟩ | ⟨x, rfl, hl, hm, hz, hc, hw⟩
  · exact ⟨⟨none, 0, rfl, .inl rfl⟩, rfl⟩
  · have hlen : (zs.take len).length = len := by rw [List.length_take]; omega
    refine ⟨⟨some x, cap, by rw [hlen], ?_⟩, hlen⟩
    by_cases h0 : len = 0
    · left; subst h0; simp
    · right
      obtain ⟨b, off, spot⟩ := x
      have h1 := hc 0 (by omega)
      have hspot : spot = none := by simpa [Addr.add] using World.cell?_spot h1
      subst hspot
      refine ⟨b, off, rfl, World.block_lt_of_cell? w _ h1, fun i hi => ?_⟩
      rw [hlen] at hi
      have h2 := hc i (by omega)
      have e : (zs.take len).getD i 0 = zs.getD i 0 := by simp [List.getD, hi]
      rw [e, ← h2]
      by_cases hi0 : i = 0
      · subst hi0; simp [Addr.add]
      · simp [Addr.add, hi0]

end Go.Proofs.Ytdahcdgefflkaaa
namespace Go.Proofs.Ytdahcdgefflkaaa
open Go.ChangeShapes Go.WideShapes Go.ChangeAt Go.RowKit
theorem l1Once_a (g : Nat) (v : Value) (xs : List Int) (n : Int) (w : World) (hc : CurAt w g v xs) :
    Calls Try.prog 43 #[.pointer (some ⟨g, 0, none⟩), .int .i64 n] w fun e w' => ∃ b : Bool, e = .returned (.bool b) ∧ CurAt w' g v xs ∧ w.grownBy w' (some g) := by
  go_enter Try.func43, Try.ntmps43
  go_wp2_with fail
  refine (l1Below_a g v xs n _ hc).mono ?_
  rintro e w1 ⟨x, rfl, hx0, _, _, hc1, hg1⟩
  go_wp2
  go_ret
  exact ⟨_, rfl, hc1, hg1⟩

/-- The cursor stays while the world only grows above. -/
theorem CurAt.below {w w' : World} {g : Nat} {v : Value} {xs : List Int} (h : CurAt w g v xs) (hb : Below w.heap.size w w') : CurAt w' g v xs := by
  obtain ⟨hg, z0, z1, z2, c0, ⟨i, hi, c1⟩, ⟨h, c2⟩, a, c, hv, hl, hx, hr⟩ := h
  refine ⟨Nat.lt_of_lt_of_le hg hb.size, (hb.frozen (p := ⟨g, 0, none⟩) hg).trans z0, (hb.frozen (p := ⟨g, 1, none⟩) hg).trans z1, (hb.frozen (p := ⟨g, 2, none⟩) hg).trans z2, (hb.cell (p := ⟨g, 0, none⟩) hg).trans c0, ⟨i, hi, (hb.cell (p := ⟨g, 1, none⟩) hg).trans c1⟩, ⟨h, (hb.cell (p := ⟨g, 2, none⟩) hg).trans c2⟩, a, c, hv, hl, hx, ?_⟩
  rcases hr with hr | ⟨b, off, ha, hb', hr⟩
  · exact .inl hr
  · exact .inr ⟨b, off, ha, hb', fun j hj => (hb.cell (p := ⟨b, off + j, none⟩) (by dsimp only; omega)).trans (hr j hj)⟩
theorem bal (w : World) (o : Obj) : Below w.heap.size w (w.alloc o) := (Below.refl _ _).alloc (Nat.le_refl _) o

theorem CurAt.new (w : World) (a : Option Addr) (c : Nat) (xs : List Int) (h : Int) (T : TypeId) (hs : SlB w (.slice a xs.length c) xs) : CurAt (w.alloc (.cells #[.slice a xs.length c, .int .i64 0, .int .i64 h] T)) w.heap.size (.slice a xs.length c) xs := by
  obtain ⟨a', c', hv, hl, hx, hr⟩ := hs
  refine ⟨by simp, by simp [go_sem], by simp [go_sem], by simp [go_sem], by simp [go_sem], ⟨0, Nat.zero_le _, by simp [go_sem]⟩, ⟨h, by simp [go_sem]⟩, a', c', hv, hl, hx, ?_⟩
  rcases hr with hr | ⟨b, off, ha, hb, hr⟩
  · exact .inl hr
  · exact .inr ⟨b, off, ha, hb, fun j hj => ((bal w _).cell (p := ⟨b, off + j, none⟩) hb).trans (hr j hj)⟩

set_option maxHeartbeats 1000000 in
theorem l1New_a (v : Value) (xs : List Int) (w : World) (hv : SlB w v xs) :
    Calls Try.prog 33 #[v] w fun e w' => e = .returned (.pointer (some ⟨w.heap.size, 0, none⟩)) ∧ CurAt w' w.heap.size v xs ∧ Below w.heap.size w w' := by
  have HV : Hid (SlB w v xs) := hv
  obtain ⟨a, c, rfl, hl, hx, hr⟩ := hv
  go_enter Try.func33, Try.ntmps33
  go_wp2
  go_loop [3, 4] (fun h i => ∃ (k : Nat) (H : Int), k ≤ xs.length ∧ i = .int .i64 k ∧ h = .int .i64 H) (fun _ i => xs.length - (intOf i).toNat)
  case atStart => exact ⟨0, _, Nat.zero_le _, rfl, rfl⟩
  case round =>
    obtain ⟨k, H, hk, rfl, rfl⟩ := hrel
    by_cases hlt : k < xs.length
    · rcases hr with hr | ⟨b, off, rfl, hb, hr⟩
      · rw [hr] at hlt; simp at hlt
      · have hri := hr k hlt
        generalize hy : xs.getD k 0 = y at hri
        clear hy hr hx
        go_wp2
        go_round
        case rel => exact ⟨k + 1, _, by omega, by go_num, rfl⟩
        case measure => simp [intOf]; omega
    · clear hr hx
      go_wp2
      go_ret
      exact ⟨rfl, CurAt.new w a c xs H _ HV.out, bal w _⟩

theorem own_grow {w w' : World} {base : Nat} {e : TypeId} {size : Nat} {v : Value} {n : Nat} {xs : List Value} {g : Nat} (h : w.ownsRow base e size v n xs) (hg : w.grownBy w' (some g)) (hlt : g < base) : w'.ownsRow base e size v n xs :=
  h.kept hg (by
    cases hv : v.ownBlock with
    | none => exact .inl rfl
    | some b => right; intro e; have := (h.lt b hv).1; cases e; omega)

theorem info_int64d : (Try.prog.info? 2).map (fun i => (i.zero, i.size, i.bytes)) = some (some (.int .i64 0), 1, 8) := by kernel_rfl
theorem CurAt.grown_own {w w' : World} {g : Nat} {v : Value} {xs : List Int} {row : Option Nat} (h : CurAt w g v xs) (hg : w.grownBy w' row) (hr : ∀ k, row = some k → g < k) : CurAt w' g v xs := by
  have hb : ∀ k, k ≤ g → w'.heap[k]? = w.heap[k]? := fun k hk => hg.block k (by have := h.1; omega) (fun e => by have := hr k e.symm; omega)
  obtain ⟨hlt, z0, z1, z2, c0, ⟨i, hi, c1⟩, ⟨h, c2⟩, a, c, hv, hl, hx, hrr⟩ := h
  have hbg := hb g (Nat.le_refl _)
  refine ⟨Nat.lt_of_lt_of_le hlt hg.size, (World.frozen?_of_block (w := w) hbg).trans z0, (World.frozen?_of_block (w := w) hbg).trans z1, (World.frozen?_of_block (w := w) hbg).trans z2, (World.cell?_of_block (w := w) hbg).trans c0, ⟨i, hi, (World.cell?_of_block (w := w) hbg).trans c1⟩, ⟨h, (World.cell?_of_block (w := w) hbg).trans c2⟩, a, c, hv, hl, hx, ?_⟩
  rcases hrr with hrr | ⟨b, off, ha, hb', hrr⟩
  · exact .inl hrr
  · exact .inr ⟨b, off, ha, hb', fun j hj => (World.cell?_of_block (w := w) (hb b (by omega))).trans (hrr j hj)⟩
theorem grownBy_own {w w' w0 : World} {g : Nat} {row : Option Nat} (h : w0.grownBy w (some g)) (hg : w.grownBy w' row) (hr : ∀ k, row = some k → w0.heap.size ≤ k) : w0.grownBy w' (some g) :=
  ⟨hg.os.trans h.os, hg.tape.trans h.tape, hg.output.trans h.output, Nat.le_trans h.size hg.size, fun i hi hne => (hg.block i (Nat.lt_of_lt_of_le hi h.size) (fun e => by have := hr i e.symm; omega)).trans (h.block i hi hne)⟩

end Go.Proofs.Ytdahcdgefflkaaa
namespace Go.Proofs.Ytdahcdgefflkaaa
def runeOk (r : Int) : Bool := decide (0 ≤ r ∧ r ≤ 1114111 ∧ (r < 55296 ∨ 57343 < r))

theorem runeOk_bd (r : Int) (h : runeOk r = true) : 0 ≤ r ∧ r ≤ 1114111 := by simp [runeOk] at h; omega

def both (p : Nat × Nat) : Int × Int := ((p.1 : Int), (p.2 : Int))
end Go.Proofs.Ytdahcdgefflkaaa
namespace Go.Proofs.Ytdahcdgefflkaaa
open Go.ChangeShapes Go.WideShapes Go.ChangeAt Go.RowKit
theorem info_i64 : (Try.prog.info? 2).map (fun i => (i.zero, i.size, i.bytes)) = some (some (.int .i64 0), 1, 8) := by kernel_rfl
end Go.Proofs.Ytdahcdgefflkaaa
namespace Go.Proofs.Ytdahcdgefflkaaa
open Go.ChangeShapes Go.WideShapes Go.ChangeAt Go.RowKit
theorem zeros_ints (n : Nat) : (madeCells (Value.int .i64 0).cells (n * 1)).toList = (List.replicate n (0 : Int)).map (Value.int .i64) := by
  have hz : (Value.int .i64 0).cells = #[Value.int .i64 0] := by rfl
  rw [hz, Nat.mul_one]
  apply List.ext_getElem?
  intro i
  rw [Array.getElem?_toList]
  unfold madeCells
  rw [Array.getElem?_map, Array.getElem?_range]
  by_cases h : i < n
  · simp [h, Nat.mod_one]
  · simp [h]
set_option maxHeartbeats 2000000 in
set_option maxRecDepth 20000 in
theorem l9Draw_a (g : Nat) (v : Value) (xs : List Int) (w : World) (hc : CurAt w g v xs) :
    Calls Try.prog 34 #[.pointer (some ⟨g, 0, none⟩)] w fun e w' => ∃ (u : Value) (ys : List Int), e = .returned u ∧ ys.length ≤ 41 ∧ w'.ownsRow w.heap.size 2 1 u ys.length (ys.map (Value.int .i64)) ∧ CurAt w' g v xs ∧ w.grownBy w' (some g) := by
  obtain ⟨i0, hi, hz0, hz1, hz2⟩ := info_parts info_int64d
  have hlt := hc.1
  have ho0 := World.ownsRow_lit (base := w.heap.size) (e := 2) (size := 1) w #[] 0 (Nat.le_refl _) (Nat.zero_le _) rfl
  go_enter Try.func34, Try.ntmps34
  go_wp2_with fail
  refine (l1Below_a g v xs 9 _ (hc.below (bal w _))).mono ?_
  rintro e w1 ⟨x, rfl, hx0, hx1, _, hc1, hg1⟩
  obtain ⟨k, rfl⟩ : ∃ k : Nat, x = k := ⟨x.toNat, by omega⟩
  have hk : k ≤ 8 := by have := hx1 (by omega); omega
  have ho1 := own_grow ho0 hg1 hlt
  have hgr := gtr (World.grownBy_alloc w _ (some g)) hg1
  clear hg1 hc hx1 ho0
  go_wp2
  go_loopw [3, 4] (fun u i wr => ∃ (j : Nat) (ys : List Int), i = .int .i64 j ∧ ys.length + j ≤ 8 ∧ wr.ownsRow w.heap.size 2 1 u ys.length (ys.map (Value.int .i64)) ∧ CurAt wr g v xs ∧ w.grownBy wr (some g)) (fun _ i _ => (intOf i).toNat)
  case atStart => exact ⟨k, [], rfl, by simpa using hk, by simpa using ho1, hc1, hgr⟩
  case round =>
    clear hk ho1 hc1 hgr
    obtain ⟨j, ys, rfl, hjl, ho, hcw, hgw⟩ := hrel
    by_cases hj : 0 < j
    · have hji : 0 < (j : Int) := by omega
      go_wp2_with fail
      refine (l1Below_a g v xs 4 _ hcw).mono ?_
      rintro e w2 ⟨r, rfl, _, _, _, hc2, hg2⟩
      have ho2 := own_grow ho hg2 hlt
      have hgw2 := gtr hgw hg2
      clear hcw hg2 hgw ho
      go_wp2_with (at_builtin; refine wpList_append_own _ rfl _ _ 24 rfl w.heap.size 2 i0 (.int .i64 0) 1 8 Try.underlying24 hi hz0 hz1 hz2 rfl (by decide) _ _ _ rfl (ho2.alloc _) ⟨_, 0, none⟩ 1 1 [.int .i64 r] rfl rfl ?c1 ?c2 ?c3 ?c4 ?c5 ?_)
      case c1 =>
        intro j u hj
        match j, hj with
        | 0, hj => simp at hj; subst hj; simp [Addr.add]
      case c2 => intro u hu; simp at hu; subst hu; rfl
      case c3 => unfold maxLen; omega
      case c4 => omega
      case c5 => have := hgw2.size; simp; omega
      · intro v' w3 ho3 hg3 _
        have hown : ∀ k, u3.ownBlock = some k → w.heap.size ≤ k := fun k hk => (ho2.lt k hk).1
        have hc3 := (hc2.below (bal w2 _)).grown_own hg3 (fun k hk => by have := hown k hk; omega)
        have hgw3 := grownBy_own (gtr hgw2 (World.grownBy_alloc w2 _ (some g))) hg3 hown
        clear hg3 hown ho2 hc2 hgw2
        go_wp2
        go_roundw
        case rel => exact ⟨j - 1, ys ++ [r], by go_num, by simp; omega, by simpa using ho3, hc3, hgw3⟩
        case measure => simp [intOf]; omega
    · have hji : ¬ 0 < (j : Int) := by omega
      go_wp2_with fail
      refine (l1Once_a g v xs 30 _ hcw).mono ?_
      rintro e w4 ⟨b, rfl, hc4, hg4⟩
      have ho4 := own_grow ho hg4 hlt
      have hgw4 := gtr hgw hg4
      clear hcw hg4 ho hgw
      cases b
      · go_wp2
        go_ret
        exact ⟨_, ys, rfl, by omega, ho4, hc4, hgw4⟩
      · go_wp2_with fail
        refine (l1Below_a g v xs 2 _ hc4).mono ?_
        rintro e w5 ⟨x, rfl, hx0, hx1, _, hc5, hg5⟩
        obtain ⟨q, rfl⟩ : ∃ q : Nat, x = q := ⟨x.toNat, by omega⟩
        have hq : q ≤ 1 := by have := hx1 (by omega); omega
        have hgw5 := gtr hgw4 hg5
        have hsz5 := hgw5.size
        clear ho4 hc4 hg5 hx1 hgw4
        obtain ⟨n, hn⟩ : ∃ n, Hid (40 + q = n) := ⟨_, rfl⟩
        have eN : IntKind.i64.wrap (40 + (q : Int)) = (n : Int) := by have := hn.out; simp [IntKind.wrap, IntKind.bits, IntKind.signed]; omega
        have hn41 : n ≤ 41 := by have := hn.out; omega
        go_wp2_with (refine wpList_make_full _ rfl _ _ 24 rfl w.heap.size 2 i0 (.int .i64 0) 1 Try.underlying24 hi hz0 hz1 .i64 .i64 (n : Int) (n : Int) n rfl rfl rfl rfl ?c1 ?c2 ?c3 ?_)
        case c1 => rw [hz2]; omega
        case c2 => unfold maxLen; omega
        case c3 => exact hsz5
        intro w6 ho6 hg6
        have hc6 := hc5.grown_own hg6 (fun k hk => by cases hk)
        have hgw6 := gtr hgw5 ⟨hg6.os, hg6.tape, hg6.output, hg6.size, fun i hi hne => hg6.block i hi (by intro e; cases e)⟩
        have hzr : (madeCells #[Value.int .i64 0] n).toList = (List.replicate n (0 : Int)).map (Value.int .i64) := by
          have := zeros_ints n
          rw [Nat.mul_one] at this
          exact this
        have ho7 : w6.ownsRow w.heap.size 2 1 (.slice (some ⟨w5.heap.size, 0, none⟩) n n) n ((List.replicate n (0 : Int)).map (Value.int .i64)) := by rw [← hzr]; exact ho6
        clear hg6 ho6 hzr
        go_wp2
        go_ret
        exact ⟨_, List.replicate n 0, rfl, by simp; omega, by simpa using ho7, hc6, hgw6⟩
set_option maxHeartbeats 1000000 in
theorem drawApart_a (v : Value) (xs : List Int) (w : World) (hv : SlB w v xs) :
    Calls Try.prog 10 #[v] w fun e w' => ∃ (u1 u2 : Value) (ys zs : List Int), e = .returned (.tuple #[u1, u2]) ∧ ys.length ≤ 41 ∧ zs.length ≤ 41 ∧ SlI w' u1 ys ∧ SlI w' u2 zs ∧ Below w.heap.size w w' := by
  go_enter Try.func10, Try.ntmps10
  go_wp2_with fail
  refine (l1New_a v xs _ hv).mono ?_
  rintro e w1 ⟨rfl, hc1, hb1⟩
  go_wp2_with fail
  refine (l9Draw_a _ v xs _ hc1).mono ?_
  rintro e w2 ⟨u1, ys, rfl, hy, ho2, hc2, hg2⟩
  have hb2 := hb1.grown hg2 hb1.size (fun k hk => by cases hk; exact Nat.le_refl _)
  have hlt := hc1.1
  clear hc1 hb1 hg2
  go_wp2_with fail
  refine (l9Draw_a _ v xs _ hc2).mono ?_
  rintro e w3 ⟨u2, zs, rfl, hz, ho3, hc3, hg3⟩
  have hb3 := hb2.grown hg3 hb2.size (fun k hk => by cases hk; exact Nat.le_refl _)
  have ho4 := own_grow ho2 hg3 hlt
  clear hc2 hc3 hb2 hg3 ho2
  go_wp2
  exact bodyPost_ret (results_tmp2 rfl _ _ _) rfl ⟨_, _, ys, zs, rfl, hy, hz, SlI.of_own ho4, SlI.of_own ho3, hb3⟩
end Go.Proofs.Ytdahcdgefflkaaa
namespace Go.Proofs.Ytdahcdgefflkaaa
open Go.ChangeShapes Go.WideShapes Go.ChangeAt Go.RowKit
theorem u8_bd (y : Int) (h : (Lit.int .u8 y).wf = true) : 0 ≤ y ∧ y < 256 := by
  have := bounds_u8 h
  omega
theorem SlB.of_row {w : World} {a : Option Addr} {len cap : Nat} {zs : List Int} (h : IsRow .u8 w a len cap zs) (h4 : len ≤ 4096) : SlB w (.slice a len cap) (zs.take len) ∧ (zs.take len).length = len := by
  rcases h with ⟨rfl, rfl, rfl, rfl⟩ | ⟨x, rfl, hl, hm, hz, hc, hw⟩
  · exact ⟨⟨none, 0, rfl, by simp, by simp, .inl rfl⟩, rfl⟩
  · have hlen : (zs.take len).length = len := by rw [List.length_take]; omega
    refine ⟨⟨some x, cap, by rw [hlen], by rw [hlen]; exact h4, fun y hy => ?_, ?_⟩, hlen⟩
    · have := hw y (List.mem_of_mem_take hy)
      exact u8_bd y this
    · by_cases h0 : len = 0
      · left; subst h0; simp
      · right
        obtain ⟨b, off, spot⟩ := x
        have h1 := hc 0 (by omega)
        have hspot : spot = none := by simpa [Addr.add] using World.cell?_spot h1
        subst hspot
        refine ⟨b, off, rfl, World.block_lt_of_cell? w _ h1, fun i hi => ?_⟩
        rw [hlen] at hi
        have h2 := hc i (by omega)
        have e : (zs.take len).getD i 0 = zs.getD i 0 := by simp [List.getD, hi]
        rw [e, ← h2]
        by_cases hi0 : i = 0
        · subst hi0; simp [Addr.add]
        · simp [Addr.add, hi0]
theorem big_a (a : Option Addr) (len cap : Nat) (w : World) :
    Calls Try.prog 9 #[.slice a len cap] w fun e w' => e = .returned (.bool (decide (4096 < (len : Int)))) ∧ w' = w := by
  go_enter Try.func9, Try.ntmps9
  go_wp2
  go_ret
  exact ⟨rfl, rfl⟩
end Go.Proofs.Ytdahcdgefflkaaa
namespace Go.Proofs.Ytdahcdgefflkaaa
open Go.ChangeShapes Go.WideShapes Go.ChangeAt Go.RowKit
set_option maxHeartbeats 400000 in
theorem like_same (va vb : Value) (xs : List Int) (w : World) (ha : SlI w va xs) (hb : SlI w vb xs) (hl : xs.length ≤ 1073741824) :
    Calls Try.prog 16 #[va, vb] w fun e w' => e = .returned (.bool true) ∧ ∃ n, w' = w.drewN n := by
  by_cases h0 : xs = []
  · subst h0
    obtain ⟨a, c, rfl, _⟩ := ha
    obtain ⟨a', c', rfl, _⟩ := hb
    go_enter Try.func16, Try.ntmps16
    go_wp2
    refine wp_loop_rounds 1 ?_
    rw [rounds_succ]
    go_wp2
    go_ret
    exact ⟨rfl, 0, rfl⟩
  · obtain ⟨_, c, rfl, e | ⟨b, off, rfl, _, hca⟩⟩ := ha
    · exact absurd e h0
    · obtain ⟨_, c', rfl, e | ⟨b', off', rfl, _, hcb⟩⟩ := hb
      · exact absurd e h0
      · generalize hn : xs.length = n at *
        clear h0 hn
        go_enter Try.func16, Try.ntmps16
        go_wp2
        go_loopw [5] (fun i wr => ∃ k : Nat, k ≤ n ∧ i = .int .i64 k ∧ ∃ m, wr = w.drewN m) (fun i _ => n - (intOf i).toNat)
        case atStart => exact ⟨0, Nat.zero_le _, rfl, 0, rfl⟩
        case round =>
          obtain ⟨k, hk, rfl, m, rfl⟩ := hrel
          by_cases hlt : k < n
          · have h1 : w.cell? ⟨b, off + k, none⟩ = some (.int .i64 (xs.getD k 0)) := hca k hlt
            have h2 : w.cell? ⟨b', off' + k, none⟩ = some (.int .i64 (xs.getD k 0)) := hcb k hlt
            have hi : (k : Int) < (n : Int) := by omega
            generalize xs.getD k 0 = x at *
            clear hca hcb
            go_wp2
            go_quiet (fail)
            go_wp2
            go_roundw
            case rel => exact ⟨k + 1, by omega, by go_num, m + nq, by simp⟩
            case measure => simp [intOf]; omega
          · go_wp2
            go_ret
            exact ⟨rfl, m, rfl⟩


/-- A slice whose cells hold these values, one a place: what append takes its news from. -/
def ReadsRow (w : World) (u : Value) (news : List Value) : Prop :=
  (u = .slice none 0 0 ∧ news = []) ∨ ∃ ad c, u = .slice (some ad) news.length c ∧ ∀ j x, news[j]? = some x → w.cell? (ad.add j) = some x
theorem ReadsRow.of_own {w : World} {base : Nat} {e : TypeId} {v : Value} {n : Nat} {xs : List Value} (h : w.ownsRow base e 1 v n xs) : ReadsRow w v xs := by
  have hl : xs.length = n := by simpa using h.1
  rcases h.2 with ⟨rfl, rfl⟩ | ⟨g, cap, cur, hv, _⟩
  · exact .inl ⟨rfl, List.eq_nil_of_length_eq_zero hl⟩
  · exact .inr ⟨⟨g, 0, none⟩, cap, by rw [hv, hl], h.cells (by rw [hv]; rfl)⟩
theorem ReadsRow.below {w w' : World} {u : Value} {news : List Value} (h : ReadsRow w u news) (hb : Below w.heap.size w w') : ReadsRow w' u news := by
  rcases h with h | ⟨ad, c, hu, hc⟩
  · exact .inl h
  · refine .inr ⟨ad, c, hu, fun j x hx => ?_⟩
    have h1 := hc j x hx
    exact (hb.cell (World.block_lt_of_cell? w _ h1)).trans h1
end Go.Proofs.Ytdahcdgefflkaaa
namespace Go.Proofs.Ytdahcdgefflkaaa
def edD (t : Bool) (x y : Nat → Int) : Nat → Nat → Int
  | 0, j => j
  | i + 1, 0 => (i : Int) + 1
  | i + 1, j + 1 =>
    if x i = y j then edD t x y i j
    else 1 + (if t then min (edD t x y i j) (min (edD t x y i (j + 1)) (edD t x y (i + 1) j)) else min (edD t x y i (j + 1)) (edD t x y (i + 1) j))
termination_by i j => i + j
def edL (x y : Nat → Int) : Nat → Nat → Int
  | 0, _ => 0
  | _ + 1, 0 => 0
  | i + 1, j + 1 => if x i = y j then edL x y i j + 1 else max (edL x y i (j + 1)) (edL x y (i + 1) j)
termination_by i j => i + j
theorem edD_0 (t : Bool) (x y : Nat → Int) (j : Nat) : edD t x y 0 j = j := by cases j <;> simp [edD]
theorem edD_i0 (t : Bool) (x y : Nat → Int) (i : Nat) : edD t x y i 0 = i := by cases i <;> simp [edD]
theorem edD_eq (t : Bool) (x y : Nat → Int) (i j : Nat) (h : x i = y j) : edD t x y (i + 1) (j + 1) = edD t x y i j := by rw [edD, if_pos h]
theorem edD_ne (t : Bool) (x y : Nat → Int) (i j : Nat) (h : ¬ x i = y j) : edD t x y (i + 1) (j + 1) = 1 + (if t then min (edD t x y i j) (min (edD t x y i (j + 1)) (edD t x y (i + 1) j)) else min (edD t x y i (j + 1)) (edD t x y (i + 1) j)) := by rw [edD, if_neg h]
theorem edL_0 (x y : Nat → Int) (j : Nat) : edL x y 0 j = 0 := by cases j <;> simp [edL]
theorem edL_i0 (x y : Nat → Int) (i : Nat) : edL x y i 0 = 0 := by cases i <;> simp [edL]
theorem edL_eq (x y : Nat → Int) (i j : Nat) (h : x i = y j) : edL x y (i + 1) (j + 1) = edL x y i j + 1 := by rw [edL, if_pos h]
theorem edL_ne (x y : Nat → Int) (i j : Nat) (h : ¬ x i = y j) : edL x y (i + 1) (j + 1) = max (edL x y i (j + 1)) (edL x y (i + 1) j) := by rw [edL, if_neg h]
/-- An induction over both. -/
theorem ed_ind (C : Nat → Nat → Prop) (h0 : ∀ j, C 0 j) (h1 : ∀ i, C i 0) (h2 : ∀ i j, C i j → C i (j + 1) → C (i + 1) j → C (i + 1) (j + 1)) : ∀ i j, C i j := by
  intro i
  induction i with
  | zero => exact h0
  | succ i ih =>
    intro j
    induction j with
    | zero => exact h1 _
    | succ j jh => exact h2 i j (ih j) (ih (j + 1)) jh
theorem edD_bd (t : Bool) (x y : Nat → Int) : ∀ i j, 0 ≤ edD t x y i j ∧ edD t x y i j ≤ i + j := by
  refine ed_ind _ (fun j => by rw [edD_0]; omega) (fun i => by rw [edD_i0]; omega) (fun i j h1 h2 h3 => ?_)
  by_cases h : x i = y j
  · rw [edD_eq t x y i j h]; omega
  · rw [edD_ne t x y i j h]; cases t <;> simp only [if_true, if_false, Bool.false_eq_true] <;> omega
theorem edL_bd (x y : Nat → Int) : ∀ i j, 0 ≤ edL x y i j ∧ edL x y i j ≤ i ∧ edL x y i j ≤ j := by
  refine ed_ind _ (fun j => by rw [edL_0]; omega) (fun i => by rw [edL_i0]; omega) (fun i j h1 h2 h3 => ?_)
  by_cases h : x i = y j
  · rw [edL_eq x y i j h]; omega
  · rw [edL_ne x y i j h]; omega
theorem edD_shared (x y : Nat → Int) : ∀ i j, edD false x y i j = i + j - 2 * edL x y i j := by
  refine ed_ind _ (fun j => by rw [edD_0, edL_0]; omega) (fun i => by rw [edD_i0, edL_i0]; omega) (fun i j h1 h2 h3 => ?_)
  by_cases h : x i = y j
  · rw [edD_eq _ x y i j h, edL_eq x y i j h]; omega
  · rw [edD_ne _ x y i j h, edL_ne x y i j h]; simp only [if_false, Bool.false_eq_true]; omega
/-- A row of distances has one that is no more than what lies further down. -/
theorem edD_row (t : Bool) (x y : Nat → Int) (i : Nat) : ∀ j, ∃ k, k ≤ j ∧ edD t x y i k ≤ edD t x y (i + 1) j := by
  intro j
  induction j with
  | zero => exact ⟨0, Nat.le_refl _, by rw [edD_i0, edD_i0]; omega⟩
  | succ j ih =>
    obtain ⟨k, hk, hle⟩ := ih
    by_cases h : x i = y j
    · exact ⟨j, by omega, by rw [edD_eq t x y i j h]; omega⟩
    · rw [edD_ne t x y i j h]
      cases t
      · simp only [if_false, Bool.false_eq_true]
        by_cases h1 : edD false x y i (j + 1) ≤ edD false x y (i + 1) j
        · exact ⟨j + 1, by omega, by omega⟩
        · exact ⟨k, by omega, by omega⟩
      · simp only [if_true]
        by_cases h0 : edD true x y i j ≤ min (edD true x y i (j + 1)) (edD true x y (i + 1) j)
        · exact ⟨j, by omega, by omega⟩
        · by_cases h1 : edD true x y i (j + 1) ≤ edD true x y (i + 1) j
          · exact ⟨j + 1, by omega, by omega⟩
          · exact ⟨k, by omega, by omega⟩
theorem edD_rows (t : Bool) (x y : Nat → Int) (i : Nat) : ∀ d j, ∃ k, k ≤ j ∧ edD t x y i k ≤ edD t x y (i + d) j := by
  intro d
  induction d with
  | zero => exact fun j => ⟨j, Nat.le_refl _, Int.le_refl _⟩
  | succ d ih =>
    intro j
    obtain ⟨k, hk, hle⟩ := edD_row t x y (i + d) j
    obtain ⟨k', hk', hle'⟩ := ih k
    exact ⟨k', by omega, by rw [← Nat.add_assoc]; omega⟩
/-- A distance within a limit; 160 stands for all that lie beyond. -/
def edC (l d : Int) : Int := if d ≤ l then d else 160
/-- What a place of the rows is made of, where those ahead of it are cut at a limit. -/
def edS (t : Bool) (x y : Nat → Int) (R : Nat → Nat → Int) : Nat → Nat → Int
  | 0, 0 => 0
  | 0, j + 1 => min 160 (R 0 j + 1)
  | i + 1, 0 => min 160 (R i 0 + 1)
  | i + 1, j + 1 => if x i = y j then R i j else if t then min (min (min 160 (R i j + 1)) (R i (j + 1) + 1)) (R (i + 1) j + 1) else min (min 160 (R i (j + 1) + 1)) (R (i + 1) j + 1)
theorem edC_min (l a : Int) (h : 0 ≤ l ∧ l < 160) (ha : 0 ≤ a) : edC l (min 160 (edC l a + 1)) = edC l (a + 1) := by
  unfold edC; split <;> split <;> split <;> omega
/-- The rows, cut: what comes of cut ones, cut, is the distance cut. -/
theorem edS_cut (t : Bool) (x y : Nat → Int) (l : Int) (hl : 0 ≤ l ∧ l < 160) (R : Nat → Nat → Int) (i j : Nat) (hR : ∀ i' j', (i' < i ∧ j' ≤ j) ∨ (i' = i ∧ j' < j) → R i' j' = edC l (edD t x y i' j')) : edC l (edS t x y R i j) = edC l (edD t x y i j) := by
  cases i with
  | zero =>
    cases j with
    | zero => rw [edD_0]; rfl
    | succ j =>
      rw [edS, hR 0 j (by omega), edC_min l _ hl (edD_bd t x y 0 j).1, edD_0, edD_0]; congr 1
  | succ i =>
    cases j with
    | zero => rw [edS, hR i 0 (by omega), edC_min l _ hl (edD_bd t x y i 0).1, edD_i0, edD_i0]; congr 1
    | succ j =>
      have b1 := (edD_bd t x y i j).1
      have b2 := (edD_bd t x y i (j + 1)).1
      have b3 := (edD_bd t x y (i + 1) j).1
      rw [edS, hR i j (by omega)]
      by_cases h : x i = y j
      · rw [if_pos h, edD_eq t x y i j h]; unfold edC; split <;> simp_all <;> omega
      · rw [if_neg h, edD_ne t x y i j h, hR i (j + 1) (by omega), hR (i + 1) j (by omega)]
        generalize edD t x y i j = p at *
        generalize edD t x y i (j + 1) = q at *
        generalize edD t x y (i + 1) j = r at *
        cases t
        · simp only [if_false, Bool.false_eq_true]
          unfold edC; repeat' split
          all_goals omega
        · simp only [if_true]
          unfold edC; repeat' split
          all_goals omega
end Go.Proofs.Ytdahcdgefflkaaa
namespace Go.Proofs.Ytdahcdgefflkaaa
open Go.ChangeShapes Go.WideShapes Go.ChangeAt Go.RowKit
theorem wid {x y : Int} (h : x = y) (h1 : -9223372036854775808 ≤ x) (h2 : x ≤ 9223372036854775807) : IntKind.i64.wrap x = y := by
  subst h; simp [IntKind.wrap, IntKind.bits, IntKind.signed]; omega
/-- A table of W numbers a row, filled up to a place. -/
def TabT (ys : List Value) (W m : Nat) (f : Nat → Nat → Int) (i j : Nat) : Prop :=
  ∀ i' j', j' < W → i' ≤ m → ys[i' * W + j']? = some (.int .i64 (if i' < i ∨ (i' = i ∧ j' < j) then f i' j' else 0))
theorem tab_lt {W m i j : Nat} (hi : i ≤ m) (hj : j < W) : i * W + j < (m + 1) * W := by
  have h1 : i * W ≤ m * W := Nat.mul_le_mul_right W hi
  have h2 : (m + 1) * W = m * W + W := by rw [Nat.add_mul]; simp
  omega
theorem tab_inj {W i j i' j' : Nat} (hj : j < W) (hj' : j' < W) (h : i * W + j = i' * W + j') : i = i' ∧ j = j' := by
  have hW : 0 < W := by omega
  have h1 : (i * W + j) / W = i := by rw [Nat.mul_comm, Nat.mul_add_div hW, Nat.div_eq_of_lt hj]; rfl
  have h2 : (i' * W + j') / W = i' := by rw [Nat.mul_comm, Nat.mul_add_div hW, Nat.div_eq_of_lt hj']; rfl
  have e : i = i' := by rw [← h1, ← h2, h]
  subst e
  exact ⟨rfl, by omega⟩
theorem TabT.zero (W m : Nat) (f : Nat → Nat → Int) : TabT (List.replicate ((m + 1) * W) (.int .i64 0)) W m f 0 0 := by
  intro i' j' hj hi
  have := tab_lt hi hj
  rw [if_neg (by omega)]
  simp [this]
theorem TabT.set {ys : List Value} {W m : Nat} {f : Nat → Nat → Int} {i j p : Nat} {x : Int} (h : TabT ys W m f i j) (hj : j < W) (hi : i ≤ m) (hp : p = i * W + j) (hl : ys.length = (m + 1) * W) (hx : x = f i j) : TabT (ys.set p (.int .i64 x)) W m f i (j + 1) := by
  subst hp; subst hx
  intro i' j' hj' hi'
  have hlt := tab_lt hi hj
  by_cases e : i' = i ∧ j' = j
  · obtain ⟨rfl, rfl⟩ := e
    rw [List.getElem?_set_self (by omega), if_pos (by omega)]
  · rw [List.getElem?_set_ne (fun q => e (by have := tab_inj hj hj' q; omega)), h i' j' hj' hi']
    have : (i' < i ∨ (i' = i ∧ j' < j + 1)) ↔ (i' < i ∨ (i' = i ∧ j' < j)) := by omega
    simp only [this]
theorem TabT.row {ys : List Value} {W m : Nat} {f : Nat → Nat → Int} {i : Nat} (h : TabT ys W m f i W) : TabT ys W m f (i + 1) 0 := by
  intro i' j' hj' hi'
  rw [h i' j' hj' hi']
  have : (i' < i + 1 ∨ (i' = i + 1 ∧ j' < 0)) ↔ (i' < i ∨ (i' = i ∧ j' < W)) := by omega
  simp only [this]
theorem TabT.skip {ys : List Value} {W m : Nat} {f : Nat → Nat → Int} {i : Nat} (h : TabT ys W m f i 0) (h0 : f i 0 = 0) : TabT ys W m f i 1 := by
  intro i' j' hj' hi'
  rw [h i' j' hj' hi']
  by_cases e : i' = i ∧ j' = 0
  · obtain ⟨rfl, rfl⟩ := e
    rw [if_neg (by omega), if_pos (by omega), h0]
  · have : (i' < i ∨ (i' = i ∧ j' < 1)) ↔ (i' < i ∨ (i' = i ∧ j' < 0)) := by omega
    simp only [this]
theorem TabT.at {ys : List Value} {W m : Nat} {f : Nat → Nat → Int} {i j : Nat} (h : TabT ys W m f i j) (i' j' : Nat) (hj' : j' < W) (hi' : i' ≤ m) (hd : i' < i ∨ (i' = i ∧ j' < j)) : ys[i' * W + j']? = some (.int .i64 (f i' j')) := by
  rw [h i' j' hj' hi', if_pos hd]
theorem l9Two_any (va vb : Value) (xs ys : List Int) (w : World) (ha : SlI w va xs) (hb : SlI w vb ys) :
    Calls Try.prog 39 #[va, vb] w fun e w' => e = .returned (.bool (decide (xs.length ≤ 40 ∧ ys.length ≤ 40))) ∧ w' = w := by
  obtain ⟨a, c, rfl, _⟩ := ha
  obtain ⟨a', c', rfl, _⟩ := hb
  obtain ⟨r, hr⟩ : ∃ r, Hid (decide (xs.length ≤ 40 ∧ ys.length ≤ 40) = r) := ⟨_, rfl⟩
  rw [hr.out]
  have hr2 : r = decide (xs.length ≤ 40 ∧ ys.length ≤ 40) := hr.out.symm
  generalize xs.length = m at *
  generalize ys.length = n at *
  clear hr
  go_enter Try.func39, Try.ntmps39
  by_cases h1 : m ≤ 40
  · have h1i : (m : Int) ≤ 40 := by omega
    by_cases h2 : n ≤ 40
    · have h2i : (n : Int) ≤ 40 := by omega
      have hr3 : r = true := by rw [hr2]; exact decide_eq_true ⟨h1, h2⟩
      subst hr3; clear hr2
      go_wp2
      go_ret
      exact ⟨rfl, rfl⟩
    · have h2i : ¬ (n : Int) ≤ 40 := by omega
      have hr3 : r = false := by rw [hr2]; exact decide_eq_false (by omega)
      subst hr3; clear hr2
      go_wp2
      go_ret
      exact ⟨rfl, rfl⟩
  · have h1i : ¬ (m : Int) ≤ 40 := by omega
    have hr3 : r = false := by rw [hr2]; exact decide_eq_false (by omega)
    subst hr3; clear hr2
    go_wp2
    go_ret
    exact ⟨rfl, rfl⟩
theorem l1Min_e (a b : Int) (w : World) :
    Calls Try.prog 54 #[.int .i64 a, .int .i64 b] w fun e w' => e = .returned (.int .i64 (min a b)) ∧ w' = w := by
  obtain ⟨m, hm⟩ : ∃ m, Hid (min a b = m) := ⟨_, rfl⟩
  rw [hm.out]
  go_enter Try.func54, Try.ntmps54
  by_cases h : a < b
  · have e : m = a := by rw [← hm.out]; omega
    subst e
    go_wp2
    go_ret
    exact ⟨rfl, rfl⟩
  · have e : m = b := by rw [← hm.out]; omega
    subst e
    go_wp2
    go_ret
    exact ⟨rfl, rfl⟩
theorem l1Max_e (a b : Int) (w : World) :
    Calls Try.prog 41 #[.int .i64 a, .int .i64 b] w fun e w' => e = .returned (.int .i64 (max a b)) ∧ w' = w := by
  obtain ⟨m, hm⟩ : ∃ m, Hid (max a b = m) := ⟨_, rfl⟩
  rw [hm.out]
  go_enter Try.func41, Try.ntmps41
  by_cases h : a > b
  · have e : m = a := by rw [← hm.out]; omega
    subst e
    go_wp2
    go_ret
    exact ⟨rfl, rfl⟩
  · have e : m = b := by rw [← hm.out]; omega
    subst e
    go_wp2
    go_ret
    exact ⟨rfl, rfl⟩
end Go.Proofs.Ytdahcdgefflkaaa
namespace Go.Proofs.Ytdahcdgefflkaaa
open Go.ChangeShapes Go.WideShapes Go.ChangeAt Go.RowKit
theorem allReady_1 {P : Program} {ops : Array Oper} {Q : Exit → Act → World → Prop} {md : Region.Mode} {S : World → Prop} {fuel : Nat} {listed : Array Bool} {a : Act} {w : World} {i : Nat} {o : Oper} (ho : ops[i]? = some o) (hg : o.guard = none)
    (h : ∀ K' : Act → World → Prop, Shut (∀ a w, S w → (S w → wpAnyH P md ops Q S fuel (listed.setIfInBounds i true) a w) → K' a w) → Oper.wp P o a w K' Q) : AllReadyH P md ops Q S fuel listed a w [i] :=
  AllReadyH.cons ho (fun K' hK => by rw [if_pos (by simp [Region.wanted, hg])]; exact h K' hK) AllReadyH.nil
theorem cell_set_ne (w : World) (B p q : Nat) (u : Value) (h : q ≠ p) : (w.setCell ⟨B, p, none⟩ u).cell? ⟨B, q, none⟩ = w.cell? ⟨B, q, none⟩ :=
  World.cell?_setCell_other _ _ _ _ (fun e => by cases e; exact h rfl)
end Go.Proofs.Ytdahcdgefflkaaa
namespace Go.Proofs.Ytdahcdgefflkaaa
def widthV (r : Int) : Int :=
  if r < 32 ∨ runeOk r = false ∨ (127 ≤ r ∧ r ≤ 159) ∨ (768 ≤ r ∧ r ≤ 879) then 0
  else if (4352 ≤ r ∧ r ≤ 4447) ∨ (12288 ≤ r ∧ r ≤ 55295) ∨ (127744 ≤ r ∧ r ≤ 131071) then 2 else 1
end Go.Proofs.Ytdahcdgefflkaaa
namespace Go.Proofs.Ytdahcdgefflkaaa
structure Pa where
  state : Int
  params : List Int
  mark : Int
  text : List Int
structure Ac where
  kind : Int
  rune : Int
  params : List Int
  mark : Int
  text : List Int
def st0 (s : Int) : Pa := ⟨s, [], 0, []⟩
def one0 (ps : List Int) : List Int := if ps.length = 0 then [0] else ps
def digitP (ps : List Int) (d : Int) : List Int := (one0 ps).set ((one0 ps).length - 1) (min 9999 (10 * (one0 ps).getD ((one0 ps).length - 1) 0 + d))
def semiP (ps : List Int) : List Int := if (one0 ps).length < 16 then one0 ps ++ [0] else one0 ps
def acR (k r : Int) : Ac := ⟨k, r, [], 0, []⟩
def escM (r : Int) : Pa × List Ac :=
  if r = 91 then (st0 3, []) else if r = 93 then (st0 4, []) else if 48 ≤ r ∧ r ≤ 126 then (st0 1, [acR 3 r]) else (st0 1, [])
/-- Whether a list takes a rune in. -/
def takes (ps : List Int) (m r : Int) : Bool := decide (r = 63 ∧ ps.length = 0 ∧ m = 0 ∨ 48 ≤ r ∧ r ≤ 57 ∨ r = 59)
def takenP (p : Pa) (r : Int) : Pa :=
  if r = 63 ∧ p.params.length = 0 ∧ p.mark = 0 then ⟨p.state, p.params, 63, p.text⟩
  else if 48 ≤ r ∧ r ≤ 57 then ⟨p.state, digitP p.params (r - 48), p.mark, p.text⟩
  else ⟨p.state, semiP p.params, p.mark, p.text⟩
def listM (p : Pa) (r : Int) : Pa × List Ac :=
  if takes p.params p.mark r = true then (takenP p r, [])
  else if 64 ≤ r ∧ r ≤ 126 then (st0 1, [⟨4, r, p.params, p.mark, []⟩]) else (st0 1, [])
def titleM (p : Pa) (r : Int) : Pa × List Ac :=
  if r = 7 then (st0 1, [⟨5, 0, [], 0, p.text⟩])
  else if r = 27 then (⟨5, p.params, p.mark, p.text⟩, [])
  else if p.text.length < 40 then (⟨p.state, p.params, p.mark, p.text ++ [r]⟩, []) else (p, [])
def endM (p : Pa) (r : Int) : Pa × List Ac := if r = 92 then (st0 1, [⟨5, 0, [], 0, p.text⟩]) else (st0 1, [])
/-- A control that leaves the state as it is. -/
def stays (r : Int) : Bool := decide ((r < 32 ∨ r = 127) ∧ r ≠ -1 ∧ r ≠ 24 ∧ r ≠ 26 ∧ r ≠ 27)
def stepM (p : Pa) (r : Int) : Pa × List Ac :=
  if p.state = 4 then titleM p r
  else if p.state = 5 then endM p r
  else if r = 27 then (st0 2, [])
  else if r = 24 ∨ r = 26 then (st0 1, [])
  else if r < 32 ∨ r = 127 then (p, [acR 2 r])
  else if p.state = 2 then escM r
  else if p.state = 3 then listM p r
  else if 0 < widthV r then (p, [acR 1 r]) else (p, [])
def parsedM : Pa → List Int → Pa × List Ac
  | p, [] => (p, [])
  | p, r :: l => ((parsedM (stepM p r).1 l).1, (stepM p r).2 ++ (parsedM (stepM p r).1 l).2)
/-- What comes of a parser, of what is left and of what was told. -/
def Fin (p : Pa) (l : List Int) (t : List Ac) : Pa × List Ac := ((parsedM p l).1, t ++ (parsedM p l).2)
theorem Fin_cons (p : Pa) (r : Int) (l : List Int) (t : List Ac) : Fin p (r :: l) t = Fin (stepM p r).1 l (t ++ (stepM p r).2) := by simp [Fin, parsedM]
end Go.Proofs.Ytdahcdgefflkaaa
namespace Go.Proofs.Ytdahcdgefflkaaa
open Go.ChangeShapes Go.WideShapes Go.ChangeAt Go.RowKit
theorem gbl {w w' : World} (h : Below w.heap.size w w') (row : Option Nat) : w.grownBy w' row := ⟨h.os, h.tape, h.output, h.size, fun k hk _ => h.block k hk⟩
theorem setCell_gr (w : World) (B o : Nat) (u : Value) : w.grownBy (w.setCell ⟨B, o, none⟩ u) (some B) :=
  ⟨rfl, rfl, rfl, by simp, fun k _ hk => heap_setCell_other w ⟨B, o, none⟩ k _ (fun e => hk (by simp [e]))⟩
theorem grown_tr {a b c : World} {row : Option Nat} (h : a.grownBy b row) (k : b.grownBy c row) : a.grownBy c row :=
  ⟨k.os.trans h.os, k.tape.trans h.tape, k.output.trans h.output, Nat.le_trans h.size k.size, fun i hi hr => (k.block i (Nat.lt_of_lt_of_le hi h.size) hr).trans (h.block i hi hr)⟩
theorem bal' (w : World) (o : Obj) : Below w.heap.size w (w.alloc o) := (Below.refl _ _).alloc (Nat.le_refl _) o
end Go.Proofs.Ytdahcdgefflkaaa
namespace Go.Proofs.Ytdahcdgefflkaaa
open Go.ChangeShapes Go.WideShapes Go.ChangeAt Go.RowKit
/-- A list of numbers of this call's own. -/
def OwnI (w : World) (base : Nat) (v : Value) (xs : List Int) : Prop := w.ownsRow base 2 1 v xs.length (xs.map (Value.int .i64))
theorem OwnI.below {w w' : World} {base : Nat} {v : Value} {xs : List Int} (h : OwnI w base v xs) (hb : Below w.heap.size w w') : OwnI w' base v xs := World.ownsRow.below h hb
theorem OwnI.kept {w w' : World} {base : Nat} {v : Value} {xs : List Int} {row : Option Nat} (h : OwnI w base v xs) (hg : w.grownBy w' row) (hne : v.ownBlock = none ∨ v.ownBlock ≠ row) : OwnI w' base v xs := World.ownsRow.kept (show w.ownsRow _ _ _ _ _ _ from h) hg hne
theorem OwnI.lt {w : World} {base : Nat} {v : Value} {xs : List Int} (h : OwnI w base v xs) : ∀ g, v.ownBlock = some g → base ≤ g ∧ g < w.heap.size := fun g e => World.ownsRow.lt h g e
/-- Two slices over no common block. -/
def ApV (u v : Value) : Prop := ∀ g, u.ownBlock = some g → v.ownBlock ≠ some g
theorem ApV.symm {u v : Value} (h : ApV u v) : ApV v u := fun g e1 e2 => h g e2 e1
/-- Lists of numbers of this call's own, no two over one block. -/
def LiOk (w : World) (base : Nat) (L : List (Value × List Int)) : Prop := (∀ p ∈ L, OwnI w base p.1 p.2) ∧ L.Pairwise fun p q => ApV p.1 q.1
theorem LiOk.below {w w' : World} {base : Nat} {L : List (Value × List Int)} (h : LiOk w base L) (hb : Below w.heap.size w w') : LiOk w' base L := ⟨fun p hp => (h.1 p hp).below hb, h.2⟩
theorem LiOk.nil (w : World) (base : Nat) : LiOk w base [] := ⟨fun _ h => absurd h (List.not_mem_nil), List.Pairwise.nil⟩
theorem LiOk.head {w : World} {base : Nat} {x : Value × List Int} {L : List (Value × List Int)} (h : LiOk w base (x :: L)) : OwnI w base x.1 x.2 := h.1 x (List.mem_cons_self)
/-- One list more, over a block that is new. -/
theorem LiOk.new {w w' : World} {base : Nat} {L : List (Value × List Int)} (h : LiOk w base L) (hb : Below w.heap.size w w') {v : Value} {xs : List Int} (ho : OwnI w' base v xs) (hn : ∀ g, v.ownBlock = some g → w.heap.size ≤ g) : LiOk w' base ((v, xs) :: L) :=
  ⟨fun p hp => by
    rcases List.mem_cons.1 hp with rfl | hp
    · exact ho
    · exact (h.1 p hp).below hb, List.Pairwise.cons (fun q hq g e1 e2 => by have := hn g e1; have := ((h.1 q hq).lt g e2).2; omega) h.2⟩
/-- What is not among them changes. -/
theorem LiOk.kept {w w' : World} {base : Nat} {L : List (Value × List Int)} {row : Option Nat} (h : LiOk w base L) (hg : w.grownBy w' row) (hne : ∀ p ∈ L, p.1.ownBlock = none ∨ p.1.ownBlock ≠ row) : LiOk w' base L :=
  ⟨fun p hp => (h.1 p hp).kept hg (hne p hp), h.2⟩
/-- An action with the values of its lists. -/
structure Ax where
  a : Ac
  pv : Value
  tv : Value
def PaC (w : World) (B : Nat) (s : Int) (pv : Value) (m : Int) (tv : Value) : Prop :=
  B < w.heap.size ∧ (w.cell? ⟨B, 0, none⟩ = some (.int .i64 s) ∧ w.cell? ⟨B, 1, none⟩ = some pv ∧ w.cell? ⟨B, 2, none⟩ = some (.int .i64 m) ∧ w.cell? ⟨B, 3, none⟩ = some tv) ∧
    (w.frozen? ⟨B, 0, none⟩ = false ∧ w.frozen? ⟨B, 1, none⟩ = false ∧ w.frozen? ⟨B, 2, none⟩ = false ∧ w.frozen? ⟨B, 3, none⟩ = false)
theorem PaC.grown {w w' : World} {B : Nat} {s m : Int} {pv tv : Value} {row : Option Nat} (h : PaC w B s pv m tv) (hg : w.grownBy w' row) (hr : row ≠ some B) : PaC w' B s pv m tv := by
  have hb := hg.block B h.1 (Ne.symm hr)
  have hc : ∀ k, w'.cell? ⟨B, k, none⟩ = w.cell? ⟨B, k, none⟩ := fun k => World.cell?_of_block (w := w) hb
  have hz : ∀ k, w'.frozen? ⟨B, k, none⟩ = w.frozen? ⟨B, k, none⟩ := fun k => World.frozen?_of_block (w := w) hb
  refine ⟨Nat.lt_of_lt_of_le h.1 hg.size, ?_, ?_⟩
  · rw [hc, hc, hc, hc]; exact h.2.1
  · rw [hz, hz, hz, hz]; exact h.2.2
theorem PaC.below {w w' : World} {B : Nat} {s m : Int} {pv tv : Value} (h : PaC w B s pv m tv) (hb : Below w.heap.size w w') : PaC w' B s pv m tv := h.grown (gbl hb none) (by simp)
theorem PaC.new (w : World) (s m : Int) (pv tv : Value) (t : TypeId) : PaC (w.alloc (.cells #[.int .i64 s, pv, .int .i64 m, tv] t)) w.heap.size s pv m tv :=
  ⟨by simp, ⟨by simp [go_sem], by simp [go_sem], by simp [go_sem], by simp [go_sem]⟩, ⟨by simp [go_sem], by simp [go_sem], by simp [go_sem], by simp [go_sem]⟩⟩
end Go.Proofs.Ytdahcdgefflkaaa
namespace Go.Proofs.Ytdahcdgefflkaaa
open Go.ChangeShapes Go.WideShapes Go.ChangeAt Go.RowKit
theorem SlI.cons {w : World} {v : Value} {xs : List Int} (h : SlI w v xs) : ∃ a c, v = .slice a xs.length c ∧ ∀ j, j < xs.length → ∃ b off, a = some ⟨b, off, none⟩ ∧ w.cell? ⟨b, off + j, none⟩ = some (.int .i64 (xs.getD j 0)) := by
  obtain ⟨a, c, hv, h | ⟨b, off, ha, hlt, hc⟩⟩ := h
  · exact ⟨a, c, hv, fun j hj => by rw [h] at hj; simp at hj⟩
  · exact ⟨a, c, hv, fun j hj => ⟨b, off, ha, hc j hj⟩⟩
end Go.Proofs.Ytdahcdgefflkaaa
namespace Go.Proofs.Ytdahcdgefflkaaa
open Go.ChangeShapes Go.WideShapes Go.ChangeAt Go.RowKit
/-- A slice that can be read and cut at its head. -/
def SlL (w : World) (v : Value) (xs : List Int) : Prop :=
  ∃ a c, v = .slice a xs.length c ∧ xs.length ≤ c ∧ (xs = [] ∨ ∃ b off, a = some ⟨b, off, none⟩ ∧ b < w.heap.size ∧ ∀ i, i < xs.length → w.cell? ⟨b, off + i, none⟩ = some (.int .i64 (xs.getD i 0)))
theorem SlL.below {w w' : World} {v : Value} {xs : List Int} (h : SlL w v xs) (hb : Below w.heap.size w w') : SlL w' v xs := by
  obtain ⟨a, c, hv, hc0, h | ⟨b, off, ha, hlt, hc⟩⟩ := h
  · exact ⟨a, c, hv, hc0, .inl h⟩
  · exact ⟨a, c, hv, hc0, .inr ⟨b, off, ha, Nat.lt_of_lt_of_le hlt hb.size, fun i hi => (hb.cell (p := ⟨b, off + i, none⟩) hlt).trans (hc i hi)⟩⟩
theorem SlL.of_own {w : World} {base : Nat} {v : Value} {xs : List Int} (h : OwnI w base v xs) : SlL w v xs := by
  rcases h.2 with ⟨rfl, h2⟩ | ⟨g, cap, cur, rfl, hb, hg, hn, hr⟩
  · exact ⟨none, 0, by rw [h2], by omega, .inl (List.eq_nil_of_length_eq_zero h2)⟩
  · refine ⟨_, cap, rfl, hn, .inr ⟨g, 0, rfl, (Array.getElem?_eq_some_iff.1 hg).1, fun i hi => ?_⟩⟩
    have := World.ownsRow.cellAt h i (by omega)
    rw [Nat.zero_add, this]
    simp [hi]
end Go.Proofs.Ytdahcdgefflkaaa
namespace Go.Proofs.Ytdahcdgefflkaaa
open Go.ChangeShapes Go.WideShapes Go.ChangeAt Go.RowKit
def Runes6 (l : List Int) : Prop := ∀ x ∈ l, runeOk x = true
theorem Runes6.head {r : Int} {l : List Int} (h : Runes6 (r :: l)) : 0 ≤ r ∧ r ≤ 1114111 := runeOk_bd r (h r (List.mem_cons_self))
def acs (X : List Ax) : List Ac := X.map (·.a)
/-- The rune that comes next, of which nothing is done yet. -/
def NextR (p q : Pa) (l l' : List Int) (X X' : List Ax) (r : Int) : Prop :=
  (r = -1 ∧ l' = [] ∧ Fin p l (acs X) = Fin q [] (acs X')) ∨ (0 ≤ r ∧ runeOk r = true ∧ l'.length < l.length ∧ Fin p l (acs X) = Fin q (r :: l') (acs X'))
def Room (l l' : List Int) (X X' : List Ax) (r : Int) : Prop := (r = -1 → X'.length + l'.length ≤ X.length + l.length) ∧ (r ≠ -1 → X'.length + l'.length < X.length + l.length) ∧ Runes6 l'
theorem NextR.more {p q : Pa} {l l' : List Int} {X X' : List Ax} {r : Int} (h : NextR p q l l' X X' r) (hr : r ≠ -1) : 0 ≤ r ∧ runeOk r = true ∧ l'.length < l.length ∧ Fin p l (acs X) = Fin q (r :: l') (acs X') := by
  rcases h with ⟨h, _⟩ | h
  · exact absurd h hr
  · exact h
theorem NextR.trans {p q q2 : Pa} {l l' l2 : List Int} {X X' X2 : List Ax} {r r2 : Int} (h : NextR p q l l' X X' r) (hR : Room l l' X X' r) (h1 : r ≠ -1) {Y : List Ax} (hs : (stepM q r).1 = q2) (ha : acs Y = acs X' ++ (stepM q r).2) (hY : Y.length ≤ X'.length + 1) {q3 : Pa}
    (k : NextR q2 q3 l' l2 Y X2 r2) (kR : Room l' l2 Y X2 r2) : NextR p q3 l l2 X X2 r2 ∧ Room l l2 X X2 r2 := by
  obtain ⟨h0, hk, hlt, he⟩ := h.more h1
  rw [Fin_cons, hs, ← ha] at he
  obtain ⟨_, hR2, hR3⟩ := hR
  have hR2 := hR2 h1
  obtain ⟨k1, k2, k3⟩ := kR
  refine ⟨?_, fun e => by have := k1 e; omega, fun e => by have := k2 e; omega, k3⟩
  rcases k with ⟨a, b, c⟩ | ⟨a, b, c, d⟩
  · exact .inl ⟨a, b, he.trans c⟩
  · exact .inr ⟨a, b, by omega, he.trans d⟩
end Go.Proofs.Ytdahcdgefflkaaa
namespace Go.Proofs.Ytdahcdgefflkaaa
open Go.ChangeShapes Go.WideShapes Go.ChangeAt Go.RowKit
/-- A slice that can be read, cut and copied. -/
def SlN (w : World) (v : Value) (xs : List Int) : Prop :=
  ∃ a c, v = .slice a xs.length c ∧ xs.length ≤ c ∧ (a = none → c = 0) ∧ (xs = [] ∨ ∃ b off, a = some ⟨b, off, none⟩ ∧ b < w.heap.size ∧ ∀ i, i < xs.length → w.cell? ⟨b, off + i, none⟩ = some (.int .i64 (xs.getD i 0)))
theorem SlN.l {w : World} {v : Value} {xs : List Int} (h : SlN w v xs) : SlL w v xs := by
  obtain ⟨a, c, hv, hc, _, hr⟩ := h
  exact ⟨a, c, hv, hc, hr⟩
theorem SlN.below {w w' : World} {v : Value} {xs : List Int} (h : SlN w v xs) (hb : Below w.heap.size w w') : SlN w' v xs := by
  obtain ⟨a, c, hv, hc0, hn, h | ⟨b, off, ha, hlt, hc⟩⟩ := h
  · exact ⟨a, c, hv, hc0, hn, .inl h⟩
  · exact ⟨a, c, hv, hc0, hn, .inr ⟨b, off, ha, Nat.lt_of_lt_of_le hlt hb.size, fun i hi => (hb.cell (p := ⟨b, off + i, none⟩) hlt).trans (hc i hi)⟩⟩
theorem SlN.of_own {w : World} {base : Nat} {v : Value} {xs : List Int} (h : OwnI w base v xs) : SlN w v xs := by
  rcases h.2 with ⟨rfl, h2⟩ | ⟨g, cap, cur, rfl, hb, hg, hn, hr⟩
  · exact ⟨none, 0, by rw [h2], by omega, fun _ => rfl, .inl (List.eq_nil_of_length_eq_zero h2)⟩
  · refine ⟨_, cap, rfl, hn, (fun e => by cases e), .inr ⟨g, 0, rfl, (Array.getElem?_eq_some_iff.1 hg).1, fun i hi => ?_⟩⟩
    have := World.ownsRow.cellAt h i (by omega)
    rw [Nat.zero_add, this]
    simp [hi]
/-- Four cells of a parser are written. -/
def putP (w : World) (B : Nat) (s : Int) (pv : Value) (m : Int) (tv : Value) : World := (((w.setCell ⟨B, 0, none⟩ (.int .i64 s)).setCell ⟨B, 1, none⟩ pv).setCell ⟨B, 2, none⟩ (.int .i64 m)).setCell ⟨B, 3, none⟩ tv
theorem PaC.put {w : World} {B : Nat} {s m : Int} {pv tv : Value} (h : PaC w B s pv m tv) (s' m' : Int) (pv' tv' : Value) : PaC (putP w B s' pv' m' tv') B s' pv' m' tv' := by
  obtain ⟨hlt, ⟨c0, c1, c2, c3⟩, ⟨z0, z1, z2, z3⟩⟩ := h
  refine ⟨by simpa [putP] using hlt, ⟨?_, ?_, ?_, ?_⟩, ⟨?_, ?_, ?_, ?_⟩⟩
  all_goals simp only [putP]
  · simp [go_sem, c0]
  · simp [go_sem, c1]
  · simp [go_sem, c2]
  · simp [go_sem, c3]
  all_goals simp [go_sem, z0, z1, z2, z3]
end Go.Proofs.Ytdahcdgefflkaaa
namespace Go.Proofs.Ytdahcdgefflkaaa
open Go.ChangeShapes Go.WideShapes Go.ChangeAt Go.RowKit
theorem load_T {P : Program} {w : World} {ops : Array Oper} {rest : List Oper} {o : Oper} {a : Act} {Q : Exit → Act → World → Prop} (hgd : Region.wanted o (yielded ops a.tmps) = true) (t : TypeId) (x : Operand)
    (ho : o.op = .load t x) {e : TypeId} {B : Nat} {cs : Array Value} {fr : Nat × Nat} {d : TypeDesc} (hu : P.underlying t = some d) (hd : (match d with | .struct _ | .array _ _ => true | _ => false) = true) (hi : (P.info? t).map (·.size) = some cs.size) (hb : w.heap[B]? = some (.cells cs e fr)) (hx : a.eval x = .pointer (some ⟨B, 0, none⟩))
    (h : wpList P ops Q rest (a.put o.dst (.agg cs)) w) : wpList P ops Q (o :: rest) a w := by
  refine wpList_step fun K hK => ?_
  rw [if_pos hgd]
  exact wp_load_row t x ho B hx e cs fr d hb hu hd hi (hK _ _ h)
theorem setRow_gr (w : World) (g : Nat) (cs : Array Value) : w.grownBy (w.setRow g cs) (some g) := by
  refine ⟨rfl, rfl, rfl, by simp, fun k _ hk => ?_⟩
  have : ¬ g = k := fun e => hk (by rw [e])
  simp only [World.setRow]
  rw [Array.getElem?_modify]
  simp [this]
theorem store_T {P : Program} {w : World} {ops : Array Oper} {rest : List Oper} {o : Oper} {a : Act} {Q : Exit → Act → World → Prop} (hgd : Region.wanted o (yielded ops a.tmps) = true) (t : TypeId) (x y : Operand)
    (ho : o.op = .store t x y) {e : TypeId} {B : Nat} {old cs : Array Value} (hi : (P.info? t).map (·.size) = some cs.size) (hold : old.size = cs.size) (h1 : cs.toList.all (·.oneCell') = true) (hb : w.heap[B]? = some (.cells old e (0, 0))) (hx : a.eval x = .pointer (some ⟨B, 0, none⟩)) (hy : a.eval y = .agg cs)
    (h : ∀ w', w.grownBy w' (some B) → w'.heap[B]? = some (.cells cs e (0, 0)) → w'.heap.size = w.heap.size → wpList P ops Q rest (a.put o.dst undef) w') : wpList P ops Q (o :: rest) a w := by
  refine wpList_step fun K hK => ?_
  rw [if_pos hgd]
  exact wp_store_row t x y ho B cs hx hy e old hb hi hold (by rw [← Array.all_toList]; exact h1) (hK _ _ (h _ (setRow_gr w B cs) (setRow_heap w B old cs e (0, 0) hb) (by simp)))
def setV (L : List Value) : Nat → List Value → List Value
  | _, [] => L
  | k, v :: l => setV (L.set k v) (k + 1) l
theorem setCells_heap (B : Nat) (e : TypeId) : ∀ (l : List Value) (k : Nat) (w : World) (L : List Value), w.heap[B]? = some (.cells L.toArray e (0, 0)) → (w.setCells B k l).heap[B]? = some (.cells (setV L k l).toArray e (0, 0))
  | [], _, _, _, h => h
  | v :: l, k, w, _, h => setCells_heap B e l (k + 1) _ _ (by rw [heap_setCell_same w B k _ _ v h]; simp)
theorem setCells_gr (B : Nat) : ∀ (l : List Value) (k : Nat) (w : World), w.grownBy (w.setCells B k l) (some B)
  | [], _, _ => World.grownBy.refl _ _
  | v :: l, k, w => grown_tr (setCell_gr w B k v) (setCells_gr B l (k + 1) _)
/-- A block's cells, named. -/
def BlkC (w : World) (B : Nat) (e : TypeId) (L : List Value) : Prop := w.heap[B]? = some (.cells L.toArray e (0, 0))
end Go.Proofs.Ytdahcdgefflkaaa
namespace Go.Proofs.Ytdahcdgefflkaaa
open Go.ChangeShapes Go.WideShapes Go.ChangeAt Go.RowKit
theorem run_loadVar_part {P : Program} (w : World) (B k : Nat) (e ty : TypeId) (cs : List Value) (part : List Value) (d : TypeDesc) (hb : BlkC w B e cs)
    (hu : P.underlying ty = some d) (hd : (match d with | .struct _ | .array _ _ => true | _ => false) = true) (hi : (P.info? ty).map (·.size) = some part.length) (hp : (cs.drop k).take part.length = part) :
    (loadVar ty ⟨B, k, none⟩).run P w = .ok (.agg part.toArray) w := by
  have hl : (loadCells ⟨B, k, none⟩ part.length).run P w = .ok part.toArray w :=
    run_loadCells_list (P := P) w ⟨B, k, none⟩ part (fun j v hv => by
      have hadd : (⟨B, k, none⟩ : Addr).add j = ⟨B, k + j, none⟩ := by unfold Addr.add; split <;> simp_all
      rw [hadd, cell_of_row w B _ cs.toArray e (0, 0) hb]
      have hj := (List.getElem?_eq_some_iff.1 hv).1
      rw [← hp, List.getElem?_take_of_lt hj, List.getElem?_drop] at hv
      simpa using hv)
  cases hq : P.info? ty with
  | none => simp [hq] at hi
  | some i =>
    have hs : i.size = part.length := by simpa [hq] using hi
    have hagg : (isAgg ty).run P w = .ok true w := by
      unfold isAgg
      rw [Sem.run_bind, run_underlying hu w]
      cases d <;> simp_all
    simp [loadVar, Sem.run_bind, hagg, sizeOf, typeInfo, hq, hs, hl]
theorem BlkC.lt {w : World} {B : Nat} {e : TypeId} {cs : List Value} (h : BlkC w B e cs) : B < w.heap.size := (Array.getElem?_eq_some_iff.1 h).1
theorem BlkC.kept {w w' : World} {B : Nat} {e : TypeId} {cs : List Value} {row : Option Nat} (h : BlkC w B e cs) (hg : w.grownBy w' row) (hne : row ≠ some B) : BlkC w' B e cs := by
  unfold BlkC
  rw [hg.block B h.lt (Ne.symm hne)]
  exact h
theorem BlkC.below {w w' : World} {B : Nat} {e : TypeId} {cs : List Value} (h : BlkC w B e cs) (hb : Below w.heap.size w w') : BlkC w' B e cs := by
  unfold BlkC
  rw [hb.block B h.lt]
  exact h
theorem BlkC.new (w : World) (e : TypeId) (cs : List Value) : BlkC (w.alloc (.cells cs.toArray e)) w.heap.size e cs := heap_alloc_new w _
end Go.Proofs.Ytdahcdgefflkaaa
namespace Go.Proofs.Ytdahcdgefflkaaa
open Go.ChangeShapes Go.WideShapes Go.ChangeAt Go.RowKit
/-- A row of 41 numbers. -/
def rowV (f : Nat → Int) : List Value := (List.range 41).map (fun j => .int .i64 (f j))
theorem rowV_len (f : Nat → Int) : (rowV f).length = 41 := by simp [rowV]
theorem rowV_get (f : Nat → Int) (j : Nat) (h : j < 41) : (rowV f)[j]? = some (.int .i64 (f j)) := by simp [rowV, h]
theorem rowV_ext (f : Nat → Int) (L : List Value) (hl : L.length = 41) (h : ∀ j, j < 41 → L[j]? = some (.int .i64 (f j))) : L = rowV f := by
  apply List.ext_getElem?
  intro i
  by_cases hi : i < 41
  · rw [h i hi, rowV_get f i hi]
  · rw [List.getElem?_eq_none (by omega), List.getElem?_eq_none (by rw [rowV_len]; omega)]
theorem rowV_one (f : Nat → Int) : (rowV f).all (·.oneCell') = true := by
  rw [List.all_eq_true]
  intro u hu
  obtain ⟨x, _, rfl⟩ := List.mem_map.1 hu
  rfl
theorem rowV_congr (f g : Nat → Int) (h : ∀ j, j < 41 → f j = g j) : rowV f = rowV g :=
  rowV_ext g _ (rowV_len f) (fun j hj => by rw [rowV_get f j hj, h j hj])
theorem info_row : (Try.prog.info? 72).map (·.size) = some 41 := by kernel_rfl
theorem info_row' (f : Nat → Int) : (Try.prog.info? 72).map (·.size) = some (rowV f).toArray.size := by rw [info_row]; simp [rowV]
theorem cell_blk {w : World} {B : Nat} {e : TypeId} {cs : List Value} (h : BlkC w B e cs) (k : Nat) : w.cell? ⟨B, k, none⟩ = cs[k]? := by
  rw [cell_of_row w B k cs.toArray e (0, 0) h]; simp
theorem frozen_blk {w : World} {B : Nat} {e : TypeId} {cs : List Value} (h : BlkC w B e cs) (k : Nat) : w.frozen? ⟨B, k, none⟩ = false := frozen_of_row w B k _ e h
theorem blk_set {w : World} {B : Nat} {e : TypeId} {cs : List Value} (h : BlkC w B e cs) (k : Nat) (v : Value) : BlkC (w.setCell ⟨B, k, none⟩ v) B e (cs.set k v) := by
  unfold BlkC; rw [heap_setCell_same w B k _ _ v h]; simp
theorem blk_set_ne {w : World} {B C : Nat} {e : TypeId} {cs : List Value} (h : BlkC w B e cs) (hne : C ≠ B) (k : Nat) (v : Value) : BlkC (w.setCell ⟨C, k, none⟩ v) B e cs :=
  h.kept (setCell_gr w C k v) (fun q => hne (by injection q))
theorem zero_row : (#[.int .i64 0, .int .i64 0, .int .i64 0, .int .i64 0, .int .i64 0, .int .i64 0, .int .i64 0, .int .i64 0, .int .i64 0, .int .i64 0, .int .i64 0, .int .i64 0, .int .i64 0, .int .i64 0, .int .i64 0, .int .i64 0, .int .i64 0, .int .i64 0, .int .i64 0, .int .i64 0, .int .i64 0, .int .i64 0, .int .i64 0, .int .i64 0, .int .i64 0, .int .i64 0, .int .i64 0, .int .i64 0, .int .i64 0, .int .i64 0, .int .i64 0, .int .i64 0, .int .i64 0, .int .i64 0, .int .i64 0, .int .i64 0, .int .i64 0, .int .i64 0, .int .i64 0, .int .i64 0, .int .i64 0] : Array Value) = (rowV (fun _ => 0)).toArray := by rfl
set_option maxHeartbeats 1000000 in
set_option maxRecDepth 20000 in
theorem allBeyond_any (w : World) :
    Calls Try.prog 52 #[] w fun e w' => e = .returned (.agg (rowV (fun _ => 160)).toArray) ∧ Below w.heap.size w w' := by
  obtain ⟨W, hW⟩ : ∃ W, W = w.alloc (Obj.cells (rowV (fun _ => 0)).toArray 72) := ⟨_, rfl⟩
  have hb0 : Below w.heap.size w W := by rw [hW]; exact bal' _ _
  have hA : BlkC W w.heap.size 72 (rowV (fun _ => 0)) := by rw [hW]; exact heap_alloc_new w _
  have hz0 : W.heap.size = w.heap.size + 1 := by rw [hW]; simp
  replace hW := (show Hid _ from hW)
  go_enter Try.func52, Try.ntmps52
  refine wp_seq_k (fun K hK => ?_)
  have hH := (show Hid _ from hK)
  clear hK
  go_wp2
  refine hH.out _ _ ?_
  rw [zero_row, ← hW.out]
  clear hH hW
  have hS0 : (W.alloc (Obj.cells (rowV (fun _ => 0)).toArray 72)).heap[w.heap.size + 1]? = some (.cells (rowV (fun _ => 0)).toArray 72 (0, 0)) := by rw [← hz0]; exact heap_alloc_new W _
  have hal := bal' W (Obj.cells (rowV (fun _ => 0)).toArray 72)
  have hbz := hb0.trans (hal.mono hb0.size)
  have hA1 := hA.below hal
  go_wp2_with (refine store_T (cs := (rowV (fun _ => 0)).toArray) (by rfl) 72 _ _ (by rfl) (info_row' _) (by rfl) (by rfl) hS0 (by rfl) (by rfl) ?_; intro w2 hg hS2 hz2; have hA2 := BlkC.kept hA1 hg (fun e => by injection e with e; omega); have hb2 := hbz.grown hg hbz.size (fun k e => by injection e with e; omega); have hz3 : w2.heap.size = w.heap.size + 2 := (by rw [hz2]; simp; omega); clear hg hz2 hA1 hS0)
  clear hbz hal hA hb0
  go_loopw [2, 4] (fun _ jv wr => ∃ j : Nat, j ≤ 41 ∧ jv = .int .i64 j ∧ BlkC wr w.heap.size 72 (rowV (fun _ => 0)) ∧ BlkC wr (w.heap.size + 1) 72 (rowV (fun k => if k < j then 160 else 0)) ∧ Below w.heap.size w wr) (fun _ jv _ => 41 - (intOf jv).toNat)
  case atStart => exact ⟨0, Nat.zero_le _, rfl, hA2, (by have : rowV (fun k => if k < 0 then 160 else 0) = rowV (fun _ => 0) := rowV_congr _ _ (fun k _ => if_neg (Nat.not_lt_zero k)); rw [this]; exact hS2), hb2⟩
  case round =>
    obtain ⟨j, hj, rfl, kA, kS, kb⟩ := hrel
    clear hA2 hS2 hb2
    by_cases hlt : j < 41
    · have hji : (j : Int) < 41 := by omega
      have h1 := (cell_blk kS j).trans (rowV_get _ j hlt)
      have h2 := frozen_blk kS j
      have k2 := blk_set kS j (.int .i64 160)
      have e2 : (rowV (fun k => if k < j then 160 else 0)).set j (.int .i64 160) = rowV (fun k => if k < j + 1 then 160 else 0) := by
        refine rowV_ext _ _ (by rw [List.length_set, rowV_len]) (fun t ht => ?_)
        by_cases e : t = j
        · subst e; rw [List.getElem?_set_self (by rw [rowV_len]; omega), if_pos (by omega)]
        · rw [List.getElem?_set_ne (fun q => e q.symm), rowV_get _ t ht]
          have : (t < j + 1) ↔ (t < j) := by omega
          simp only [this]
      rw [e2] at k2
      have k3 := blk_set_ne kA (C := w.heap.size + 1) (by omega) j (.int .i64 160)
      have k4 := kb.grown (setCell_gr wr (w.heap.size + 1) j (.int .i64 160)) kb.size (fun k e => by injection e with e; omega)
      clear kA kS e2
      go_wp2
      go_roundw
      case rel => exact ⟨j + 1, by omega, by go_num, k3, k2, k4⟩
      case measure => simp [intOf]; omega
    · have hj41 : j = 41 := by omega
      subst hj41
      have e2 : rowV (fun k => if k < 41 then 160 else 0) = rowV (fun _ => 160) := rowV_congr _ _ (fun k hk => if_pos hk)
      rw [e2] at kS
      go_wp2_with (first
        | (refine load_T (cs := (rowV (fun _ => 160)).toArray) (by rfl) 72 _ (by rfl) Try.underlying72 rfl (info_row' _) kS (by rfl) ?_)
        | (refine store_T (cs := (rowV (fun _ => 160)).toArray) (by rfl) 72 _ _ (by rfl) (info_row' _) (by rfl) (rowV_one _) kA (by rfl) (by rfl) ?_; intro w3 hg3 hA3 hz3))
      exact bodyPost_ret (v := .agg (rowV (fun _ => 160)).toArray) (results_cell_row Try.results52 _ _ _ _ _ _ _ rfl hA3 Try.underlying72 rfl (info_row' _)) rfl ⟨rfl, kb.grown hg3 kb.size (fun k e => by injection e with e; omega)⟩
end Go.Proofs.Ytdahcdgefflkaaa
namespace Go.Proofs.Ytdahcdgefflkaaa
open Go.ChangeShapes Go.WideShapes Go.ChangeAt Go.RowKit
theorem drwB (w : World) (n : Nat) : Below w.heap.size w (w.drewN n) := ⟨rfl, rfl, rfl, Nat.le_refl _, fun _ _ => rfl⟩
/-- A route's block: the lists, the ways, the limit, the rows. -/
def RtB (w : World) (B : Nat) (va vb vw : Value) (L : Int) (R : Nat → Nat → Int) : Prop :=
  ∃ cs : List Value, BlkC w B 75 cs ∧ cs.length = 1685 ∧ cs[0]? = some va ∧ cs[1]? = some vb ∧ cs[2]? = some vw ∧ cs[3]? = some (.int .i64 L) ∧ ∀ i j, i ≤ 40 → j ≤ 40 → cs[4 + i * 41 + j]? = some (.int .i64 (R i j))
theorem RtB.lt {w : World} {B : Nat} {va vb vw : Value} {L : Int} {R : Nat → Nat → Int} (h : RtB w B va vb vw L R) : B < w.heap.size := by
  obtain ⟨cs, hb, _⟩ := h
  exact hb.lt
theorem RtB.below {w w' : World} {B : Nat} {va vb vw : Value} {L : Int} {R : Nat → Nat → Int} (h : RtB w B va vb vw L R) (hb : Below w.heap.size w w') : RtB w' B va vb vw L R := by
  obtain ⟨cs, h1, h2⟩ := h
  exact ⟨cs, h1.below hb, h2⟩
theorem RtB.cells {w : World} {B : Nat} {va vb vw : Value} {L : Int} {R : Nat → Nat → Int} (h : RtB w B va vb vw L R) : w.cell? ⟨B, 0, none⟩ = some va ∧ w.cell? ⟨B, 1, none⟩ = some vb ∧ w.cell? ⟨B, 2, none⟩ = some vw ∧ w.cell? ⟨B, 3, none⟩ = some (.int .i64 L) := by
  obtain ⟨cs, h1, _, h2, h3, h4, h5, _⟩ := h
  exact ⟨(cell_blk h1 0).trans h2, (cell_blk h1 1).trans h3, (cell_blk h1 2).trans h4, (cell_blk h1 3).trans h5⟩
theorem RtB.at {w : World} {B : Nat} {va vb vw : Value} {L : Int} {R : Nat → Nat → Int} (h : RtB w B va vb vw L R) (i j : Nat) (hi : i ≤ 40) (hj : j ≤ 40) : w.cell? ⟨B, 4 + i * 41 + j, none⟩ = some (.int .i64 (R i j)) := by
  obtain ⟨cs, h1, _, _, _, _, _, h6⟩ := h
  exact (cell_blk h1 _).trans (h6 i j hi hj)
/-- One number of the rows becomes another. -/
def putR (R : Nat → Nat → Int) (i j : Nat) (x : Int) : Nat → Nat → Int := fun i' j' => if i' = i ∧ j' = j then x else R i' j'
/-- A row becomes all one number. -/
def rowR (R : Nat → Nat → Int) (i : Nat) (f : Nat → Int) : Nat → Nat → Int := fun i' j' => if i' = i then f j' else R i' j'
theorem RtB.put {w : World} {B : Nat} {va vb vw : Value} {L : Int} {R : Nat → Nat → Int} (h : RtB w B va vb vw L R) (i j : Nat) (hi : i ≤ 40) (hj : j ≤ 40) (x : Int) : RtB (w.setCell ⟨B, 4 + i * 41 + j, none⟩ (.int .i64 x)) B va vb vw L (putR R i j x) := by
  obtain ⟨cs, h1, hl, h2, h3, h4, h5, h6⟩ := h
  refine ⟨_, blk_set h1 _ _, by rw [List.length_set]; exact hl, ?_, ?_, ?_, ?_, fun i' j' hi' hj' => ?_⟩
  · rw [List.getElem?_set_ne (by omega)]; exact h2
  · rw [List.getElem?_set_ne (by omega)]; exact h3
  · rw [List.getElem?_set_ne (by omega)]; exact h4
  · rw [List.getElem?_set_ne (by omega)]; exact h5
  · unfold putR
    by_cases e : i' = i ∧ j' = j
    · obtain ⟨rfl, rfl⟩ := e
      rw [List.getElem?_set_self (by omega), if_pos ⟨rfl, rfl⟩]
    · rw [List.getElem?_set_ne (by omega), if_neg e]; exact h6 i' j' hi' hj'
theorem setV_get : ∀ (l : List Value) (k : Nat) (L : List Value) (p : Nat), k + l.length ≤ L.length → (setV L k l)[p]? = if k ≤ p ∧ p < k + l.length then l[p - k]? else L[p]?
  | [], k, L, p, _ => by rw [if_neg (by rw [List.length_nil]; omega)]; rfl
  | v :: l, k, L, p, h => by
    rw [List.length_cons] at h ⊢
    rw [setV, setV_get l (k + 1) _ p (by rw [List.length_set]; omega)]
    by_cases e : p = k
    · subst e
      rw [if_neg (by omega), if_pos (by omega), List.getElem?_set_self (by omega), Nat.sub_self]; rfl
    · rw [List.getElem?_set_ne (fun q => e q.symm)]
      by_cases hin : k ≤ p ∧ p < k + (l.length + 1)
      · rw [if_pos (by omega), if_pos hin, show p - k = (p - (k + 1)) + 1 by omega, List.getElem?_cons_succ]
      · rw [if_neg (by omega), if_neg hin]
theorem setV_len : ∀ (l : List Value) (k : Nat) (L : List Value), (setV L k l).length = L.length
  | [], _, _ => rfl
  | v :: l, k, L => by rw [setV, setV_len l (k + 1), List.length_set]
theorem RtB.row {w' : World} {B : Nat} {va vb vw : Value} {L : Int} {R : Nat → Nat → Int} {cs : List Value} (hl : cs.length = 1685) (h2 : cs[0]? = some va) (h3 : cs[1]? = some vb) (h4 : cs[2]? = some vw) (h5 : cs[3]? = some (.int .i64 L)) (h6 : ∀ i j, i ≤ 40 → j ≤ 40 → cs[4 + i * 41 + j]? = some (.int .i64 (R i j))) (i : Nat) (hi : i ≤ 40) (f : Nat → Int) (h : BlkC w' B 75 (setV cs (4 + i * 41) (rowV f))) : RtB w' B va vb vw L (rowR R i f) := by
  have hlen : 4 + i * 41 + (rowV f).length ≤ cs.length := by rw [rowV_len]; omega
  refine ⟨_, h, by rw [setV_len]; exact hl, ?_, ?_, ?_, ?_, fun i' j' hi' hj' => ?_⟩
  · rw [setV_get _ _ _ _ hlen, if_neg (by omega)]; exact h2
  · rw [setV_get _ _ _ _ hlen, if_neg (by omega)]; exact h3
  · rw [setV_get _ _ _ _ hlen, if_neg (by omega)]; exact h4
  · rw [setV_get _ _ _ _ hlen, if_neg (by omega)]; exact h5
  · unfold rowR
    rw [setV_get _ _ _ _ hlen, rowV_len]
    by_cases e : i' = i
    · subst e
      rw [if_pos (by omega), if_pos rfl, show 4 + i' * 41 + j' - (4 + i' * 41) = j' by omega]
      exact rowV_get f j' (by omega)
    · rw [if_neg (by omega), if_neg e]; exact h6 i' j' hi' hj'
set_option maxHeartbeats 1000000 in
set_option maxRecDepth 20000 in
theorem steps_any (B : Nat) (va vb vw : Value) (L : Int) (R : Nat → Nat → Int) (xs ys : List Int) (w : World) (h : RtB w B va vb vw L R) (ha : SlI w va xs) (hb : SlI w vb ys) (hx : xs.length ≤ 40) (hy : ys.length ≤ 40) :
    Calls Try.prog 38 #[.pointer (some ⟨B, 0, none⟩)] w fun e w' => e = .returned (.int .i64 (R xs.length ys.length)) ∧ ∃ k, w' = w.drewN k := by
  obtain ⟨a, c, rfl, _⟩ := ha
  obtain ⟨a', c', rfl, _⟩ := hb
  obtain ⟨c0, c1, _, _⟩ := h.cells
  have c4 := h.at xs.length ys.length hx hy
  generalize xs.length = m at *
  generalize ys.length = n at *
  generalize R m n = x at *
  clear h
  go_enter Try.func38, Try.ntmps38
  go_wp2
  go_quiet (fail)
  go_wp2
  go_ret
  exact ⟨rfl, nq, rfl⟩
end Go.Proofs.Ytdahcdgefflkaaa
namespace Go.Proofs.Ytdahcdgefflkaaa
open Go.ChangeShapes Go.WideShapes Go.ChangeAt Go.RowKit
set_option maxHeartbeats 1000000 in
set_option maxRecDepth 20000 in
theorem pick_a (v : Value) (xs : List Int) (w : World) (hv : SlB w v xs) (i n : Int) (hi : 0 ≤ i ∧ i ≤ 100) (hn : 0 < n ∧ n ≤ 100) :
    Calls Try.prog 15 #[v, .int .i64 i, .int .i64 n] w fun e w' => ∃ r, e = .returned (.int .i64 r) ∧ 0 ≤ r ∧ r < n ∧ w' = w := by
  obtain ⟨a, c, rfl, hl, hx, hr⟩ := hv
  generalize hN : xs.length = N at *
  obtain ⟨p0, hp0⟩ : ∃ p, Hid (p = 7919 * i) := ⟨_, rfl⟩
  obtain ⟨q0, hq0⟩ : ∃ q, Hid (q = (N : Int) + p0) := ⟨_, rfl⟩
  have e1 : IntKind.i64.wrap (7919 * i) = p0 := by have := hp0.out; simp [IntKind.wrap, IntKind.bits, IntKind.signed]; omega
  have e2 : IntKind.i64.wrap ((N : Int) + p0) = q0 := by have := hp0.out; have := hq0.out; simp [IntKind.wrap, IntKind.bits, IntKind.signed]; omega
  have hq00 : 0 ≤ q0 ∧ q0 ≤ 1000002 := by have := hp0.out; have := hq0.out; omega
  have hn0 : ¬ n = 0 := by omega
  go_enter Try.func15, Try.ntmps15
  go_wp2
  go_loop [7, 8] (fun qv iv => ∃ (j : Nat) (q : Int), j ≤ N ∧ iv = .int .i64 j ∧ qv = .int .i64 q ∧ 0 ≤ q ∧ q ≤ 1000002) (fun _ iv => N - (intOf iv).toNat)
  case atStart => exact ⟨0, q0, Nat.zero_le _, rfl, rfl, hq00.1, hq00.2⟩
  case round =>
    obtain ⟨j, q, hj, rfl, rfl, hq1, hq2⟩ := hrel
    by_cases hlt : j < N
    · have hji : (j : Int) < (N : Int) := by omega
      rcases hr with h | ⟨b, off, rfl, hb, hc⟩
      · exfalso; rw [h] at hN; simp at hN; omega
      have h1 := hc j hlt
      have hxj := hx (xs.getD j 0) (by rw [List.getD_eq_getElem?_getD, List.getElem?_eq_getElem (by omega)]; exact List.getElem_mem _)
      generalize xs.getD j 0 = x at *
      clear hc hx
      obtain ⟨s1, hs1⟩ : ∃ s, Hid (s = q * 127) := ⟨_, rfl⟩
      obtain ⟨s2, hs2⟩ : ∃ s, Hid (s = s1 + x) := ⟨_, rfl⟩
      obtain ⟨s3, hs3⟩ : ∃ s, Hid (s = s2 + i) := ⟨_, rfl⟩
      have f1 : IntKind.i64.wrap (q * 127) = s1 := by have := hs1.out; simp [IntKind.wrap, IntKind.bits, IntKind.signed]; omega
      have f0 : IntKind.i64.wrap x = x := by simp [IntKind.wrap, IntKind.bits, IntKind.signed]; omega
      have f2 : IntKind.i64.wrap (s1 + x) = s2 := by have := hs1.out; have := hs2.out; simp [IntKind.wrap, IntKind.bits, IntKind.signed]; omega
      have f3 : IntKind.i64.wrap (s2 + i) = s3 := by have := hs1.out; have := hs2.out; have := hs3.out; simp [IntKind.wrap, IntKind.bits, IntKind.signed]; omega
      have hs30 : 0 ≤ s3 := by have := hs1.out; have := hs2.out; have := hs3.out; omega
      obtain ⟨m, hm⟩ : ∃ m, Hid (m = s3.tmod 1000003) := ⟨_, rfl⟩
      have f4 : s3.tmod 1000003 = m := hm.out.symm
      have hmb : 0 ≤ m ∧ m ≤ 1000002 := by have := hm.out; have h5 := Int.tmod_nonneg 1000003 hs30; have h6 := Int.tmod_lt_of_pos s3 (show (0 : Int) < 1000003 by decide); omega
      have f5 : IntKind.i64.wrap m = m := by simp [IntKind.wrap, IntKind.bits, IntKind.signed]; omega
      go_wp2
      go_round
      case rel => exact ⟨j + 1, m, by omega, by go_num, rfl, hmb.1, hmb.2⟩
      case measure => simp [intOf]; omega
    · have hji : ¬ (j : Int) < (N : Int) := by omega
      obtain ⟨m, hm⟩ : ∃ m, Hid (m = q.tmod n) := ⟨_, rfl⟩
      have f4 : q.tmod n = m := hm.out.symm
      have hmb : 0 ≤ m ∧ m < n := by have := hm.out; have h5 := Int.tmod_nonneg n hq1; have h6 := Int.tmod_lt_of_pos q hn.1; omega
      have f5 : IntKind.i64.wrap m = m := by simp [IntKind.wrap, IntKind.bits, IntKind.signed]; omega
      clear hr hx
      go_wp2
      go_ret
      exact ⟨m, rfl, hmb.1, hmb.2, rfl⟩
theorem ints_ext {xs ys : List Int} (hl : xs.length = ys.length) (h : ∀ k, k < xs.length → xs.getD k 0 = ys.getD k 0) : xs = ys := by
  refine List.ext_getElem hl fun i h1 h2 => ?_
  have := h i h1
  simpa [List.getD_eq_getElem?_getD, h1, h2] using this
set_option maxHeartbeats 1000000 in
set_option maxRecDepth 20000 in
theorem like_any (va vb : Value) (xs ys : List Int) (w : World) (ha : SlI w va xs) (hb : SlI w vb ys) (hl : xs.length ≤ 1073741824) :
    Calls Try.prog 16 #[va, vb] w fun e w' => e = .returned (.bool (decide (xs = ys))) ∧ Below w.heap.size w w' := by
  by_cases he : xs = ys
  · subst he
    rw [decide_eq_true rfl]
    refine (like_same va vb xs w ha hb hl).mono ?_
    rintro e w' ⟨rfl, n, rfl⟩
    exact ⟨rfl, drwB w n⟩
  · rw [decide_eq_false he]
    obtain ⟨a, c, rfl, hca⟩ := ha
    obtain ⟨a', c', rfl, hcb⟩ := hb
    by_cases hlen : xs.length = ys.length
    case neg =>
      have hni : ¬ ((xs.length : Int) = (ys.length : Int)) := by omega
      clear hca hcb
      go_enter Try.func16, Try.ntmps16
      go_wp2
      go_ret
      exact ⟨rfl, Below.refl _ _⟩
    obtain ⟨k, hk, hkn, hmin⟩ : ∃ k, k < xs.length ∧ ¬ xs.getD k 0 = ys.getD k 0 ∧ ∀ j, j < k → xs.getD j 0 = ys.getD j 0 := by
      rcases Classical.em (∃ k, k < xs.length ∧ ¬ xs.getD k 0 = ys.getD k 0) with h | h
      · have key : ∀ n k, k ≤ n → k < xs.length → ¬ xs.getD k 0 = ys.getD k 0 → ∃ k, k < xs.length ∧ ¬ xs.getD k 0 = ys.getD k 0 ∧ ∀ j, j < k → xs.getD j 0 = ys.getD j 0 := by
          intro n
          induction n with
          | zero => intro k h1 h2 h3; exact ⟨k, h2, h3, fun j hj => by omega⟩
          | succ n ih =>
            intro k h1 h2 h3
            rcases Classical.em (∃ j, j < k ∧ ¬ xs.getD j 0 = ys.getD j 0) with ⟨j, h4, h5⟩ | h4
            · exact ih j (by omega) (by omega) h5
            · exact ⟨k, h2, h3, fun j hj => Classical.byContradiction fun h5 => h4 ⟨j, hj, h5⟩⟩
        obtain ⟨k, h1, h2⟩ := h
        exact key k k (Nat.le_refl _) h1 h2
      · exact absurd (ints_ext hlen (fun k hk => Classical.byContradiction fun h2 => h ⟨k, hk, h2⟩)) he
    have hkb : k < ys.length := by omega
    rcases hca with h | ⟨b, off, rfl, _, hs1⟩
    · exfalso; rw [h] at hk; simp at hk
    rcases hcb with h | ⟨b', off', rfl, _, hs2⟩
    · exfalso; rw [h] at hkb; simp at hkb
    generalize hn : xs.length = n at *
    rw [← hlen] at hs2 ⊢
    clear hlen he hn hkb
    replace hmin := (show Hid _ from hmin)
    replace hkn := (show Hid _ from hkn)
    replace hs1 := (show Hid _ from hs1)
    replace hs2 := (show Hid _ from hs2)
    go_enter Try.func16, Try.ntmps16
    go_wp2
    go_loopw [5] (fun i wr => ∃ j : Nat, j ≤ k ∧ i = .int .i64 j ∧ ∃ m, wr = w.drewN m) (fun i _ => k - (intOf i).toNat)
    case atStart => exact ⟨0, Nat.zero_le _, rfl, 0, rfl⟩
    case round =>
      obtain ⟨j, hj, rfl, m, rfl⟩ := hrel
      have h1 : w.cell? ⟨b, off + j, none⟩ = some (.int .i64 (xs.getD j 0)) := hs1.out j (by omega)
      have h2 : w.cell? ⟨b', off' + j, none⟩ = some (.int .i64 (ys.getD j 0)) := hs2.out j (by omega)
      have hi : (j : Int) < (n : Int) := by omega
      have hin : j < n := by omega
      by_cases hjk : j = k
      · subst hjk
        have hne := hkn.out
        generalize xs.getD j 0 = x at *
        generalize ys.getD j 0 = y at *
        have hq : (x == y) = false := by simpa using hne
        go_wp2
        go_quiet (fail)
        go_wp2
        go_ret
        exact ⟨rfl, ⟨rfl, rfl, rfl, Nat.le_refl _, fun _ _ => rfl⟩⟩
      · have heq := hmin.out j (by omega)
        rw [← heq] at h2
        generalize xs.getD j 0 = x at *
        clear heq
        go_wp2
        go_quiet (fail)
        go_wp2
        go_roundw
        case rel => exact ⟨j + 1, by omega, by go_num, m + nq, by simp⟩
        case measure => simp [intOf]; omega
end Go.Proofs.Ytdahcdgefflkaaa
namespace Go.Proofs.Ytdahcdgefflkaaa
theorem edD_sym (t : Bool) (x y : Nat → Int) : ∀ i j, edD t x y i j = edD t y x j i := by
  refine ed_ind _ (fun j => by rw [edD_0, edD_i0]) (fun i => by rw [edD_i0, edD_0]) (fun i j h1 h2 h3 => ?_)
  by_cases h : x i = y j
  · rw [edD_eq t x y i j h, edD_eq t y x j i h.symm, h1]
  · rw [edD_ne t x y i j h, edD_ne t y x j i (fun e => h e.symm), h1, h2, h3]
    cases t <;> simp only [if_true, if_false, Bool.false_eq_true] <;> omega
theorem edL_sym (x y : Nat → Int) : ∀ i j, edL x y i j = edL y x j i := by
  refine ed_ind _ (fun j => by rw [edL_0, edL_i0]) (fun i => by rw [edL_i0, edL_0]) (fun i j h1 h2 h3 => ?_)
  by_cases h : x i = y j
  · rw [edL_eq x y i j h, edL_eq y x j i h.symm, h1]
  · rw [edL_ne x y i j h, edL_ne y x j i (fun e => h e.symm), h2, h3]; omega
theorem edD_zero (x y : Nat → Int) : ∀ i j, edD true x y i j = 0 ↔ (i = j ∧ ∀ k, k < i → x k = y k) := by
  refine ed_ind _ (fun j => ?_) (fun i => ?_) (fun i j h1 h2 h3 => ?_)
  · rw [edD_0]; exact ⟨fun h => ⟨by omega, fun k hk => absurd hk (Nat.not_lt_zero _)⟩, fun h => by omega⟩
  · rw [edD_i0]; exact ⟨fun h => ⟨by omega, fun k hk => by omega⟩, fun h => by omega⟩
  · by_cases h : x i = y j
    · rw [edD_eq _ x y i j h, h1]
      constructor
      · rintro ⟨rfl, hk⟩
        refine ⟨rfl, fun k hk2 => ?_⟩
        by_cases e : k = i
        · subst e; exact h
        · exact hk k (by omega)
      · rintro ⟨e, hk⟩
        exact ⟨by omega, fun k hk2 => hk k (by omega)⟩
    · rw [edD_ne _ x y i j h]
      have b1 := (edD_bd true x y i j).1
      have b2 := (edD_bd true x y i (j + 1)).1
      have b3 := (edD_bd true x y (i + 1) j).1
      simp only [if_true]
      constructor
      · intro q; omega
      · rintro ⟨e, hk⟩
        have : i = j := by omega
        subst this
        exact absurd (hk i (by omega)) h
theorem edD_lo (t : Bool) (x y : Nat → Int) : ∀ i j : Nat, (i : Int) - j ≤ edD t x y i j ∧ (j : Int) - i ≤ edD t x y i j := by
  refine ed_ind _ (fun j => by rw [edD_0]; omega) (fun i => by rw [edD_i0]; omega) (fun i j h1 h2 h3 => ?_)
  by_cases h : x i = y j
  · rw [edD_eq _ x y i j h]; omega
  · rw [edD_ne _ x y i j h]; cases t <;> simp only [if_true, if_false, Bool.false_eq_true] <;> omega
theorem edD_hi (x y : Nat → Int) : ∀ i j : Nat, edD true x y i j ≤ max (i : Int) j := by
  refine ed_ind _ (fun j => by rw [edD_0]; omega) (fun i => by rw [edD_i0]; omega) (fun i j h1 h2 h3 => ?_)
  by_cases h : x i = y j
  · rw [edD_eq _ x y i j h]; omega
  · rw [edD_ne _ x y i j h]; simp only [if_true]; omega
theorem edD_le (x y : Nat → Int) : ∀ i j, edD true x y i j ≤ edD false x y i j := by
  refine ed_ind _ (fun j => by rw [edD_0, edD_0]; omega) (fun i => by rw [edD_i0, edD_i0]; omega) (fun i j h1 h2 h3 => ?_)
  by_cases h : x i = y j
  · rw [edD_eq _ x y i j h, edD_eq _ x y i j h]; omega
  · rw [edD_ne _ x y i j h, edD_ne _ x y i j h]; simp only [if_true, if_false, Bool.false_eq_true]; omega
/-- A number more or fewer of either changes a distance by at most one. -/
theorem edD_lip (t : Bool) (x y : Nat → Int) : ∀ i j, edD t x y i (j + 1) ≤ edD t x y i j + 1 ∧ edD t x y i j ≤ edD t x y i (j + 1) + 1 ∧ edD t x y (i + 1) j ≤ edD t x y i j + 1 ∧ edD t x y i j ≤ edD t x y (i + 1) j + 1 := by
  refine ed_ind _ (fun j => ?_) (fun i => ?_) (fun i j h1 h2 h3 => ?_)
  · have b := edD_bd t x y 1 j
    have l := edD_lo t x y 1 j
    rw [edD_0, edD_0]; simp only [Nat.zero_add]; omega
  · have b := edD_bd t x y i 1
    have l := edD_lo t x y i 1
    rw [edD_i0, edD_i0]; simp only [Nat.zero_add]; omega
  · have c1 : edD t x y (i + 1) (j + 1 + 1) ≤ edD t x y (i + 1) (j + 1) + 1 ∧ edD t x y (i + 1) (j + 1) ≤ edD t x y (i + 1) (j + 1 + 1) + 1 := by
      by_cases h : x i = y (j + 1)
      · rw [edD_eq t x y i (j + 1) h]; omega
      · rw [edD_ne t x y i (j + 1) h]; cases t <;> simp only [if_true, if_false, Bool.false_eq_true] <;> omega
    have c2 : edD t x y (i + 1 + 1) (j + 1) ≤ edD t x y (i + 1) (j + 1) + 1 ∧ edD t x y (i + 1) (j + 1) ≤ edD t x y (i + 1 + 1) (j + 1) + 1 := by
      by_cases h : x (i + 1) = y j
      · rw [edD_eq t x y (i + 1) j h]; omega
      · rw [edD_ne t x y (i + 1) j h]; cases t <;> simp only [if_true, if_false, Bool.false_eq_true] <;> omega
    exact ⟨c1.1, c1.2, c2.1, c2.2⟩
theorem edD_max (x y : Nat → Int) : ∀ i j : Nat, (i : Int) ≤ edD true x y i j + edL x y i j ∧ (j : Int) ≤ edD true x y i j + edL x y i j := by
  refine ed_ind _ (fun j => by rw [edD_0, edL_0]; omega) (fun i => by rw [edD_i0, edL_i0]; omega) (fun i j h1 h2 h3 => ?_)
  by_cases h : x i = y j
  · rw [edD_eq _ x y i j h, edL_eq x y i j h]; omega
  · have q1 := edD_shared x y i j
    have q2 := edD_shared x y i (j + 1)
    have q3 := (edD_lip false x y i j).1
    rw [edD_ne _ x y i j h, edL_ne x y i j h]; simp only [if_true]; omega
theorem edD_up (x y : Nat → Int) (i j : Nat) : edD true x y (i + 1) (j + 1) ≤ edD true x y i j + 1 := by
  by_cases h : x i = y j
  · rw [edD_eq _ x y i j h]; omega
  · rw [edD_ne _ x y i j h]; simp only [if_true]; omega
/-- No way round is shorter. -/
theorem edD_tri (x y z : Nat → Int) : ∀ i j k, edD true x y i j ≤ edD true x z i k + edD true z y k j
  | 0, j, k => by have := edD_lo true z y k j; rw [edD_0, edD_0]; omega
  | i + 1, 0, k => by have := edD_lo true x z (i + 1) k; have := edD_bd true z y k 0; rw [edD_i0, edD_i0] at *; omega
  | i + 1, j + 1, 0 => by have := edD_bd true x y (i + 1) (j + 1); rw [edD_i0 true x z, edD_0 true z y]; omega
  | i + 1, j + 1, k + 1 => by
    have t1 := edD_tri x y z i (j + 1) (k + 1)
    have t2 := edD_tri x y z (i + 1) j (k + 1)
    have t3 := edD_tri x y z (i + 1) (j + 1) k
    have t4 := edD_tri x y z (i + 1) j k
    have t5 := edD_tri x y z i (j + 1) k
    have t6 := edD_tri x y z i j k
    have u1 := (edD_lip true x y i (j + 1)).2.2.1
    have u2 := (edD_lip true x y (i + 1) j).1
    have u3 := edD_up x y i j
    by_cases h1 : x i = z k
    · by_cases h2 : z k = y j
      · rw [edD_eq _ x z i k h1, edD_eq _ z y k j h2, edD_eq _ x y i j (h1.trans h2)]; omega
      · rw [edD_eq _ x z i k h1] at *
        rw [edD_ne _ z y k j h2] at *
        simp only [if_true] at *
        generalize edD true x z i k = p at *
        generalize edD true z y k j = q1 at *
        generalize edD true z y k (j + 1) = q2 at *
        generalize edD true z y (k + 1) j = q3 at *
        generalize edD true x y (i + 1) (j + 1) = r at *
        generalize edD true x y i (j + 1) = r1 at *
        generalize edD true x y (i + 1) j = r2 at *
        generalize edD true x y i j = r3 at *
        omega
    · by_cases h2 : z k = y j
      · rw [edD_ne _ x z i k h1] at *
        rw [edD_eq _ z y k j h2] at *
        simp only [if_true] at *
        omega
      · rw [edD_ne _ x z i k h1] at *
        rw [edD_ne _ z y k j h2] at *
        simp only [if_true] at *
        omega
termination_by i j k => i + j + k
end Go.Proofs.Ytdahcdgefflkaaa
namespace Go.Proofs.Ytdahcdgefflkaaa
open Go.ChangeShapes Go.WideShapes Go.ChangeAt Go.RowKit
theorem TabT.made (n : Nat) (f : Nat → Nat → Int) (W m : Nat) (h : n = (m + 1) * W) : TabT (madeCells (Value.int .i64 0).cells (n * 1)).toList W m f 0 0 := by
  intro i' j' hj hi
  have hlt := tab_lt hi hj
  rw [if_neg (by omega)]
  have hz : (Value.int .i64 0).cells = #[Value.int .i64 0] := by rfl
  rw [hz, Nat.mul_one, Array.getElem?_toList]
  unfold madeCells
  rw [Array.getElem?_map, Array.getElem?_range, if_pos (by omega)]
  simp [Nat.mod_one]
set_option maxHeartbeats 4000000 in
set_option maxRecDepth 20000 in
theorem l9Table_any (va vb : Value) (xs ys : List Int) (w : World) (ha : SlI w va xs) (hb : SlI w vb ys) (hx : xs.length ≤ 40) (hy : ys.length ≤ 40) :
    Calls Try.prog 40 #[va, vb] w fun e w' => e = .returned (.slice (some ⟨w.heap.size, 0, none⟩) ((xs.length + 1) * (ys.length + 1)) ((xs.length + 1) * (ys.length + 1))) ∧ ∃ zs, w'.ownsRow w.heap.size 2 1 (.slice (some ⟨w.heap.size, 0, none⟩) ((xs.length + 1) * (ys.length + 1)) ((xs.length + 1) * (ys.length + 1))) ((xs.length + 1) * (ys.length + 1)) zs ∧ TabT zs (ys.length + 1) xs.length (edD true (fun k => xs.getD k 0) (fun k => ys.getD k 0)) (xs.length + 1) 0 ∧ Below w.heap.size w w' := by
  obtain ⟨i0, hi, hz0, hz1, hz2⟩ := info_parts info_i64
  obtain ⟨a, c, rfl, hca⟩ := ha
  obtain ⟨a', c', rfl, hcb⟩ := hb
  obtain ⟨f, hf⟩ : ∃ f, Hid (f = edD true (fun k => xs.getD k 0) (fun k => ys.getD k 0)) := ⟨_, rfl⟩
  rw [← hf.out]
  generalize hm : xs.length = m at *
  generalize hn : ys.length = n at *
  replace hm := (show Hid _ from hm)
  replace hn := (show Hid _ from hn)
  obtain ⟨W, hW⟩ : ∃ W, Hid (n + 1 = W) := ⟨_, rfl⟩
  obtain ⟨M, hM⟩ : ∃ M, Hid (m + 1 = M) := ⟨_, rfl⟩
  rw [hW.out, hM.out]
  obtain ⟨N, hN⟩ : ∃ N, Hid (M * W = N) := ⟨_, rfl⟩
  rw [hN.out]
  have hN2 : N ≤ 41 * 41 := by rw [← hN.out]; exact Nat.mul_le_mul (by have := hM.out; omega) (by have := hW.out; omega)
  have eW : IntKind.i64.wrap ((n : Int) + 1) = (W : Int) := wid (by have := hW.out; omega) (by omega) (by omega)
  have eM : IntKind.i64.wrap ((m : Int) + 1) = (M : Int) := wid (by have := hM.out; omega) (by omega) (by omega)
  have eN : IntKind.i64.wrap ((M : Int) * (W : Int)) = (N : Int) := by rw [← Int.natCast_mul, hN.out]; exact wid rfl (by omega) (by omega)
  have hNf : Hid (N = (m + 1) * W) := by show _ = _; rw [hM.out, hN.out]
  go_enter Try.func40, Try.ntmps40
  go_wp2_with (refine wpList_make_full _ rfl _ _ 24 rfl w.heap.size 2 i0 (.int .i64 0) 1 Try.underlying24 hi hz0 hz1 .i64 .i64 (N : Int) (N : Int) N rfl rfl rfl rfl ?c1 ?c2 ?c3 ?_)
  case c1 => rw [hz2]; omega
  case c2 => unfold maxLen; omega
  case c3 => exact Nat.le_refl _
  intro w1 ho hg
  have hb1 : Below w.heap.size w w1 := (Below.refl _ _).grown hg (Nat.le_refl _) (fun k hk => by cases hk)
  have ht0 : Hid (TabT (madeCells #[Value.int IntKind.i64 0] N).toList W m f 0 0) := by
    have := TabT.made N f W m hNf.out
    rw [Nat.mul_one] at this
    exact this
  clear hg eN eM
  go_wp2
  go_loopw [7, 8] (fun i _ wr => ∃ (j : Nat) (zs : List Value), j ≤ m + 1 ∧ i = .int .i64 j ∧ wr.ownsRow w.heap.size 2 1 (.slice (some ⟨w.heap.size, 0, none⟩) N N) N zs ∧ zs.length = N ∧ Hid (TabT zs W m f j 0) ∧ Below w.heap.size w wr) (fun i _ _ => m + 1 - (intOf i).toNat)
  case atStart => exact ⟨0, _, Nat.zero_le _, rfl, ho, by simpa using ho.1, ht0, hb1⟩
  case round =>
    obtain ⟨i, zs, hi1, rfl, ho1, hzl, hT, hbel⟩ := hrel
    clear ho hb1 ht0
    by_cases hlt : i ≤ m
    · have hii : (i : Int) ≤ (m : Int) := by omega
      go_wp2
      go_loopw [8] (fun jv wi => ∃ (j : Nat) (zs : List Value), j ≤ W ∧ jv = .int .i64 j ∧ wi.ownsRow w.heap.size 2 1 (.slice (some ⟨w.heap.size, 0, none⟩) N N) N zs ∧ zs.length = N ∧ Hid (TabT zs W m f i j) ∧ Below w.heap.size w wi) (fun jv _ => W - (intOf jv).toNat)
      case atStart => exact ⟨0, zs, Nat.zero_le _, rfl, ho1, hzl, hT, hbel⟩
      case round =>
        obtain ⟨j, us, hj1, rfl, ho2, hul, hT2, hbel2⟩ := hrel
        clear ho1 hzl hT hbel
        by_cases hlj : j < W
        · have hjn : (j : Int) ≤ (n : Int) := by have := hW.out; omega
          have hpn : i * W + j < N := by rw [hNf.out]; exact tab_lt hlt hlj
          obtain ⟨p, hp⟩ : ∃ p, Hid (p = i * W + j) := ⟨_, rfl⟩
          rw [← hp.out] at hpn
          obtain ⟨u, hu⟩ : ∃ u, wr.cell? ⟨w.heap.size, p, none⟩ = some u := by
            rw [ho2.cellAt p (by omega)]; exact ⟨_, List.getElem?_eq_getElem (by omega)⟩
          have hfz := ho2.frozenAt p
          have hst := fun x => ho2.stored p (.int .i64 x)
          have hset := fun x (e : x = f i j) => hT2.out.set (p := p) hlj hlt hp.out (by rw [hul]; exact hNf.out) e
          by_cases hi0 : i = 0
          · subst hi0
            have hpj : p = j := by rw [hp.out]; omega
            subst hpj
            obtain ⟨hst1, hst2⟩ := hst (p : Int)
            have hset := hset p (by rw [hf.out, edD_0])
            have hb3 := hbel2.grown hst2 hbel2.size (fun k hk => by cases hk; exact Nat.le_refl _)
            clear ho2 hT2 hbel2 hca hcb hst
            go_wp2
            go_roundw
            case rel => exact ⟨p + 1, us.set p (.int .i64 p), by omega, by go_num, hst1, by simpa using hul, hset, hb3⟩
            case measure => simp [intOf]; omega
          · by_cases hj0 : j = 0
            · subst hj0
              have hii0 : ¬ ((i : Int) = 0) := by omega
              have hpi : IntKind.i64.wrap ((i : Int) * (W : Int)) = (p : Int) := by rw [← Int.natCast_mul]; exact wid (by have := hp.out; omega) (by omega) (by have := hp.out; omega)
              obtain ⟨hst1, hst2⟩ := hst (i : Int)
              have hset := hset i (by rw [hf.out, edD_i0])
              have hb3 := hbel2.grown hst2 hbel2.size (fun k hk => by cases hk; exact Nat.le_refl _)
              clear ho2 hT2 hbel2 hca hcb hst
              go_wp2
              go_roundw
              case rel => exact ⟨1, us.set p (.int .i64 i), by omega, by go_num, hst1, by simpa using hul, hset, hb3⟩
              case measure => simp [intOf]; omega
            · have hii0 : ¬ ((i : Int) = 0) := by omega
              have hjj0 : ¬ ((j : Int) = 0) := by omega
              obtain ⟨i1, hi1'⟩ : ∃ i1, Hid (i = i1 + 1) := ⟨i - 1, by show i = i - 1 + 1; omega⟩
              obtain ⟨j1, hj1'⟩ : ∃ j1, Hid (j = j1 + 1) := ⟨j - 1, by show j = j - 1 + 1; omega⟩
              obtain ⟨r, hr⟩ : ∃ r, Hid (r = i * W) := ⟨_, rfl⟩
              obtain ⟨r1, hr1⟩ : ∃ r1, Hid (r1 = i1 * W) := ⟨_, rfl⟩
              obtain ⟨p1, hp1⟩ : ∃ p1, Hid (p1 = r1 + j) := ⟨_, rfl⟩
              obtain ⟨q, hq⟩ : ∃ q, Hid (q = r + j1) := ⟨_, rfl⟩
              obtain ⟨q1, hq1⟩ : ∃ q1, Hid (q1 = r1 + j1) := ⟨_, rfl⟩
              have hpr : p = r + j := by rw [hp.out, hr.out]
              have hl1 := tab_lt (W := W) (m := m) (i := i1) (j := j) (by have := hi1'.out; omega) hlj
              have hl2 := tab_lt (W := W) (m := m) (i := i) (j := j1) hlt (by have := hj1'.out; omega)
              have hl3 := tab_lt (W := W) (m := m) (i := i1) (j := j1) (by have := hi1'.out; omega) (by have := hj1'.out; omega)
              rw [← hr1.out, ← hp1.out, ← hNf.out] at hl1
              rw [← hr.out, ← hq.out, ← hNf.out] at hl2
              rw [← hr1.out, ← hq1.out, ← hNf.out] at hl3
              have e1 : IntKind.i64.wrap ((i : Int) * (W : Int)) = (r : Int) := by rw [← Int.natCast_mul]; exact wid (by rw [hr.out]) (by omega) (by rw [← hr.out]; omega)
              have e2 : IntKind.i64.wrap ((r : Int) + (j : Int)) = (p : Int) := wid (by omega) (by omega) (by omega)
              have e3 : IntKind.i64.wrap ((i : Int) - 1) = (i1 : Int) := wid (by have := hi1'.out; omega) (by omega) (by omega)
              have e4 : IntKind.i64.wrap ((i1 : Int) * (W : Int)) = (r1 : Int) := by rw [← Int.natCast_mul]; exact wid (by rw [hr1.out]) (by omega) (by rw [← hr1.out]; have := hp1.out; omega)
              have e5 : IntKind.i64.wrap ((r1 : Int) + (j : Int)) = (p1 : Int) := wid (by have := hp1.out; omega) (by omega) (by have := hp1.out; omega)
              have e6 : IntKind.i64.wrap ((p1 : Int) - 1) = (q1 : Int) := wid (by have := hp1.out; have := hq1.out; have := hj1'.out; omega) (by omega) (by omega)
              have e7 : IntKind.i64.wrap ((p : Int) - 1) = (q : Int) := wid (by have := hq.out; have := hj1'.out; omega) (by omega) (by omega)
              have e8 : IntKind.i64.wrap ((j : Int) - 1) = (j1 : Int) := wid (by have := hj1'.out; omega) (by omega) (by omega)
              have k1 := hT2.out.at i1 j1 (by have := hj1'.out; omega) (by have := hi1'.out; omega) (by have := hi1'.out; omega)
              have k2 := hT2.out.at i1 j hlj (by have := hi1'.out; omega) (by have := hi1'.out; omega)
              have k3 := hT2.out.at i j1 (by have := hj1'.out; omega) hlt (by have := hj1'.out; omega)
              rw [← hr1.out, ← hq1.out, ← ho2.cellAt q1 (by omega)] at k1
              rw [← hr1.out, ← hp1.out, ← ho2.cellAt p1 (by omega)] at k2
              rw [← hr.out, ← hq.out, ← ho2.cellAt q (by omega)] at k3
              have him : i1 < m := by have := hi1'.out; omega
              have hjm : j1 < n := by have := hj1'.out; have := hW.out; omega
              rcases hca with h | ⟨b, off, rfl, hbb, hs1⟩
              · exfalso; have := hm.out; rw [h] at this; simp at this; omega
              rcases hcb with h | ⟨b', off', rfl, hbb', hs2⟩
              · exfalso; have := hn.out; rw [h] at this; simp at this; omega
              have c1 := (hbel2.cell (p := ⟨b, off + i1, none⟩) hbb).trans (hs1 i1 him)
              have c2 := (hbel2.cell (p := ⟨b', off' + j1, none⟩) hbb').trans (hs2 j1 hjm)
              have hD := fun (h : xs.getD i1 0 = ys.getD j1 0) => edD_eq true (fun k => xs.getD k 0) (fun k => ys.getD k 0) i1 j1 h
              have hE := fun (h : ¬ xs.getD i1 0 = ys.getD j1 0) => edD_ne true (fun k => xs.getD k 0) (fun k => ys.getD k 0) i1 j1 h
              rw [← hi1'.out, ← hj1'.out, ← hf.out] at hD hE
              simp only [if_true] at hE
              have bd1 := edD_bd true (fun k => xs.getD k 0) (fun k => ys.getD k 0) i1 j1
              have bd2 := edD_bd true (fun k => xs.getD k 0) (fun k => ys.getD k 0) i1 j
              have bd3 := edD_bd true (fun k => xs.getD k 0) (fun k => ys.getD k 0) i j1
              rw [← hf.out] at bd1 bd2 bd3
              generalize xs.getD i1 0 = x at *
              generalize ys.getD j1 0 = y at *
              generalize hF : f i j = F at *
              generalize f i1 j1 = F1 at *
              generalize f i1 j = F2 at *
              generalize f i j1 = F3 at *
              clear hF
              by_cases hxy : x = y
              · replace hD := hD hxy
                subst hxy
                obtain ⟨hst1, hst2⟩ := hst F1
                have hset := hset F1 hD.symm
                clear ho2 hT2 hs1 hs2 hst hE hD hpr bd1 bd2 bd3
                go_wp2
                go_quiet (fail)
                go_wp2
                go_roundw
                case rel => exact ⟨j + 1, us.set p (.int .i64 F1), by omega, by go_num, hst1, by simpa using hul, hset, hbel2.grown (row := some w.heap.size) ⟨hst2.os, hst2.tape, hst2.output, hst2.size, hst2.block⟩ hbel2.size (fun k hk => by cases hk; exact Nat.le_refl _)⟩
                case measure => simp [intOf]; omega
              · have hE2 := hE hxy
                clear hE hD
                subst hE2
                have bF : IntKind.i64.wrap (1 + min F1 (min F2 F3)) = 1 + min F1 (min F2 F3) := wid rfl (by omega) (by omega)
                obtain ⟨hst1, hst2⟩ := hst (1 + min F1 (min F2 F3))
                have hset := hset _ rfl
                have kst : ∀ V : World, (V.cell? ⟨w.heap.size, q1, none⟩ = some (.int .i64 F1) ∧ V.cell? ⟨w.heap.size, p1, none⟩ = some (.int .i64 F2) ∧ V.cell? ⟨w.heap.size, q, none⟩ = some (.int .i64 F3)) → ((V.setCell ⟨w.heap.size, p, none⟩ (.int .i64 (1 + min F1 (min F2 F3)))).cell? ⟨w.heap.size, q1, none⟩ = some (.int .i64 F1) ∧ (V.setCell ⟨w.heap.size, p, none⟩ (.int .i64 (1 + min F1 (min F2 F3)))).cell? ⟨w.heap.size, p1, none⟩ = some (.int .i64 F2) ∧ (V.setCell ⟨w.heap.size, p, none⟩ (.int .i64 (1 + min F1 (min F2 F3)))).cell? ⟨w.heap.size, q, none⟩ = some (.int .i64 F3)) := fun V h => by
                  have hiW : i1 * W + W ≤ i * W := by rw [hi1'.out, Nat.add_mul]; omega
                  refine ⟨(cell_set_ne _ _ _ _ _ (by have := hq1.out; have := hr1.out; have := hr.out; have := hj1'.out; omega)).trans h.1, (cell_set_ne _ _ _ _ _ (by have := hp1.out; have := hr1.out; have := hr.out; omega)).trans h.2.1, (cell_set_ne _ _ _ _ _ (by have := hq.out; have := hj1'.out; omega)).trans h.2.2⟩
                clear ho2 hT2 hs1 hs2 hst hpr bd1 bd2 bd3
                go_wp2
                go_quiet (fail)
                go_wp2
                refine wp_region_noPanic ?_
                refine wp_region_held_drew (S := (fun W => W.cell? ⟨w.heap.size, q1, none⟩ = some (.int .i64 F1) ∧ W.cell? ⟨w.heap.size, p1, none⟩ = some (.int .i64 F2) ∧ W.cell? ⟨w.heap.size, q, none⟩ = some (.int .i64 F3))) (by kernel_rfl) (⟨k1, k2, k3⟩) (fun hHeld => ?_)
                refine' wpAnyH_take (i := 0) (v := _) rfl (by kernel_rfl) (by kernel_rfl) (by kernel_rfl) (fun _ _ _ h => h) (Or.inl ⟨by rfl, ?hy1001⟩) hHeld ?hr1001
                case hy1001 => (intro w hSw; (try dsimp only at hSw); go_simp; (try with_reducible rfl))
                simp only [Act.put, List.setIfInBounds_toArray, List.set_cons_zero, List.set_cons_succ, List.getElem_toArray, List.getElem_cons_zero]
                refine' wpAnyH_take (i := 1) (v := _) rfl (by kernel_rfl) (by kernel_rfl) (by kernel_rfl) (fun _ _ _ h => h) (Or.inl ⟨by rfl, ?hy1002⟩) hHeld ?hr1002
                case hy1002 => (intro w hSw; (try dsimp only at hSw); go_simp; (try with_reducible rfl))
                simp only [Act.put, List.setIfInBounds_toArray, List.set_cons_zero, List.set_cons_succ, List.getElem_toArray, List.getElem_cons_zero, List.getElem_cons_succ]
                refine' wpAnyH_take (i := 2) (v := _) rfl (by kernel_rfl) (by kernel_rfl) (by kernel_rfl) (fun _ _ _ h => h) (Or.inl ⟨by rfl, ?hy1003⟩) hHeld ?hr1003
                case hy1003 => (intro w hSw; (try dsimp only at hSw); go_simp; (try with_reducible rfl))
                simp only [Act.put, List.setIfInBounds_toArray, List.set_cons_zero, List.set_cons_succ, List.getElem_toArray, List.getElem_cons_zero, List.getElem_cons_succ]
                refine' wpAnyH_take (i := 3) (v := _) rfl (by kernel_rfl) (by kernel_rfl) (by kernel_rfl) (fun _ _ _ h => h) (Or.inl ⟨by rfl, ?hy1004⟩) hHeld ?hr1004
                case hy1004 => (intro w hSw; (try dsimp only at hSw); go_simp; (try with_reducible rfl))
                simp only [Act.put, List.setIfInBounds_toArray, List.set_cons_zero, List.set_cons_succ, List.getElem_toArray, List.getElem_cons_zero, List.getElem_cons_succ]
                refine' wpAnyH_take (i := 4) (v := _) rfl (by kernel_rfl) (by kernel_rfl) (by kernel_rfl) (fun _ _ _ h => h) (Or.inl ⟨by rfl, ?hy1005⟩) hHeld ?hr1005
                case hy1005 => (intro w hSw; (try dsimp only at hSw); go_simp; (try with_reducible rfl))
                simp only [Act.put, List.setIfInBounds_toArray, List.set_cons_zero, List.set_cons_succ, List.getElem_toArray, List.getElem_cons_zero, List.getElem_cons_succ]
                refine' wpAnyH_take (i := 5) (v := _) rfl (by kernel_rfl) (by kernel_rfl) (by kernel_rfl) (fun _ _ _ h => h) (Or.inl ⟨by rfl, ?hy1006⟩) hHeld ?hr1006
                case hy1006 => (intro w hSw; (try dsimp only at hSw); go_simp; (try with_reducible rfl))
                simp only [Act.put, List.setIfInBounds_toArray, List.set_cons_zero, List.set_cons_succ, List.getElem_toArray, List.getElem_cons_zero, List.getElem_cons_succ]
                refine' wpAnyH_take (i := 6) (v := _) rfl (by kernel_rfl) (by kernel_rfl) (by kernel_rfl) (fun _ _ _ h => h) (Or.inl ⟨by rfl, ?hy1007⟩) hHeld ?hr1007
                case hy1007 => (intro w hSw; (try dsimp only at hSw); go_simp; (try with_reducible rfl))
                simp only [Act.put, List.setIfInBounds_toArray, List.set_cons_zero, List.set_cons_succ, List.getElem_toArray, List.getElem_cons_zero, List.getElem_cons_succ]
                refine' wpAnyH_take (i := 7) (v := _) rfl (by kernel_rfl) (by kernel_rfl) (by kernel_rfl) (fun _ _ _ h => h) (Or.inl ⟨by rfl, ?hy1008⟩) hHeld ?hr1008
                case hy1008 => (intro w hSw; (try dsimp only at hSw); go_simp; (try with_reducible rfl))
                simp only [Act.put, List.setIfInBounds_toArray, List.set_cons_zero, List.set_cons_succ, List.getElem_toArray, List.getElem_cons_zero, List.getElem_cons_succ]
                refine' wpAnyH_take (i := 8) (v := _) rfl (by kernel_rfl) (by kernel_rfl) (by kernel_rfl) (fun _ _ _ h => h) (Or.inl ⟨by rfl, ?hy1009⟩) hHeld ?hr1009
                case hy1009 => (intro w hSw; (try dsimp only at hSw); go_simp; (try with_reducible rfl))
                simp only [Act.put, List.setIfInBounds_toArray, List.set_cons_zero, List.set_cons_succ, List.getElem_toArray, List.getElem_cons_zero, List.getElem_cons_succ]
                refine' wpAnyH_take (i := 9) (v := _) rfl (by kernel_rfl) (by kernel_rfl) (by kernel_rfl) (fun _ _ _ h => h) (Or.inl ⟨by rfl, ?hy1010⟩) hHeld ?hr1010
                case hy1010 => (intro w hSw; (try dsimp only at hSw); go_simp; (try with_reducible rfl))
                simp only [Act.put, List.setIfInBounds_toArray, List.set_cons_zero, List.set_cons_succ, List.getElem_toArray, List.getElem_cons_zero, List.getElem_cons_succ]
                refine' wpAnyH_take (i := 10) (v := _) rfl (by kernel_rfl) (by kernel_rfl) (by kernel_rfl) (fun _ _ _ h => h) (Or.inl ⟨by rfl, ?hy1011⟩) hHeld ?hr1011
                case hy1011 => (intro w hSw; (try dsimp only at hSw); go_simp; (try with_reducible rfl))
                simp only [Act.put, List.setIfInBounds_toArray, List.set_cons_zero, List.set_cons_succ, List.getElem_toArray, List.getElem_cons_zero, List.getElem_cons_succ]
                refine' wpAnyH_take (i := 11) (v := _) rfl (by kernel_rfl) (by kernel_rfl) (by kernel_rfl) (fun _ _ _ h => h) (Or.inl ⟨by rfl, ?hy1012⟩) hHeld ?hr1012
                case hy1012 => (intro w hSw; (try dsimp only at hSw); go_simp; (try with_reducible rfl))
                simp only [Act.put, List.setIfInBounds_toArray, List.set_cons_zero, List.set_cons_succ, List.getElem_toArray, List.getElem_cons_zero, List.getElem_cons_succ]
                refine' wpAnyH_take (i := 12) (v := _) rfl (by kernel_rfl) (by kernel_rfl) (by kernel_rfl) (fun _ _ _ h => h) (Or.inl ⟨by rfl, ?hy1013⟩) hHeld ?hr1013
                case hy1013 => (intro w hSw; (try dsimp only at hSw); go_simp; (try with_reducible rfl))
                simp only [Act.put, List.setIfInBounds_toArray, List.set_cons_zero, List.set_cons_succ, List.getElem_toArray, List.getElem_cons_zero, List.getElem_cons_succ]
                refine' wpAnyH_take (i := 13) (v := _) rfl (by kernel_rfl) (by kernel_rfl) (by kernel_rfl) (fun _ _ _ h => h) (Or.inl ⟨by rfl, ?hy1014⟩) hHeld ?hr1014
                case hy1014 => (intro w hSw; (try dsimp only at hSw); go_simp; (try with_reducible rfl))
                simp only [Act.put, List.setIfInBounds_toArray, List.set_cons_zero, List.set_cons_succ, List.getElem_toArray, List.getElem_cons_zero, List.getElem_cons_succ]
                refine' wpAnyH_take (i := 14) (v := _) rfl (by kernel_rfl) (by kernel_rfl) (by kernel_rfl) (fun _ _ _ h => h) (Or.inl ⟨by rfl, ?hy1015⟩) hHeld ?hr1015
                case hy1015 => (intro w hSw; (try dsimp only at hSw); go_simp; (try with_reducible rfl))
                simp only [Act.put, List.setIfInBounds_toArray, List.set_cons_zero, List.set_cons_succ, List.getElem_toArray, List.getElem_cons_zero, List.getElem_cons_succ]
                refine' wpAnyH_take (i := 15) (v := _) rfl (by kernel_rfl) (by kernel_rfl) (by kernel_rfl) (fun _ _ _ h => h) (Or.inl ⟨by rfl, ?hy1016⟩) hHeld ?hr1016
                case hy1016 => (intro w hSw; (try dsimp only at hSw); go_simp; (try with_reducible rfl))
                simp only [Act.put, List.setIfInBounds_toArray, List.set_cons_zero, List.set_cons_succ, List.getElem_toArray, List.getElem_cons_zero, List.getElem_cons_succ]
                refine' wpAnyH_take (i := 16) (v := _) rfl (by kernel_rfl) (by kernel_rfl) (by kernel_rfl) (fun _ _ _ h => h) (Or.inl ⟨by rfl, ?hy1017⟩) hHeld ?hr1017
                case hy1017 => (intro w hSw; (try dsimp only at hSw); go_simp; (try with_reducible rfl))
                simp only [Act.put, List.setIfInBounds_toArray, List.set_cons_zero, List.set_cons_succ, List.getElem_toArray, List.getElem_cons_zero, List.getElem_cons_succ]
                refine' wpAnyH_take (i := 17) (v := _) rfl (by kernel_rfl) (by kernel_rfl) (by kernel_rfl) (fun _ _ _ h => h) (Or.inl ⟨by rfl, ?hy1018⟩) hHeld ?hr1018
                case hy1018 => (intro w hSw; (try dsimp only at hSw); go_simp; (try with_reducible rfl))
                simp only [Act.put, List.setIfInBounds_toArray, List.set_cons_zero, List.set_cons_succ, List.getElem_toArray, List.getElem_cons_zero, List.getElem_cons_succ]
                refine' wpAnyH_take (i := 18) (v := _) rfl (by kernel_rfl) (by kernel_rfl) (by kernel_rfl) (fun _ _ _ h => h) (Or.inl ⟨by rfl, ?hy1019⟩) hHeld ?hr1019
                case hy1019 => (intro w hSw; (try dsimp only at hSw); go_simp; (try with_reducible rfl))
                simp only [Act.put, List.setIfInBounds_toArray, List.set_cons_zero, List.set_cons_succ, List.getElem_toArray, List.getElem_cons_zero, List.getElem_cons_succ]
                refine' wpAnyH_take (i := 19) (v := _) rfl (by kernel_rfl) (by kernel_rfl) (by kernel_rfl) (fun _ _ _ h => h) (Or.inl ⟨by rfl, ?hy1020⟩) hHeld ?hr1020
                case hy1020 => (intro w hSw; (try dsimp only at hSw); go_simp; (try with_reducible rfl))
                simp only [Act.put, List.setIfInBounds_toArray, List.set_cons_zero, List.set_cons_succ, List.getElem_toArray, List.getElem_cons_zero, List.getElem_cons_succ]
                refine' wpAnyH_take (i := 20) (v := _) rfl (by kernel_rfl) (by kernel_rfl) (by kernel_rfl) (fun _ _ _ h => h) (Or.inl ⟨by rfl, ?hy1021⟩) hHeld ?hr1021
                case hy1021 => (intro w hSw; (try dsimp only at hSw); go_simp; (try with_reducible rfl))
                simp only [Act.put, List.setIfInBounds_toArray, List.set_cons_zero, List.set_cons_succ, List.getElem_toArray, List.getElem_cons_zero, List.getElem_cons_succ]
                refine' wpAnyH_take (i := 21) (v := _) rfl (by kernel_rfl) (by kernel_rfl) (by kernel_rfl) (fun _ _ _ h => h) (Or.inl ⟨by rfl, ?hy1022⟩) hHeld ?hr1022
                case hy1022 => (intro w hSw; (try dsimp only at hSw); go_simp; (try with_reducible rfl))
                simp only [Act.put, List.setIfInBounds_toArray, List.set_cons_zero, List.set_cons_succ, List.getElem_toArray, List.getElem_cons_zero, List.getElem_cons_succ]
                refine' wpAnyH_take (i := 22) (v := _) rfl (by kernel_rfl) (by kernel_rfl) (by kernel_rfl) (fun _ _ _ h => h) (Or.inl ⟨by rfl, ?hy1023⟩) hHeld ?hr1023
                case hy1023 => (intro w hSw; (try dsimp only at hSw); go_simp; (try with_reducible rfl))
                simp only [Act.put, List.setIfInBounds_toArray, List.set_cons_zero, List.set_cons_succ, List.getElem_toArray, List.getElem_cons_zero, List.getElem_cons_succ]
                refine' wpAnyH_take (i := 23) (v := _) rfl (by kernel_rfl) (by kernel_rfl) (by kernel_rfl) (fun _ _ _ h => h) (Or.inl ⟨by rfl, ?hy1024⟩) hHeld ?hr1024
                case hy1024 => (intro w hSw; (try dsimp only at hSw); go_simp; (try with_reducible rfl))
                simp only [Act.put, List.setIfInBounds_toArray, List.set_cons_zero, List.set_cons_succ, List.getElem_toArray, List.getElem_cons_zero, List.getElem_cons_succ]
                refine' wpAnyH_take (i := 24) (v := _) rfl (by kernel_rfl) (by kernel_rfl) (by kernel_rfl) (fun _ _ _ h => h) (Or.inl ⟨by rfl, ?hy1025⟩) hHeld ?hr1025
                case hy1025 => (intro w hSw; (try dsimp only at hSw); go_simp; (try with_reducible rfl))
                simp only [Act.put, List.setIfInBounds_toArray, List.set_cons_zero, List.set_cons_succ, List.getElem_toArray, List.getElem_cons_zero, List.getElem_cons_succ]
                refine' wpAnyH_take (i := 25) (v := _) rfl (by kernel_rfl) (by kernel_rfl) (by kernel_rfl) (fun _ _ _ h => h) (Or.inl ⟨by rfl, ?hy1026⟩) hHeld ?hr1026
                case hy1026 => (intro w hSw; (try dsimp only at hSw); go_simp; (try with_reducible rfl))
                simp only [Act.put, List.setIfInBounds_toArray, List.set_cons_zero, List.set_cons_succ, List.getElem_toArray, List.getElem_cons_zero, List.getElem_cons_succ]
                refine' wpAnyH_take (i := 26) (v := _) rfl (by kernel_rfl) (by kernel_rfl) (by kernel_rfl) (fun _ _ _ h => h) (Or.inl ⟨by rfl, ?hy1027⟩) hHeld ?hr1027
                case hy1027 => (intro w hSw; (try dsimp only at hSw); go_simp; (try with_reducible rfl))
                simp only [Act.put, List.setIfInBounds_toArray, List.set_cons_zero, List.set_cons_succ, List.getElem_toArray, List.getElem_cons_zero, List.getElem_cons_succ]
                refine' wpAnyH_take (i := 27) (v := _) rfl (by kernel_rfl) (by kernel_rfl) (by kernel_rfl) (fun _ _ _ h => h) (Or.inl ⟨by rfl, ?hy1028⟩) hHeld ?hr1028
                case hy1028 => (intro w hSw; (try dsimp only at hSw); go_simp; (try with_reducible rfl))
                simp only [Act.put, List.setIfInBounds_toArray, List.set_cons_zero, List.set_cons_succ, List.getElem_toArray, List.getElem_cons_zero, List.getElem_cons_succ]
                refine' wpAnyH_take (i := 28) (v := _) rfl (by kernel_rfl) (by kernel_rfl) (by kernel_rfl) (fun _ _ _ h => h) (Or.inl ⟨by rfl, ?hy1029⟩) hHeld ?hr1029
                case hy1029 => (intro w hSw; (try dsimp only at hSw); go_simp; (try with_reducible rfl))
                simp only [Act.put, List.setIfInBounds_toArray, List.set_cons_zero, List.set_cons_succ, List.getElem_toArray, List.getElem_cons_zero, List.getElem_cons_succ]
                refine' wpAnyH_take (i := 29) (v := _) rfl (by kernel_rfl) (by kernel_rfl) (by kernel_rfl) (fun _ _ _ h => h) (Or.inl ⟨by rfl, ?hy1030⟩) hHeld ?hr1030
                case hy1030 => (intro w hSw; (try dsimp only at hSw); go_simp; (try with_reducible rfl))
                simp only [Act.put, List.setIfInBounds_toArray, List.set_cons_zero, List.set_cons_succ, List.getElem_toArray, List.getElem_cons_zero, List.getElem_cons_succ]
                refine' wpAnyH_take (i := 30) (v := _) rfl (by kernel_rfl) (by kernel_rfl) (by kernel_rfl) (fun _ _ _ h => h) (Or.inl ⟨by rfl, ?hy1031⟩) hHeld ?hr1031
                case hy1031 => (intro w hSw; (try dsimp only at hSw); go_simp; (try with_reducible rfl))
                simp only [Act.put, List.setIfInBounds_toArray, List.set_cons_zero, List.set_cons_succ, List.getElem_toArray, List.getElem_cons_zero, List.getElem_cons_succ]
                refine' wpAnyH_take (i := 31) (v := _) rfl (by kernel_rfl) (by kernel_rfl) (by kernel_rfl) (fun _ _ _ h => h) (Or.inl ⟨by rfl, ?hy1032⟩) hHeld ?hr1032
                case hy1032 => (intro w hSw; (try dsimp only at hSw); go_simp; (try with_reducible rfl))
                simp only [Act.put, List.setIfInBounds_toArray, List.set_cons_zero, List.set_cons_succ, List.getElem_toArray, List.getElem_cons_zero, List.getElem_cons_succ]
                refine' wpAnyH_take (i := 32) (v := _) rfl (by kernel_rfl) (by kernel_rfl) (by kernel_rfl) (fun _ _ _ h => h) (Or.inl ⟨by rfl, ?hy1033⟩) hHeld ?hr1033
                case hy1033 => (intro w hSw; (try dsimp only at hSw); go_simp; (try with_reducible rfl))
                simp only [Act.put, List.setIfInBounds_toArray, List.set_cons_zero, List.set_cons_succ, List.getElem_toArray, List.getElem_cons_zero, List.getElem_cons_succ]
                refine' wpAnyH_take (i := 33) (v := _) rfl (by kernel_rfl) (by kernel_rfl) (by kernel_rfl) (fun _ _ _ h => h) (Or.inl ⟨by rfl, ?hy1034⟩) hHeld ?hr1034
                case hy1034 => (intro w hSw; (try dsimp only at hSw); go_simp; (try with_reducible rfl))
                simp only [Act.put, List.setIfInBounds_toArray, List.set_cons_zero, List.set_cons_succ, List.getElem_toArray, List.getElem_cons_zero, List.getElem_cons_succ]
                refine wpAnyH_ready (rs := [34]) (by kernel_rfl) (by simp) (allReady_1 rfl rfl (fun K hK => ?_))
                go_simp
                refine (l1Min_e _ _ _).mono ?_
                rintro e w9 ⟨rfl, hw9⟩
                subst hw9
                go_wp2_with fail
                refine hK.out _ _ (hHeld) (fun hHeld => ?_)
                clear hK K
                (try simp only [Act.put, List.setIfInBounds_toArray, List.set_cons_zero, List.set_cons_succ, List.getElem_toArray, List.getElem_cons_zero, List.getElem_cons_succ])
                refine wpAnyH_ready (rs := [35]) (by kernel_rfl) (by simp) (allReady_1 rfl rfl (fun K hK => ?_))
                go_simp
                refine (l1Min_e _ _ _).mono ?_
                rintro e w9 ⟨rfl, hw9⟩
                subst hw9
                go_wp2_with fail
                refine hK.out _ _ (hHeld) (fun hHeld => ?_)
                clear hK K
                (try simp only [Act.put, List.setIfInBounds_toArray, List.set_cons_zero, List.set_cons_succ, List.getElem_toArray, List.getElem_cons_zero, List.getElem_cons_succ])
                refine' wpAnyH_take (i := 36) (v := _) rfl (by kernel_rfl) (by kernel_rfl) (by kernel_rfl) (fun _ _ _ h => h) (Or.inl ⟨by rfl, ?hy1035⟩) hHeld ?hr1035
                case hy1035 => (intro w hSw; (try dsimp only at hSw); go_simp; (try with_reducible rfl))
                simp only [Act.put, List.setIfInBounds_toArray, List.set_cons_zero, List.set_cons_succ, List.getElem_toArray, List.getElem_cons_zero, List.getElem_cons_succ]
                refine' wpAnyH_take (i := 37) (v := _) rfl (by kernel_rfl) (by kernel_rfl) (by kernel_rfl) (fun _ _ _ h => h) (Or.inl ⟨by rfl, ?hy1036⟩) hHeld ?hr1036
                case hy1036 => (intro w hSw; (try dsimp only at hSw); go_simp; (try with_reducible rfl))
                simp only [Act.put, List.setIfInBounds_toArray, List.set_cons_zero, List.set_cons_succ, List.getElem_toArray, List.getElem_cons_zero, List.getElem_cons_succ]
                refine wpAnyH_ready (rs := [38]) (by kernel_rfl) (by simp) (allReady_1 rfl rfl (fun K hK => ?_))
                go_simp
                refine hK.out _ _ (kst _ hHeld) (fun hHeld => ?_)
                clear hK K
                (try simp only [Act.put, List.setIfInBounds_toArray, List.set_cons_zero, List.set_cons_succ, List.getElem_toArray, List.getElem_cons_zero, List.getElem_cons_succ])
                refine wpAnyH_done (by kernel_rfl) ?_ _
                refine NoPanic.normal ?_
                go_wp2
                go_roundw
                case rel => exact ⟨j + 1, us.set p (.int .i64 (1 + min F1 (min F2 F3))), by omega, by go_num, hst1, by simpa using hul, hset, hbel2.grown (row := some w.heap.size) ⟨hst2.os, hst2.tape, hst2.output, hst2.size, hst2.block⟩ hbel2.size (fun k hk => by cases hk; exact Nat.le_refl _)⟩
                case measure => simp [intOf]; omega
        · have hjn : ¬ (j : Int) ≤ (n : Int) := by have := hW.out; omega
          have hjW : j = W := by omega
          subst hjW
          have hT3 := hT2.out.row
          clear hca hcb
          go_wp2
          go_roundw
          case rel => exact ⟨i + 1, us, by omega, by go_num, ho2, hul, hT3, hbel2⟩
          case measure => simp [intOf]; omega
    · have hii : ¬ (i : Int) ≤ (m : Int) := by omega
      have him : i = M := by have := hM.out; omega
      subst him
      clear hca hcb
      go_wp2
      go_ret
      exact ⟨rfl, zs, ho1, hT.out, hbel⟩
end Go.Proofs.Ytdahcdgefflkaaa
namespace Go.Proofs.Ytdahcdgefflkaaa
open Go.ChangeShapes Go.WideShapes Go.ChangeAt Go.RowKit
def apartV (xs ys : List Int) : Int := if xs.length ≤ 40 ∧ ys.length ≤ 40 then edD true (fun k => xs.getD k 0) (fun k => ys.getD k 0) xs.length ys.length else -1
def sharedV (xs ys : List Int) : Int := if xs.length ≤ 40 ∧ ys.length ≤ 40 then edL (fun k => xs.getD k 0) (fun k => ys.getD k 0) xs.length ys.length else -1
theorem last_tab (m n : Nat) : (m + 1) * (n + 1) - 1 = m * (n + 1) + n := by rw [Nat.add_mul]; omega

set_option maxHeartbeats 400000 in
theorem specApart_any (va vb : Value) (xs ys : List Int) (w : World) (ha : SlI w va xs) (hb : SlI w vb ys) :
    Calls Try.prog 13 #[va, vb] w fun e w' => e = .returned (.int .i64 (apartV xs ys)) ∧ Below w.heap.size w w' := by
  have hh2 := fun W (k : Below w.heap.size w W) => l9Two_any va vb xs ys W (ha.below k) (hb.below k)
  by_cases h : xs.length ≤ 40 ∧ ys.length ≤ 40
  · simp only [decide_eq_true h] at hh2
    have hA : Hid (apartV xs ys = edD true (fun k => xs.getD k 0) (fun k => ys.getD k 0) xs.length ys.length) := if_pos h
    rw [hA.out]
    have ht := l9Table_any va vb xs ys w ha hb h.1 h.2
    obtain ⟨a, c, rfl, _⟩ := ha
    obtain ⟨a', c', rfl, _⟩ := hb
    have h1 := last_tab xs.length ys.length
    have h2 := tab_lt (W := ys.length + 1) (Nat.le_refl xs.length) (Nat.lt_succ_self ys.length)
    have h3 : (xs.length + 1) * (ys.length + 1) ≤ 41 * 41 := Nat.mul_le_mul (by omega) (by omega)
    generalize hf : edD true (fun k => xs.getD k 0) (fun k => ys.getD k 0) = f at *
    generalize hm : xs.length = m at *
    generalize hn : ys.length = n at *
    generalize hN : (m + 1) * (n + 1) = N at *
    replace h1 := (show Hid _ from h1)
    clear hf hm hn hA h
    go_enter Try.func13, Try.ntmps13
    go_wp2_with (first
      | (go_at_call 39; refine (hh2 _ (Below.refl _ _)).mono ?_; rintro e w1 ⟨rfl, hw1⟩; subst hw1)
      | (go_at_call 40; refine ht.mono ?_; rintro e w2 ⟨rfl, zs, ho, hT, hbl⟩
         have hc := hT.at m n (by omega) (Nat.le_refl _) (by omega)
         rw [← h1.out, ← ho.cellAt (N - 1) (by omega)] at hc
         have hNN : 0 < N := by omega
         have hw : IntKind.i64.wrap ((N : Int) - 1) = ((N - 1 : Nat) : Int) := wid (by omega) (by omega) (by omega)
         have hlt : N - 1 < N := by omega
         generalize N - 1 = L at *
         clear ho hT h1 ht hh2))
    go_ret
    exact ⟨rfl, hbl⟩
  · simp only [decide_eq_false h] at hh2
    have hA : Hid (apartV xs ys = -1) := if_neg h
    rw [hA.out]
    obtain ⟨a, c, rfl, _⟩ := ha
    obtain ⟨a', c', rfl, _⟩ := hb
    clear hA h
    go_enter Try.func13, Try.ntmps13
    go_wp2_with (first
      | (go_at_call 39; refine (hh2 _ (Below.refl _ _)).mono ?_; rintro e w1 ⟨rfl, hw1⟩; subst hw1))
    go_ret
    exact ⟨rfl, Below.refl _ _⟩
end Go.Proofs.Ytdahcdgefflkaaa
