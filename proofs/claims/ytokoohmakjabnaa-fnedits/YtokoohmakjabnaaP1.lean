/- The cursor over the bytes of a draw: what its functions leave. Slices of int64 that can be read, and rows that stay. The cursor: made, asked, kept. Runes as numbers: what a text's first bytes are read to. Plain mathematics, no program. The laws' own helper that copies a list of int64. Two lists drawn. Styles: their params and signs. Plain mathematics. Rows of cells. Plain mathematics. Contract of l1In alone. What a contract leaves, as growth. A style in memory. Rows of cells in memory. A cell whole in a block of its own. The laws' own helpers on rows: two cells alike. The laws' own helpers on rows: two rows alike. Widths, and what fits into some cells. Plain mathematics. Right rows: what keeps them right. Plain mathematics. The program's way with rows: cleared, pushed, pulled. Plain mathematics. Contract of the specification's RowOk. Rows drawn, right or wrong. Parsers as numbers: what a rune makes of one, and what is told of it. Plain mathematics, no program. Lists of numbers that one call owns, apart from one another; parsers and actions in memory. Contracts: the specification's tests on parsers. The walk of the program's parser: what it tells, what comes next. The walk of the program's parser: its parameters. A row of numbers that one call owns: cut, longer, written over in part. slices.Delete at numbers: one of a row that one call owns. slices.Insert at numbers: one number into a row that one call owns. How far two lists are apart: distances, cut at a limit, and what is shared. Plain mathematics. The steps from one list to the other. Plain mathematics. The way that is gone, as the program chooses it. Plain mathematics. Edits that are done to a list. Plain mathematics. The specification's tables of two lists: distances, and what is shared. One operation alone may come up. The walk of the program's parser: past controls, letters, parameters, a title. The laws' own helper: two lists alike. Contracts of the program's Parsed and Step: first part. A struct of many cells, loaded and stored as a whole, behind a guard too. A part of a block that is a struct, loaded as a whole. The program's rows of distances: one that is all beyond. -/
import Derived.Test.YtokoohmakjabnaaRows
import Derived.WalkKit
import Derived.ProofKit
import Derived.OpenShut
import Derived.LoopN
import Derived.WalkSpells
import Derived.Deep.QuietTactic
import Derived.BigQuiet
import Derived.Laws.Bits128
import Derived.Laws.BytesArg
import GoSem.Core.Utf8
import Derived.ShutString
import Derived.Laws.OwnMore
import Derived.Laws.AppendOwn
import Derived.OwnWalk
import Derived.Laws.AppendOwnNone
import Derived.Deep.MidRow
import Derived.Deep.RegionWith
import Derived.Deep.RegionHeld3
import Derived.Deep.AppendLies
import Derived.LoopTactic
import Derived.OneCell
import Derived.Deep.RegionLaw
import Derived.WalkLawsBesides
import Derived.Lib.SliceRun
import Derived.Laws.IdiomCopy
import Derived.Deep.DeepAppendRoom
import Derived.Shelf.RegionOpenPlain
import Derived.Lib.AppendZerosOnto
import Derived.Lib.Overlaps
import Derived.Laws.Externs
import Derived.Deep.LoopGhost
import Derived.Laws.Rows
import Derived.Laws.Tables
namespace Go.Proofs.Ytokoohmakjabnaa
open Go.ChangeShapes Go.WideShapes Go.ChangeAt Go.RowKit
theorem and_mask (n : Int) (k : Nat) (hk : k < 63) (m : Int) (hN : (BitVec.ofInt 64 m).toNat = 2 ^ k - 1) : 0 ≤ bits .and .i64 n m ∧ bits .and .i64 n m < 2 ^ k := by
  have key : (BitVec.ofInt 64 n &&& BitVec.ofInt 64 m).toNat = (n % ((2 ^ 64 : Nat) : Int)).toNat % 2 ^ k := by
    rw [BitVec.toNat_and, BitVec.toNat_ofInt, hN, Nat.and_two_pow_sub_one_eq_mod]
  have e : bits .and .i64 n m = IntKind.i64.wrap ((BitVec.ofInt 64 n &&& BitVec.ofInt 64 m).toNat : Nat) := rfl
  rw [e, key, IntKind.wrap_i64]
  have hlt : (n % ((2 ^ 64 : Nat) : Int)).toNat % 2 ^ k < 2 ^ k := Nat.mod_lt _ (Nat.two_pow_pos k)
  have hp : (2 : Nat) ^ k ≤ 2 ^ 62 := Nat.pow_le_pow_right (by omega) (by omega)
  have hc : ((2 ^ k : Nat) : Int) = (2 : Int) ^ k := by simp
  rw [← hc]
  generalize (n % ((2 ^ 64 : Nat) : Int)).toNat % 2 ^ k = q at *
  generalize 2 ^ k = K at *
  omega
theorem and_255 (n : Int) : 0 ≤ bits .and .i64 n 255 ∧ bits .and .i64 n 255 ≤ 255 := by
  have := and_mask n 8 (by decide) 255 (by decide)
  omega
/-- A slice of bytes that can be read. -/
def SlB (w : World) (v : Value) (xs : List Int) : Prop :=
  ∃ a c, v = .slice a xs.length c ∧ xs.length ≤ 4096 ∧ (∀ x ∈ xs, 0 ≤ x ∧ x < 256) ∧ (xs = [] ∨ ∃ b off, a = some ⟨b, off, none⟩ ∧ b < w.heap.size ∧ ∀ i, i < xs.length → w.cell? ⟨b, off + i, none⟩ = some (.int .u8 (xs.getD i 0)))
theorem SlB.below {w w' : World} {v : Value} {xs : List Int} (h : SlB w v xs) (hb : Below w.heap.size w w') : SlB w' v xs := by
  obtain ⟨a, c, hv, h1, h2, h | ⟨b, off, ha, hlt, hc⟩⟩ := h
  · exact ⟨a, c, hv, h1, h2, .inl h⟩
  · exact ⟨a, c, hv, h1, h2, .inr ⟨b, off, ha, Nat.lt_of_lt_of_le hlt hb.size, fun i hi => (hb.cell (p := ⟨b, off + i, none⟩) hlt).trans (hc i hi)⟩⟩

/-- The cursor's struct lies in block g: the bytes' slice, a place in it, a number. -/
def CurAt (w : World) (g : Nat) (v : Value) (xs : List Int) : Prop :=
  g < w.heap.size ∧ w.frozen? ⟨g, 0, none⟩ = false ∧ w.frozen? ⟨g, 1, none⟩ = false ∧ w.frozen? ⟨g, 2, none⟩ = false ∧ w.cell? ⟨g, 0, none⟩ = some v ∧
  (∃ i : Nat, i ≤ xs.length ∧ w.cell? ⟨g, 1, none⟩ = some (.int .i64 i)) ∧ (∃ h : Int, w.cell? ⟨g, 2, none⟩ = some (.int .i64 h)) ∧
  ∃ a c, v = .slice a xs.length c ∧ xs.length ≤ 4096 ∧ (∀ x ∈ xs, 0 ≤ x ∧ x < 256) ∧ (xs = [] ∨ ∃ b off, a = some ⟨b, off, none⟩ ∧ b < g ∧ ∀ i, i < xs.length → w.cell? ⟨b, off + i, none⟩ = some (.int .u8 (xs.getD i 0)))

theorem CurAt.drewN {w : World} {g : Nat} {v : Value} {xs : List Int} (h : CurAt w g v xs) (n : Nat) : CurAt (w.drewN n) g v xs := h
theorem setCell_cell_ne (w : World) (g a b : Nat) (u : Value) (h : a ≠ b) : (w.setCell ⟨g, b, none⟩ u).cell? ⟨g, a, none⟩ = w.cell? ⟨g, a, none⟩ := by
  simp [World.setCell, World.cell?, Array.getElem?_modify]
  cases hh : w.heap[g]? with
  | none => simp
  | some o => cases o <;> simp [Ne.symm h]
theorem setCell_far (w : World) (p q : Addr) (u : Value) (h : q.block ≠ p.block) : (w.setCell p u).cell? q = w.cell? q :=
  World.cell?_of_block (Below.heap_setCell _ _ _ _ h)
theorem setCell_frozen (w : World) (p q : Addr) (u : Value) : (w.setCell p u).frozen? q = w.frozen? q := by simp [go_sem]
theorem setCell_same (w : World) (p : Addr) (u v : Value) (h : w.cell? p = some v) : (w.setCell p u).cell? p = some u := by simp [go_sem, h]
theorem CurAt.set2 {w : World} {g : Nat} {v : Value} {xs : List Int} (hc : CurAt w g v xs) (H : Int) : CurAt (w.setCell ⟨g, 2, none⟩ (.int .i64 H)) g v xs ∧ w.grownBy (w.setCell ⟨g, 2, none⟩ (.int .i64 H)) (some g) := by
  obtain ⟨hg, z0, z1, z2, c0, ⟨i, hi, c1⟩, ⟨h, c2⟩, a, c, hv, hl, hx, hr⟩ := hc
  refine ⟨⟨by simpa using hg, by rw [setCell_frozen]; exact z0, by rw [setCell_frozen]; exact z1, by rw [setCell_frozen]; exact z2, ?_, ⟨i, hi, ?_⟩, ⟨H, setCell_same _ _ _ _ c2⟩, a, c, hv, hl, hx, ?_⟩, ⟨rfl, rfl, rfl, by simp, fun k _ hk => heap_setCell_other w ⟨g, 2, none⟩ k _ (fun e => hk (by simp [e]))⟩⟩
  · rw [setCell_cell_ne _ _ _ _ _ (by decide)]; exact c0
  · rw [setCell_cell_ne _ _ _ _ _ (by decide)]; exact c1
  · rcases hr with hr | ⟨b, off, ha, hb, hr⟩
    · exact .inl hr
    · exact .inr ⟨b, off, ha, hb, fun j hj => by rw [setCell_far _ _ _ _ (by dsimp only; omega)]; exact hr j hj⟩
theorem CurAt.set1 {w : World} {g : Nat} {v : Value} {xs : List Int} (hc : CurAt w g v xs) (q : Int) (k : Nat) (hq : q = (k : Int)) (hk : k ≤ xs.length) : CurAt (w.setCell ⟨g, 1, none⟩ (.int .i64 q)) g v xs ∧ w.grownBy (w.setCell ⟨g, 1, none⟩ (.int .i64 q)) (some g) := by
  obtain ⟨hg, z0, z1, z2, c0, ⟨i, hi, c1⟩, ⟨h, c2⟩, a, c, hv, hl, hx, hr⟩ := hc
  subst hq
  refine ⟨⟨by simpa using hg, by rw [setCell_frozen]; exact z0, by rw [setCell_frozen]; exact z1, by rw [setCell_frozen]; exact z2, ?_, ⟨k, hk, setCell_same _ _ _ _ c1⟩, ⟨h, ?_⟩, a, c, hv, hl, hx, ?_⟩, ⟨rfl, rfl, rfl, by simp, fun k _ hk => heap_setCell_other w ⟨g, 1, none⟩ k _ (fun e => hk (by simp [e]))⟩⟩
  · rw [setCell_cell_ne _ _ _ _ _ (by decide)]; exact c0
  · rw [setCell_cell_ne _ _ _ _ _ (by decide)]; exact c2
  · rcases hr with hr | ⟨b, off, ha, hb, hr⟩
    · exact .inl hr
    · exact .inr ⟨b, off, ha, hb, fun j hj => by rw [setCell_far _ _ _ _ (by dsimp only; omega)]; exact hr j hj⟩
theorem gtr {a b c : World} {row : Option Nat} (h : a.grownBy b row) (k : b.grownBy c row) : a.grownBy c row :=
  ⟨k.os.trans h.os, k.tape.trans h.tape, k.output.trans h.output, Nat.le_trans h.size k.size, fun i hi hr => (k.block i (Nat.lt_of_lt_of_le hi h.size) hr).trans (h.block i hi hr)⟩
theorem gdr {a b : World} {row : Option Nat} (h : a.grownBy b row) (n : Nat) : a.grownBy (b.drewN n) row := ⟨h.os, h.tape, h.output, h.size, h.block⟩

set_option maxHeartbeats 1000000 in
theorem l1Byte_a (g : Nat) (v : Value) (xs : List Int) (w : World) (hc : CurAt w g v xs) :
    Calls Try.prog 47 #[.pointer (some ⟨g, 0, none⟩)] w fun e w' => ∃ x, e = .returned (.int .i64 x) ∧ 0 ≤ x ∧ x ≤ 255 ∧ CurAt w' g v xs ∧ w.grownBy w' (some g) := by
  have HC : Hid (CurAt w g v xs) := hc
  obtain ⟨hg, z0, z1, z2, c0, ⟨i, hi, c1⟩, ⟨h, c2⟩, a, c, rfl, hl, hx, hr⟩ := hc
  by_cases hlt : i < xs.length
  · rcases hr with hr | ⟨b, off, rfl, hbg, hr⟩
    · rw [hr] at hlt; simp at hlt
    · have hbne : b ≠ g := by omega
      have hri := hr i hlt
      have hxi := hx (xs.getD i 0) (by simp [List.getD, hlt])
      generalize xs.getD i 0 = y at *
      have hlti : (i : Int) < (xs.length : Int) := by omega
      go_enter Try.func47, Try.ntmps47
      go_wp2
      generalize wrap64 (wrap64 (h * 6364136223846793005) + 1442695040888963407) = H
      go_quiet (fail)
      go_wp2
      generalize bits BinOp.and IntKind.i64 (bits BinOp.xor IntKind.i64 (H / 8589934592) (H / 35184372088832)) 255 = X
      go_quiet (fail)
      go_wp2
      go_quiet (fail)
      go_wp2
      go_ret
      have k2 := HC.out.set2 H
      have k1 := fun n => (k2.1.drewN n).set1 ((i : Int) + 1) (i + 1) (by omega) (by omega)
      exact ⟨_, rfl, (and_255 _).1, (and_255 _).2, (k1 _).1, gtr (gdr k2.2 _) (k1 _).2⟩
  · have hlti : ¬ (i : Int) < (xs.length : Int) := by omega
    go_enter Try.func47, Try.ntmps47
    go_wp2
    generalize wrap64 (wrap64 (h * 6364136223846793005) + 1442695040888963407) = H
    go_quiet (fail)
    go_wp2
    go_quiet (fail)
    go_wp2
    go_ret
    have k2 := HC.out.set2 H
    exact ⟨_, rfl, (and_255 _).1, (and_255 _).2, (k2.1.drewN _).drewN _, gdr (gdr k2.2 _) _⟩

set_option maxHeartbeats 1000000 in
theorem l1Below_a (g : Nat) (v : Value) (xs : List Int) (n : Int) (w : World) (hc : CurAt w g v xs) :
    Calls Try.prog 32 #[.pointer (some ⟨g, 0, none⟩), .int .i64 n] w fun e w' => ∃ x, e = .returned (.int .i64 x) ∧ 0 ≤ x ∧ (0 < n → x < n) ∧ (n ≤ 0 → x = 0) ∧ CurAt w' g v xs ∧ w.grownBy w' (some g) := by
  by_cases h0 : n ≤ 0
  · go_enter Try.func32, Try.ntmps32
    go_wp2
    go_ret
    exact ⟨0, rfl, by omega, by omega, by omega, hc, World.grownBy.refl _ _⟩
  · have hz : (n == 0) = false := by simp; omega
    by_cases h1 : n ≤ 256
    · go_enter Try.func32, Try.ntmps32
      go_wp2_with fail
      refine (l1Byte_a g v xs _ hc).mono ?_
      rintro e w1 ⟨x, rfl, hx0, hx1, hc1, hg1⟩
      go_wp2
      go_ret
      have hm0 := Int.emod_nonneg x (show n ≠ 0 by omega)
      have hm1 := Int.emod_lt_of_pos x (show 0 < n by omega)
      exact ⟨_, rfl, hm0, fun _ => hm1, fun h => by omega, hc1, hg1⟩
    · go_enter Try.func32, Try.ntmps32
      go_wp2_with fail
      refine (l1Byte_a g v xs _ hc).mono ?_
      rintro e w1 ⟨x1, rfl, hx10, hx11, hc1, hg1⟩
      go_wp2_with fail
      refine (l1Byte_a g v xs _ hc1).mono ?_
      rintro e w2 ⟨x2, rfl, hx20, hx21, hc2, hg2⟩
      go_wp2_with fail
      refine (l1Byte_a g v xs _ hc2).mono ?_
      rintro e w3 ⟨x3, rfl, hx30, hx31, hc3, hg3⟩
      go_wp2_with fail
      refine (l1Byte_a g v xs _ hc3).mono ?_
      rintro e w4 ⟨x4, rfl, hx40, hx41, hc4, hg4⟩
      go_wp2
      go_ret
      have hm0 := Int.emod_nonneg (x1 * 16777216 + x2 * 65536 + x3 * 256 + x4) (show n ≠ 0 by omega)
      have hm1 := Int.emod_lt_of_pos (x1 * 16777216 + x2 * 65536 + x3 * 256 + x4) (show 0 < n by omega)
      exact ⟨_, rfl, hm0, fun _ => hm1, fun h => by omega, hc4, gtr (gtr (gtr hg1 hg2) hg3) hg4⟩
end Go.Proofs.Ytokoohmakjabnaa
namespace Go.Proofs.Ytokoohmakjabnaa
open Go.ChangeShapes Go.WideShapes Go.ChangeAt Go.RowKit
/-- What is owned stays owned while the world only grows above. -/
theorem _root_.Go.World.ownsRow.below {w w' : World} {base : Nat} {e : TypeId} {size : Nat} {v : Value} {n : Nat} {xs : List Value} (h : w.ownsRow base e size v n xs) (hb : Below w.heap.size w w') : w'.ownsRow base e size v n xs := by
  refine ⟨h.1, ?_⟩
  rcases h.2 with h2 | ⟨g, cap, cur, hv, hbg, hg, r⟩
  · exact .inl h2
  · exact .inr ⟨g, cap, cur, hv, hbg, by rw [hb.block g (Array.getElem?_eq_some_iff.1 hg).1]; exact hg, r⟩
/-- A slice that can be read: of no element, or a row of cells that hold the numbers. -/
def SlI (w : World) (v : Value) (xs : List Int) : Prop :=
  ∃ a c, v = .slice a xs.length c ∧ (xs = [] ∨ ∃ b off, a = some ⟨b, off, none⟩ ∧ b < w.heap.size ∧ ∀ i, i < xs.length → w.cell? ⟨b, off + i, none⟩ = some (.int .i64 (xs.getD i 0)))
theorem SlI.of_own {w : World} {base : Nat} {e : TypeId} {v : Value} {xs : List Int} (h : w.ownsRow base e 1 v xs.length (xs.map (Value.int .i64))) : SlI w v xs := by
  rcases h.2 with ⟨rfl, h2⟩ | ⟨g, cap, cur, rfl, hb, hg, hr⟩
  · exact ⟨none, 0, by rw [h2], .inl (List.eq_nil_of_length_eq_zero h2)⟩
  · refine ⟨_, cap, rfl, .inr ⟨g, 0, rfl, (Array.getElem?_eq_some_iff.1 hg).1, fun i hi => ?_⟩⟩
    have := h.cellAt i (by simpa using hi)
    rw [Nat.zero_add, this]
    simp [hi]
theorem SlI.below {w w' : World} {v : Value} {xs : List Int} (h : SlI w v xs) (hb : Below w.heap.size w w') : SlI w' v xs := by
  obtain ⟨a, c, hv, h | ⟨b, off, ha, hlt, hc⟩⟩ := h
  · exact ⟨a, c, hv, .inl h⟩
  · exact ⟨a, c, hv, .inr ⟨b, off, ha, Nat.lt_of_lt_of_le hlt hb.size, fun i hi => (hb.cell (p := ⟨b, off + i, none⟩) hlt).trans (hc i hi)⟩⟩
theorem SlI.drewN {w : World} {v : Value} {xs : List Int} (h : SlI w v xs) (n : Nat) : SlI (w.drewN n) v xs := h

/-- What a law is told of a slice of integers that came in: nil; or a row of cap cells, the numbers zs (the first len are its elements), each fitting its kind. -/
def IsRow (k : IntKind) (w : World) (a : Option Addr) (len cap : Nat) (zs : List Int) : Prop :=
  (a = none ∧ len = 0 ∧ cap = 0 ∧ zs = []) ∨
  ∃ x, a = some x ∧ len ≤ cap ∧ cap ≤ maxLen ∧ zs.length = cap ∧ (∀ i, i < zs.length → w.cell? (x.add i) = some (.int k (zs.getD i 0))) ∧ ∀ n ∈ zs, (Lit.int k n).wf = true
theorem SlI.of_row {w : World} {a : Option Addr} {len cap : Nat} {zs : List Int} (h : IsRow .i64 w a len cap zs) : SlI w (.slice a len cap) (zs.take len) ∧ (zs.take len).length = len := by
  rcases h with ⟨rfl, rfl, rfl, rfl⟩ | ⟨x, rfl, hl, hm, hz, hc, hw⟩
  · exact ⟨⟨none, 0, rfl, .inl rfl⟩, rfl⟩
  · have hlen : (zs.take len).length = len := by rw [List.length_take]; omega
    refine ⟨⟨some x, cap, by rw [hlen], ?_⟩, hlen⟩
    by_cases h0 : len = 0
    · left; subst h0; simp
    · right
      obtain ⟨b, off, spot⟩ := x
      have h1 := hc 0 (by omega)
      have hspot : spot = none := by simpa [Addr.add] using World.cell?_spot h1
      subst hspot
      refine ⟨b, off, rfl, World.block_lt_of_cell? w _ h1, fun i hi => ?_⟩
      rw [hlen] at hi
      have h2 := hc i (by omega)
      have e : (zs.take len).getD i 0 = zs.getD i 0 := by simp [List.getD, hi]
      rw [e, ← h2]
      by_cases hi0 : i = 0
      · subst hi0; simp [Addr.add]
      · simp [Addr.add, hi0]

end Go.Proofs.Ytokoohmakjabnaa
namespace Go.Proofs.Ytokoohmakjabnaa
open Go.ChangeShapes Go.WideShapes Go.ChangeAt Go.RowKit
theorem l1Once_a (g : Nat) (v : Value) (xs : List Int) (n : Int) (w : World) (hc : CurAt w g v xs) :
    Calls Try.prog 30 #[.pointer (some ⟨g, 0, none⟩), .int .i64 n] w fun e w' => ∃ b : Bool, e = .returned (.bool b) ∧ CurAt w' g v xs ∧ w.grownBy w' (some g) := by
  go_enter Try.func30, Try.ntmps30
  go_wp2_with fail
  refine (l1Below_a g v xs n _ hc).mono ?_
  rintro e w1 ⟨x, rfl, hx0, _, _, hc1, hg1⟩
  go_wp2
  go_ret
  exact ⟨_, rfl, hc1, hg1⟩

/-- The cursor stays while the world only grows above. -/
theorem CurAt.below {w w' : World} {g : Nat} {v : Value} {xs : List Int} (h : CurAt w g v xs) (hb : Below w.heap.size w w') : CurAt w' g v xs := by
  obtain ⟨hg, z0, z1, z2, c0, ⟨i, hi, c1⟩, ⟨h, c2⟩, a, c, hv, hl, hx, hr⟩ := h
  refine ⟨Nat.lt_of_lt_of_le hg hb.size, (hb.frozen (p := ⟨g, 0, none⟩) hg).trans z0, (hb.frozen (p := ⟨g, 1, none⟩) hg).trans z1, (hb.frozen (p := ⟨g, 2, none⟩) hg).trans z2, (hb.cell (p := ⟨g, 0, none⟩) hg).trans c0, ⟨i, hi, (hb.cell (p := ⟨g, 1, none⟩) hg).trans c1⟩, ⟨h, (hb.cell (p := ⟨g, 2, none⟩) hg).trans c2⟩, a, c, hv, hl, hx, ?_⟩
  rcases hr with hr | ⟨b, off, ha, hb', hr⟩
  · exact .inl hr
  · exact .inr ⟨b, off, ha, hb', fun j hj => (hb.cell (p := ⟨b, off + j, none⟩) (by dsimp only; omega)).trans (hr j hj)⟩
theorem bal (w : World) (o : Obj) : Below w.heap.size w (w.alloc o) := (Below.refl _ _).alloc (Nat.le_refl _) o

theorem CurAt.new (w : World) (a : Option Addr) (c : Nat) (xs : List Int) (h : Int) (T : TypeId) (hs : SlB w (.slice a xs.length c) xs) : CurAt (w.alloc (.cells #[.slice a xs.length c, .int .i64 0, .int .i64 h] T)) w.heap.size (.slice a xs.length c) xs := by
  obtain ⟨a', c', hv, hl, hx, hr⟩ := hs
  refine ⟨by simp, by simp [go_sem], by simp [go_sem], by simp [go_sem], by simp [go_sem], ⟨0, Nat.zero_le _, by simp [go_sem]⟩, ⟨h, by simp [go_sem]⟩, a', c', hv, hl, hx, ?_⟩
  rcases hr with hr | ⟨b, off, ha, hb, hr⟩
  · exact .inl hr
  · exact .inr ⟨b, off, ha, hb, fun j hj => ((bal w _).cell (p := ⟨b, off + j, none⟩) hb).trans (hr j hj)⟩

set_option maxHeartbeats 1000000 in
theorem l1New_a (v : Value) (xs : List Int) (w : World) (hv : SlB w v xs) :
    Calls Try.prog 28 #[v] w fun e w' => e = .returned (.pointer (some ⟨w.heap.size, 0, none⟩)) ∧ CurAt w' w.heap.size v xs ∧ Below w.heap.size w w' := by
  have HV : Hid (SlB w v xs) := hv
  obtain ⟨a, c, rfl, hl, hx, hr⟩ := hv
  go_enter Try.func28, Try.ntmps28
  go_wp2
  go_loop [3, 4] (fun h i => ∃ (k : Nat) (H : Int), k ≤ xs.length ∧ i = .int .i64 k ∧ h = .int .i64 H) (fun _ i => xs.length - (intOf i).toNat)
  case atStart => exact ⟨0, _, Nat.zero_le _, rfl, rfl⟩
  case round =>
    obtain ⟨k, H, hk, rfl, rfl⟩ := hrel
    by_cases hlt : k < xs.length
    · rcases hr with hr | ⟨b, off, rfl, hb, hr⟩
      · rw [hr] at hlt; simp at hlt
      · have hri := hr k hlt
        generalize hy : xs.getD k 0 = y at hri
        clear hy hr hx
        go_wp2
        go_round
        case rel => exact ⟨k + 1, _, by omega, by go_num, rfl⟩
        case measure => simp [intOf]; omega
    · clear hr hx
      go_wp2
      go_ret
      exact ⟨rfl, CurAt.new w a c xs H _ HV.out, bal w _⟩

theorem own_grow {w w' : World} {base : Nat} {e : TypeId} {size : Nat} {v : Value} {n : Nat} {xs : List Value} {g : Nat} (h : w.ownsRow base e size v n xs) (hg : w.grownBy w' (some g)) (hlt : g < base) : w'.ownsRow base e size v n xs :=
  h.kept hg (by
    cases hv : v.ownBlock with
    | none => exact .inl rfl
    | some b => right; intro e; have := (h.lt b hv).1; cases e; omega)

theorem info_int64d : (Try.prog.info? 2).map (fun i => (i.zero, i.size, i.bytes)) = some (some (.int .i64 0), 1, 8) := by kernel_rfl
theorem CurAt.grown_own {w w' : World} {g : Nat} {v : Value} {xs : List Int} {row : Option Nat} (h : CurAt w g v xs) (hg : w.grownBy w' row) (hr : ∀ k, row = some k → g < k) : CurAt w' g v xs := by
  have hb : ∀ k, k ≤ g → w'.heap[k]? = w.heap[k]? := fun k hk => hg.block k (by have := h.1; omega) (fun e => by have := hr k e.symm; omega)
  obtain ⟨hlt, z0, z1, z2, c0, ⟨i, hi, c1⟩, ⟨h, c2⟩, a, c, hv, hl, hx, hrr⟩ := h
  have hbg := hb g (Nat.le_refl _)
  refine ⟨Nat.lt_of_lt_of_le hlt hg.size, (World.frozen?_of_block (w := w) hbg).trans z0, (World.frozen?_of_block (w := w) hbg).trans z1, (World.frozen?_of_block (w := w) hbg).trans z2, (World.cell?_of_block (w := w) hbg).trans c0, ⟨i, hi, (World.cell?_of_block (w := w) hbg).trans c1⟩, ⟨h, (World.cell?_of_block (w := w) hbg).trans c2⟩, a, c, hv, hl, hx, ?_⟩
  rcases hrr with hrr | ⟨b, off, ha, hb', hrr⟩
  · exact .inl hrr
  · exact .inr ⟨b, off, ha, hb', fun j hj => (World.cell?_of_block (w := w) (hb b (by omega))).trans (hrr j hj)⟩
theorem grownBy_own {w w' w0 : World} {g : Nat} {row : Option Nat} (h : w0.grownBy w (some g)) (hg : w.grownBy w' row) (hr : ∀ k, row = some k → w0.heap.size ≤ k) : w0.grownBy w' (some g) :=
  ⟨hg.os.trans h.os, hg.tape.trans h.tape, hg.output.trans h.output, Nat.le_trans h.size hg.size, fun i hi hne => (hg.block i (Nat.lt_of_lt_of_le hi h.size) (fun e => by have := hr i e.symm; omega)).trans (h.block i hi hne)⟩

end Go.Proofs.Ytokoohmakjabnaa
namespace Go.Proofs.Ytokoohmakjabnaa
def runeOk (r : Int) : Bool := decide (0 ≤ r ∧ r ≤ 1114111 ∧ (r < 55296 ∨ 57343 < r))

theorem runeOk_bd (r : Int) (h : runeOk r = true) : 0 ≤ r ∧ r ≤ 1114111 := by simp [runeOk] at h; omega

def both (p : Nat × Nat) : Int × Int := ((p.1 : Int), (p.2 : Int))
end Go.Proofs.Ytokoohmakjabnaa
namespace Go.Proofs.Ytokoohmakjabnaa
open Go.ChangeShapes Go.WideShapes Go.ChangeAt Go.RowKit
theorem info_i64 : (Try.prog.info? 2).map (fun i => (i.zero, i.size, i.bytes)) = some (some (.int .i64 0), 1, 8) := by kernel_rfl
end Go.Proofs.Ytokoohmakjabnaa
namespace Go.Proofs.Ytokoohmakjabnaa
open Go.ChangeShapes Go.WideShapes Go.ChangeAt Go.RowKit
theorem zeros_ints (n : Nat) : (madeCells (Value.int .i64 0).cells (n * 1)).toList = (List.replicate n (0 : Int)).map (Value.int .i64) := by
  have hz : (Value.int .i64 0).cells = #[Value.int .i64 0] := by rfl
  rw [hz, Nat.mul_one]
  apply List.ext_getElem?
  intro i
  rw [Array.getElem?_toList]
  unfold madeCells
  rw [Array.getElem?_map, Array.getElem?_range]
  by_cases h : i < n
  · simp [h, Nat.mod_one]
  · simp [h]
set_option maxHeartbeats 2000000 in
set_option maxRecDepth 20000 in
theorem l9Draw_a (g : Nat) (v : Value) (xs : List Int) (w : World) (hc : CurAt w g v xs) :
    Calls Try.prog 29 #[.pointer (some ⟨g, 0, none⟩)] w fun e w' => ∃ (u : Value) (ys : List Int), e = .returned u ∧ ys.length ≤ 41 ∧ w'.ownsRow w.heap.size 2 1 u ys.length (ys.map (Value.int .i64)) ∧ CurAt w' g v xs ∧ w.grownBy w' (some g) := by
  obtain ⟨i0, hi, hz0, hz1, hz2⟩ := info_parts info_int64d
  have hlt := hc.1
  have ho0 := World.ownsRow_lit (base := w.heap.size) (e := 2) (size := 1) w #[] 0 (Nat.le_refl _) (Nat.zero_le _) rfl
  go_enter Try.func29, Try.ntmps29
  go_wp2_with fail
  refine (l1Below_a g v xs 9 _ (hc.below (bal w _))).mono ?_
  rintro e w1 ⟨x, rfl, hx0, hx1, _, hc1, hg1⟩
  obtain ⟨k, rfl⟩ : ∃ k : Nat, x = k := ⟨x.toNat, by omega⟩
  have hk : k ≤ 8 := by have := hx1 (by omega); omega
  have ho1 := own_grow ho0 hg1 hlt
  have hgr := gtr (World.grownBy_alloc w _ (some g)) hg1
  clear hg1 hc hx1 ho0
  go_wp2
  go_loopw [3, 4] (fun u i wr => ∃ (j : Nat) (ys : List Int), i = .int .i64 j ∧ ys.length + j ≤ 8 ∧ wr.ownsRow w.heap.size 2 1 u ys.length (ys.map (Value.int .i64)) ∧ CurAt wr g v xs ∧ w.grownBy wr (some g)) (fun _ i _ => (intOf i).toNat)
  case atStart => exact ⟨k, [], rfl, by simpa using hk, by simpa using ho1, hc1, hgr⟩
  case round =>
    clear hk ho1 hc1 hgr
    obtain ⟨j, ys, rfl, hjl, ho, hcw, hgw⟩ := hrel
    by_cases hj : 0 < j
    · have hji : 0 < (j : Int) := by omega
      go_wp2_with fail
      refine (l1Below_a g v xs 4 _ hcw).mono ?_
      rintro e w2 ⟨r, rfl, _, _, _, hc2, hg2⟩
      have ho2 := own_grow ho hg2 hlt
      have hgw2 := gtr hgw hg2
      clear hcw hg2 hgw ho
      go_wp2_with (at_builtin; refine wpList_append_own _ rfl _ _ 24 rfl w.heap.size 2 i0 (.int .i64 0) 1 8 Try.underlying24 hi hz0 hz1 hz2 rfl (by decide) _ _ _ rfl (ho2.alloc _) ⟨_, 0, none⟩ 1 1 [.int .i64 r] rfl rfl ?c1 ?c2 ?c3 ?c4 ?c5 ?_)
      case c1 =>
        intro j u hj
        match j, hj with
        | 0, hj => simp at hj; subst hj; simp [Addr.add]
      case c2 => intro u hu; simp at hu; subst hu; rfl
      case c3 => unfold maxLen; omega
      case c4 => omega
      case c5 => have := hgw2.size; simp; omega
      · intro v' w3 ho3 hg3 _
        have hown : ∀ k, u3.ownBlock = some k → w.heap.size ≤ k := fun k hk => (ho2.lt k hk).1
        have hc3 := (hc2.below (bal w2 _)).grown_own hg3 (fun k hk => by have := hown k hk; omega)
        have hgw3 := grownBy_own (gtr hgw2 (World.grownBy_alloc w2 _ (some g))) hg3 hown
        clear hg3 hown ho2 hc2 hgw2
        go_wp2
        go_roundw
        case rel => exact ⟨j - 1, ys ++ [r], by go_num, by simp; omega, by simpa using ho3, hc3, hgw3⟩
        case measure => simp [intOf]; omega
    · have hji : ¬ 0 < (j : Int) := by omega
      go_wp2_with fail
      refine (l1Once_a g v xs 30 _ hcw).mono ?_
      rintro e w4 ⟨b, rfl, hc4, hg4⟩
      have ho4 := own_grow ho hg4 hlt
      have hgw4 := gtr hgw hg4
      clear hcw hg4 ho hgw
      cases b
      · go_wp2
        go_ret
        exact ⟨_, ys, rfl, by omega, ho4, hc4, hgw4⟩
      · go_wp2_with fail
        refine (l1Below_a g v xs 2 _ hc4).mono ?_
        rintro e w5 ⟨x, rfl, hx0, hx1, _, hc5, hg5⟩
        obtain ⟨q, rfl⟩ : ∃ q : Nat, x = q := ⟨x.toNat, by omega⟩
        have hq : q ≤ 1 := by have := hx1 (by omega); omega
        have hgw5 := gtr hgw4 hg5
        have hsz5 := hgw5.size
        clear ho4 hc4 hg5 hx1 hgw4
        obtain ⟨n, hn⟩ : ∃ n, Hid (40 + q = n) := ⟨_, rfl⟩
        have eN : IntKind.i64.wrap (40 + (q : Int)) = (n : Int) := by have := hn.out; simp [IntKind.wrap, IntKind.bits, IntKind.signed]; omega
        have hn41 : n ≤ 41 := by have := hn.out; omega
        go_wp2_with (refine wpList_make_full _ rfl _ _ 24 rfl w.heap.size 2 i0 (.int .i64 0) 1 Try.underlying24 hi hz0 hz1 .i64 .i64 (n : Int) (n : Int) n rfl rfl rfl rfl ?c1 ?c2 ?c3 ?_)
        case c1 => rw [hz2]; omega
        case c2 => unfold maxLen; omega
        case c3 => exact hsz5
        intro w6 ho6 hg6
        have hc6 := hc5.grown_own hg6 (fun k hk => by cases hk)
        have hgw6 := gtr hgw5 ⟨hg6.os, hg6.tape, hg6.output, hg6.size, fun i hi hne => hg6.block i hi (by intro e; cases e)⟩
        have hzr : (madeCells #[Value.int .i64 0] n).toList = (List.replicate n (0 : Int)).map (Value.int .i64) := by
          have := zeros_ints n
          rw [Nat.mul_one] at this
          exact this
        have ho7 : w6.ownsRow w.heap.size 2 1 (.slice (some ⟨w5.heap.size, 0, none⟩) n n) n ((List.replicate n (0 : Int)).map (Value.int .i64)) := by rw [← hzr]; exact ho6
        clear hg6 ho6 hzr
        go_wp2
        go_ret
        exact ⟨_, List.replicate n 0, rfl, by simp; omega, by simpa using ho7, hc6, hgw6⟩
end Go.Proofs.Ytokoohmakjabnaa
namespace Go.Proofs.Ytokoohmakjabnaa
structure St where
  fore : Int
  back : Int
  bold : Bool
  under : Bool
  turned : Bool
deriving DecidableEq
def St.zero : St := ⟨0, 0, false, false, false⟩
def St.ok (s : St) : Bool := decide (0 ≤ s.fore ∧ s.fore ≤ 8 ∧ 0 ≤ s.back ∧ s.back ≤ 8)
end Go.Proofs.Ytokoohmakjabnaa
namespace Go.Proofs.Ytokoohmakjabnaa
structure Ce where
  rune : Int
  st : St
  part : Int
deriving DecidableEq
def Ce.zero : Ce := ⟨0, St.zero, 0⟩
def atC (l : List Ce) (i : Nat) : Ce := l.getD i Ce.zero
theorem atC_append_left (l m : List Ce) (i : Nat) (h : i < l.length) : atC (l ++ m) i = atC l i := by
  simp [atC, List.getD, List.getElem?_append_left h]
theorem atC_append_right (l m : List Ce) (i : Nat) : atC (l ++ m) (l.length + i) = atC m i := by
  simp [atC, List.getD, List.getElem?_append_right]
theorem atC_take (l : List Ce) (n i : Nat) (h : i < n) : atC (l.take n) i = atC l i := by simp [atC, List.getD, h]
theorem atC_drop (l : List Ce) (n i : Nat) : atC (l.drop n) i = atC l (n + i) := by simp [atC, List.getD, List.getElem?_drop]

end Go.Proofs.Ytokoohmakjabnaa
namespace Go.Proofs.Ytokoohmakjabnaa
open Go.ChangeShapes Go.WideShapes Go.ChangeAt Go.RowKit
theorem ret_bool {a b : Bool} (h : a = b) : Ending.returned (.bool a) = .returned (.bool b) := by rw [h]

theorem l1In_any (x lo hi : Int) (w : World) :
    Calls Try.prog 38 #[.int .i64 x, .int .i64 lo, .int .i64 hi] w fun e w' => e = .returned (.bool (decide (lo ≤ x ∧ x ≤ hi))) ∧ w' = w := by
  by_cases h1 : lo ≤ x
  · go_enter Try.func38, Try.ntmps38
    go_wp2
    go_ret
    exact ⟨ret_bool (by simp [h1]), rfl⟩
  · go_enter Try.func38, Try.ntmps38
    go_wp2
    go_ret
    exact ⟨ret_bool (by simp; omega), rfl⟩

end Go.Proofs.Ytokoohmakjabnaa
namespace Go.Proofs.Ytokoohmakjabnaa
open Go.ChangeShapes Go.WideShapes Go.ChangeAt Go.RowKit
theorem gbl {w w' : World} (h : Below w.heap.size w w') (row : Option Nat) : w.grownBy w' row := ⟨h.os, h.tape, h.output, h.size, fun k hk _ => h.block k hk⟩
theorem setCell_gr (w : World) (B o : Nat) (u : Value) : w.grownBy (w.setCell ⟨B, o, none⟩ u) (some B) :=
  ⟨rfl, rfl, rfl, by simp, fun k _ hk => heap_setCell_other w ⟨B, o, none⟩ k _ (fun e => hk (by simp [e]))⟩
theorem grown_tr {a b c : World} {row : Option Nat} (h : a.grownBy b row) (k : b.grownBy c row) : a.grownBy c row :=
  ⟨k.os.trans h.os, k.tape.trans h.tape, k.output.trans h.output, Nat.le_trans h.size k.size, fun i hi hr => (k.block i (Nat.lt_of_lt_of_le hi h.size) hr).trans (h.block i hi hr)⟩
theorem bal' (w : World) (o : Obj) : Below w.heap.size w (w.alloc o) := (Below.refl _ _).alloc (Nat.le_refl _) o
end Go.Proofs.Ytokoohmakjabnaa
namespace Go.Proofs.Ytokoohmakjabnaa
open Go.ChangeShapes Go.WideShapes Go.ChangeAt Go.RowKit
/-- A style lies in block B. -/
def StAt (w : World) (B : Nat) (s : St) : Prop :=
  B < w.heap.size ∧ (w.cell? ⟨B, 0, none⟩ = some (.int .i64 s.fore) ∧ w.cell? ⟨B, 1, none⟩ = some (.int .i64 s.back) ∧ w.cell? ⟨B, 2, none⟩ = some (.bool s.bold) ∧ w.cell? ⟨B, 3, none⟩ = some (.bool s.under) ∧ w.cell? ⟨B, 4, none⟩ = some (.bool s.turned)) ∧
    (w.frozen? ⟨B, 0, none⟩ = false ∧ w.frozen? ⟨B, 1, none⟩ = false ∧ w.frozen? ⟨B, 2, none⟩ = false ∧ w.frozen? ⟨B, 3, none⟩ = false ∧ w.frozen? ⟨B, 4, none⟩ = false)
theorem StAt.grown {w w' : World} {B : Nat} {s : St} {row : Option Nat} (h : StAt w B s) (hg : w.grownBy w' row) (hr : row ≠ some B) : StAt w' B s := by
  have hb := hg.block B h.1 (Ne.symm hr)
  have hc : ∀ k, w'.cell? ⟨B, k, none⟩ = w.cell? ⟨B, k, none⟩ := fun k => World.cell?_of_block (w := w) hb
  have hz : ∀ k, w'.frozen? ⟨B, k, none⟩ = w.frozen? ⟨B, k, none⟩ := fun k => World.frozen?_of_block (w := w) hb
  refine ⟨Nat.lt_of_lt_of_le h.1 hg.size, ?_, ?_⟩
  · rw [hc, hc, hc, hc, hc]; exact h.2.1
  · rw [hz, hz, hz, hz, hz]; exact h.2.2
theorem StAt.below {w w' : World} {B : Nat} {s : St} (h : StAt w B s) (hb : Below w.heap.size w w') : StAt w' B s := h.grown (gbl hb none) (by simp)
theorem StAt.new (w : World) (s : St) (t : TypeId) : StAt (w.alloc (.cells #[.int .i64 s.fore, .int .i64 s.back, .bool s.bold, .bool s.under, .bool s.turned] t)) w.heap.size s :=
  ⟨by simp, ⟨by simp [go_sem], by simp [go_sem], by simp [go_sem], by simp [go_sem], by simp [go_sem]⟩, ⟨by simp [go_sem], by simp [go_sem], by simp [go_sem], by simp [go_sem], by simp [go_sem]⟩⟩
/-- Another style is written there whole. -/
def putSt (w : World) (B : Nat) (s : St) : World :=
  ((((w.setCell ⟨B, 0, none⟩ (.int .i64 s.fore)).setCell ⟨B, 1, none⟩ (.int .i64 s.back)).setCell ⟨B, 2, none⟩ (.bool s.bold)).setCell ⟨B, 3, none⟩ (.bool s.under)).setCell ⟨B, 4, none⟩ (.bool s.turned)

theorem setCell_ne' (w : World) (B a b : Nat) (u : Value) (h : a ≠ b) : (w.setCell ⟨B, b, none⟩ u).cell? ⟨B, a, none⟩ = w.cell? ⟨B, a, none⟩ := by
  simp [World.setCell, World.cell?, Array.getElem?_modify]
  cases hh : w.heap[B]? with
  | none => simp
  | some o => cases o <;> simp [Ne.symm h]
theorem StAt.put {w : World} {B : Nat} {s : St} (h : StAt w B s) (s' : St) : StAt (putSt w B s') B s' := by
  obtain ⟨hlt, ⟨c0, c1, c2, c3, c4⟩, ⟨z0, z1, z2, z3, z4⟩⟩ := h
  refine ⟨by simpa [putSt] using hlt, ⟨?_, ?_, ?_, ?_, ?_⟩, ⟨?_, ?_, ?_, ?_, ?_⟩⟩
  all_goals simp only [putSt]
  · rw [setCell_ne' _ _ _ _ _ (by decide), setCell_ne' _ _ _ _ _ (by decide), setCell_ne' _ _ _ _ _ (by decide), setCell_ne' _ _ _ _ _ (by decide)]; simp [go_sem, c0]
  · rw [setCell_ne' _ _ _ _ _ (by decide), setCell_ne' _ _ _ _ _ (by decide), setCell_ne' _ _ _ _ _ (by decide)]; simp [go_sem, c1]
  · rw [setCell_ne' _ _ _ _ _ (by decide), setCell_ne' _ _ _ _ _ (by decide)]; simp [go_sem, c2]
  · rw [setCell_ne' _ _ _ _ _ (by decide)]; simp [go_sem, c3]
  · simp [go_sem, c4]
  · simp [go_sem, z0]
  · simp [go_sem, z1]
  · simp [go_sem, z2]
  · simp [go_sem, z3]
  · simp [go_sem, z4]
end Go.Proofs.Ytokoohmakjabnaa
namespace Go.Proofs.Ytokoohmakjabnaa
open Go.ChangeShapes Go.WideShapes Go.ChangeAt Go.RowKit
def CeAt (w : World) (b o : Nat) (c : Ce) : Prop :=
  w.cell? ⟨b, o, none⟩ = some (.int .i64 c.rune) ∧ w.cell? ⟨b, o + 1, none⟩ = some (.int .i64 c.st.fore) ∧ w.cell? ⟨b, o + 2, none⟩ = some (.int .i64 c.st.back) ∧ w.cell? ⟨b, o + 3, none⟩ = some (.bool c.st.bold) ∧ w.cell? ⟨b, o + 4, none⟩ = some (.bool c.st.under) ∧ w.cell? ⟨b, o + 5, none⟩ = some (.bool c.st.turned) ∧ w.cell? ⟨b, o + 6, none⟩ = some (.int .i64 c.part)
theorem CeAt.below {w w' : World} {b o : Nat} {c : Ce} (h : CeAt w b o c) (hb : Below w.heap.size w w') (hlt : b < w.heap.size) : CeAt w' b o c := by
  have e : ∀ k, w'.cell? ⟨b, k, none⟩ = w.cell? ⟨b, k, none⟩ := fun k => hb.cell (p := ⟨b, k, none⟩) hlt
  unfold CeAt
  rw [e, e, e, e, e, e, e]
  exact h
theorem CeAt.grown {w w' : World} {b o : Nat} {c : Ce} {row : Option Nat} (h : CeAt w b o c) (hg : w.grownBy w' row) (hlt : b < w.heap.size) (hr : row ≠ some b) : CeAt w' b o c := by
  have hb := hg.block b hlt (Ne.symm hr)
  have e : ∀ k, w'.cell? ⟨b, k, none⟩ = w.cell? ⟨b, k, none⟩ := fun k => World.cell?_of_block (w := w) hb
  unfold CeAt
  rw [e, e, e, e, e, e, e]
  exact h
/-- A slice of cells that can be read. -/
def SlC (w : World) (v : Value) (xs : List Ce) : Prop :=
  ∃ a c, v = .slice a xs.length c ∧ xs.length ≤ c ∧ (a = none → c = 0) ∧ (xs = [] ∨ ∃ b off, a = some ⟨b, off, none⟩ ∧ b < w.heap.size ∧ ∀ i, i < xs.length → CeAt w b (off + i * 7) (atC xs i))
theorem SlC.below {w w' : World} {v : Value} {xs : List Ce} (h : SlC w v xs) (hb : Below w.heap.size w w') : SlC w' v xs := by
  obtain ⟨a, c, hv, hc, hn, h | ⟨b, off, ha, hlt, hi⟩⟩ := h
  · exact ⟨a, c, hv, hc, hn, .inl h⟩
  · exact ⟨a, c, hv, hc, hn, .inr ⟨b, off, ha, Nat.lt_of_lt_of_le hlt hb.size, fun i h => (hi i h).below hb hlt⟩⟩
end Go.Proofs.Ytokoohmakjabnaa
namespace Go.Proofs.Ytokoohmakjabnaa
open Go.ChangeShapes Go.WideShapes Go.ChangeAt Go.RowKit
/-- A cell whole in block B, writable. -/
def CeF (w : World) (B : Nat) (c : Ce) : Prop :=
  B < w.heap.size ∧ (w.cell? ⟨B, 0, none⟩ = some (.int .i64 c.rune) ∧ w.cell? ⟨B, 1, none⟩ = some (.int .i64 c.st.fore) ∧ w.cell? ⟨B, 2, none⟩ = some (.int .i64 c.st.back) ∧ w.cell? ⟨B, 3, none⟩ = some (.bool c.st.bold) ∧ w.cell? ⟨B, 4, none⟩ = some (.bool c.st.under) ∧ w.cell? ⟨B, 5, none⟩ = some (.bool c.st.turned) ∧ w.cell? ⟨B, 6, none⟩ = some (.int .i64 c.part)) ∧
    (w.frozen? ⟨B, 0, none⟩ = false ∧ w.frozen? ⟨B, 1, none⟩ = false ∧ w.frozen? ⟨B, 2, none⟩ = false ∧ w.frozen? ⟨B, 3, none⟩ = false ∧ w.frozen? ⟨B, 4, none⟩ = false ∧ w.frozen? ⟨B, 5, none⟩ = false ∧ w.frozen? ⟨B, 6, none⟩ = false)
theorem CeF.new (w : World) (c : Ce) (t : TypeId) : CeF (w.alloc (.cells #[.int .i64 c.rune, .int .i64 c.st.fore, .int .i64 c.st.back, .bool c.st.bold, .bool c.st.under, .bool c.st.turned, .int .i64 c.part] t)) w.heap.size c :=
  ⟨by simp, ⟨by simp [go_sem], by simp [go_sem], by simp [go_sem], by simp [go_sem], by simp [go_sem], by simp [go_sem], by simp [go_sem]⟩, ⟨by simp [go_sem], by simp [go_sem], by simp [go_sem], by simp [go_sem], by simp [go_sem], by simp [go_sem], by simp [go_sem]⟩⟩
theorem CeF.grown {w w' : World} {B : Nat} {c : Ce} {row : Option Nat} (h : CeF w B c) (hg : w.grownBy w' row) (hr : row ≠ some B) : CeF w' B c := by
  have hb := hg.block B h.1 (Ne.symm hr)
  have hc : ∀ k, w'.cell? ⟨B, k, none⟩ = w.cell? ⟨B, k, none⟩ := fun k => World.cell?_of_block (w := w) hb
  have hz : ∀ k, w'.frozen? ⟨B, k, none⟩ = w.frozen? ⟨B, k, none⟩ := fun k => World.frozen?_of_block (w := w) hb
  refine ⟨Nat.lt_of_lt_of_le h.1 hg.size, ?_, ?_⟩
  · rw [hc, hc, hc, hc, hc, hc, hc]; exact h.2.1
  · rw [hz, hz, hz, hz, hz, hz, hz]; exact h.2.2
theorem CeF.below {w w' : World} {B : Nat} {c : Ce} (h : CeF w B c) (hb : Below w.heap.size w w') : CeF w' B c := h.grown (gbl hb none) (by simp)
/-- Another cell is written there whole. -/
def putF (w : World) (B : Nat) (c : Ce) : World := (((((((w.setCell ⟨B, 0, none⟩ (.int .i64 c.rune)).setCell ⟨B, 1, none⟩ (.int .i64 c.st.fore)).setCell ⟨B, 2, none⟩ (.int .i64 c.st.back)).setCell ⟨B, 3, none⟩ (.bool c.st.bold)).setCell ⟨B, 4, none⟩ (.bool c.st.under)).setCell ⟨B, 5, none⟩ (.bool c.st.turned)).setCell ⟨B, 6, none⟩ (.int .i64 c.part))
theorem CeF.put {w : World} {B : Nat} {c : Ce} (h : CeF w B c) (c' : Ce) : CeF (putF w B c') B c' := by
  obtain ⟨hlt, ⟨c0, c1, c2, c3, c4, c5, c6⟩, ⟨z0, z1, z2, z3, z4, z5, z6⟩⟩ := h
  refine ⟨by simpa [putF] using hlt, ⟨?_, ?_, ?_, ?_, ?_, ?_, ?_⟩, ⟨?_, ?_, ?_, ?_, ?_, ?_, ?_⟩⟩
  all_goals simp only [putF]
  · rw [setCell_ne' _ _ _ _ _ (by decide), setCell_ne' _ _ _ _ _ (by decide), setCell_ne' _ _ _ _ _ (by decide), setCell_ne' _ _ _ _ _ (by decide), setCell_ne' _ _ _ _ _ (by decide), setCell_ne' _ _ _ _ _ (by decide)]; simp [go_sem, c0]
  · rw [setCell_ne' _ _ _ _ _ (by decide), setCell_ne' _ _ _ _ _ (by decide), setCell_ne' _ _ _ _ _ (by decide), setCell_ne' _ _ _ _ _ (by decide), setCell_ne' _ _ _ _ _ (by decide)]; simp [go_sem, c1]
  · rw [setCell_ne' _ _ _ _ _ (by decide), setCell_ne' _ _ _ _ _ (by decide), setCell_ne' _ _ _ _ _ (by decide), setCell_ne' _ _ _ _ _ (by decide)]; simp [go_sem, c2]
  · rw [setCell_ne' _ _ _ _ _ (by decide), setCell_ne' _ _ _ _ _ (by decide), setCell_ne' _ _ _ _ _ (by decide)]; simp [go_sem, c3]
  · rw [setCell_ne' _ _ _ _ _ (by decide), setCell_ne' _ _ _ _ _ (by decide)]; simp [go_sem, c4]
  · rw [setCell_ne' _ _ _ _ _ (by decide)]; simp [go_sem, c5]
  · simp [go_sem, c6]
  · simp [go_sem, z0]
  · simp [go_sem, z1]
  · simp [go_sem, z2]
  · simp [go_sem, z3]
  · simp [go_sem, z4]
  · simp [go_sem, z5]
  · simp [go_sem, z6]
end Go.Proofs.Ytokoohmakjabnaa
namespace Go.Proofs.Ytokoohmakjabnaa
open Go.ChangeShapes Go.WideShapes Go.ChangeAt Go.RowKit
def BS (a w : World) : Prop := Below a.heap.size a w ∧ a.heap.size ≤ w.heap.size
theorem BS.out {a w : World} (h : BS a w) : Below a.heap.size a w := h.1
theorem BS.set {a w : World} (h : BS a w) (g k : Nat) (u : Value) (hg : a.heap.size ≤ g) : BS a (w.setCell ⟨g, k, none⟩ u) :=
  ⟨h.1.grown (setCell_gr w g k u) h.2 (fun k hk => by cases hk; exact hg), by simpa using h.2⟩
end Go.Proofs.Ytokoohmakjabnaa
namespace Go.Proofs.Ytokoohmakjabnaa
open Go.ChangeShapes Go.WideShapes Go.ChangeAt Go.RowKit
theorem SlC.at {w : World} {a : Option Addr} {n c : Nat} {xs : List Ce} (h : SlC w (.slice a n c) xs) (j : Nat) (hj : j < xs.length) : ∃ b off, a = some ⟨b, off, none⟩ ∧ b < w.heap.size ∧ CeAt w b (off + j * 7) (atC xs j) := by
  obtain ⟨a', c', e, _, _, hr⟩ := h
  simp only [Value.slice.injEq] at e
  obtain ⟨rfl, rfl, rfl⟩ := e
  rcases hr with h | ⟨b, off, ha, hb, hi⟩
  · rw [h] at hj; simp at hj
  · exact ⟨b, off, ha, hb, hi j hj⟩
end Go.Proofs.Ytokoohmakjabnaa
namespace Go.Proofs.Ytokoohmakjabnaa
def widthV (r : Int) : Int :=
  if r < 32 ∨ runeOk r = false ∨ (127 ≤ r ∧ r ≤ 159) ∨ (768 ≤ r ∧ r ≤ 879) then 0
  else if (4352 ≤ r ∧ r ≤ 4447) ∨ (12288 ≤ r ∧ r ≤ 55295) ∨ (127744 ≤ r ∧ r ≤ 131071) then 2 else 1
end Go.Proofs.Ytokoohmakjabnaa
namespace Go.Proofs.Ytokoohmakjabnaa
theorem atC_ge {l : List Ce} {i : Nat} (h : l.length ≤ i) : atC l i = Ce.zero := by simp [atC, List.getD, List.getElem?_eq_none h]
/-- A cell that is right by itself. -/
def c1 (c : Ce) : Prop := c.st.ok = true ∧ ((c.part = 0 ∧ widthV c.rune = 1) ∨ (c.part = 1 ∧ widthV c.rune = 2) ∨ (c.part = 2 ∧ c.rune = 0))
def Right (l : List Ce) : Prop :=
  (∀ i, i < l.length → c1 (atC l i)) ∧ (∀ i, (atC l i).part = 1 → (atC l (i + 1)).part = 2 ∧ (atC l (i + 1)).st = (atC l i).st) ∧ (∀ i, (atC l i).part = 2 → 0 < i ∧ (atC l (i - 1)).part = 1)
def Semi (l : List Ce) : Prop :=
  (∀ i, i < l.length → c1 (atC l i)) ∧ (∀ i, (atC l i).part = 1 → (atC l (i + 1)).part = 2 → (atC l (i + 1)).st = (atC l i).st)
theorem part_lt {l : List Ce} {i : Nat} (h : (atC l i).part ≠ 0) : i < l.length := by
  rcases Nat.lt_or_ge i l.length with h1 | h1
  · exact h1
  · rw [atC_ge h1] at h; exact absurd rfl h
theorem Right.c1 {l : List Ce} (h : Right l) {i : Nat} (hi : i < l.length) : c1 (atC l i) := h.1 i hi
theorem Semi.take {l : List Ce} (h : Semi l) (n : Nat) : Semi (l.take n) := by
  have e : ∀ i, atC (l.take n) i = if i < n then atC l i else Ce.zero := fun i => by
    by_cases hi : i < n
    · rw [if_pos hi, atC_take l n i hi]
    · rw [if_neg hi, atC_ge (by rw [List.length_take]; omega)]
  refine ⟨fun i hi => ?_, fun i h1 h2 => ?_⟩
  · rw [List.length_take] at hi
    rw [e, if_pos (by omega)]
    exact h.1 i (by omega)
  · rw [e] at h1 h2 ⊢
    rw [e]
    split at h1
    · split at h2
      · rename_i q1 q2
        rw [if_pos q2, if_pos q1]
        exact h.2 i h1 h2
      · exact absurd h2 (by decide)
    · exact absurd h1 (by decide)
theorem Semi.drop {l : List Ce} (h : Semi l) (n : Nat) : Semi (l.drop n) := by
  refine ⟨fun i hi => ?_, fun i h1 h2 => ?_⟩
  · rw [List.length_drop] at hi
    rw [atC_drop]; exact h.1 (n + i) (by omega)
  · rw [atC_drop] at h1 h2 ⊢
    rw [atC_drop]
    have := h.2 (n + i) h1 (by rw [Nat.add_assoc]; exact h2)
    rwa [Nat.add_assoc] at this
theorem app_at (l m : List Ce) (i : Nat) : atC (l ++ m) i = if i < l.length then atC l i else atC m (i - l.length) := by
  by_cases h : i < l.length
  · rw [if_pos h, atC_append_left l m i h]
  · rw [if_neg h]
    have := atC_append_right l m (i - l.length)
    rwa [show l.length + (i - l.length) = i by omega] at this
theorem Right.append {l m : List Ce} (h : Right l) (k : Right m) : Right (l ++ m) := by
  refine ⟨fun i hi => ?_, fun i h1 => ?_, fun i h2 => ?_⟩
  · rw [List.length_append] at hi
    rw [app_at]
    split
    · rename_i q; exact h.1 i q
    · exact k.1 _ (by omega)
  · rw [app_at] at h1
    split at h1
    · have := h.2.1 i h1
      have hlt : i + 1 < l.length := part_lt (by rw [this.1]; decide)
      rename_i q
      rw [app_at, app_at, if_pos hlt, if_pos q]; exact this
    · rename_i q
      have := k.2.1 _ h1
      rw [app_at, app_at, if_neg (by omega), if_neg q]
      rwa [show i + 1 - l.length = i - l.length + 1 by omega]
  · rw [app_at] at h2
    split at h2
    · rename_i q
      have := h.2.2 i h2
      rw [app_at, if_pos (by omega)]; exact this
    · rename_i q
      have := k.2.2 _ h2
      rw [app_at, if_neg (by omega)]
      refine ⟨by omega, ?_⟩
      rw [show i - 1 - l.length = i - l.length - 1 by omega]; exact this.2
end Go.Proofs.Ytokoohmakjabnaa
namespace Go.Proofs.Ytokoohmakjabnaa
theorem Right.two {l : List Ce} (h : Right l) {p : Nat} (h2 : (atC l p).part = 2) : 0 < p ∧ p < l.length ∧ (atC l (p - 1)).part = 1 ∧ (atC l p).st = (atC l (p - 1)).st := by
  have := h.2.2 p h2
  have h3 := (h.2.1 (p - 1) this.2).2
  rw [show p - 1 + 1 = p by omega] at h3
  exact ⟨this.1, part_lt (by rw [h2]; decide), this.2, h3⟩
end Go.Proofs.Ytokoohmakjabnaa
namespace Go.Proofs.Ytokoohmakjabnaa
open Go.ChangeShapes Go.WideShapes Go.ChangeAt Go.RowKit
/-- A cell in a block of its own. -/
def CeN (w : World) (B : Nat) (c : Ce) : Prop :=
  w.cell? ⟨B, 0, none⟩ = some (.int .i64 c.rune) ∧ w.cell? ⟨B, 1, none⟩ = some (.int .i64 c.st.fore) ∧ w.cell? ⟨B, 2, none⟩ = some (.int .i64 c.st.back) ∧ w.cell? ⟨B, 3, none⟩ = some (.bool c.st.bold) ∧ w.cell? ⟨B, 4, none⟩ = some (.bool c.st.under) ∧ w.cell? ⟨B, 5, none⟩ = some (.bool c.st.turned) ∧ w.cell? ⟨B, 6, none⟩ = some (.int .i64 c.part)
theorem CeN.new (w : World) (c : Ce) (t : TypeId) : CeN (w.alloc (.cells #[.int .i64 c.rune, .int .i64 c.st.fore, .int .i64 c.st.back, .bool c.st.bold, .bool c.st.under, .bool c.st.turned, .int .i64 c.part] t)) w.heap.size c :=
  ⟨by simp [go_sem], by simp [go_sem], by simp [go_sem], by simp [go_sem], by simp [go_sem], by simp [go_sem], by simp [go_sem]⟩
theorem CeN.below {w w' : World} {B : Nat} {c : Ce} (h : CeN w B c) (hb : Below w.heap.size w w') (hlt : B < w.heap.size) : CeN w' B c := by
  have e : ∀ k, w'.cell? ⟨B, k, none⟩ = w.cell? ⟨B, k, none⟩ := fun k => hb.cell (p := ⟨B, k, none⟩) hlt
  unfold CeN
  rw [e, e, e, e, e, e, e]
  exact h
end Go.Proofs.Ytokoohmakjabnaa
namespace Go.Proofs.Ytokoohmakjabnaa
open Go.ChangeShapes Go.WideShapes Go.ChangeAt Go.RowKit
theorem l1From_a (g : Nat) (v : Value) (xs : List Int) (lo hi : Int) (w : World) (hc : CurAt w g v xs) :
    Calls Try.prog 31 #[.pointer (some ⟨g, 0, none⟩), .int .i64 lo, .int .i64 hi] w fun e w' => ∃ y : Int, e = .returned (.int .i64 y) ∧ CurAt w' g v xs ∧ w.grownBy w' (some g) := by
  go_enter Try.func31, Try.ntmps31
  go_wp2_with fail
  refine (l1Below_a g v xs _ _ hc).mono ?_
  rintro e w1 ⟨x, rfl, _, _, _, hc1, hg1⟩
  go_wp2
  go_ret
  exact ⟨_, rfl, hc1, hg1⟩
end Go.Proofs.Ytokoohmakjabnaa
namespace Go.Proofs.Ytokoohmakjabnaa
structure Pa where
  state : Int
  params : List Int
  mark : Int
  text : List Int
structure Ac where
  kind : Int
  rune : Int
  params : List Int
  mark : Int
  text : List Int
def st0 (s : Int) : Pa := ⟨s, [], 0, []⟩
def one0 (ps : List Int) : List Int := if ps.length = 0 then [0] else ps
def digitP (ps : List Int) (d : Int) : List Int := (one0 ps).set ((one0 ps).length - 1) (min 9999 (10 * (one0 ps).getD ((one0 ps).length - 1) 0 + d))
def semiP (ps : List Int) : List Int := if (one0 ps).length < 16 then one0 ps ++ [0] else one0 ps
def acR (k r : Int) : Ac := ⟨k, r, [], 0, []⟩
def escM (r : Int) : Pa × List Ac :=
  if r = 91 then (st0 3, []) else if r = 93 then (st0 4, []) else if 48 ≤ r ∧ r ≤ 126 then (st0 1, [acR 3 r]) else (st0 1, [])
/-- Whether a list takes a rune in. -/
def takes (ps : List Int) (m r : Int) : Bool := decide (r = 63 ∧ ps.length = 0 ∧ m = 0 ∨ 48 ≤ r ∧ r ≤ 57 ∨ r = 59)
def takenP (p : Pa) (r : Int) : Pa :=
  if r = 63 ∧ p.params.length = 0 ∧ p.mark = 0 then ⟨p.state, p.params, 63, p.text⟩
  else if 48 ≤ r ∧ r ≤ 57 then ⟨p.state, digitP p.params (r - 48), p.mark, p.text⟩
  else ⟨p.state, semiP p.params, p.mark, p.text⟩
def listM (p : Pa) (r : Int) : Pa × List Ac :=
  if takes p.params p.mark r = true then (takenP p r, [])
  else if 64 ≤ r ∧ r ≤ 126 then (st0 1, [⟨4, r, p.params, p.mark, []⟩]) else (st0 1, [])
def titleM (p : Pa) (r : Int) : Pa × List Ac :=
  if r = 7 then (st0 1, [⟨5, 0, [], 0, p.text⟩])
  else if r = 27 then (⟨5, p.params, p.mark, p.text⟩, [])
  else if p.text.length < 40 then (⟨p.state, p.params, p.mark, p.text ++ [r]⟩, []) else (p, [])
def endM (p : Pa) (r : Int) : Pa × List Ac := if r = 92 then (st0 1, [⟨5, 0, [], 0, p.text⟩]) else (st0 1, [])
/-- A control that leaves the state as it is. -/
def stays (r : Int) : Bool := decide ((r < 32 ∨ r = 127) ∧ r ≠ -1 ∧ r ≠ 24 ∧ r ≠ 26 ∧ r ≠ 27)
def stepM (p : Pa) (r : Int) : Pa × List Ac :=
  if p.state = 4 then titleM p r
  else if p.state = 5 then endM p r
  else if r = 27 then (st0 2, [])
  else if r = 24 ∨ r = 26 then (st0 1, [])
  else if r < 32 ∨ r = 127 then (p, [acR 2 r])
  else if p.state = 2 then escM r
  else if p.state = 3 then listM p r
  else if 0 < widthV r then (p, [acR 1 r]) else (p, [])
def parsedM : Pa → List Int → Pa × List Ac
  | p, [] => (p, [])
  | p, r :: l => ((parsedM (stepM p r).1 l).1, (stepM p r).2 ++ (parsedM (stepM p r).1 l).2)
/-- What comes of a parser, of what is left and of what was told. -/
def Fin (p : Pa) (l : List Int) (t : List Ac) : Pa × List Ac := ((parsedM p l).1, t ++ (parsedM p l).2)
theorem Fin_cons (p : Pa) (r : Int) (l : List Int) (t : List Ac) : Fin p (r :: l) t = Fin (stepM p r).1 l (t ++ (stepM p r).2) := by simp [Fin, parsedM]
end Go.Proofs.Ytokoohmakjabnaa
namespace Go.Proofs.Ytokoohmakjabnaa
open Go.ChangeShapes Go.WideShapes Go.ChangeAt Go.RowKit
theorem own_low' {w : World} {base base' : Nat} {e : TypeId} {size : Nat} {v : Value} {n : Nat} {xs : List Value} (h : w.ownsRow base e size v n xs) (hb : base' ≤ base) : w.ownsRow base' e size v n xs := by
  refine ⟨h.1, ?_⟩
  rcases h.2 with h2 | ⟨g, cap, cur, hv, hbg, r⟩
  · exact .inl h2
  · exact .inr ⟨g, cap, cur, hv, Nat.le_trans hb hbg, r⟩
/-- A list of numbers of this call's own. -/
def OwnI (w : World) (base : Nat) (v : Value) (xs : List Int) : Prop := w.ownsRow base 2 1 v xs.length (xs.map (Value.int .i64))
theorem OwnI.below {w w' : World} {base : Nat} {v : Value} {xs : List Int} (h : OwnI w base v xs) (hb : Below w.heap.size w w') : OwnI w' base v xs := World.ownsRow.below h hb
theorem OwnI.kept {w w' : World} {base : Nat} {v : Value} {xs : List Int} {row : Option Nat} (h : OwnI w base v xs) (hg : w.grownBy w' row) (hne : v.ownBlock = none ∨ v.ownBlock ≠ row) : OwnI w' base v xs := World.ownsRow.kept (show w.ownsRow _ _ _ _ _ _ from h) hg hne
theorem OwnI.lt {w : World} {base : Nat} {v : Value} {xs : List Int} (h : OwnI w base v xs) : ∀ g, v.ownBlock = some g → base ≤ g ∧ g < w.heap.size := fun g e => World.ownsRow.lt h g e
theorem OwnI.sl {w : World} {base : Nat} {v : Value} {xs : List Int} (h : OwnI w base v xs) : SlI w v xs := SlI.of_own h
theorem OwnI.shape {w : World} {base : Nat} {v : Value} {xs : List Int} (h : OwnI w base v xs) : ∃ a n c, v = .slice a n c := by
  obtain ⟨a, c, hv, _⟩ := h.sl
  exact ⟨a, _, c, hv⟩
/-- Two slices over no common block. -/
def ApV (u v : Value) : Prop := ∀ g, u.ownBlock = some g → v.ownBlock ≠ some g
theorem ApV.symm {u v : Value} (h : ApV u v) : ApV v u := fun g e1 e2 => h g e2 e1
/-- Lists of numbers of this call's own, no two over one block. -/
def LiOk (w : World) (base : Nat) (L : List (Value × List Int)) : Prop := (∀ p ∈ L, OwnI w base p.1 p.2) ∧ L.Pairwise fun p q => ApV p.1 q.1
theorem LiOk.below {w w' : World} {base : Nat} {L : List (Value × List Int)} (h : LiOk w base L) (hb : Below w.heap.size w w') : LiOk w' base L := ⟨fun p hp => (h.1 p hp).below hb, h.2⟩
theorem LiOk.sub {w : World} {base : Nat} {L M : List (Value × List Int)} (h : LiOk w base L) (hp : M.Sublist L) : LiOk w base M :=
  ⟨fun _ hm => h.1 _ (hp.subset hm), h.2.sublist hp⟩
theorem LiOk.nil (w : World) (base : Nat) : LiOk w base [] := ⟨fun _ h => absurd h (List.not_mem_nil), List.Pairwise.nil⟩
theorem LiOk.tail {w : World} {base : Nat} {x : Value × List Int} {L : List (Value × List Int)} (h : LiOk w base (x :: L)) : LiOk w base L := h.sub (List.sublist_cons_self _ _)
theorem LiOk.head {w : World} {base : Nat} {x : Value × List Int} {L : List (Value × List Int)} (h : LiOk w base (x :: L)) : OwnI w base x.1 x.2 := h.1 x (List.mem_cons_self)
/-- One list more, over a block that is new. -/
theorem LiOk.new {w w' : World} {base : Nat} {L : List (Value × List Int)} (h : LiOk w base L) (hb : Below w.heap.size w w') {v : Value} {xs : List Int} (ho : OwnI w' base v xs) (hn : ∀ g, v.ownBlock = some g → w.heap.size ≤ g) : LiOk w' base ((v, xs) :: L) :=
  ⟨fun p hp => by
    rcases List.mem_cons.1 hp with rfl | hp
    · exact ho
    · exact (h.1 p hp).below hb, List.Pairwise.cons (fun q hq g e1 e2 => by have := hn g e1; have := ((h.1 q hq).lt g e2).2; omega) h.2⟩
/-- What is not among them changes. -/
theorem LiOk.kept {w w' : World} {base : Nat} {L : List (Value × List Int)} {row : Option Nat} (h : LiOk w base L) (hg : w.grownBy w' row) (hne : ∀ p ∈ L, p.1.ownBlock = none ∨ p.1.ownBlock ≠ row) : LiOk w' base L :=
  ⟨fun p hp => (h.1 p hp).kept hg (hne p hp), h.2⟩
/-- An action with the values of its lists. -/
structure Ax where
  a : Ac
  pv : Value
  tv : Value
def PaC (w : World) (B : Nat) (s : Int) (pv : Value) (m : Int) (tv : Value) : Prop :=
  B < w.heap.size ∧ (w.cell? ⟨B, 0, none⟩ = some (.int .i64 s) ∧ w.cell? ⟨B, 1, none⟩ = some pv ∧ w.cell? ⟨B, 2, none⟩ = some (.int .i64 m) ∧ w.cell? ⟨B, 3, none⟩ = some tv) ∧
    (w.frozen? ⟨B, 0, none⟩ = false ∧ w.frozen? ⟨B, 1, none⟩ = false ∧ w.frozen? ⟨B, 2, none⟩ = false ∧ w.frozen? ⟨B, 3, none⟩ = false)
theorem PaC.grown {w w' : World} {B : Nat} {s m : Int} {pv tv : Value} {row : Option Nat} (h : PaC w B s pv m tv) (hg : w.grownBy w' row) (hr : row ≠ some B) : PaC w' B s pv m tv := by
  have hb := hg.block B h.1 (Ne.symm hr)
  have hc : ∀ k, w'.cell? ⟨B, k, none⟩ = w.cell? ⟨B, k, none⟩ := fun k => World.cell?_of_block (w := w) hb
  have hz : ∀ k, w'.frozen? ⟨B, k, none⟩ = w.frozen? ⟨B, k, none⟩ := fun k => World.frozen?_of_block (w := w) hb
  refine ⟨Nat.lt_of_lt_of_le h.1 hg.size, ?_, ?_⟩
  · rw [hc, hc, hc, hc]; exact h.2.1
  · rw [hz, hz, hz, hz]; exact h.2.2
theorem PaC.below {w w' : World} {B : Nat} {s m : Int} {pv tv : Value} (h : PaC w B s pv m tv) (hb : Below w.heap.size w w') : PaC w' B s pv m tv := h.grown (gbl hb none) (by simp)
theorem PaC.new (w : World) (s m : Int) (pv tv : Value) (t : TypeId) : PaC (w.alloc (.cells #[.int .i64 s, pv, .int .i64 m, tv] t)) w.heap.size s pv m tv :=
  ⟨by simp, ⟨by simp [go_sem], by simp [go_sem], by simp [go_sem], by simp [go_sem]⟩, ⟨by simp [go_sem], by simp [go_sem], by simp [go_sem], by simp [go_sem]⟩⟩
end Go.Proofs.Ytokoohmakjabnaa
namespace Go.Proofs.Ytokoohmakjabnaa
open Go.ChangeShapes Go.WideShapes Go.ChangeAt Go.RowKit
theorem SlI.cons {w : World} {v : Value} {xs : List Int} (h : SlI w v xs) : ∃ a c, v = .slice a xs.length c ∧ ∀ j, j < xs.length → ∃ b off, a = some ⟨b, off, none⟩ ∧ w.cell? ⟨b, off + j, none⟩ = some (.int .i64 (xs.getD j 0)) := by
  obtain ⟨a, c, hv, h | ⟨b, off, ha, hlt, hc⟩⟩ := h
  · exact ⟨a, c, hv, fun j hj => by rw [h] at hj; simp at hj⟩
  · exact ⟨a, c, hv, fun j hj => ⟨b, off, ha, hc j hj⟩⟩
theorem SlI.shp {w : World} {v : Value} {xs : List Int} (h : SlI w v xs) : ∃ a c, v = .slice a xs.length c := by
  obtain ⟨a, c, hv, _⟩ := h
  exact ⟨a, c, hv⟩
end Go.Proofs.Ytokoohmakjabnaa
namespace Go.Proofs.Ytokoohmakjabnaa
open Go.ChangeShapes Go.WideShapes Go.ChangeAt Go.RowKit
/-- A slice that can be read and cut at its head. -/
def SlL (w : World) (v : Value) (xs : List Int) : Prop :=
  ∃ a c, v = .slice a xs.length c ∧ xs.length ≤ c ∧ (xs = [] ∨ ∃ b off, a = some ⟨b, off, none⟩ ∧ b < w.heap.size ∧ ∀ i, i < xs.length → w.cell? ⟨b, off + i, none⟩ = some (.int .i64 (xs.getD i 0)))
theorem SlL.sl {w : World} {v : Value} {xs : List Int} (h : SlL w v xs) : SlI w v xs := by
  obtain ⟨a, c, hv, _, hr⟩ := h
  exact ⟨a, c, hv, hr⟩
theorem SlL.below {w w' : World} {v : Value} {xs : List Int} (h : SlL w v xs) (hb : Below w.heap.size w w') : SlL w' v xs := by
  obtain ⟨a, c, hv, hc0, h | ⟨b, off, ha, hlt, hc⟩⟩ := h
  · exact ⟨a, c, hv, hc0, .inl h⟩
  · exact ⟨a, c, hv, hc0, .inr ⟨b, off, ha, Nat.lt_of_lt_of_le hlt hb.size, fun i hi => (hb.cell (p := ⟨b, off + i, none⟩) hlt).trans (hc i hi)⟩⟩
theorem SlL.of_own {w : World} {base : Nat} {v : Value} {xs : List Int} (h : OwnI w base v xs) : SlL w v xs := by
  rcases h.2 with ⟨rfl, h2⟩ | ⟨g, cap, cur, rfl, hb, hg, hn, hr⟩
  · exact ⟨none, 0, by rw [h2], by omega, .inl (List.eq_nil_of_length_eq_zero h2)⟩
  · refine ⟨_, cap, rfl, hn, .inr ⟨g, 0, rfl, (Array.getElem?_eq_some_iff.1 hg).1, fun i hi => ?_⟩⟩
    have := World.ownsRow.cellAt h i (by omega)
    rw [Nat.zero_add, this]
    simp [hi]
theorem SlL.tail {w : World} {a : Option Addr} {n c : Nat} {r : Int} {xs : List Int} (h : SlL w (.slice a n c) (r :: xs)) :
    ∃ b off, a = some ⟨b, off, none⟩ ∧ b < w.heap.size ∧ n = xs.length + 1 ∧ n ≤ c ∧ w.cell? ⟨b, off + 0, none⟩ = some (.int .i64 r) ∧ ∀ a' c', xs.length ≤ c' → (0 < xs.length → a' = some ⟨b, off + 1, none⟩) → SlL w (.slice a' xs.length c') xs := by
  obtain ⟨a0, c0, hv, hc0, h | ⟨b, off, ha, hlt, hc⟩⟩ := h
  · cases h
  · simp only [Value.slice.injEq] at hv
    obtain ⟨rfl, rfl, rfl⟩ := hv
    refine ⟨b, off, ha, hlt, rfl, hc0, by simpa using hc 0 (by simp), fun a' c' h1 h2 => ⟨a', c', rfl, h1, ?_⟩⟩
    by_cases h0 : xs = []
    · exact .inl h0
    · refine .inr ⟨b, off + 1, h2 (List.length_pos_iff.2 h0), hlt, fun i hi => ?_⟩
      have := hc (i + 1) (by simp; omega)
      rw [show off + 1 + i = off + (i + 1) by omega, this]
      simp
end Go.Proofs.Ytokoohmakjabnaa
namespace Go.Proofs.Ytokoohmakjabnaa
open Go.ChangeShapes Go.WideShapes Go.ChangeAt Go.RowKit
theorem under_ints : Try.prog.underlying 24 = some (.slice 2) := by kernel_rfl
end Go.Proofs.Ytokoohmakjabnaa
namespace Go.Proofs.Ytokoohmakjabnaa
open Go.ChangeShapes Go.WideShapes Go.ChangeAt Go.RowKit
section
variable {w : World} {base g n cap : Nat} {e : TypeId} {xs : List Value}
/-- The row's block. -/
theorem own_cur (h : w.ownsRow base e 1 (.slice (some ⟨g, 0, none⟩) n cap) n xs) : ∃ cur : Array Value, base ≤ g ∧ w.heap[g]? = some (.cells cur e (0, 0)) ∧ n ≤ cap ∧ cap ≤ maxLen ∧ cur.size = cap ∧ cur.toList.take n = xs := by
  rcases h.2 with ⟨h', _⟩ | ⟨g', cap', cur, h', hb, hg, hnc, hcm, hcs, htake⟩
  · simp at h'
  · simp only [Value.slice.injEq, Option.some.injEq, Addr.mk.injEq, and_true, true_and] at h'
    obtain ⟨rfl, rfl⟩ := h'
    exact ⟨cur, hb, hg, hnc, hcm, by simpa using hcs, by simpa using htake⟩
theorem own_mk {cur : Array Value} (hb : base ≤ g) (hg : w.heap[g]? = some (.cells cur e (0, 0))) (hn : n ≤ cap) (hc : cap ≤ maxLen) (hs : cur.size = cap) : w.ownsRow base e 1 (.slice (some ⟨g, 0, none⟩) n cap) n (cur.toList.take n) :=
  ⟨by simp; omega, .inr ⟨g, cap, cur, rfl, hb, hg, hn, hc, by simpa using hs, by simp⟩⟩
theorem own_cut (h : w.ownsRow base e 1 (.slice (some ⟨g, 0, none⟩) n cap) n xs) {m : Nat} (hm : m ≤ n) : w.ownsRow base e 1 (.slice (some ⟨g, 0, none⟩) m cap) m (xs.take m) := by
  obtain ⟨cur, hb, hg, hn, hc, hs, ht⟩ := own_cur h
  have := own_mk (n := m) hb hg (by omega) hc hs
  rw [← ht, List.take_take, Nat.min_eq_left hm]
  exact this
theorem own_more (h : w.ownsRow base e 1 (.slice (some ⟨g, 0, none⟩) n cap) n xs) {m : Nat} (hm : n ≤ m) (hc : m ≤ cap) : ∃ ys : List Value, ys.length = m - n ∧ w.ownsRow base e 1 (.slice (some ⟨g, 0, none⟩) m cap) m (xs ++ ys) := by
  obtain ⟨cur, hb, hg, hn, hc', hs, ht⟩ := own_cur h
  refine ⟨(cur.toList.drop n).take (m - n), by simp; omega, ?_⟩
  have := own_mk (n := m) hb hg hc hc' hs
  have e : cur.toList.take m = cur.toList.take n ++ (cur.toList.drop n).take (m - n) := by
    rw [← List.take_add, show n + (m - n) = m by omega]
  rw [e, ht] at this
  exact this
theorem own_setCells : ∀ (news : List Value) (i : Nat) (w : World) (xs : List Value), w.ownsRow base e 1 (.slice (some ⟨g, 0, none⟩) n cap) n xs → i + news.length ≤ n → (w.setCells g i news).ownsRow base e 1 (.slice (some ⟨g, 0, none⟩) n cap) n (xs.take i ++ news ++ xs.drop (i + news.length)) ∧ w.grownBy (w.setCells g i news) (some g)
  | [], i, w, xs, h, _ => by
    simp only [World.setCells, List.append_nil, List.length_nil, Nat.add_zero, List.take_append_drop]
    exact ⟨h, World.grownBy.refl _ _⟩
  | v :: r, i, w, xs, h, hl => by
    have hx : xs.length = n := by simpa using h.1
    simp only [List.length_cons] at hl
    obtain ⟨h1, h2⟩ := h.stored i v
    obtain ⟨h3, h4⟩ := own_setCells r (i + 1) _ _ h1 (by omega)
    refine ⟨?_, grown_tr h2 h4⟩
    have e : (xs.set i v).take (i + 1) ++ r ++ (xs.set i v).drop (i + 1 + r.length) = xs.take i ++ v :: r ++ xs.drop (i + (r.length + 1)) := by
      rw [List.take_set, List.drop_set_of_lt (by omega), show i + 1 + r.length = i + (r.length + 1) by omega, List.take_add_one, List.getElem?_eq_getElem (by omega)]
      have hl2 : (xs.take i).length = i := by simp; omega
      rw [List.set_append_right _ _ (by omega), hl2]
      simp
    rw [World.setCells, List.length_cons, ← e]
    exact h3
theorem own_isSome (h : w.ownsRow base e 1 (.slice (some ⟨g, 0, none⟩) n cap) n xs) {j : Nat} (hj : j < n) : (w.cell? ⟨g, j, none⟩).isSome = true := by
  have hx : xs.length = n := by simpa using h.1
  rw [h.cellAt j (by omega), List.getElem?_eq_getElem (by omega)]
  rfl
end
theorem own_drew {w : World} {base : Nat} {e : TypeId} {v : Value} {n : Nat} {xs : List Value} (h : w.ownsRow base e 1 v n xs) : w.drew.ownsRow base e 1 v n xs := h
theorem grown_drew (w : World) (row : Option Nat) : w.grownBy w.drew row := ⟨rfl, rfl, rfl, Nat.le_refl _, fun _ _ _ => rfl⟩
end Go.Proofs.Ytokoohmakjabnaa
namespace Go.Proofs.Ytokoohmakjabnaa
open Go.ChangeShapes Go.WideShapes Go.ChangeAt Go.RowKit
theorem zero_i64 (w : World) : (zeroValue 2).run Try.prog w = .ok (.int .i64 0) w := by kernel_rfl
set_option maxHeartbeats 4000000 in
set_option maxRecDepth 20000 in
theorem delete_any (base g cap : Nat) (xs : List Int) (i : Nat) (w : World) (ho : OwnI w base (.slice (some ⟨g, 0, none⟩) xs.length cap) xs) (hi : i < xs.length) :
    Calls Try.prog 48 #[.slice (some ⟨g, 0, none⟩) xs.length cap, .int .i64 i, .int .i64 ((i : Int) + 1)] w fun e w' => e = .returned (.slice (some ⟨g, 0, none⟩) (xs.length - 1) cap) ∧ OwnI w' base (.slice (some ⟨g, 0, none⟩) (xs.length - 1) cap) (xs.take i ++ xs.drop (i + 1)) ∧ w.grownBy w' (some g) := by
  obtain ⟨i0, hi0, hz0, hz1, hz2⟩ := info_parts info_i64
  have hown := own_drew (show w.ownsRow base 2 1 _ xs.length (xs.map (Value.int .i64)) from ho)
  have hrest : xs.length - 1 = (xs.take i ++ xs.drop (i + 1)).length := by simp; omega
  obtain ⟨n, hn⟩ : ∃ n, Hid (n = xs.length) := ⟨_, rfl⟩
  rw [← hn.out] at hown hi ⊢
  obtain ⟨cur, _, _, hnc, hcm, _, _⟩ := own_cur hown
  obtain ⟨news, hnews⟩ : ∃ news, Hid (news = (xs.drop (i + 1)).map (Value.int .i64)) := ⟨_, rfl⟩
  have hlen : news.length = n - (i + 1) := by rw [hnews.out, hn.out]; simp
  obtain ⟨A, hA, hsrc⟩ : ∃ A : Addr, (if cap = i + 1 then (some (⟨g, 0, none⟩ : Addr)) else some ⟨g, i + 1, none⟩) = some A ∧ Hid (∀ t u, news[t]? = some u → w.drew.cell? (A.add t) = some u) := by
    by_cases h : cap = i + 1
    · refine ⟨⟨g, 0, none⟩, by rw [if_pos h], fun t u hu => ?_⟩
      have h0 : news.length = 0 := by rw [hlen]; omega
      rw [List.length_eq_zero_iff.1 h0] at hu
      simp at hu
    · refine ⟨⟨g, i + 1, none⟩, by rw [if_neg h], fun t u hu => ?_⟩
      have ht : t < news.length := (List.getElem?_eq_some_iff.1 hu).1
      rw [Addr.add_lit, hown.cellAt (i + 1 + t) (by omega)]
      rw [hnews.out, List.getElem?_map, List.getElem?_drop] at hu
      rw [List.getElem?_map]
      exact hu
  have s1 : Hid (news.length = (n - (i + 1)) * 1) := by rw [Nat.mul_one]; exact hlen
  have s2 : Hid (∀ u ∈ news, u.oneCell' = true) := by
    intro u hu
    rw [hnews.out] at hu
    obtain ⟨x, _, rfl⟩ := List.mem_map.1 hu
    rfl
  have s3 : Hid (∀ t, t < news.length → (w.drew.cell? ⟨g, 0 + i * 1 + t, none⟩).isSome = true ∧ w.drew.frozen? ⟨g, 0 + i * 1 + t, none⟩ = false) := by
    intro t ht
    rw [Nat.mul_one, Nat.zero_add]
    exact ⟨own_isSome hown (by omega), hown.frozenAt _⟩
  obtain ⟨W1, hW1⟩ : ∃ W1, Hid (W1 = w.drew.setCells g (0 + i * 1) news) := ⟨_, rfl⟩
  obtain ⟨o1, g1⟩ := own_setCells news i w.drew _ hown (by omega)
  rw [show i = 0 + i * 1 by omega, ← hW1.out] at g1
  rw [show w.drew.setCells g i news = w.drew.setCells g (0 + i * 1) news by rw [show 0 + i * 1 = i by omega], ← hW1.out] at o1
  obtain ⟨o2, g2⟩ := o1.stored (n - 1) (.int .i64 0)
  have hcl : ∀ ty c, (Builtin.clear_ #[24] ty #[.slice (some ⟨g, n - 1, none⟩) 1 c]).run Try.prog W1 = .ok (.tuple #[]) (W1.setCells g (n - 1) (List.replicate 1 (.int .i64 0))) :=
    fun ty c => Lib.run_clear_slice W1 _ _ ty _ under_ints zero_i64 rfl rfl g (n - 1) _ _ (by omega) (fun t ht => own_isSome o1 (by omega)) (fun t ht => o1.frozenAt _)
  have hW2 : W1.setCells g (n - 1) (List.replicate 1 (.int .i64 0)) = W1.setCell ⟨g, n - 1, none⟩ (.int .i64 0) := rfl
  rw [hW2] at hcl
  have hcut := own_cut o2 (m := n - 1) (by omega)
  have hxl : xs.length = n := hn.out.symm
  have hfin : ((List.take i (xs.map (Value.int .i64)) ++ news ++ List.drop (i + news.length) (xs.map (Value.int .i64))).set (n - 1) (.int .i64 0)).take (n - 1) = (xs.take i ++ xs.drop (i + 1)).map (Value.int .i64) := by
    rw [List.take_set_of_le (Nat.le_refl _), List.take_left' (by rw [List.length_append, List.length_take, List.length_map, hlen]; omega), hnews.out, List.map_append, List.map_take]
  rw [hfin] at hcut
  have hgr : w.grownBy (W1.setCell ⟨g, n - 1, none⟩ (.int .i64 0)) (some g) := grown_tr (grown_drew w (some g)) (grown_tr g1 g2)
  have hres : OwnI (W1.setCell ⟨g, n - 1, none⟩ (.int .i64 0)) base (.slice (some ⟨g, 0, none⟩) (n - 1) cap) (xs.take i ++ xs.drop (i + 1)) := by
    unfold OwnI
    rw [← hrest, ← hn.out]
    exact hcut
  have hW : Hid (W1 = w.drew.setCells g (0 + i * 1) news) := hW1
  have hfit : i + (n - (i + 1)) = n - 1 := by omega
  have hcap1 : i ≤ cap := by omega
  have hcap2 : i + 1 ≤ cap := by omega
  have hb1 : (0 : Int) ≤ (i : Int) + 1 := by omega
  have hb2 : (i : Int) + 1 ≤ (n : Int) := by omega
  have mixed : Try.prog.follows Departure.mixedOrders = true := by kernel_rfl
  replace hres := (show Hid _ from hres)
  replace hgr := (show Hid _ from hgr)
  replace hcl := (show Hid _ from hcl)
  clear hcut hfin hW2 o2 g2 o1 g1 hW1 hown ho hrest hxl hnews hlen
  go_enter Try.func48, Try.ntmps48
  go_wp2_with fail
  go_region_law_o (refine step_append_room rfl (.tmp 22) (.tmp 25) 24 rfl 2 i0 1 under_ints hi0 hz1 g 0 i cap (by simp [Act.eval, Act.put]) A (n - (i + 1)) (cap - (i + 1)) news (by simp [Act.eval, Act.put]) s1.out hsrc.out s2.out (by omega) s3.out ?_; rw [← hW.out])
  replace hcl := hcl.out
  have hc3 : ¬ (cap = n - 1) := by omega
  have hc4 : n - (n - 1) = 1 := by omega
  have hc5 : ((n - 1 : Nat) : Int) ≤ (n : Int) := by omega
  have hc6 : (0 : Int) ≤ ((n - 1 : Nat) : Int) := by omega
  go_wp2
  go_ret
  exact ⟨rfl, hres.out, hgr.out⟩
end Go.Proofs.Ytokoohmakjabnaa
namespace Go.Proofs.Ytokoohmakjabnaa
open Go.ChangeShapes Go.WideShapes Go.ChangeAt Go.RowKit Go.Lib
theorem wp_copy_runJ {P : Program} (w : World) {o : Oper} {a : Act} {K : Act → World → Prop} {Q : Exit → Act → World → Prop} (d s : Operand) (t t' : TypeId)
    (ho : o.op = .call { callee := .builtin .copy, args := #[d, s], argTypes := #[t, t'] }) (v u : Value) (hd : a.eval d = v) (hs : a.eval s = u) {v' : Value} {w' : World}
    (hr : (Builtin.copy_ #[t, t'] o.type #[v, u]).run P w = .ok v' w') (h : K (a.put o.dst v') w') : o.wp P a w K Q := by
  unfold Oper.wp execOp
  simp only [ho, resolve, invoke, builtin, Sem.run_bind, Sem.run_pure, Result.andThen_ok, List.map_toArray, List.map_cons, List.map_nil, hd, hs, hr]
  exact h
theorem wpList_copy_runJ {P : Program} (w : World) {ops : Array Oper} {rest : List Oper} {o : Oper} {a : Act} {Q : Exit → Act → World → Prop} (hgd : o.guard = none) (d s : Operand) (t t' : TypeId)
    (ho : o.op = .call { callee := .builtin .copy, args := #[d, s], argTypes := #[t, t'] }) (v u : Value) (hd : a.eval d = v) (hs : a.eval s = u) {v' : Value} {w' : World}
    (hr : (Builtin.copy_ #[t, t'] o.type #[v, u]).run P w = .ok v' w') (h : wpList P ops Q rest (a.put o.dst v') w') : wpList P ops Q (o :: rest) a w :=
  wpList_plain hgd fun _ hK => wp_copy_runJ w d s t t' ho v u hd hs hr (hK _ _ h)
theorem step_copy_runJ {P : Program} {ops : Array Oper} {o : Oper} {a : Act} {w : World} {K : Act → World → Prop} {Q : Exit → Act → World → Prop} {E : Prop}
    (hg : o.guard = none) (d x : Operand) (dT sT : TypeId) (hop : o.op = Op.call { callee := Callee.builtin Builtin.copy, args := #[d, x], argTypes := #[dT, sT] })
    (v u : Value) (hd : a.eval d = v) (hx : a.eval x = u) {v' : Value} {w' : World} (hr : (Builtin.copy_ #[dT, sT] o.type #[v, u]).run P w = .ok v' w') (hK : K (a.put o.dst v') w') :
    if Region.wanted o (yielded ops a.tmps) = true then Oper.wp P o a w K Q else E := by
  have hw : Region.wanted o (yielded ops a.tmps) = true := by simp [Region.wanted, hg]
  rw [if_pos hw]
  unfold Oper.wp
  simp [execOp, hop, resolve, invoke, builtin, hd, hx, hr, Result.andThen]
  exact hK
theorem under_int : Try.prog.underlying 3 = some (.int .i64) := by kernel_rfl
theorem size_i64 (w : World) : (Go.sizeOf 2).run Try.prog w = .ok 1 w := by kernel_rfl
section
variable (base : Nat) (xs : List Int) (y : Int) (vb : Nat) (w : World)
set_option maxHeartbeats 4000000 in
set_option maxRecDepth 20000 in
/-- At the end. -/
theorem insert_end (v : Value) (ho : OwnI w base v xs) (hb : base ≤ w.heap.size) (hl : xs.length ≤ 1000000) (hv : w.heap[vb]? = some (.cells #[.int .i64 y] 2 (0, 0))) :
    Calls Try.prog 49 #[v, .int .i64 xs.length, .slice (some ⟨vb, 0, none⟩) 1 1] w fun e w' => ∃ g cap, e = .returned (.slice (some ⟨g, 0, none⟩) (xs.length + 1) cap) ∧ OwnI w' base (.slice (some ⟨g, 0, none⟩) (xs.length + 1) cap) (xs ++ [y]) ∧ w.grownBy w' v.ownBlock ∧ (v.ownBlock = some g ∨ w.heap.size ≤ g) := by
  obtain ⟨i0, hi0, hz0, hz1, hz2⟩ := info_parts info_i64
  have hown : w.ownsRow base 2 1 v xs.length (xs.map (Value.int .i64)) := ho
  have hc : ∀ j u, [Value.int .i64 y][j]? = some u → w.cell? ((⟨vb, 0, none⟩ : Addr).add j) = some u := fun j u h => by
    rw [Addr.add_lit, Nat.zero_add, cell_of_row w vb j _ _ (0, 0) hv]
    simpa using h
  have h1 : ∀ u ∈ [Value.int .i64 y], u.oneCell' = true := by intro u hu; simp at hu; subst hu; rfl
  have hres : ∀ g cap w', w'.ownsRow base 2 1 (.slice (some ⟨g, 0, none⟩) (xs.length + 1) cap) (xs.length + 1) (xs.map (Value.int .i64) ++ [.int .i64 y]) → OwnI w' base (.slice (some ⟨g, 0, none⟩) (xs.length + 1) cap) (xs ++ [y]) := fun g cap w' h => by
    unfold OwnI
    rw [List.length_append, List.length_singleton, List.map_append]
    exact h
  obtain ⟨a, n', c, hsh⟩ := ho.shape
  have hn' : n' = xs.length := by
    rcases hown.2 with ⟨h, h2⟩ | ⟨g, cap, cur, h, _⟩
    · rw [hsh] at h; cases h; exact h2.symm
    · rw [hsh] at h; cases h; rfl
  subst hn'
  subst hsh
  have hnc : xs.length ≤ c := by
    rcases hown.2 with ⟨h, h2⟩ | ⟨g, cap, cur, h, _, _, h3, _⟩
    · omega
    · cases h; exact h3
  replace hres := (show Hid _ from hres)
  clear ho
  generalize xs.map (Value.int .i64) = ys at *
  generalize xs.length = n at *
  go_enter Try.func49, Try.ntmps49
  cases a with
  | none =>
    go_wp2_with (at_builtin; refine wpList_append_lies _ rfl _ _ 24 rfl base 2 i0 (.int .i64 0) 1 8 under_ints hi0 hz0 hz1 hz2 rfl (by decide) _ n _ rfl hown ⟨vb, 0, none⟩ 1 1 [.int .i64 y] rfl rfl hc h1 (by decide) (by unfold maxLen; omega) (by omega) hb _ rfl ?_; intro g cap w1 ho1 hg1 hat _)
    all_goals
      go_ret
      exact ⟨g, cap, rfl, hres.out _ _ _ ho1, hg1, hat.imp id (fun h => by omega)⟩
  | some ad =>
    obtain ⟨gb, go, gs⟩ := ad
    go_wp2_with (at_builtin; refine wpList_append_lies _ rfl _ _ 24 rfl base 2 i0 (.int .i64 0) 1 8 under_ints hi0 hz0 hz1 hz2 rfl (by decide) _ n _ rfl hown ⟨vb, 0, none⟩ 1 1 [.int .i64 y] rfl rfl hc h1 (by decide) (by unfold maxLen; omega) (by omega) hb _ rfl ?_; intro g cap w1 ho1 hg1 hat _)
    all_goals
      go_ret
      exact ⟨g, cap, rfl, hres.out _ _ _ ho1, hg1, hat.imp id (fun h => by omega)⟩
set_option maxHeartbeats 4000000 in
set_option maxRecDepth 20000 in
/-- Ahead of the end, with room. -/
theorem insert_room (g cap i : Nat) (ho : OwnI w base (.slice (some ⟨g, 0, none⟩) xs.length cap) xs) (hi : i < xs.length) (hroom : xs.length + 1 ≤ cap) (hv : w.heap[vb]? = some (.cells #[.int .i64 y] 2 (0, 0))) (hne : vb ≠ g) :
    Calls Try.prog 49 #[.slice (some ⟨g, 0, none⟩) xs.length cap, .int .i64 i, .slice (some ⟨vb, 0, none⟩) 1 1] w fun e w' => e = .returned (.slice (some ⟨g, 0, none⟩) (xs.length + 1) cap) ∧ OwnI w' base (.slice (some ⟨g, 0, none⟩) (xs.length + 1) cap) (xs.take i ++ y :: xs.drop i) ∧ w.grownBy w' (some g) := by
  have hown : w.ownsRow base 2 1 (.slice (some ⟨g, 0, none⟩) xs.length cap) xs.length (xs.map (Value.int .i64)) := ho
  obtain ⟨cur, _, hgc, _, hcm, hcs, _⟩ := own_cur hown
  obtain ⟨zs, hzl, hmore⟩ := own_more hown (m := xs.length + 1) (by omega) hroom
  have hmd := own_drew hmore
  obtain ⟨cs, hcsd⟩ : ∃ cs, Hid (cs = (xs.drop i).map (Value.int .i64)) := ⟨_, rfl⟩
  have hcl : cs.length = xs.length - i := by rw [hcsd.out]; simp
  obtain ⟨o1, g1⟩ := own_setCells cs (i + 1) _ _ hmd (by omega)
  obtain ⟨o2, g2⟩ := own_setCells [Value.int .i64 y] i _ _ o1 (by simp; omega)
  have hfin : List.take i (List.take (i + 1) (List.map (Value.int .i64) xs ++ zs) ++ cs ++ List.drop (i + 1 + cs.length) (List.map (Value.int .i64) xs ++ zs)) ++ [Value.int .i64 y] ++ List.drop (i + [Value.int .i64 y].length) (List.take (i + 1) (List.map (Value.int .i64) xs ++ zs) ++ cs ++ List.drop (i + 1 + cs.length) (List.map (Value.int .i64) xs ++ zs)) = (xs.take i ++ y :: xs.drop i).map (Value.int .i64) := by
    have l1 : (List.take (i + 1) (List.map (Value.int .i64) xs ++ zs)).length = i + 1 := by simp; omega
    have e3 : List.drop (i + 1 + cs.length) (List.map (Value.int .i64) xs ++ zs) = [] := List.drop_eq_nil_of_le (by simp; omega)
    rw [e3, List.append_nil, List.take_append_of_le_length (by omega), List.take_take, Nat.min_eq_left (by omega), List.take_append_of_le_length (by simp; omega)]
    simp only [List.length_singleton]
    rw [List.drop_left' l1, hcsd.out]
    simp
  rw [hfin] at o2
  have hres : OwnI ((w.drew.setCells g (i + 1) cs).setCells g i [Value.int .i64 y]) base (.slice (some ⟨g, 0, none⟩) (xs.length + 1) cap) (xs.take i ++ y :: xs.drop i) := by
    unfold OwnI
    rw [show (xs.take i ++ y :: xs.drop i).length = xs.length + 1 by simp; omega]
    exact o2
  have hgr := grown_tr (grown_drew w (some g)) (grown_tr g1 g2)
  have hc : ∀ j u, cs[j]? = some u → w.cell? ⟨g, 0 + i + j, none⟩ = some u := fun j u h => by
    rw [hcsd.out, List.getElem?_map, List.getElem?_drop] at h
    have hj : i + j < xs.length := by
      rcases Nat.lt_or_ge (i + j) xs.length with h' | h'
      · exact h'
      · rw [List.getElem?_eq_none h'] at h; cases h
    rw [hown.cellAt (0 + i + j) (by omega), Nat.zero_add, List.getElem?_map]
    exact h
  have h1c : ∀ u ∈ cs, u.oneCell' = true := by intro u hu; rw [hcsd.out] at hu; obtain ⟨x, _, rfl⟩ := List.mem_map.1 hu; rfl
  have h1v : ∀ u ∈ [Value.int .i64 y], u.oneCell' = true := by intro u hu; simp at hu; subst hu; rfl
  have hsp : ∀ j, j < xs.length + 1 → (w.drew.cell? ⟨g, j, none⟩).isSome = true := fun j hj => own_isSome hmd hj
  have hfz : ∀ j, w.drew.frozen? ⟨g, j, none⟩ = false := fun j => hmd.frozenAt j
  have hsz : (Try.prog.info? 2).map (·.size) = some 1 := by
    obtain ⟨i0, hi0, _, hz1, _⟩ := info_parts info_i64
    rw [hi0]; simp [hz1]
  have hsa : w.shape? vb = some (2, 1) := by simp [World.shape?, hv]
  have hsb : w.shape? g = some (2, cap) := by simp [World.shape?, hgc, hcs]
  have hfv : w.frozen? ⟨vb, 0, none⟩ = false := frozen_of_row w vb 0 _ _ hv
  have hfe : w.frozen? ⟨vb, 1, none⟩ = false := frozen_of_row w vb 1 _ _ hv
  have hov : ∀ lb cb, (callFunc 52 #[.slice (some ⟨vb, 0, none⟩) 1 1, .slice (some ⟨g, i + 1, none⟩) lb cb]).run Try.prog w = .ok (.value (.bool false)) w := fun lb cb => by
    rw [run_callFunc_extern Try.func52 (by kernel_rfl) (by kernel_rfl) (by kernel_rfl) (e := Extern.SlicesOverlaps.overlaps #[24, 24] #[4]) (by kernel_rfl),
      Lib.run_overlaps_apart w 24 4 2 under_ints 1 size_i64 ⟨vb, 0, none⟩ ⟨g, i + 1, none⟩ 1 1 lb cb hne 2 2 1 cap hsa hsb (by omega) hfv hfe]
    rfl
  have hvc : ∀ j u, [Value.int .i64 y][j]? = some u → w.cell? ⟨vb, 0 + j, none⟩ = some u := fun j u h => by
    rw [Nat.zero_add, cell_of_row w vb j _ _ (0, 0) hv]
    simpa using h
  obtain ⟨n, hn⟩ : ∃ n, Hid (n = xs.length) := ⟨_, rfl⟩
  rw [← hn.out] at hi hroom hcl hres hsp ⊢
  have hcp1 : ∀ ty dc sc, (Builtin.copy_ #[24, 24] ty #[.slice (some ⟨g, i + 1, none⟩) (n - i) dc, .slice (some ⟨g, i, none⟩) (n + 1 - i) sc]).run Try.prog w.drew = .ok (goInt cs.length) (w.drew.setCells g (i + 1) cs) := fun ty dc sc =>
    run_copy_cells w.drew _ _ ty 2 g (i + 1) (n - i) dc ⟨g, i, none⟩ (n + 1 - i) sc cs under_ints hsz (by rw [hcl]; simp only [Nat.min_def]; split <;> omega)
      (fun j u hj => by rw [Addr.add_lit]; have := hc j u hj; rw [Nat.zero_add] at this; exact this)
      (fun j hj => hsp _ (by omega)) (fun j hj => hfz _) h1c
  obtain ⟨W1, hW1⟩ : ∃ W1, Hid (W1 = w.drew.setCells g (i + 1) cs) := ⟨_, rfl⟩
  have hcp2 : ∀ (W : World), (∀ x, W.cell? x = W1.cell? x) → (∀ x, W.frozen? x = W1.frozen? x) → ∀ ty dc, (Builtin.copy_ #[24, 24] ty #[.slice (some ⟨g, i, none⟩) (n + 1 - i) dc, .slice (some ⟨vb, 0, none⟩) 1 1]).run Try.prog W = .ok (goInt [Value.int .i64 y].length) (W.setCells g i [Value.int .i64 y]) := fun W hWc hWf ty dc =>
    run_copy_cells W _ _ ty 2 g i (n + 1 - i) dc ⟨vb, 0, none⟩ 1 1 [Value.int .i64 y] under_ints hsz (by simp only [List.length_singleton, Nat.min_def]; split <;> omega)
      (fun j u hj => by
        rw [Addr.add_lit, hWc, hW1.out, World.cell?_setCells_out g _ _ _ _ (fun h _ => absurd h hne)]
        exact hvc j u hj)
      (fun j hj => by rw [hWc, hW1.out]; exact own_isSome o1 (by have := hn.out; simp at hj; omega)) (fun j hj => by rw [hWf, hW1.out]; exact o1.frozenAt _) h1v
  rw [← hW1.out] at hcp1 hres hgr
  have mixed : Try.prog.follows Departure.mixedOrders = true := by kernel_rfl
  have hz2 : ¬ ((i : Int) = (n : Int)) := by omega
  have hw1 : IntKind.i64.wrap ((i : Int) + 1) = (i : Int) + 1 := by rw [IntKind.wrap_i64]; unfold maxLen at hcm; omega
  have hw2 : IntKind.i64.wrap ((n : Int) + 1) = (n : Int) + 1 := by rw [IntKind.wrap_i64]; unfold maxLen at hcm; omega
  have hb1 : (0 : Int) ≤ (i : Int) + 1 := by omega
  have hin : i ≤ n := by omega
  have htn : ((i : Int) + 1).toNat = i + 1 := by omega
  have htn2 : ((n : Int) + 1).toNat = n + 1 := by omega
  have hb2 : ¬ (cap = i + 1) := by omega
  have hb3 : (i : Int) ≤ (n : Int) + 1 := by omega
  have hb4 : ¬ (cap = i) := by omega
  have hb5 : ¬ ((cap : Int) < (n : Int) + 1) := by omega
  have hb6 : (i : Int) + 1 ≤ (n : Int) + 1 := by omega
  have hb7 : (n : Int) + 1 ≤ (cap : Int) := by omega
  have hb8 : (0 : Int) ≤ (n : Int) + 1 := by omega
  replace hres := (show Hid _ from hres)
  replace hgr := (show Hid _ from hgr)
  clear hW1 hfin o2 g2 o1 g1 hc h1c h1v hsp hfz hsa hsb hfv hfe hvc hown ho hmore hmd hgc hcs hzl hcsd hsz hne hv
  go_enter Try.func49, Try.ntmps49
  go_wp2_with (simp only [hov])
  go_region_law_o (refine step_copy_runJ rfl _ _ 24 24 rfl _ _ (by simp [Act.eval, Act.put]) (by simp [Act.eval, Act.put]) (hcp1 _ _ _) ?_)
  go_wp2_with (at_builtin; refine wpList_copy_runJ _ rfl _ _ 24 24 rfl _ _ rfl rfl (hcp2 _ (fun _ => rfl) (fun _ => rfl) _ _) ?_)
  go_ret
  exact ⟨rfl, hres.out, hgr.out⟩
set_option maxHeartbeats 4000000 in
set_option maxRecDepth 20000 in
/-- Ahead of the end, without room: a new row. -/
theorem insert_grow (g cap i : Nat) (ho : OwnI w base (.slice (some ⟨g, 0, none⟩) xs.length cap) xs) (hbw : base ≤ w.heap.size) (hl : xs.length ≤ 1000000) (hi : i < xs.length) (hroom : cap < xs.length + 1) (hv : w.heap[vb]? = some (.cells #[.int .i64 y] 2 (0, 0))) :
    Calls Try.prog 49 #[.slice (some ⟨g, 0, none⟩) xs.length cap, .int .i64 i, .slice (some ⟨vb, 0, none⟩) 1 1] w fun e w' => ∃ cap', e = .returned (.slice (some ⟨w.heap.size, 0, none⟩) (xs.length + 1) cap') ∧ OwnI w' base (.slice (some ⟨w.heap.size, 0, none⟩) (xs.length + 1) cap') (xs.take i ++ y :: xs.drop i) ∧ Below w.heap.size w w' := by
  obtain ⟨i0, hi0, hz0, hz1, hz2⟩ := info_parts info_i64
  have hown : w.ownsRow base 2 1 (.slice (some ⟨g, 0, none⟩) xs.length cap) xs.length (xs.map (Value.int .i64)) := ho
  obtain ⟨cur, _, hgc, hnc, hcm, hcs, _⟩ := own_cur hown
  have hgw : g < w.heap.size := (ho.lt g rfl).2
  have hvw : vb < w.heap.size := (Array.getElem?_eq_some_iff.1 hv).1
  obtain ⟨cs, hcsd⟩ : ∃ cs, Hid (cs = (xs.drop i).map (Value.int .i64)) := ⟨_, rfl⟩
  obtain ⟨bs, hasd⟩ : ∃ bs, Hid (bs = (xs.take i).map (Value.int .i64)) := ⟨_, rfl⟩
  have hcl : cs.length = xs.length - i := by rw [hcsd.out]; simp
  have hal : bs.length = i := by rw [hasd.out]; simp; omega
  have hc : ∀ j u, cs[j]? = some u → w.cell? ⟨g, 0 + i + j, none⟩ = some u := fun j u h => by
    rw [hcsd.out, List.getElem?_map, List.getElem?_drop] at h
    have hj : i + j < xs.length := by
      rcases Nat.lt_or_ge (i + j) xs.length with h' | h'
      · exact h'
      · rw [List.getElem?_eq_none h'] at h; cases h
    rw [hown.cellAt (0 + i + j) (by omega), Nat.zero_add, List.getElem?_map]
    exact h
  have h1c : ∀ u ∈ cs, u.oneCell' = true := by intro u hu; rw [hcsd.out] at hu; obtain ⟨x, _, rfl⟩ := List.mem_map.1 hu; rfl
  have h1v : ∀ u ∈ [Value.int .i64 y], u.oneCell' = true := by intro u hu; simp at hu; subst hu; rfl
  have hvc : ∀ j u, [Value.int .i64 y][j]? = some u → w.cell? ⟨vb, 0 + j, none⟩ = some u := fun j u h => by
    rw [Nat.zero_add, cell_of_row w vb j _ _ (0, 0) hv]
    simpa using h
  have hsz : (Try.prog.info? 2).map (·.size) = some 1 := by rw [hi0]; simp [hz1]
  have hold : (Builtin.firstCells i0.size i (.slice (some ⟨g, 0, none⟩) i cap)).run Try.prog w.drew = .ok bs.toArray w.drew := by
    rw [hz1]
    exact run_firstCells_some w.drew 1 i ⟨g, 0, none⟩ i cap bs (by omega) (fun j u hj => by
      rw [Addr.add_lit, Nat.zero_add]
      have hj' : j < i := by have := (List.getElem?_eq_some_iff.1 hj).1; omega
      rw [hasd.out, List.getElem?_map, List.getElem?_take, if_pos hj'] at hj
      have : w.drew.cell? ⟨g, j, none⟩ = w.cell? ⟨g, j, none⟩ := rfl
      rw [this, hown.cellAt j (by omega), List.getElem?_map]
      exact hj)
  obtain ⟨n, hn⟩ : ∃ n, Hid (n = xs.length) := ⟨_, rfl⟩
  rw [← hn.out] at hi hroom hcl hl hnc ⊢
  have hkk : (n : Int) + 1 - (i : Int) = ((n + 1 - i : Nat) : Int) := by omega
  have hik : i + (n + 1 - i) = n + 1 := by omega
  have hrz : ∀ ty, (Builtin.append_ #[24, 3] ty #[.slice (some ⟨g, 0, none⟩) i cap, .int .i64 ((n : Int) + 1 - (i : Int))]).run Try.prog w =
      .ok (.slice (some ⟨w.heap.size, 0, none⟩) (n + 1) (grownCap w (n + 1) cap 2)) (w.drew.alloc (.cells (bs.toArray ++ Builtin.zeroCells (Value.int .i64 0).cells (n + 1 - i) ++ Builtin.zeroCells (Value.int .i64 0).cells (grownCap w (n + 1) cap 2 - (n + 1))) 2)) := fun ty => by
    have h := Lib.run_append_grow_zeros w 24 3 ty 2 i0 _ .i64 .i64 under_ints under_int hi0 hz0 (some ⟨g, 0, none⟩) i cap bs hold (n + 1 - i) (by omega) (by omega) (by omega) (by omega) (by rw [hz2]; omega) (by rw [hz2, hik]; exact growslice_fits hroom (by omega))
    rw [hik] at h
    rw [hkk]
    exact h
  have hGn : n + 1 ≤ grownCap w (n + 1) cap 2 := grownCap_ge w _ _ _
  have hG63 : grownCap w (n + 1) cap 2 ≤ maxLen := grownCap_le_maxLen w (n + 1) cap 2 (by unfold maxLen; omega)
  obtain ⟨G, hG⟩ : ∃ G, Hid (G = grownCap w (n + 1) cap 2) := ⟨_, rfl⟩
  rw [← hG.out] at hrz hGn hG63
  obtain ⟨ROW, hROW⟩ : ∃ ROW : Array Value, Hid (ROW = bs.toArray ++ Builtin.zeroCells (Value.int .i64 0).cells (n + 1 - i) ++ Builtin.zeroCells (Value.int .i64 0).cells (G - (n + 1))) := ⟨_, rfl⟩
  rw [← hROW.out] at hrz
  have hRs : ROW.size = G := by
    rw [hROW.out]
    simp [Builtin.zeroCells, Value.cells]
    omega
  have hRt : ROW.toList.take i = bs := by
    rw [hROW.out]
    simp only [Array.toList_append, List.append_assoc]
    exact List.take_left' hal
  obtain ⟨W1, hW1⟩ : ∃ W1, Hid (W1 = w.drew.alloc (.cells ROW 2)) := ⟨_, rfl⟩
  rw [← hW1.out] at hrz
  have hob : W1.ownsRow w.heap.size 2 1 (.slice (some ⟨w.heap.size, 0, none⟩) (n + 1) G) (n + 1) (ROW.toList.take (n + 1)) := by
    rw [hW1.out]
    exact own_mk (Nat.le_refl _) (heap_alloc_new w.drew _) hGn hG63 hRs
  have hbW1 : Below w.heap.size w W1 := by
    rw [hW1.out]
    exact ((Below.refl w.heap.size w).drew).alloc (Nat.le_refl _) _
  obtain ⟨o1, g1⟩ := own_setCells [Value.int .i64 y] i _ _ hob (by simp; omega)
  obtain ⟨o2, g2⟩ := own_setCells cs (i + 1) _ _ (own_drew o1) (by omega)
  have hfin : List.take (i + 1) (List.take i (ROW.toList.take (n + 1)) ++ [Value.int .i64 y] ++ List.drop (i + [Value.int .i64 y].length) (ROW.toList.take (n + 1))) ++ cs ++ List.drop (i + 1 + cs.length) (List.take i (ROW.toList.take (n + 1)) ++ [Value.int .i64 y] ++ List.drop (i + [Value.int .i64 y].length) (ROW.toList.take (n + 1))) = (xs.take i ++ y :: xs.drop i).map (Value.int .i64) := by
    have e1 : List.take i (ROW.toList.take (n + 1)) = bs := by rw [List.take_take, Nat.min_eq_left (by omega)]; exact hRt
    have e3 : List.drop (i + 1 + cs.length) (bs ++ [Value.int .i64 y] ++ List.drop (i + [Value.int .i64 y].length) (ROW.toList.take (n + 1))) = [] := List.drop_eq_nil_of_le (by simp; omega)
    rw [e1, e3, List.append_nil, List.take_left' (by simp; omega), hasd.out, hcsd.out]
    simp
  rw [hfin] at o2
  have hgo : OwnI ((W1.setCells w.heap.size i [Value.int .i64 y]).drew.setCells w.heap.size (i + 1) cs) base (.slice (some ⟨w.heap.size, 0, none⟩) (n + 1) G) (xs.take i ++ y :: xs.drop i) := by
    unfold OwnI
    rw [show (xs.take i ++ y :: xs.drop i).length = n + 1 by rw [hn.out]; simp; omega]
    exact own_low' o2 hbw
  have hbb : Below w.heap.size w ((W1.setCells w.heap.size i [Value.int .i64 y]).drew.setCells w.heap.size (i + 1) cs) := hbW1.grown (grown_tr g1 (grown_tr (grown_drew _ _) g2)) hbW1.size (fun k e => by cases e; exact Nat.le_refl _)
  have hN : ∀ j, j < n + 1 → (W1.cell? ⟨w.heap.size, j, none⟩).isSome = true := fun j hj => own_isSome hob hj
  have hNf : ∀ j, W1.frozen? ⟨w.heap.size, j, none⟩ = false := fun j => hob.frozenAt j
  have hOb : ∀ j u, w.cell? ⟨g, j, none⟩ = some u → W1.cell? ⟨g, j, none⟩ = some u := fun j u h => (hbW1.cell (p := ⟨g, j, none⟩) hgw).trans h
  have hOv : ∀ j u, w.cell? ⟨vb, j, none⟩ = some u → W1.cell? ⟨vb, j, none⟩ = some u := fun j u h => (hbW1.cell (p := ⟨vb, j, none⟩) hvw).trans h
  have hcpA : ∀ (W : World), (∀ x, W.cell? x = W1.cell? x) → (∀ x, W.frozen? x = W1.frozen? x) → ∀ ty dc, (Builtin.copy_ #[24, 24] ty #[.slice (some ⟨w.heap.size, i, none⟩) (n + 1 - i) dc, .slice (some ⟨vb, 0, none⟩) 1 1]).run Try.prog W = .ok (goInt [Value.int .i64 y].length) (W.setCells w.heap.size i [Value.int .i64 y]) := fun W hWc hWf ty dc =>
    run_copy_cells W _ _ ty 2 w.heap.size i (n + 1 - i) dc ⟨vb, 0, none⟩ 1 1 [Value.int .i64 y] under_ints hsz (by simp only [List.length_singleton, Nat.min_def]; split <;> omega)
      (fun j u hj => by rw [Addr.add_lit, hWc]; exact hOv _ u (hvc j u hj))
      (fun j hj => by rw [hWc]; exact hN _ (by simp at hj; omega)) (fun j hj => by rw [hWf]; exact hNf _) h1v
  obtain ⟨W2, hW2⟩ : ∃ W2, Hid (W2 = W1.setCells w.heap.size i [Value.int .i64 y]) := ⟨_, rfl⟩
  have hgN : g ≠ w.heap.size := by omega
  have hcpB : ∀ (W : World), (∀ x, W.cell? x = W2.cell? x) → (∀ x, W.frozen? x = W2.frozen? x) → ∀ ty dc sc, (Builtin.copy_ #[24, 24] ty #[.slice (some ⟨w.heap.size, i + 1, none⟩) (n - i) dc, .slice (some ⟨g, i, none⟩) (n - i) sc]).run Try.prog W = .ok (goInt cs.length) (W.setCells w.heap.size (i + 1) cs) := fun W hWc hWf ty dc sc =>
    run_copy_cells W _ _ ty 2 w.heap.size (i + 1) (n - i) dc ⟨g, i, none⟩ (n - i) sc cs under_ints hsz (by rw [hcl]; simp only [Nat.min_def]; split <;> omega)
      (fun j u hj => by
        rw [Addr.add_lit, hWc, hW2.out, World.cell?_setCells_out _ _ _ _ _ (fun h _ => absurd h hgN)]
        have := hc j u hj
        rw [Nat.zero_add] at this
        exact hOb _ u this)
      (fun j hj => by rw [hWc, hW2.out]; exact own_isSome o1 (by omega))
      (fun j hj => by rw [hWf, hW2.out]; exact o1.frozenAt _) h1c
  have mixed : Try.prog.follows Departure.mixedOrders = true := by kernel_rfl
  unfold maxLen at hG63 hcm
  have hz2 : ¬ ((i : Int) = (n : Int)) := by omega
  have hz3 : (cap : Int) < (n : Int) + 1 := by omega
  have hGi : ¬ (G = i) := by omega
  have hGim : ¬ (G = i + 1) := by omega
  have hci : ¬ (cap = i) := by omega
  have hw1 : IntKind.i64.wrap ((i : Int) + 1) = (i : Int) + 1 := by rw [IntKind.wrap_i64]; omega
  have hw2 : IntKind.i64.wrap ((n : Int) + 1) = (n : Int) + 1 := by rw [IntKind.wrap_i64]; omega
  have hw3 : IntKind.i64.wrap ((n : Int) + 1 - (i : Int)) = (n : Int) + 1 - (i : Int) := by rw [IntKind.wrap_i64]; omega
  have hb1 : (0 : Int) ≤ (i : Int) + 1 := by omega
  have hin : i ≤ n := by omega
  have htn : ((i : Int) + 1).toNat = i + 1 := by omega
  have hb3 : (i : Int) ≤ (n : Int) := by omega
  have hb6 : (i : Int) + 1 ≤ (n : Int) + 1 := by omega
  have hb7 : (i : Int) ≤ (n : Int) + 1 := by omega
  rw [hW2.out] at hcpB
  have hF1 : ∀ x, ((W1.setCells w.heap.size i [Value.int .i64 y]).drew).cell? x = (W1.setCells w.heap.size i [Value.int .i64 y]).cell? x := fun _ => rfl
  have hF2 : ∀ x, ((W1.setCells w.heap.size i [Value.int .i64 y]).drew).frozen? x = (W1.setCells w.heap.size i [Value.int .i64 y]).frozen? x := fun _ => rfl
  replace hgo := (show Hid _ from hgo)
  replace hbb := (show Hid _ from hbb)
  clear hW2 hW1 hROW hG hRs hRt hob hbW1 o1 g1 o2 g2 hfin hN hNf hOb hOv hold hc h1c h1v hvc hown ho hgc hcs hcsd hasd hal hv hkk hik hgw hvw
  go_enter Try.func49, Try.ntmps49
  go_wp2_with (first
    | (at_builtin; refine Lib.wpList_append_run _ rfl _ _ _ _ rfl _ _ rfl rfl _ _ (hrz _) ?_)
    | (at_builtin; refine wpList_copy_runJ _ rfl _ _ 24 24 rfl _ _ rfl rfl (hcpA _ (fun _ => rfl) (fun _ => rfl) _ _) ?_))
  go_region_law_o (refine step_copy_runJ rfl _ _ 24 24 rfl (.slice (some ⟨w.heap.size, i + 1, none⟩) (n - i) (G - (i + 1))) (.slice (some ⟨g, i, none⟩) (n - i) (cap - i)) (by simp [Act.eval, Act.put]) (by simp [Act.eval, Act.put]) (hcpB _ hF1 hF2 3 (G - (i + 1)) (cap - i)) ?_)
  go_wp2
  go_ret
  exact ⟨_, rfl, hgo.out, hbb.out⟩
/-- Anywhere. -/
theorem insert_any (v : Value) (i : Nat) (ho : OwnI w base v xs) (hb : base ≤ w.heap.size) (hl : xs.length ≤ 1000000) (hi : i ≤ xs.length) (hv : w.heap[vb]? = some (.cells #[.int .i64 y] 2 (0, 0))) (hne : v.ownBlock ≠ some vb) :
    Calls Try.prog 49 #[v, .int .i64 i, .slice (some ⟨vb, 0, none⟩) 1 1] w fun e w' => ∃ g cap, e = .returned (.slice (some ⟨g, 0, none⟩) (xs.length + 1) cap) ∧ OwnI w' base (.slice (some ⟨g, 0, none⟩) (xs.length + 1) cap) (xs.take i ++ y :: xs.drop i) ∧ w.grownBy w' v.ownBlock ∧ (v.ownBlock = some g ∨ w.heap.size ≤ g) := by
  by_cases h : i = xs.length
  · subst h
    simp only [List.take_length, List.drop_length]
    exact insert_end base xs y vb w v ho hb hl hv
  · obtain ⟨g, cap, rfl, _, _⟩ := World.ownsRow.form (show w.ownsRow base 2 1 v xs.length (xs.map (Value.int .i64)) from ho) (by omega)
    by_cases hr : xs.length + 1 ≤ cap
    · refine (insert_room base xs y vb w g cap i ho (by omega) hr hv (fun e => hne (by rw [e]; rfl))).mono ?_
      rintro e w' ⟨rfl, h1, h2⟩
      exact ⟨g, cap, rfl, h1, h2, .inl rfl⟩
    · refine (insert_grow base xs y vb w g cap i ho hb hl (by omega) (by omega) hv).mono ?_
      rintro e w' ⟨cap', rfl, h1, h2⟩
      exact ⟨_, cap', rfl, h1, ⟨h2.os, h2.tape, h2.output, h2.size, fun k hk _ => h2.block k hk⟩, .inr (Nat.le_refl _)⟩
end
end Go.Proofs.Ytokoohmakjabnaa
namespace Go.Proofs.Ytokoohmakjabnaa
def edD (t : Bool) (x y : Nat → Int) : Nat → Nat → Int
  | 0, j => j
  | i + 1, 0 => (i : Int) + 1
  | i + 1, j + 1 =>
    if x i = y j then edD t x y i j
    else 1 + (if t then min (edD t x y i j) (min (edD t x y i (j + 1)) (edD t x y (i + 1) j)) else min (edD t x y i (j + 1)) (edD t x y (i + 1) j))
termination_by i j => i + j
theorem edD_0 (t : Bool) (x y : Nat → Int) (j : Nat) : edD t x y 0 j = j := by cases j <;> simp [edD]
theorem edD_i0 (t : Bool) (x y : Nat → Int) (i : Nat) : edD t x y i 0 = i := by cases i <;> simp [edD]
theorem edD_eq (t : Bool) (x y : Nat → Int) (i j : Nat) (h : x i = y j) : edD t x y (i + 1) (j + 1) = edD t x y i j := by rw [edD, if_pos h]
theorem edD_ne (t : Bool) (x y : Nat → Int) (i j : Nat) (h : ¬ x i = y j) : edD t x y (i + 1) (j + 1) = 1 + (if t then min (edD t x y i j) (min (edD t x y i (j + 1)) (edD t x y (i + 1) j)) else min (edD t x y i (j + 1)) (edD t x y (i + 1) j)) := by rw [edD, if_neg h]
/-- An induction over both. -/
theorem ed_ind (C : Nat → Nat → Prop) (h0 : ∀ j, C 0 j) (h1 : ∀ i, C i 0) (h2 : ∀ i j, C i j → C i (j + 1) → C (i + 1) j → C (i + 1) (j + 1)) : ∀ i j, C i j := by
  intro i
  induction i with
  | zero => exact h0
  | succ i ih =>
    intro j
    induction j with
    | zero => exact h1 _
    | succ j jh => exact h2 i j (ih j) (ih (j + 1)) jh
theorem edD_bd (t : Bool) (x y : Nat → Int) : ∀ i j, 0 ≤ edD t x y i j ∧ edD t x y i j ≤ i + j := by
  refine ed_ind _ (fun j => by rw [edD_0]; omega) (fun i => by rw [edD_i0]; omega) (fun i j h1 h2 h3 => ?_)
  by_cases h : x i = y j
  · rw [edD_eq t x y i j h]; omega
  · rw [edD_ne t x y i j h]; cases t <;> simp only [if_true, if_false, Bool.false_eq_true] <;> omega
/-- A row of distances has one that is no more than what lies further down. -/
theorem edD_row (t : Bool) (x y : Nat → Int) (i : Nat) : ∀ j, ∃ k, k ≤ j ∧ edD t x y i k ≤ edD t x y (i + 1) j := by
  intro j
  induction j with
  | zero => exact ⟨0, Nat.le_refl _, by rw [edD_i0, edD_i0]; omega⟩
  | succ j ih =>
    obtain ⟨k, hk, hle⟩ := ih
    by_cases h : x i = y j
    · exact ⟨j, by omega, by rw [edD_eq t x y i j h]; omega⟩
    · rw [edD_ne t x y i j h]
      cases t
      · simp only [if_false, Bool.false_eq_true]
        by_cases h1 : edD false x y i (j + 1) ≤ edD false x y (i + 1) j
        · exact ⟨j + 1, by omega, by omega⟩
        · exact ⟨k, by omega, by omega⟩
      · simp only [if_true]
        by_cases h0 : edD true x y i j ≤ min (edD true x y i (j + 1)) (edD true x y (i + 1) j)
        · exact ⟨j, by omega, by omega⟩
        · by_cases h1 : edD true x y i (j + 1) ≤ edD true x y (i + 1) j
          · exact ⟨j + 1, by omega, by omega⟩
          · exact ⟨k, by omega, by omega⟩
theorem edD_rows (t : Bool) (x y : Nat → Int) (i : Nat) : ∀ d j, ∃ k, k ≤ j ∧ edD t x y i k ≤ edD t x y (i + d) j := by
  intro d
  induction d with
  | zero => exact fun j => ⟨j, Nat.le_refl _, Int.le_refl _⟩
  | succ d ih =>
    intro j
    obtain ⟨k, hk, hle⟩ := edD_row t x y (i + d) j
    obtain ⟨k', hk', hle'⟩ := ih k
    exact ⟨k', by omega, by rw [← Nat.add_assoc]; omega⟩
/-- A distance within a limit; 160 stands for all that lie beyond. -/
def edC (l d : Int) : Int := if d ≤ l then d else 160
/-- What a place of the rows is made of, where those ahead of it are cut at a limit. -/
def edS (t : Bool) (x y : Nat → Int) (R : Nat → Nat → Int) : Nat → Nat → Int
  | 0, 0 => 0
  | 0, j + 1 => min 160 (R 0 j + 1)
  | i + 1, 0 => min 160 (R i 0 + 1)
  | i + 1, j + 1 => if x i = y j then R i j else if t then min (min (min 160 (R i j + 1)) (R i (j + 1) + 1)) (R (i + 1) j + 1) else min (min 160 (R i (j + 1) + 1)) (R (i + 1) j + 1)
theorem edC_min (l a : Int) (h : 0 ≤ l ∧ l < 160) (ha : 0 ≤ a) : edC l (min 160 (edC l a + 1)) = edC l (a + 1) := by
  unfold edC; split <;> split <;> split <;> omega
/-- The rows, cut: what comes of cut ones, cut, is the distance cut. -/
theorem edS_cut (t : Bool) (x y : Nat → Int) (l : Int) (hl : 0 ≤ l ∧ l < 160) (R : Nat → Nat → Int) (i j : Nat) (hR : ∀ i' j', (i' < i ∧ j' ≤ j) ∨ (i' = i ∧ j' < j) → R i' j' = edC l (edD t x y i' j')) : edC l (edS t x y R i j) = edC l (edD t x y i j) := by
  cases i with
  | zero =>
    cases j with
    | zero => rw [edD_0]; rfl
    | succ j =>
      rw [edS, hR 0 j (by omega), edC_min l _ hl (edD_bd t x y 0 j).1, edD_0, edD_0]; congr 1
  | succ i =>
    cases j with
    | zero => rw [edS, hR i 0 (by omega), edC_min l _ hl (edD_bd t x y i 0).1, edD_i0, edD_i0]; congr 1
    | succ j =>
      have b1 := (edD_bd t x y i j).1
      have b2 := (edD_bd t x y i (j + 1)).1
      have b3 := (edD_bd t x y (i + 1) j).1
      rw [edS, hR i j (by omega)]
      by_cases h : x i = y j
      · rw [if_pos h, edD_eq t x y i j h]; unfold edC; split <;> simp_all <;> omega
      · rw [if_neg h, edD_ne t x y i j h, hR i (j + 1) (by omega), hR (i + 1) j (by omega)]
        generalize edD t x y i j = p at *
        generalize edD t x y i (j + 1) = q at *
        generalize edD t x y (i + 1) j = r at *
        cases t
        · simp only [if_false, Bool.false_eq_true]
          unfold edC; repeat' split
          all_goals omega
        · simp only [if_true]
          unfold edC; repeat' split
          all_goals omega
end Go.Proofs.Ytokoohmakjabnaa
namespace Go.Proofs.Ytokoohmakjabnaa
/-- The edits from a place of the table on: kind, place, value. -/
def edE (x y : Nat → Int) : Nat → Nat → List (Int × Int × Int)
  | 0, 0 => []
  | i + 1, 0 => (1, (i : Int), 0) :: edE x y i 0
  | 0, j + 1 => (2, 0, y j) :: edE x y 0 j
  | i + 1, j + 1 =>
    if x i = y j then edE x y i j
    else if edD true x y i j ≤ edD true x y i (j + 1) ∧ edD true x y i j ≤ edD true x y (i + 1) j then (3, (i : Int), y j) :: edE x y i j
    else if edD true x y i (j + 1) ≤ edD true x y (i + 1) j then (1, (i : Int), 0) :: edE x y i (j + 1)
    else (2, (i : Int) + 1, y j) :: edE x y (i + 1) j
termination_by i j => i + j
theorem edE_00 (x y : Nat → Int) : edE x y 0 0 = [] := by rw [edE]
theorem edE_i0 (x y : Nat → Int) (i : Nat) : edE x y (i + 1) 0 = (1, (i : Int), 0) :: edE x y i 0 := by rw [edE]
theorem edE_0j (x y : Nat → Int) (j : Nat) : edE x y 0 (j + 1) = (2, 0, y j) :: edE x y 0 j := by rw [edE]
theorem edE_eq (x y : Nat → Int) (i j : Nat) (h : x i = y j) : edE x y (i + 1) (j + 1) = edE x y i j := by rw [edE, if_pos h]
theorem edE_turn (x y : Nat → Int) (i j : Nat) (h : ¬ x i = y j) (h1 : edD true x y i j ≤ edD true x y i (j + 1) ∧ edD true x y i j ≤ edD true x y (i + 1) j) : edE x y (i + 1) (j + 1) = (3, (i : Int), y j) :: edE x y i j := by rw [edE, if_neg h, if_pos h1]
theorem edE_take (x y : Nat → Int) (i j : Nat) (h : ¬ x i = y j) (h1 : ¬ (edD true x y i j ≤ edD true x y i (j + 1) ∧ edD true x y i j ≤ edD true x y (i + 1) j)) (h2 : edD true x y i (j + 1) ≤ edD true x y (i + 1) j) : edE x y (i + 1) (j + 1) = (1, (i : Int), 0) :: edE x y i (j + 1) := by rw [edE, if_neg h, if_neg h1, if_pos h2]
theorem edE_put (x y : Nat → Int) (i j : Nat) (h : ¬ x i = y j) (h1 : ¬ (edD true x y i j ≤ edD true x y i (j + 1) ∧ edD true x y i j ≤ edD true x y (i + 1) j)) (h2 : ¬ edD true x y i (j + 1) ≤ edD true x y (i + 1) j) : edE x y (i + 1) (j + 1) = (2, (i : Int) + 1, y j) :: edE x y (i + 1) j := by rw [edE, if_neg h, if_neg h1, if_neg h2]
/-- As many edits as the distance tells. -/
theorem edE_len (x y : Nat → Int) : ∀ i j, ((edE x y i j).length : Int) = edD true x y i j := by
  intro i
  induction i with
  | zero =>
    intro j
    induction j with
    | zero => rw [edE_00, edD_0]; rfl
    | succ j jh => rw [edE_0j, edD_0, List.length_cons]; rw [edD_0] at jh; omega
  | succ i ih =>
    intro j
    induction j with
    | zero => rw [edE_i0, edD_i0, List.length_cons]; have := ih 0; rw [edD_i0] at this; omega
    | succ j jh =>
      have h1 := ih j
      have h2 := ih (j + 1)
      by_cases h : x i = y j
      · rw [edE_eq x y i j h, edD_eq _ x y i j h]; exact h1
      · rw [edD_ne _ x y i j h]
        simp only [if_true]
        by_cases c1 : edD true x y i j ≤ edD true x y i (j + 1) ∧ edD true x y i j ≤ edD true x y (i + 1) j
        · rw [edE_turn x y i j h c1, List.length_cons]; omega
        · by_cases c2 : edD true x y i (j + 1) ≤ edD true x y (i + 1) j
          · rw [edE_take x y i j h c1 c2, List.length_cons]; omega
          · rw [edE_put x y i j h c1 c2, List.length_cons]; omega
/-- What the program asks of the three, where the last numbers differ. -/
theorem edD_less (x y : Nat → Int) (i j : Nat) (h : ¬ x i = y j) : (edD true x y i j < edD true x y (i + 1) (j + 1) ↔ (edD true x y i j ≤ edD true x y i (j + 1) ∧ edD true x y i j ≤ edD true x y (i + 1) j)) ∧ (¬ (edD true x y i j ≤ edD true x y i (j + 1) ∧ edD true x y i j ≤ edD true x y (i + 1) j) → (edD true x y i (j + 1) < edD true x y (i + 1) (j + 1) ↔ edD true x y i (j + 1) ≤ edD true x y (i + 1) j)) ∧ (¬ (edD true x y i j ≤ edD true x y i (j + 1) ∧ edD true x y i j ≤ edD true x y (i + 1) j) → ¬ edD true x y i (j + 1) ≤ edD true x y (i + 1) j → edD true x y (i + 1) j < edD true x y (i + 1) (j + 1)) := by
  rw [edD_ne _ x y i j h]
  simp only [if_true]
  omega
theorem edC_less (l d e : Int) (hd : d ≤ l) (hl : l < 160) : edC l e < d ↔ e < d := by
  unfold edC; split <;> omega
/-- Edits as numbers, one behind the other. -/
def edV (es : List (Int × Int × Int)) : List Int := es.flatMap fun e => [e.1, e.2.1, e.2.2]
theorem edV_snoc (es : List (Int × Int × Int)) (k a v : Int) : edV (es ++ [(k, a, v)]) = edV es ++ [k, a, v] := by simp [edV]
end Go.Proofs.Ytokoohmakjabnaa
namespace Go.Proofs.Ytokoohmakjabnaa
/-- The three ways: a step's kind, and how many numbers fewer it leaves. -/
def wayN (k : Nat) : Int × Nat × Nat := match k with
  | 0 => (3, 1, 1)
  | 1 => (1, 1, 0)
  | _ => (2, 0, 1)
/-- Way k leads on. -/
def choN (x y : Nat → Int) (i j k : Nat) : Prop := (wayN k).2.1 ≤ i ∧ (wayN k).2.2 ≤ j ∧ edD true x y (i - (wayN k).2.1) (j - (wayN k).2.2) < edD true x y i j
theorem edE_way (x y : Nat → Int) (i j k : Nat) (hk : k < 3) (hne : ∀ i1 j1, i = i1 + 1 → j = j1 + 1 → ¬ x i1 = y j1) (hc : choN x y i j k) (hmin : ∀ k', k' < k → ¬ choN x y i j k') :
    edE x y i j = ((wayN k).1, ((i - (wayN k).2.1 : Nat) : Int), if (wayN k).2.2 = 0 then 0 else y (j - 1)) :: edE x y (i - (wayN k).2.1) (j - (wayN k).2.2) := by
  match k, hk with
  | 0, _ =>
    obtain ⟨h1, h2, h3⟩ := hc
    simp only [wayN] at h1 h2 h3 ⊢
    obtain ⟨i1, rfl⟩ : ∃ i1, i = i1 + 1 := ⟨i - 1, by omega⟩
    obtain ⟨j1, rfl⟩ : ∃ j1, j = j1 + 1 := ⟨j - 1, by omega⟩
    rw [Nat.add_sub_cancel, Nat.add_sub_cancel] at h3 ⊢
    have hn := hne i1 j1 rfl rfl
    rw [edE_turn x y i1 j1 hn ((edD_less x y i1 j1 hn).1.1 h3)]
    rfl
  | 1, _ =>
    obtain ⟨h1, h2, h3⟩ := hc
    have h0 := hmin 0 (by omega)
    simp only [choN, wayN] at h0 h1 h2 h3 ⊢
    obtain ⟨i1, rfl⟩ : ∃ i1, i = i1 + 1 := ⟨i - 1, by omega⟩
    rw [Nat.add_sub_cancel, Nat.sub_zero] at *
    cases j with
    | zero => rw [edE_i0]; rfl
    | succ j1 =>
      have hn := hne i1 j1 rfl rfl
      have hl := edD_less x y i1 j1 hn
      have h5 : ¬ (edD true x y i1 j1 ≤ edD true x y i1 (j1 + 1) ∧ edD true x y i1 j1 ≤ edD true x y (i1 + 1) j1) := fun q => h0 ⟨by omega, by omega, by rw [Nat.add_sub_cancel]; exact hl.1.2 q⟩
      rw [edE_take x y i1 j1 hn h5 ((hl.2.1 h5).1 h3)]
      rfl
  | 2, _ =>
    obtain ⟨h1, h2, h3⟩ := hc
    have h0 := hmin 0 (by omega)
    have h4 := hmin 1 (by omega)
    simp only [choN, wayN] at h0 h1 h2 h3 h4 ⊢
    obtain ⟨j1, rfl⟩ : ∃ j1, j = j1 + 1 := ⟨j - 1, by omega⟩
    rw [Nat.add_sub_cancel, Nat.sub_zero] at *
    cases i with
    | zero => rw [edE_0j]; rfl
    | succ i1 =>
      have hn := hne i1 j1 rfl rfl
      have hl := edD_less x y i1 j1 hn
      have h5 : ¬ (edD true x y i1 j1 ≤ edD true x y i1 (j1 + 1) ∧ edD true x y i1 j1 ≤ edD true x y (i1 + 1) j1) := fun q => h0 ⟨by omega, by omega, by rw [Nat.add_sub_cancel]; exact hl.1.2 q⟩
      have h6 : ¬ edD true x y i1 (j1 + 1) ≤ edD true x y (i1 + 1) j1 := fun q => h4 ⟨by omega, by omega, by rw [Nat.add_sub_cancel]; exact (hl.2.1 h5).2 q⟩
      rw [edE_put x y i1 j1 hn h5 h6]
      rfl
theorem edE_some (x y : Nat → Int) (i j : Nat) (h : 0 < i ∨ 0 < j) (hne : ∀ i1 j1, i = i1 + 1 → j = j1 + 1 → ¬ x i1 = y j1) (hn : ∀ k, k < 3 → ¬ choN x y i j k) : False := by
  have h0 := hn 0 (by omega)
  have h1 := hn 1 (by omega)
  have h2 := hn 2 (by omega)
  simp only [choN, wayN] at h0 h1 h2
  cases i with
  | zero =>
    cases j with
    | zero => omega
    | succ j1 => exact h2 ⟨by omega, by omega, by rw [edD_0, edD_0]; omega⟩
  | succ i1 =>
    cases j with
    | zero => exact h1 ⟨by omega, by omega, by rw [edD_i0, edD_i0]; omega⟩
    | succ j1 =>
      have hq := hne i1 j1 rfl rfl
      have hl := edD_less x y i1 j1 hq
      rw [Nat.add_sub_cancel, Nat.add_sub_cancel] at h0
      rw [Nat.add_sub_cancel, Nat.sub_zero] at h1 h2
      by_cases c1 : edD true x y i1 j1 ≤ edD true x y i1 (j1 + 1) ∧ edD true x y i1 j1 ≤ edD true x y (i1 + 1) j1
      · exact h0 ⟨by omega, by omega, hl.1.2 c1⟩
      · by_cases c2 : edD true x y i1 (j1 + 1) ≤ edD true x y (i1 + 1) j1
        · exact h1 ⟨by omega, by omega, (hl.2.1 c1).2 c2⟩
        · exact h2 ⟨by omega, by omega, hl.2.2 c1 c2⟩
end Go.Proofs.Ytokoohmakjabnaa
namespace Go.Proofs.Ytokoohmakjabnaa
/-- One edit (kind, place, value) done. -/
def edOne (l : List Int) (e : Int × Int × Int) : Option (List Int) :=
  if e.1 = 1 then (if 0 ≤ e.2.1 ∧ e.2.1 < l.length then some (l.take e.2.1.toNat ++ l.drop (e.2.1.toNat + 1)) else none)
  else if e.1 = 2 then (if 0 ≤ e.2.1 ∧ e.2.1 ≤ l.length ∧ l.length < 80 then some (l.take e.2.1.toNat ++ e.2.2 :: l.drop e.2.1.toNat) else none)
  else if e.1 = 3 then (if 0 ≤ e.2.1 ∧ e.2.1 < l.length then some (l.set e.2.1.toNat e.2.2) else none)
  else none
def edRun : List Int → List (Int × Int × Int) → Option (List Int)
  | l, [] => some l
  | l, e :: es => (edOne l e).bind fun m => edRun m es
def edOut : Option (List Int) → List Int
  | none => []
  | some m => m
def edAll (xs : List Int) (es : List (Int × Int × Int)) : Option (List Int) := if xs.length ≤ 80 ∧ es.length ≤ 80 then edRun xs es else none
theorem edOne_take (l : List Int) (a v : Int) (h : 0 ≤ a ∧ a < l.length) : edOne l (1, a, v) = some (l.take a.toNat ++ l.drop (a.toNat + 1)) := by
  unfold edOne; rw [if_pos rfl, if_pos h]
theorem edOne_put (l : List Int) (a v : Int) (h : 0 ≤ a ∧ a ≤ l.length ∧ l.length < 80) : edOne l (2, a, v) = some (l.take a.toNat ++ v :: l.drop a.toNat) := by
  unfold edOne; rw [if_neg (show ¬ (2 : Int) = 1 by decide), if_pos rfl, if_pos h]
theorem edOne_turn (l : List Int) (a v : Int) (h : 0 ≤ a ∧ a < l.length) : edOne l (3, a, v) = some (l.set a.toNat v) := by
  unfold edOne; rw [if_neg (show ¬ (3 : Int) = 1 by decide), if_neg (show ¬ (3 : Int) = 2 by decide), if_pos rfl, if_pos h]
theorem edOne_take' (l : List Int) (a v : Int) (h : ¬ (0 ≤ a ∧ a < l.length)) : edOne l (1, a, v) = none := by
  unfold edOne; rw [if_pos rfl, if_neg h]
theorem edOne_put' (l : List Int) (a v : Int) (h : ¬ (0 ≤ a ∧ a ≤ l.length ∧ l.length < 80)) : edOne l (2, a, v) = none := by
  unfold edOne; rw [if_neg (show ¬ (2 : Int) = 1 by decide), if_pos rfl, if_neg h]
theorem edOne_turn' (l : List Int) (a v : Int) (h : ¬ (0 ≤ a ∧ a < l.length)) : edOne l (3, a, v) = none := by
  unfold edOne; rw [if_neg (show ¬ (3 : Int) = 1 by decide), if_neg (show ¬ (3 : Int) = 2 by decide), if_pos rfl, if_neg h]
theorem edOne_none (l : List Int) (k a v : Int) (h1 : ¬ k = 1) (h2 : ¬ k = 2) (h3 : ¬ k = 3) : edOne l (k, a, v) = none := by
  unfold edOne; rw [if_neg h1, if_neg h2, if_neg h3]
theorem edOne_len {l m : List Int} {e : Int × Int × Int} (h : l.length ≤ 80) (he : edOne l e = some m) : m.length ≤ 80 := by
  unfold edOne at he
  split at he
  · split at he
    · cases he; simp; omega
    · cases he
  · split at he
    · split at he
      · cases he; simp; omega
      · cases he
    · split at he
      · split at he
        · cases he; simp; omega
        · cases he
      · cases he
theorem edRun_cons (l : List Int) (e : Int × Int × Int) (es : List (Int × Int × Int)) : edRun l (e :: es) = (edOne l e).bind fun m => edRun m es := rfl
theorem edRun_len : ∀ (es : List (Int × Int × Int)) (l m : List Int), l.length ≤ 80 → edRun l es = some m → m.length ≤ 80
  | [], l, m, h, he => by cases he; exact h
  | e :: es, l, m, h, he => by
    rw [edRun_cons] at he
    cases h1 : edOne l e with
    | none => rw [h1] at he; cases he
    | some k => rw [h1] at he; exact edRun_len es k m (edOne_len h h1) he
theorem edAll_len (xs : List Int) (es : List (Int × Int × Int)) : (edOut (edAll xs es)).length ≤ 80 := by
  unfold edAll
  split
  · rename_i h
    cases h1 : edRun xs es with
    | none => simp [edOut]
    | some m => exact edRun_len es xs m h.1 h1
  · simp [edOut]
theorem take_last (xs : List Int) (i : Nat) (h : i < xs.length) : xs.take (i + 1) = xs.take i ++ [xs.getD i 0] := by
  rw [List.take_add_one, List.getElem?_eq_getElem h]; simp [h]
theorem drop_first (ys : List Int) (j : Nat) (h : j < ys.length) : ys.drop j = ys.getD j 0 :: ys.drop (j + 1) := by
  rw [List.drop_eq_getElem_cons h]; simp [h]
/-- What the edits from a place on make of the first numbers of one list and the last ones of the other. -/
theorem edRun_edE (xs ys : List Int) (hx : xs.length ≤ 40) (hy : ys.length ≤ 40) : ∀ i j, i ≤ xs.length → j ≤ ys.length → edRun (xs.take i ++ ys.drop j) (edE (fun k => xs.getD k 0) (fun k => ys.getD k 0) i j) = some ys := by
  have h0 : ∀ j, j ≤ ys.length → edRun (ys.drop j) (edE (fun k => xs.getD k 0) (fun k => ys.getD k 0) 0 j) = some ys := by
    intro j
    induction j with
    | zero => intro _; rw [edE_00]; simp [edRun]
    | succ j ih =>
      intro h
      rw [edE_0j, edRun_cons, edOne_put _ _ _ (by simp; omega)]
      have h2 := ih (by omega)
      rw [drop_first ys j (by omega)] at h2
      simpa using h2
  have hi : ∀ i, i ≤ xs.length → edRun (xs.take i ++ ys) (edE (fun k => xs.getD k 0) (fun k => ys.getD k 0) i 0) = some ys := by
    intro i
    induction i with
    | zero => intro _; rw [edE_00]; simp [edRun]
    | succ i ih =>
      intro h
      have hl : (xs.take i).length = i := by simp; omega
      rw [edE_i0, edRun_cons, take_last xs i (by omega), edOne_take _ _ _ (by simp; omega)]
      have h2 := ih (by omega)
      have e1 : (xs.take i ++ [xs.getD i 0] ++ ys).take ((i : Int).toNat) = xs.take i := by
        rw [Int.toNat_natCast, List.append_assoc, List.take_append_of_le_length (by omega), List.take_of_length_le (by omega)]
      have e2 : (xs.take i ++ [xs.getD i 0] ++ ys).drop ((i : Int).toNat + 1) = ys := by
        rw [Int.toNat_natCast, List.drop_append_of_le_length (by simp; omega)]
        simp [hl]
      rw [e1, e2]
      exact h2
  intro i j
  refine ed_ind (fun i j => i ≤ xs.length → j ≤ ys.length → edRun (xs.take i ++ ys.drop j) (edE (fun k => xs.getD k 0) (fun k => ys.getD k 0) i j) = some ys) ?_ ?_ ?_ i j
  · intro j _ h
    simpa using h0 j h
  · intro i h _
    simpa using hi i h
  · intro i j c1 c2 c3 h1 h2
    have hl : (xs.take i).length = i := by simp; omega
    have q1 := c1 (by omega) (by omega)
    have q2 := c2 (by omega) (by omega)
    have q3 := c3 (by omega) (by omega)
    rw [drop_first ys j (by omega)] at q1
    by_cases h : xs.getD i 0 = ys.getD j 0
    · rw [edE_eq _ _ i j h, take_last xs i (by omega), h]
      simpa using q1
    · by_cases t1 : edD true (fun k => xs.getD k 0) (fun k => ys.getD k 0) i j ≤ edD true (fun k => xs.getD k 0) (fun k => ys.getD k 0) i (j + 1) ∧ edD true (fun k => xs.getD k 0) (fun k => ys.getD k 0) i j ≤ edD true (fun k => xs.getD k 0) (fun k => ys.getD k 0) (i + 1) j
      · rw [edE_turn _ _ i j h t1, edRun_cons, take_last xs i (by omega), edOne_turn _ _ _ (by simp; omega)]
        have e1 : (xs.take i ++ [xs.getD i 0] ++ ys.drop (j + 1)).set ((i : Int).toNat) (ys.getD j 0) = xs.take i ++ ys.getD j 0 :: ys.drop (j + 1) := by
          rw [Int.toNat_natCast, List.append_assoc, List.set_append_right _ _ (by omega), hl]
          simp
        show edRun _ _ = _
        rw [e1]
        exact q1
      · by_cases t2 : edD true (fun k => xs.getD k 0) (fun k => ys.getD k 0) i (j + 1) ≤ edD true (fun k => xs.getD k 0) (fun k => ys.getD k 0) (i + 1) j
        · rw [edE_take _ _ i j h t1 t2, edRun_cons, take_last xs i (by omega), edOne_take _ _ _ (by simp; omega)]
          have e1 : (xs.take i ++ [xs.getD i 0] ++ ys.drop (j + 1)).take ((i : Int).toNat) = xs.take i := by
            rw [Int.toNat_natCast, List.append_assoc, List.take_append_of_le_length (by omega), List.take_of_length_le (by omega)]
          have e2 : (xs.take i ++ [xs.getD i 0] ++ ys.drop (j + 1)).drop ((i : Int).toNat + 1) = ys.drop (j + 1) := by
            rw [Int.toNat_natCast, List.drop_append_of_le_length (by simp; omega)]
            simp [hl]
          show edRun _ _ = _
          rw [e1, e2]
          exact q2
        · have hl2 : (xs.take (i + 1)).length = i + 1 := by simp; omega
          rw [edE_put _ _ i j h t1 t2, edRun_cons, edOne_put _ _ _ (by simp; omega)]
          have e1 : ((i : Int) + 1).toNat = i + 1 := by omega
          have e2 : (xs.take (i + 1) ++ ys.drop (j + 1)).take (i + 1) = xs.take (i + 1) := by
            rw [List.take_append_of_le_length (by omega), List.take_of_length_le (by omega)]
          have e3 : (xs.take (i + 1) ++ ys.drop (j + 1)).drop (i + 1) = ys.drop (j + 1) := by
            rw [List.drop_append_of_le_length (by omega), List.drop_of_length_le (by omega)]
            rfl
          show edRun _ _ = _
          rw [e1, e2, e3]
          rw [drop_first ys j (by omega)] at q3
          exact q3
/-- As many edits as the distance tells make the one list the other. -/
theorem edRun_all (xs ys : List Int) (hx : xs.length ≤ 40) (hy : ys.length ≤ 40) : edRun xs (edE (fun k => xs.getD k 0) (fun k => ys.getD k 0) xs.length ys.length) = some ys := by
  have h := edRun_edE xs ys hx hy xs.length ys.length (Nat.le_refl _) (Nat.le_refl _)
  simpa using h
end Go.Proofs.Ytokoohmakjabnaa
namespace Go.Proofs.Ytokoohmakjabnaa
open Go.ChangeShapes Go.WideShapes Go.ChangeAt Go.RowKit
theorem wid {x y : Int} (h : x = y) (h1 : -9223372036854775808 ≤ x) (h2 : x ≤ 9223372036854775807) : IntKind.i64.wrap x = y := by
  subst h; simp [IntKind.wrap, IntKind.bits, IntKind.signed]; omega
/-- A table of W numbers a row, filled up to a place. -/
def TabT (ys : List Value) (W m : Nat) (f : Nat → Nat → Int) (i j : Nat) : Prop :=
  ∀ i' j', j' < W → i' ≤ m → ys[i' * W + j']? = some (.int .i64 (if i' < i ∨ (i' = i ∧ j' < j) then f i' j' else 0))
theorem tab_lt {W m i j : Nat} (hi : i ≤ m) (hj : j < W) : i * W + j < (m + 1) * W := by
  have h1 : i * W ≤ m * W := Nat.mul_le_mul_right W hi
  have h2 : (m + 1) * W = m * W + W := by rw [Nat.add_mul]; simp
  omega
theorem tab_inj {W i j i' j' : Nat} (hj : j < W) (hj' : j' < W) (h : i * W + j = i' * W + j') : i = i' ∧ j = j' := by
  have hW : 0 < W := by omega
  have h1 : (i * W + j) / W = i := by rw [Nat.mul_comm, Nat.mul_add_div hW, Nat.div_eq_of_lt hj]; rfl
  have h2 : (i' * W + j') / W = i' := by rw [Nat.mul_comm, Nat.mul_add_div hW, Nat.div_eq_of_lt hj']; rfl
  have e : i = i' := by rw [← h1, ← h2, h]
  subst e
  exact ⟨rfl, by omega⟩
theorem TabT.zero (W m : Nat) (f : Nat → Nat → Int) : TabT (List.replicate ((m + 1) * W) (.int .i64 0)) W m f 0 0 := by
  intro i' j' hj hi
  have := tab_lt hi hj
  rw [if_neg (by omega)]
  simp [this]
theorem TabT.set {ys : List Value} {W m : Nat} {f : Nat → Nat → Int} {i j p : Nat} {x : Int} (h : TabT ys W m f i j) (hj : j < W) (hi : i ≤ m) (hp : p = i * W + j) (hl : ys.length = (m + 1) * W) (hx : x = f i j) : TabT (ys.set p (.int .i64 x)) W m f i (j + 1) := by
  subst hp; subst hx
  intro i' j' hj' hi'
  have hlt := tab_lt hi hj
  by_cases e : i' = i ∧ j' = j
  · obtain ⟨rfl, rfl⟩ := e
    rw [List.getElem?_set_self (by omega), if_pos (by omega)]
  · rw [List.getElem?_set_ne (fun q => e (by have := tab_inj hj hj' q; omega)), h i' j' hj' hi']
    have : (i' < i ∨ (i' = i ∧ j' < j + 1)) ↔ (i' < i ∨ (i' = i ∧ j' < j)) := by omega
    simp only [this]
theorem TabT.row {ys : List Value} {W m : Nat} {f : Nat → Nat → Int} {i : Nat} (h : TabT ys W m f i W) : TabT ys W m f (i + 1) 0 := by
  intro i' j' hj' hi'
  rw [h i' j' hj' hi']
  have : (i' < i + 1 ∨ (i' = i + 1 ∧ j' < 0)) ↔ (i' < i ∨ (i' = i ∧ j' < W)) := by omega
  simp only [this]
theorem TabT.at {ys : List Value} {W m : Nat} {f : Nat → Nat → Int} {i j : Nat} (h : TabT ys W m f i j) (i' j' : Nat) (hj' : j' < W) (hi' : i' ≤ m) (hd : i' < i ∨ (i' = i ∧ j' < j)) : ys[i' * W + j']? = some (.int .i64 (f i' j')) := by
  rw [h i' j' hj' hi', if_pos hd]
theorem l9Two_any (va vb : Value) (xs ys : List Int) (w : World) (ha : SlI w va xs) (hb : SlI w vb ys) :
    Calls Try.prog 36 #[va, vb] w fun e w' => e = .returned (.bool (decide (xs.length ≤ 40 ∧ ys.length ≤ 40))) ∧ w' = w := by
  obtain ⟨a, c, rfl, _⟩ := ha
  obtain ⟨a', c', rfl, _⟩ := hb
  obtain ⟨r, hr⟩ : ∃ r, Hid (decide (xs.length ≤ 40 ∧ ys.length ≤ 40) = r) := ⟨_, rfl⟩
  rw [hr.out]
  have hr2 : r = decide (xs.length ≤ 40 ∧ ys.length ≤ 40) := hr.out.symm
  generalize xs.length = m at *
  generalize ys.length = n at *
  clear hr
  go_enter Try.func36, Try.ntmps36
  by_cases h1 : m ≤ 40
  · have h1i : (m : Int) ≤ 40 := by omega
    by_cases h2 : n ≤ 40
    · have h2i : (n : Int) ≤ 40 := by omega
      have hr3 : r = true := by rw [hr2]; exact decide_eq_true ⟨h1, h2⟩
      subst hr3; clear hr2
      go_wp2
      go_ret
      exact ⟨rfl, rfl⟩
    · have h2i : ¬ (n : Int) ≤ 40 := by omega
      have hr3 : r = false := by rw [hr2]; exact decide_eq_false (by omega)
      subst hr3; clear hr2
      go_wp2
      go_ret
      exact ⟨rfl, rfl⟩
  · have h1i : ¬ (m : Int) ≤ 40 := by omega
    have hr3 : r = false := by rw [hr2]; exact decide_eq_false (by omega)
    subst hr3; clear hr2
    go_wp2
    go_ret
    exact ⟨rfl, rfl⟩
theorem l1Min_e (a b : Int) (w : World) :
    Calls Try.prog 50 #[.int .i64 a, .int .i64 b] w fun e w' => e = .returned (.int .i64 (min a b)) ∧ w' = w := by
  obtain ⟨m, hm⟩ : ∃ m, Hid (min a b = m) := ⟨_, rfl⟩
  rw [hm.out]
  go_enter Try.func50, Try.ntmps50
  by_cases h : a < b
  · have e : m = a := by rw [← hm.out]; omega
    subst e
    go_wp2
    go_ret
    exact ⟨rfl, rfl⟩
  · have e : m = b := by rw [← hm.out]; omega
    subst e
    go_wp2
    go_ret
    exact ⟨rfl, rfl⟩
end Go.Proofs.Ytokoohmakjabnaa
namespace Go.Proofs.Ytokoohmakjabnaa
open Go.ChangeShapes Go.WideShapes Go.ChangeAt Go.RowKit
theorem allReady_1 {P : Program} {ops : Array Oper} {Q : Exit → Act → World → Prop} {md : Region.Mode} {S : World → Prop} {fuel : Nat} {listed : Array Bool} {a : Act} {w : World} {i : Nat} {o : Oper} (ho : ops[i]? = some o) (hg : o.guard = none)
    (h : ∀ K' : Act → World → Prop, Shut (∀ a w, S w → (S w → wpAnyH P md ops Q S fuel (listed.setIfInBounds i true) a w) → K' a w) → Oper.wp P o a w K' Q) : AllReadyH P md ops Q S fuel listed a w [i] :=
  AllReadyH.cons ho (fun K' hK => by rw [if_pos (by simp [Region.wanted, hg])]; exact h K' hK) AllReadyH.nil
theorem cell_set_ne (w : World) (B p q : Nat) (u : Value) (h : q ≠ p) : (w.setCell ⟨B, p, none⟩ u).cell? ⟨B, q, none⟩ = w.cell? ⟨B, q, none⟩ :=
  World.cell?_setCell_other _ _ _ _ (fun e => by cases e; exact h rfl)
end Go.Proofs.Ytokoohmakjabnaa
namespace Go.Proofs.Ytokoohmakjabnaa
open Go.ChangeShapes Go.WideShapes Go.ChangeAt Go.RowKit
def Runes6 (l : List Int) : Prop := ∀ x ∈ l, runeOk x = true
theorem Runes6.tail {l : List Int} (h : Runes6 l) : Runes6 l.tail := fun x hx => h x (List.mem_of_mem_tail hx)
theorem Runes6.head {r : Int} {l : List Int} (h : Runes6 (r :: l)) : 0 ≤ r ∧ r ≤ 1114111 := runeOk_bd r (h r (List.mem_cons_self))
def acs (X : List Ax) : List Ac := X.map (·.a)
/-- The rune that comes next, of which nothing is done yet. -/
def NextR (p q : Pa) (l l' : List Int) (X X' : List Ax) (r : Int) : Prop :=
  (r = -1 ∧ l' = [] ∧ Fin p l (acs X) = Fin q [] (acs X')) ∨ (0 ≤ r ∧ runeOk r = true ∧ l'.length < l.length ∧ Fin p l (acs X) = Fin q (r :: l') (acs X'))
def Room (l l' : List Int) (X X' : List Ax) (r : Int) : Prop := (r = -1 → X'.length + l'.length ≤ X.length + l.length) ∧ (r ≠ -1 → X'.length + l'.length < X.length + l.length) ∧ Runes6 l'
/-- One rune is done with, and the next one comes. -/
theorem NextR.go {p q q' : Pa} {l l' : List Int} {X X' Y : List Ax} {r : Int} (h : NextR p q l l' X X' r) (hR : Room l l' X X' r) (h1 : r ≠ -1) (hs : (stepM q r).1 = q') (ha : acs Y = acs X' ++ (stepM q r).2) (hY : Y.length ≤ X'.length + 1) :
    NextR p q' l l'.tail X Y (l'.headD (-1)) ∧ Room l l'.tail X Y (l'.headD (-1)) := by
  obtain ⟨_, hR2, hR3⟩ := hR
  have hR2 := hR2 h1
  rcases h with ⟨h, _⟩ | ⟨h0, hk, hlt, he⟩
  · exact absurd h h1
  · rw [Fin_cons, hs, ← ha] at he
    cases l' with
    | nil => exact ⟨.inl ⟨rfl, rfl, he⟩, fun _ => by simp at hR2 ⊢; omega, fun h => absurd rfl h, hR3⟩
    | cons a l' =>
      have hl : (a :: l').length = l'.length + 1 := rfl
      exact ⟨.inr ⟨hR3.head.1, hR3 a (List.mem_cons_self), by simp; omega, he⟩, fun _ => by simp at hR2 ⊢; omega, fun _ => by simp at hR2 ⊢; omega, hR3.tail⟩
theorem NextR.end {p q : Pa} {l l' : List Int} {X X' : List Ax} (h : NextR p q l l' X X' (-1)) : l' = [] ∧ Fin p l (acs X) = Fin q [] (acs X') := by
  rcases h with ⟨_, h⟩ | ⟨h0, _⟩
  · exact h
  · omega
theorem NextR.more {p q : Pa} {l l' : List Int} {X X' : List Ax} {r : Int} (h : NextR p q l l' X X' r) (hr : r ≠ -1) : 0 ≤ r ∧ runeOk r = true ∧ l'.length < l.length ∧ Fin p l (acs X) = Fin q (r :: l') (acs X') := by
  rcases h with ⟨h, _⟩ | h
  · exact absurd h hr
  · exact h
theorem NextR.trans {p q q2 : Pa} {l l' l2 : List Int} {X X' X2 : List Ax} {r r2 : Int} (h : NextR p q l l' X X' r) (hR : Room l l' X X' r) (h1 : r ≠ -1) {Y : List Ax} (hs : (stepM q r).1 = q2) (ha : acs Y = acs X' ++ (stepM q r).2) (hY : Y.length ≤ X'.length + 1) {q3 : Pa}
    (k : NextR q2 q3 l' l2 Y X2 r2) (kR : Room l' l2 Y X2 r2) : NextR p q3 l l2 X X2 r2 ∧ Room l l2 X X2 r2 := by
  obtain ⟨h0, hk, hlt, he⟩ := h.more h1
  rw [Fin_cons, hs, ← ha] at he
  obtain ⟨_, hR2, hR3⟩ := hR
  have hR2 := hR2 h1
  obtain ⟨k1, k2, k3⟩ := kR
  refine ⟨?_, fun e => by have := k1 e; omega, fun e => by have := k2 e; omega, k3⟩
  rcases k with ⟨a, b, c⟩ | ⟨a, b, c, d⟩
  · exact .inl ⟨a, b, he.trans c⟩
  · exact .inr ⟨a, b, by omega, he.trans d⟩
end Go.Proofs.Ytokoohmakjabnaa
namespace Go.Proofs.Ytokoohmakjabnaa
open Go.ChangeShapes Go.WideShapes Go.ChangeAt Go.RowKit
set_option maxHeartbeats 400000 in
theorem like_same (va vb : Value) (xs : List Int) (w : World) (ha : SlI w va xs) (hb : SlI w vb xs) (hl : xs.length ≤ 1073741824) :
    Calls Try.prog 13 #[va, vb] w fun e w' => e = .returned (.bool true) ∧ ∃ n, w' = w.drewN n := by
  by_cases h0 : xs = []
  · subst h0
    obtain ⟨a, c, rfl, _⟩ := ha
    obtain ⟨a', c', rfl, _⟩ := hb
    go_enter Try.func13, Try.ntmps13
    go_wp2
    refine wp_loop_rounds 1 ?_
    rw [rounds_succ]
    go_wp2
    go_ret
    exact ⟨rfl, 0, rfl⟩
  · obtain ⟨_, c, rfl, e | ⟨b, off, rfl, _, hca⟩⟩ := ha
    · exact absurd e h0
    · obtain ⟨_, c', rfl, e | ⟨b', off', rfl, _, hcb⟩⟩ := hb
      · exact absurd e h0
      · generalize hn : xs.length = n at *
        clear h0 hn
        go_enter Try.func13, Try.ntmps13
        go_wp2
        go_loopw [5] (fun i wr => ∃ k : Nat, k ≤ n ∧ i = .int .i64 k ∧ ∃ m, wr = w.drewN m) (fun i _ => n - (intOf i).toNat)
        case atStart => exact ⟨0, Nat.zero_le _, rfl, 0, rfl⟩
        case round =>
          obtain ⟨k, hk, rfl, m, rfl⟩ := hrel
          by_cases hlt : k < n
          · have h1 : w.cell? ⟨b, off + k, none⟩ = some (.int .i64 (xs.getD k 0)) := hca k hlt
            have h2 : w.cell? ⟨b', off' + k, none⟩ = some (.int .i64 (xs.getD k 0)) := hcb k hlt
            have hi : (k : Int) < (n : Int) := by omega
            generalize xs.getD k 0 = x at *
            clear hca hcb
            go_wp2
            go_quiet (fail)
            go_wp2
            go_roundw
            case rel => exact ⟨k + 1, by omega, by go_num, m + nq, by simp⟩
            case measure => simp [intOf]; omega
          · go_wp2
            go_ret
            exact ⟨rfl, m, rfl⟩


/-- A slice whose cells hold these values, one a place: what append takes its news from. -/
def ReadsRow (w : World) (u : Value) (news : List Value) : Prop :=
  (u = .slice none 0 0 ∧ news = []) ∨ ∃ ad c, u = .slice (some ad) news.length c ∧ ∀ j x, news[j]? = some x → w.cell? (ad.add j) = some x
theorem ReadsRow.of_own {w : World} {base : Nat} {e : TypeId} {v : Value} {n : Nat} {xs : List Value} (h : w.ownsRow base e 1 v n xs) : ReadsRow w v xs := by
  have hl : xs.length = n := by simpa using h.1
  rcases h.2 with ⟨rfl, rfl⟩ | ⟨g, cap, cur, hv, _⟩
  · exact .inl ⟨rfl, List.eq_nil_of_length_eq_zero hl⟩
  · exact .inr ⟨⟨g, 0, none⟩, cap, by rw [hv, hl], h.cells (by rw [hv]; rfl)⟩
theorem ReadsRow.below {w w' : World} {u : Value} {news : List Value} (h : ReadsRow w u news) (hb : Below w.heap.size w w') : ReadsRow w' u news := by
  rcases h with h | ⟨ad, c, hu, hc⟩
  · exact .inl h
  · refine .inr ⟨ad, c, hu, fun j x hx => ?_⟩
    have h1 := hc j x hx
    exact (hb.cell (World.block_lt_of_cell? w _ h1)).trans h1
theorem append_any {P : Program} {w : World} {ops : Array Oper} {rest : List Oper} {o : Oper} {a : Act} {Q : Exit → Act → World → Prop} (hgd : o.guard = none) (s x : Operand) (t : TypeId)
    (ho : o.op = .call { callee := .builtin .append, args := #[s, x], argTypes := #[t, t] })
    (base : Nat) (e : TypeId) (i : TypeInfo) (z : Value) (bytes : Nat) (ht : P.underlying t = some (.slice e)) (hi : P.info? e = some i) (hz : i.zero = some z)
    (hsize : i.size = 1) (hby : i.bytes = bytes) (hzs : z.cells.size = 1)
    (v : Value) (n : Nat) (xs : List Value) (hs : a.eval s = v) (hown : w.ownsRow base e 1 v n xs)
    (u : Value) (news : List Value) (hx : a.eval x = u) (hr : ReadsRow w u news) (h1 : ∀ u ∈ news, u.oneCell' = true)
    (h63 : n + news.length ≤ maxLen) (hbytes : (n + news.length) * bytes ≤ 140737488355328) (hbase : base ≤ w.heap.size)
    (h : ∀ v' w', w'.ownsRow base e 1 v' (n + news.length) (xs ++ news) → w.grownBy w' v.ownBlock → wpList P ops Q rest (a.put o.dst v') w') : wpList P ops Q (o :: rest) a w := by
  rcases hr with ⟨rfl, rfl⟩ | ⟨ad, c, rfl, hc⟩
  · exact wpList_append_own_none hgd s x t ho base e i 1 ht hi v n xs hs hown hx (h v w (by simpa using hown) (World.grownBy.refl _ _))
  · exact wpList_append_own w hgd s x t ho base e i z 1 bytes ht hi hz hsize hby hzs (by decide) v n xs hs hown ad news.length c news hx (by simp) hc h1 h63 hbytes hbase (fun v' w' a b _ => h v' w' a b)
end Go.Proofs.Ytokoohmakjabnaa
namespace Go.Proofs.Ytokoohmakjabnaa
open Go.ChangeShapes Go.WideShapes Go.ChangeAt Go.RowKit
/-- A slice that can be read, cut and copied. -/
def SlN (w : World) (v : Value) (xs : List Int) : Prop :=
  ∃ a c, v = .slice a xs.length c ∧ xs.length ≤ c ∧ (a = none → c = 0) ∧ (xs = [] ∨ ∃ b off, a = some ⟨b, off, none⟩ ∧ b < w.heap.size ∧ ∀ i, i < xs.length → w.cell? ⟨b, off + i, none⟩ = some (.int .i64 (xs.getD i 0)))
theorem SlN.l {w : World} {v : Value} {xs : List Int} (h : SlN w v xs) : SlL w v xs := by
  obtain ⟨a, c, hv, hc, _, hr⟩ := h
  exact ⟨a, c, hv, hc, hr⟩
theorem SlN.below {w w' : World} {v : Value} {xs : List Int} (h : SlN w v xs) (hb : Below w.heap.size w w') : SlN w' v xs := by
  obtain ⟨a, c, hv, hc0, hn, h | ⟨b, off, ha, hlt, hc⟩⟩ := h
  · exact ⟨a, c, hv, hc0, hn, .inl h⟩
  · exact ⟨a, c, hv, hc0, hn, .inr ⟨b, off, ha, Nat.lt_of_lt_of_le hlt hb.size, fun i hi => (hb.cell (p := ⟨b, off + i, none⟩) hlt).trans (hc i hi)⟩⟩
theorem SlN.of_own {w : World} {base : Nat} {v : Value} {xs : List Int} (h : OwnI w base v xs) : SlN w v xs := by
  rcases h.2 with ⟨rfl, h2⟩ | ⟨g, cap, cur, rfl, hb, hg, hn, hr⟩
  · exact ⟨none, 0, by rw [h2], by omega, fun _ => rfl, .inl (List.eq_nil_of_length_eq_zero h2)⟩
  · refine ⟨_, cap, rfl, hn, (fun e => by cases e), .inr ⟨g, 0, rfl, (Array.getElem?_eq_some_iff.1 hg).1, fun i hi => ?_⟩⟩
    have := World.ownsRow.cellAt h i (by omega)
    rw [Nat.zero_add, this]
    simp [hi]
theorem SlN.shp {w : World} {v : Value} {xs : List Int} (h : SlN w v xs) : ∃ a c, v = .slice a xs.length c := h.l.sl.shp
theorem SlN.reads {w : World} {v : Value} {xs : List Int} (h : SlN w v xs) : ReadsRow w v (xs.map (Value.int .i64)) := by
  obtain ⟨a, c, hv, hc, hn, hr⟩ := h
  cases a with
  | none =>
    have hc0 := hn rfl
    subst hc0
    have hx : xs = [] := List.eq_nil_of_length_eq_zero (by omega)
    subst hx
    exact .inl ⟨hv, rfl⟩
  | some ad =>
    refine .inr ⟨ad, c, by rw [hv, List.length_map], fun j x hj => ?_⟩
    have hjl : j < xs.length := by
      have := (List.getElem?_eq_some_iff.1 hj).1
      simpa using this
    rcases hr with h | ⟨b, off, ha, _, hcl⟩
    · rw [h] at hjl; simp at hjl
    · cases ha
      rw [Addr.add_mid, hcl j hjl, ← hj]
      simp [hjl]
theorem ints_one (xs : List Int) : ∀ u ∈ xs.map (Value.int .i64), u.oneCell' = true := by
  intro u hu
  obtain ⟨x, _, rfl⟩ := List.mem_map.1 hu
  rfl
/-- A list's copy onto an empty one: what is asked at the append and what holds behind it. -/
theorem copy_i {w : World} {ops : Array Oper} {rest : List Oper} {o : Oper} {ac : Act} {Q : Exit → Act → World → Prop} (hgd : o.guard = none) (s x : Operand)
    (ho : o.op = .call { callee := .builtin .append, args := #[s, x], argTypes := #[24, 24] })
    (v : Value) (xs : List Int) (hs : ac.eval s = .slice (some ⟨w.heap.size, 0, none⟩) 0 0) (k : SlN w v xs) (hl : xs.length ≤ 1073741824) (hx : ac.eval x = v)
    (h : ∀ v' w', OwnI w' w.heap.size v' xs → Below w.heap.size w w' → wpList Try.prog ops Q rest (ac.put o.dst v') w') :
    wpList Try.prog ops Q (o :: rest) ac (w.alloc (.cells #[] 2)) := by
  obtain ⟨i0, hi, hz0, hz1, hz2⟩ := info_parts info_i64
  have hba := bal' w (Obj.cells #[] 2)
  have hown : (w.alloc (.cells #[] 2)).ownsRow w.heap.size 2 1 (.slice (some ⟨w.heap.size, 0, none⟩) 0 0) 0 [] := by
    have := World.ownsRow_lit (base := w.heap.size) (e := 2) (size := 1) w #[] 0 (Nat.le_refl _) (Nat.zero_le _) rfl
    simpa using this
  refine append_any hgd s x _ ho w.heap.size 2 i0 (.int .i64 0) 8 under_ints hi hz0 hz1 hz2 rfl _ 0 [] hs hown v (xs.map (Value.int .i64)) hx (k.reads.below hba) (ints_one xs) (by unfold maxLen; simp; omega) (by simp; omega) (by simp) (fun v' w' ho' hg' => ?_)
  have e : 0 + (xs.map (Value.int .i64)).length = xs.length := by simp
  rw [e] at ho'
  refine h v' w' (by simpa [OwnI] using ho') (hba.grown hg' (by simp) (fun q e => by simp [Value.ownBlock] at e; omega))
set_option maxRecDepth 20000 in
theorem copiedNumbers_any (v : Value) (xs : List Int) (w : World) (hv : SlN w v xs) (hl : xs.length ≤ 1073741824) :
    Calls Try.prog 33 #[v] w fun e w' => ∃ u, e = .returned u ∧ OwnI w' w.heap.size u xs ∧ Below w.heap.size w w' := by
  obtain ⟨a, c, rfl⟩ := hv.shp
  go_enter Try.func33, Try.ntmps33
  go_wp2_with (refine copy_i (by rfl) _ _ (by rfl) _ xs (by rfl) hv hl (by rfl) ?_; intro v' w1 ho hb)
  go_wp2
  go_ret
  exact ⟨_, rfl, ho, hb⟩
/-- Four cells of a parser are written. -/
def putP (w : World) (B : Nat) (s : Int) (pv : Value) (m : Int) (tv : Value) : World := (((w.setCell ⟨B, 0, none⟩ (.int .i64 s)).setCell ⟨B, 1, none⟩ pv).setCell ⟨B, 2, none⟩ (.int .i64 m)).setCell ⟨B, 3, none⟩ tv
theorem PaC.put {w : World} {B : Nat} {s m : Int} {pv tv : Value} (h : PaC w B s pv m tv) (s' m' : Int) (pv' tv' : Value) : PaC (putP w B s' pv' m' tv') B s' pv' m' tv' := by
  obtain ⟨hlt, ⟨c0, c1, c2, c3⟩, ⟨z0, z1, z2, z3⟩⟩ := h
  refine ⟨by simpa [putP] using hlt, ⟨?_, ?_, ?_, ?_⟩, ⟨?_, ?_, ?_, ?_⟩⟩
  all_goals simp only [putP]
  · simp [go_sem, c0]
  · simp [go_sem, c1]
  · simp [go_sem, c2]
  · simp [go_sem, c3]
  all_goals simp [go_sem, z0, z1, z2, z3]
end Go.Proofs.Ytokoohmakjabnaa
namespace Go.Proofs.Ytokoohmakjabnaa
open Go.ChangeShapes Go.WideShapes Go.ChangeAt Go.RowKit
theorem load_T {P : Program} {w : World} {ops : Array Oper} {rest : List Oper} {o : Oper} {a : Act} {Q : Exit → Act → World → Prop} (hgd : Region.wanted o (yielded ops a.tmps) = true) (t : TypeId) (x : Operand)
    (ho : o.op = .load t x) {e : TypeId} {B : Nat} {cs : Array Value} {fr : Nat × Nat} {d : TypeDesc} (hu : P.underlying t = some d) (hd : (match d with | .struct _ | .array _ _ => true | _ => false) = true) (hi : (P.info? t).map (·.size) = some cs.size) (hb : w.heap[B]? = some (.cells cs e fr)) (hx : a.eval x = .pointer (some ⟨B, 0, none⟩))
    (h : wpList P ops Q rest (a.put o.dst (.agg cs)) w) : wpList P ops Q (o :: rest) a w := by
  refine wpList_step fun K hK => ?_
  rw [if_pos hgd]
  exact wp_load_row t x ho B hx e cs fr d hb hu hd hi (hK _ _ h)
theorem setRow_gr (w : World) (g : Nat) (cs : Array Value) : w.grownBy (w.setRow g cs) (some g) := by
  refine ⟨rfl, rfl, rfl, by simp, fun k _ hk => ?_⟩
  have : ¬ g = k := fun e => hk (by rw [e])
  simp only [World.setRow]
  rw [Array.getElem?_modify]
  simp [this]
theorem store_T {P : Program} {w : World} {ops : Array Oper} {rest : List Oper} {o : Oper} {a : Act} {Q : Exit → Act → World → Prop} (hgd : Region.wanted o (yielded ops a.tmps) = true) (t : TypeId) (x y : Operand)
    (ho : o.op = .store t x y) {e : TypeId} {B : Nat} {old cs : Array Value} (hi : (P.info? t).map (·.size) = some cs.size) (hold : old.size = cs.size) (h1 : cs.toList.all (·.oneCell') = true) (hb : w.heap[B]? = some (.cells old e (0, 0))) (hx : a.eval x = .pointer (some ⟨B, 0, none⟩)) (hy : a.eval y = .agg cs)
    (h : ∀ w', w.grownBy w' (some B) → w'.heap[B]? = some (.cells cs e (0, 0)) → w'.heap.size = w.heap.size → wpList P ops Q rest (a.put o.dst undef) w') : wpList P ops Q (o :: rest) a w := by
  refine wpList_step fun K hK => ?_
  rw [if_pos hgd]
  exact wp_store_row t x y ho B cs hx hy e old hb hi hold (by rw [← Array.all_toList]; exact h1) (hK _ _ (h _ (setRow_gr w B cs) (setRow_heap w B old cs e (0, 0) hb) (by simp)))
def setV (L : List Value) : Nat → List Value → List Value
  | _, [] => L
  | k, v :: l => setV (L.set k v) (k + 1) l
theorem setCells_heap (B : Nat) (e : TypeId) : ∀ (l : List Value) (k : Nat) (w : World) (L : List Value), w.heap[B]? = some (.cells L.toArray e (0, 0)) → (w.setCells B k l).heap[B]? = some (.cells (setV L k l).toArray e (0, 0))
  | [], _, _, _, h => h
  | v :: l, k, w, _, h => setCells_heap B e l (k + 1) _ _ (by rw [heap_setCell_same w B k _ _ v h]; simp)
theorem setCells_gr (B : Nat) : ∀ (l : List Value) (k : Nat) (w : World), w.grownBy (w.setCells B k l) (some B)
  | [], _, _ => World.grownBy.refl _ _
  | v :: l, k, w => grown_tr (setCell_gr w B k v) (setCells_gr B l (k + 1) _)
/-- A block's cells, named. -/
def BlkC (w : World) (B : Nat) (e : TypeId) (L : List Value) : Prop := w.heap[B]? = some (.cells L.toArray e (0, 0))
end Go.Proofs.Ytokoohmakjabnaa
namespace Go.Proofs.Ytokoohmakjabnaa
open Go.ChangeShapes Go.WideShapes Go.ChangeAt Go.RowKit
theorem run_loadVar_part {P : Program} (w : World) (B k : Nat) (e ty : TypeId) (cs : List Value) (part : List Value) (d : TypeDesc) (hb : BlkC w B e cs)
    (hu : P.underlying ty = some d) (hd : (match d with | .struct _ | .array _ _ => true | _ => false) = true) (hi : (P.info? ty).map (·.size) = some part.length) (hp : (cs.drop k).take part.length = part) :
    (loadVar ty ⟨B, k, none⟩).run P w = .ok (.agg part.toArray) w := by
  have hl : (loadCells ⟨B, k, none⟩ part.length).run P w = .ok part.toArray w :=
    run_loadCells_list (P := P) w ⟨B, k, none⟩ part (fun j v hv => by
      have hadd : (⟨B, k, none⟩ : Addr).add j = ⟨B, k + j, none⟩ := by unfold Addr.add; split <;> simp_all
      rw [hadd, cell_of_row w B _ cs.toArray e (0, 0) hb]
      have hj := (List.getElem?_eq_some_iff.1 hv).1
      rw [← hp, List.getElem?_take_of_lt hj, List.getElem?_drop] at hv
      simpa using hv)
  cases hq : P.info? ty with
  | none => simp [hq] at hi
  | some i =>
    have hs : i.size = part.length := by simpa [hq] using hi
    have hagg : (isAgg ty).run P w = .ok true w := by
      unfold isAgg
      rw [Sem.run_bind, run_underlying hu w]
      cases d <;> simp_all
    simp [loadVar, Sem.run_bind, hagg, sizeOf, typeInfo, hq, hs, hl]
theorem BlkC.lt {w : World} {B : Nat} {e : TypeId} {cs : List Value} (h : BlkC w B e cs) : B < w.heap.size := (Array.getElem?_eq_some_iff.1 h).1
theorem BlkC.kept {w w' : World} {B : Nat} {e : TypeId} {cs : List Value} {row : Option Nat} (h : BlkC w B e cs) (hg : w.grownBy w' row) (hne : row ≠ some B) : BlkC w' B e cs := by
  unfold BlkC
  rw [hg.block B h.lt (Ne.symm hne)]
  exact h
theorem BlkC.below {w w' : World} {B : Nat} {e : TypeId} {cs : List Value} (h : BlkC w B e cs) (hb : Below w.heap.size w w') : BlkC w' B e cs := by
  unfold BlkC
  rw [hb.block B h.lt]
  exact h
theorem BlkC.new (w : World) (e : TypeId) (cs : List Value) : BlkC (w.alloc (.cells cs.toArray e)) w.heap.size e cs := heap_alloc_new w _
end Go.Proofs.Ytokoohmakjabnaa
namespace Go.Proofs.Ytokoohmakjabnaa
open Go.ChangeShapes Go.WideShapes Go.ChangeAt Go.RowKit
/-- A row of 41 numbers. -/
def rowV (f : Nat → Int) : List Value := (List.range 41).map (fun j => .int .i64 (f j))
theorem rowV_len (f : Nat → Int) : (rowV f).length = 41 := by simp [rowV]
theorem rowV_get (f : Nat → Int) (j : Nat) (h : j < 41) : (rowV f)[j]? = some (.int .i64 (f j)) := by simp [rowV, h]
theorem rowV_ext (f : Nat → Int) (L : List Value) (hl : L.length = 41) (h : ∀ j, j < 41 → L[j]? = some (.int .i64 (f j))) : L = rowV f := by
  apply List.ext_getElem?
  intro i
  by_cases hi : i < 41
  · rw [h i hi, rowV_get f i hi]
  · rw [List.getElem?_eq_none (by omega), List.getElem?_eq_none (by rw [rowV_len]; omega)]
theorem rowV_one (f : Nat → Int) : (rowV f).all (·.oneCell') = true := by
  rw [List.all_eq_true]
  intro u hu
  obtain ⟨x, _, rfl⟩ := List.mem_map.1 hu
  rfl
theorem rowV_congr (f g : Nat → Int) (h : ∀ j, j < 41 → f j = g j) : rowV f = rowV g :=
  rowV_ext g _ (rowV_len f) (fun j hj => by rw [rowV_get f j hj, h j hj])
theorem info_row : (Try.prog.info? 65).map (·.size) = some 41 := by kernel_rfl
theorem info_row' (f : Nat → Int) : (Try.prog.info? 65).map (·.size) = some (rowV f).toArray.size := by rw [info_row]; simp [rowV]
theorem cell_blk {w : World} {B : Nat} {e : TypeId} {cs : List Value} (h : BlkC w B e cs) (k : Nat) : w.cell? ⟨B, k, none⟩ = cs[k]? := by
  rw [cell_of_row w B k cs.toArray e (0, 0) h]; simp
theorem frozen_blk {w : World} {B : Nat} {e : TypeId} {cs : List Value} (h : BlkC w B e cs) (k : Nat) : w.frozen? ⟨B, k, none⟩ = false := frozen_of_row w B k _ e h
theorem blk_set {w : World} {B : Nat} {e : TypeId} {cs : List Value} (h : BlkC w B e cs) (k : Nat) (v : Value) : BlkC (w.setCell ⟨B, k, none⟩ v) B e (cs.set k v) := by
  unfold BlkC; rw [heap_setCell_same w B k _ _ v h]; simp
theorem blk_set_ne {w : World} {B C : Nat} {e : TypeId} {cs : List Value} (h : BlkC w B e cs) (hne : C ≠ B) (k : Nat) (v : Value) : BlkC (w.setCell ⟨C, k, none⟩ v) B e cs :=
  h.kept (setCell_gr w C k v) (fun q => hne (by injection q))
theorem zero_row : (#[.int .i64 0, .int .i64 0, .int .i64 0, .int .i64 0, .int .i64 0, .int .i64 0, .int .i64 0, .int .i64 0, .int .i64 0, .int .i64 0, .int .i64 0, .int .i64 0, .int .i64 0, .int .i64 0, .int .i64 0, .int .i64 0, .int .i64 0, .int .i64 0, .int .i64 0, .int .i64 0, .int .i64 0, .int .i64 0, .int .i64 0, .int .i64 0, .int .i64 0, .int .i64 0, .int .i64 0, .int .i64 0, .int .i64 0, .int .i64 0, .int .i64 0, .int .i64 0, .int .i64 0, .int .i64 0, .int .i64 0, .int .i64 0, .int .i64 0, .int .i64 0, .int .i64 0, .int .i64 0, .int .i64 0] : Array Value) = (rowV (fun _ => 0)).toArray := by rfl
set_option maxHeartbeats 1000000 in
set_option maxRecDepth 20000 in
theorem allBeyond_any (w : World) :
    Calls Try.prog 41 #[] w fun e w' => e = .returned (.agg (rowV (fun _ => 160)).toArray) ∧ Below w.heap.size w w' := by
  obtain ⟨W, hW⟩ : ∃ W, W = w.alloc (Obj.cells (rowV (fun _ => 0)).toArray 65) := ⟨_, rfl⟩
  have hb0 : Below w.heap.size w W := by rw [hW]; exact bal' _ _
  have hA : BlkC W w.heap.size 65 (rowV (fun _ => 0)) := by rw [hW]; exact heap_alloc_new w _
  have hz0 : W.heap.size = w.heap.size + 1 := by rw [hW]; simp
  replace hW := (show Hid _ from hW)
  go_enter Try.func41, Try.ntmps41
  refine wp_seq_k (fun K hK => ?_)
  have hH := (show Hid _ from hK)
  clear hK
  go_wp2
  refine hH.out _ _ ?_
  rw [zero_row, ← hW.out]
  clear hH hW
  have hS0 : (W.alloc (Obj.cells (rowV (fun _ => 0)).toArray 65)).heap[w.heap.size + 1]? = some (.cells (rowV (fun _ => 0)).toArray 65 (0, 0)) := by rw [← hz0]; exact heap_alloc_new W _
  have hal := bal' W (Obj.cells (rowV (fun _ => 0)).toArray 65)
  have hbz := hb0.trans (hal.mono hb0.size)
  have hA1 := hA.below hal
  go_wp2_with (refine store_T (cs := (rowV (fun _ => 0)).toArray) (by rfl) 65 _ _ (by rfl) (info_row' _) (by rfl) (by rfl) hS0 (by rfl) (by rfl) ?_; intro w2 hg hS2 hz2; have hA2 := BlkC.kept hA1 hg (fun e => by injection e with e; omega); have hb2 := hbz.grown hg hbz.size (fun k e => by injection e with e; omega); have hz3 : w2.heap.size = w.heap.size + 2 := (by rw [hz2]; simp; omega); clear hg hz2 hA1 hS0)
  clear hbz hal hA hb0
  go_loopw [2, 4] (fun _ jv wr => ∃ j : Nat, j ≤ 41 ∧ jv = .int .i64 j ∧ BlkC wr w.heap.size 65 (rowV (fun _ => 0)) ∧ BlkC wr (w.heap.size + 1) 65 (rowV (fun k => if k < j then 160 else 0)) ∧ Below w.heap.size w wr) (fun _ jv _ => 41 - (intOf jv).toNat)
  case atStart => exact ⟨0, Nat.zero_le _, rfl, hA2, (by have : rowV (fun k => if k < 0 then 160 else 0) = rowV (fun _ => 0) := rowV_congr _ _ (fun k _ => if_neg (Nat.not_lt_zero k)); rw [this]; exact hS2), hb2⟩
  case round =>
    obtain ⟨j, hj, rfl, kA, kS, kb⟩ := hrel
    clear hA2 hS2 hb2
    by_cases hlt : j < 41
    · have hji : (j : Int) < 41 := by omega
      have h1 := (cell_blk kS j).trans (rowV_get _ j hlt)
      have h2 := frozen_blk kS j
      have k2 := blk_set kS j (.int .i64 160)
      have e2 : (rowV (fun k => if k < j then 160 else 0)).set j (.int .i64 160) = rowV (fun k => if k < j + 1 then 160 else 0) := by
        refine rowV_ext _ _ (by rw [List.length_set, rowV_len]) (fun t ht => ?_)
        by_cases e : t = j
        · subst e; rw [List.getElem?_set_self (by rw [rowV_len]; omega), if_pos (by omega)]
        · rw [List.getElem?_set_ne (fun q => e q.symm), rowV_get _ t ht]
          have : (t < j + 1) ↔ (t < j) := by omega
          simp only [this]
      rw [e2] at k2
      have k3 := blk_set_ne kA (C := w.heap.size + 1) (by omega) j (.int .i64 160)
      have k4 := kb.grown (setCell_gr wr (w.heap.size + 1) j (.int .i64 160)) kb.size (fun k e => by injection e with e; omega)
      clear kA kS e2
      go_wp2
      go_roundw
      case rel => exact ⟨j + 1, by omega, by go_num, k3, k2, k4⟩
      case measure => simp [intOf]; omega
    · have hj41 : j = 41 := by omega
      subst hj41
      have e2 : rowV (fun k => if k < 41 then 160 else 0) = rowV (fun _ => 160) := rowV_congr _ _ (fun k hk => if_pos hk)
      rw [e2] at kS
      go_wp2_with (first
        | (refine load_T (cs := (rowV (fun _ => 160)).toArray) (by rfl) 65 _ (by rfl) Try.underlying65 rfl (info_row' _) kS (by rfl) ?_)
        | (refine store_T (cs := (rowV (fun _ => 160)).toArray) (by rfl) 65 _ _ (by rfl) (info_row' _) (by rfl) (rowV_one _) kA (by rfl) (by rfl) ?_; intro w3 hg3 hA3 hz3))
      exact bodyPost_ret (v := .agg (rowV (fun _ => 160)).toArray) (results_cell_row Try.results41 _ _ _ _ _ _ _ rfl hA3 Try.underlying65 rfl (info_row' _)) rfl ⟨rfl, kb.grown hg3 kb.size (fun k e => by injection e with e; omega)⟩
end Go.Proofs.Ytokoohmakjabnaa
