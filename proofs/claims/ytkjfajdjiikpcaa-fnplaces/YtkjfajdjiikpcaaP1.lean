/- The cursor over the bytes of a draw: what its functions leave. Slices of int64 that can be read, and rows that stay. The cursor: made, asked, kept. The laws' own helper that copies a list of int64. With how many first numbers of a pattern a text ends: borders, places, periods. Plain mathematics. Sizes of the answers; a draw changes nothing. Searching's lists drawn. Places are all places, borders the longest, a period is the length less the last border: of lists. Plain mathematics. What a contract leaves, as growth. The program's closure that is told a text number by number. The program's closure is made. The program's Borders. The program's Places and Period. The specification's borders. The specification's Borders, Period and Places. The laws' own helper: two lists alike. Two lists are alike or not, and nothing else changes. A law's bytes: how they are read, and whether they are too many. -/
import Derived.Test.YtkjfajdjiikpcaaRows
import Derived.WalkKit
import Derived.ProofKit
import Derived.OpenShut
import Derived.LoopN
import Derived.WalkSpells
import Derived.Deep.QuietTactic
import Derived.BigQuiet
import Derived.Laws.Bits128
import Derived.Deep.AppendLies
import Derived.Laws.AppendOwnNone
namespace Go.Proofs.Ytkjfajdjiikpcaa
open Go.ChangeShapes Go.WideShapes Go.ChangeAt Go.RowKit
theorem and_mask (n : Int) (k : Nat) (hk : k < 63) (m : Int) (hN : (BitVec.ofInt 64 m).toNat = 2 ^ k - 1) : 0 ≤ bits .and .i64 n m ∧ bits .and .i64 n m < 2 ^ k := by
  have key : (BitVec.ofInt 64 n &&& BitVec.ofInt 64 m).toNat = (n % ((2 ^ 64 : Nat) : Int)).toNat % 2 ^ k := by
    rw [BitVec.toNat_and, BitVec.toNat_ofInt, hN, Nat.and_two_pow_sub_one_eq_mod]
  have e : bits .and .i64 n m = IntKind.i64.wrap ((BitVec.ofInt 64 n &&& BitVec.ofInt 64 m).toNat : Nat) := rfl
  rw [e, key, IntKind.wrap_i64]
  have hlt : (n % ((2 ^ 64 : Nat) : Int)).toNat % 2 ^ k < 2 ^ k := Nat.mod_lt _ (Nat.two_pow_pos k)
  have hp : (2 : Nat) ^ k ≤ 2 ^ 62 := Nat.pow_le_pow_right (by omega) (by omega)
  have hc : ((2 ^ k : Nat) : Int) = (2 : Int) ^ k := by simp
  rw [← hc]
  generalize (n % ((2 ^ 64 : Nat) : Int)).toNat % 2 ^ k = q at *
  generalize 2 ^ k = K at *
  omega
theorem and_255 (n : Int) : 0 ≤ bits .and .i64 n 255 ∧ bits .and .i64 n 255 ≤ 255 := by
  have := and_mask n 8 (by decide) 255 (by decide)
  omega
/-- A slice of bytes that can be read. -/
def SlB (w : World) (v : Value) (xs : List Int) : Prop :=
  ∃ a c, v = .slice a xs.length c ∧ xs.length ≤ 4096 ∧ (∀ x ∈ xs, 0 ≤ x ∧ x < 256) ∧ (xs = [] ∨ ∃ b off, a = some ⟨b, off, none⟩ ∧ b < w.heap.size ∧ ∀ i, i < xs.length → w.cell? ⟨b, off + i, none⟩ = some (.int .u8 (xs.getD i 0)))
theorem SlB.below {w w' : World} {v : Value} {xs : List Int} (h : SlB w v xs) (hb : Below w.heap.size w w') : SlB w' v xs := by
  obtain ⟨a, c, hv, h1, h2, h | ⟨b, off, ha, hlt, hc⟩⟩ := h
  · exact ⟨a, c, hv, h1, h2, .inl h⟩
  · exact ⟨a, c, hv, h1, h2, .inr ⟨b, off, ha, Nat.lt_of_lt_of_le hlt hb.size, fun i hi => (hb.cell (p := ⟨b, off + i, none⟩) hlt).trans (hc i hi)⟩⟩

/-- The cursor's struct lies in block g: the bytes' slice, a place in it, a number. -/
def CurAt (w : World) (g : Nat) (v : Value) (xs : List Int) : Prop :=
  g < w.heap.size ∧ w.frozen? ⟨g, 0, none⟩ = false ∧ w.frozen? ⟨g, 1, none⟩ = false ∧ w.frozen? ⟨g, 2, none⟩ = false ∧ w.cell? ⟨g, 0, none⟩ = some v ∧
  (∃ i : Nat, i ≤ xs.length ∧ w.cell? ⟨g, 1, none⟩ = some (.int .i64 i)) ∧ (∃ h : Int, w.cell? ⟨g, 2, none⟩ = some (.int .i64 h)) ∧
  ∃ a c, v = .slice a xs.length c ∧ xs.length ≤ 4096 ∧ (∀ x ∈ xs, 0 ≤ x ∧ x < 256) ∧ (xs = [] ∨ ∃ b off, a = some ⟨b, off, none⟩ ∧ b < g ∧ ∀ i, i < xs.length → w.cell? ⟨b, off + i, none⟩ = some (.int .u8 (xs.getD i 0)))

theorem CurAt.drewN {w : World} {g : Nat} {v : Value} {xs : List Int} (h : CurAt w g v xs) (n : Nat) : CurAt (w.drewN n) g v xs := h
theorem setCell_cell_ne (w : World) (g a b : Nat) (u : Value) (h : a ≠ b) : (w.setCell ⟨g, b, none⟩ u).cell? ⟨g, a, none⟩ = w.cell? ⟨g, a, none⟩ := by
  simp [World.setCell, World.cell?, Array.getElem?_modify]
  cases hh : w.heap[g]? with
  | none => simp
  | some o => cases o <;> simp [Ne.symm h]
theorem setCell_far (w : World) (p q : Addr) (u : Value) (h : q.block ≠ p.block) : (w.setCell p u).cell? q = w.cell? q :=
  World.cell?_of_block (Below.heap_setCell _ _ _ _ h)
theorem setCell_frozen (w : World) (p q : Addr) (u : Value) : (w.setCell p u).frozen? q = w.frozen? q := by simp [go_sem]
theorem setCell_same (w : World) (p : Addr) (u v : Value) (h : w.cell? p = some v) : (w.setCell p u).cell? p = some u := by simp [go_sem, h]
theorem CurAt.set2 {w : World} {g : Nat} {v : Value} {xs : List Int} (hc : CurAt w g v xs) (H : Int) : CurAt (w.setCell ⟨g, 2, none⟩ (.int .i64 H)) g v xs ∧ w.grownBy (w.setCell ⟨g, 2, none⟩ (.int .i64 H)) (some g) := by
  obtain ⟨hg, z0, z1, z2, c0, ⟨i, hi, c1⟩, ⟨h, c2⟩, a, c, hv, hl, hx, hr⟩ := hc
  refine ⟨⟨by simpa using hg, by rw [setCell_frozen]; exact z0, by rw [setCell_frozen]; exact z1, by rw [setCell_frozen]; exact z2, ?_, ⟨i, hi, ?_⟩, ⟨H, setCell_same _ _ _ _ c2⟩, a, c, hv, hl, hx, ?_⟩, ⟨rfl, rfl, rfl, by simp, fun k _ hk => heap_setCell_other w ⟨g, 2, none⟩ k _ (fun e => hk (by simp [e]))⟩⟩
  · rw [setCell_cell_ne _ _ _ _ _ (by decide)]; exact c0
  · rw [setCell_cell_ne _ _ _ _ _ (by decide)]; exact c1
  · rcases hr with hr | ⟨b, off, ha, hb, hr⟩
    · exact .inl hr
    · exact .inr ⟨b, off, ha, hb, fun j hj => by rw [setCell_far _ _ _ _ (by dsimp only; omega)]; exact hr j hj⟩
theorem CurAt.set1 {w : World} {g : Nat} {v : Value} {xs : List Int} (hc : CurAt w g v xs) (q : Int) (k : Nat) (hq : q = (k : Int)) (hk : k ≤ xs.length) : CurAt (w.setCell ⟨g, 1, none⟩ (.int .i64 q)) g v xs ∧ w.grownBy (w.setCell ⟨g, 1, none⟩ (.int .i64 q)) (some g) := by
  obtain ⟨hg, z0, z1, z2, c0, ⟨i, hi, c1⟩, ⟨h, c2⟩, a, c, hv, hl, hx, hr⟩ := hc
  subst hq
  refine ⟨⟨by simpa using hg, by rw [setCell_frozen]; exact z0, by rw [setCell_frozen]; exact z1, by rw [setCell_frozen]; exact z2, ?_, ⟨k, hk, setCell_same _ _ _ _ c1⟩, ⟨h, ?_⟩, a, c, hv, hl, hx, ?_⟩, ⟨rfl, rfl, rfl, by simp, fun k _ hk => heap_setCell_other w ⟨g, 1, none⟩ k _ (fun e => hk (by simp [e]))⟩⟩
  · rw [setCell_cell_ne _ _ _ _ _ (by decide)]; exact c0
  · rw [setCell_cell_ne _ _ _ _ _ (by decide)]; exact c2
  · rcases hr with hr | ⟨b, off, ha, hb, hr⟩
    · exact .inl hr
    · exact .inr ⟨b, off, ha, hb, fun j hj => by rw [setCell_far _ _ _ _ (by dsimp only; omega)]; exact hr j hj⟩
theorem gtr {a b c : World} {row : Option Nat} (h : a.grownBy b row) (k : b.grownBy c row) : a.grownBy c row :=
  ⟨k.os.trans h.os, k.tape.trans h.tape, k.output.trans h.output, Nat.le_trans h.size k.size, fun i hi hr => (k.block i (Nat.lt_of_lt_of_le hi h.size) hr).trans (h.block i hi hr)⟩
theorem gdr {a b : World} {row : Option Nat} (h : a.grownBy b row) (n : Nat) : a.grownBy (b.drewN n) row := ⟨h.os, h.tape, h.output, h.size, h.block⟩

set_option maxHeartbeats 1000000 in
theorem l1Byte_a (g : Nat) (v : Value) (xs : List Int) (w : World) (hc : CurAt w g v xs) :
    Calls Try.prog 29 #[.pointer (some ⟨g, 0, none⟩)] w fun e w' => ∃ x, e = .returned (.int .i64 x) ∧ 0 ≤ x ∧ x ≤ 255 ∧ CurAt w' g v xs ∧ w.grownBy w' (some g) := by
  have HC : Hid (CurAt w g v xs) := hc
  obtain ⟨hg, z0, z1, z2, c0, ⟨i, hi, c1⟩, ⟨h, c2⟩, a, c, rfl, hl, hx, hr⟩ := hc
  by_cases hlt : i < xs.length
  · rcases hr with hr | ⟨b, off, rfl, hbg, hr⟩
    · rw [hr] at hlt; simp at hlt
    · have hbne : b ≠ g := by omega
      have hri := hr i hlt
      have hxi := hx (xs.getD i 0) (by simp [List.getD, hlt])
      generalize xs.getD i 0 = y at *
      have hlti : (i : Int) < (xs.length : Int) := by omega
      go_enter Try.func29, Try.ntmps29
      go_wp2
      generalize wrap64 (wrap64 (h * 6364136223846793005) + 1442695040888963407) = H
      go_quiet (fail)
      go_wp2
      generalize bits BinOp.and IntKind.i64 (bits BinOp.xor IntKind.i64 (H / 8589934592) (H / 35184372088832)) 255 = X
      go_quiet (fail)
      go_wp2
      go_quiet (fail)
      go_wp2
      go_ret
      have k2 := HC.out.set2 H
      have k1 := fun n => (k2.1.drewN n).set1 ((i : Int) + 1) (i + 1) (by omega) (by omega)
      exact ⟨_, rfl, (and_255 _).1, (and_255 _).2, (k1 _).1, gtr (gdr k2.2 _) (k1 _).2⟩
  · have hlti : ¬ (i : Int) < (xs.length : Int) := by omega
    go_enter Try.func29, Try.ntmps29
    go_wp2
    generalize wrap64 (wrap64 (h * 6364136223846793005) + 1442695040888963407) = H
    go_quiet (fail)
    go_wp2
    go_quiet (fail)
    go_wp2
    go_ret
    have k2 := HC.out.set2 H
    exact ⟨_, rfl, (and_255 _).1, (and_255 _).2, (k2.1.drewN _).drewN _, gdr (gdr k2.2 _) _⟩

set_option maxHeartbeats 1000000 in
theorem l1Below_a (g : Nat) (v : Value) (xs : List Int) (n : Int) (w : World) (hc : CurAt w g v xs) :
    Calls Try.prog 24 #[.pointer (some ⟨g, 0, none⟩), .int .i64 n] w fun e w' => ∃ x, e = .returned (.int .i64 x) ∧ 0 ≤ x ∧ (0 < n → x < n) ∧ (n ≤ 0 → x = 0) ∧ CurAt w' g v xs ∧ w.grownBy w' (some g) := by
  by_cases h0 : n ≤ 0
  · go_enter Try.func24, Try.ntmps24
    go_wp2
    go_ret
    exact ⟨0, rfl, by omega, by omega, by omega, hc, World.grownBy.refl _ _⟩
  · have hz : (n == 0) = false := by simp; omega
    by_cases h1 : n ≤ 256
    · go_enter Try.func24, Try.ntmps24
      go_wp2_with fail
      refine (l1Byte_a g v xs _ hc).mono ?_
      rintro e w1 ⟨x, rfl, hx0, hx1, hc1, hg1⟩
      go_wp2
      go_ret
      have hm0 := Int.emod_nonneg x (show n ≠ 0 by omega)
      have hm1 := Int.emod_lt_of_pos x (show 0 < n by omega)
      exact ⟨_, rfl, hm0, fun _ => hm1, fun h => by omega, hc1, hg1⟩
    · go_enter Try.func24, Try.ntmps24
      go_wp2_with fail
      refine (l1Byte_a g v xs _ hc).mono ?_
      rintro e w1 ⟨x1, rfl, hx10, hx11, hc1, hg1⟩
      go_wp2_with fail
      refine (l1Byte_a g v xs _ hc1).mono ?_
      rintro e w2 ⟨x2, rfl, hx20, hx21, hc2, hg2⟩
      go_wp2_with fail
      refine (l1Byte_a g v xs _ hc2).mono ?_
      rintro e w3 ⟨x3, rfl, hx30, hx31, hc3, hg3⟩
      go_wp2_with fail
      refine (l1Byte_a g v xs _ hc3).mono ?_
      rintro e w4 ⟨x4, rfl, hx40, hx41, hc4, hg4⟩
      go_wp2
      go_ret
      have hm0 := Int.emod_nonneg (x1 * 16777216 + x2 * 65536 + x3 * 256 + x4) (show n ≠ 0 by omega)
      have hm1 := Int.emod_lt_of_pos (x1 * 16777216 + x2 * 65536 + x3 * 256 + x4) (show 0 < n by omega)
      exact ⟨_, rfl, hm0, fun _ => hm1, fun h => by omega, hc4, gtr (gtr (gtr hg1 hg2) hg3) hg4⟩
end Go.Proofs.Ytkjfajdjiikpcaa
namespace Go.Proofs.Ytkjfajdjiikpcaa
open Go.ChangeShapes Go.WideShapes Go.ChangeAt Go.RowKit
/-- What is owned stays owned while the world only grows above. -/
theorem _root_.Go.World.ownsRow.below {w w' : World} {base : Nat} {e : TypeId} {size : Nat} {v : Value} {n : Nat} {xs : List Value} (h : w.ownsRow base e size v n xs) (hb : Below w.heap.size w w') : w'.ownsRow base e size v n xs := by
  refine ⟨h.1, ?_⟩
  rcases h.2 with h2 | ⟨g, cap, cur, hv, hbg, hg, r⟩
  · exact .inl h2
  · exact .inr ⟨g, cap, cur, hv, hbg, by rw [hb.block g (Array.getElem?_eq_some_iff.1 hg).1]; exact hg, r⟩
/-- A slice that can be read: of no element, or a row of cells that hold the numbers. -/
def SlI (w : World) (v : Value) (xs : List Int) : Prop :=
  ∃ a c, v = .slice a xs.length c ∧ (xs = [] ∨ ∃ b off, a = some ⟨b, off, none⟩ ∧ b < w.heap.size ∧ ∀ i, i < xs.length → w.cell? ⟨b, off + i, none⟩ = some (.int .i64 (xs.getD i 0)))
theorem SlI.of_own {w : World} {base : Nat} {e : TypeId} {v : Value} {xs : List Int} (h : w.ownsRow base e 1 v xs.length (xs.map (Value.int .i64))) : SlI w v xs := by
  rcases h.2 with ⟨rfl, h2⟩ | ⟨g, cap, cur, rfl, hb, hg, hr⟩
  · exact ⟨none, 0, by rw [h2], .inl (List.eq_nil_of_length_eq_zero h2)⟩
  · refine ⟨_, cap, rfl, .inr ⟨g, 0, rfl, (Array.getElem?_eq_some_iff.1 hg).1, fun i hi => ?_⟩⟩
    have := h.cellAt i (by simpa using hi)
    rw [Nat.zero_add, this]
    simp [hi]
theorem SlI.below {w w' : World} {v : Value} {xs : List Int} (h : SlI w v xs) (hb : Below w.heap.size w w') : SlI w' v xs := by
  obtain ⟨a, c, hv, h | ⟨b, off, ha, hlt, hc⟩⟩ := h
  · exact ⟨a, c, hv, .inl h⟩
  · exact ⟨a, c, hv, .inr ⟨b, off, ha, Nat.lt_of_lt_of_le hlt hb.size, fun i hi => (hb.cell (p := ⟨b, off + i, none⟩) hlt).trans (hc i hi)⟩⟩
theorem SlI.drewN {w : World} {v : Value} {xs : List Int} (h : SlI w v xs) (n : Nat) : SlI (w.drewN n) v xs := h

/-- What a law is told of a slice of integers that came in: nil; or a row of cap cells, the numbers zs (the first len are its elements), each fitting its kind. -/
def IsRow (k : IntKind) (w : World) (a : Option Addr) (len cap : Nat) (zs : List Int) : Prop :=
  (a = none ∧ len = 0 ∧ cap = 0 ∧ zs = []) ∨
  ∃ x, a = some x ∧ len ≤ cap ∧ cap ≤ maxLen ∧ zs.length = cap ∧ (∀ i, i < zs.length → w.cell? (x.add i) = some (.int k (zs.getD i 0))) ∧ ∀ n ∈ zs, (Lit.int k n).wf = true
theorem SlI.of_row {w : World} {a : Option Addr} {len cap : Nat} {zs : List Int} (h : IsRow .i64 w a len cap zs) : SlI w (.slice a len cap) (zs.take len) ∧ (zs.take len).length = len := by
  rcases h with ⟨rfl, rfl, rfl, rfl⟩ | ⟨x, rfl, hl, hm, hz, hc, hw⟩
  · exact ⟨⟨none, 0, rfl, .inl rfl⟩, rfl⟩
  · have hlen : (zs.take len).length = len := by rw [List.length_take]; omega
    refine ⟨⟨some x, cap, by rw [hlen], ?_⟩, hlen⟩
    by_cases h0 : len = 0
    · left; subst h0; simp
    · right
      obtain ⟨b, off, spot⟩ := x
      have h1 := hc 0 (by omega)
      have hspot : spot = none := by simpa [Addr.add] using World.cell?_spot h1
      subst hspot
      refine ⟨b, off, rfl, World.block_lt_of_cell? w _ h1, fun i hi => ?_⟩
      rw [hlen] at hi
      have h2 := hc i (by omega)
      have e : (zs.take len).getD i 0 = zs.getD i 0 := by simp [List.getD, hi]
      rw [e, ← h2]
      by_cases hi0 : i = 0
      · subst hi0; simp [Addr.add]
      · simp [Addr.add, hi0]

end Go.Proofs.Ytkjfajdjiikpcaa
namespace Go.Proofs.Ytkjfajdjiikpcaa
open Go.ChangeShapes Go.WideShapes Go.ChangeAt Go.RowKit
theorem l1Once_a (g : Nat) (v : Value) (xs : List Int) (n : Int) (w : World) (hc : CurAt w g v xs) :
    Calls Try.prog 23 #[.pointer (some ⟨g, 0, none⟩), .int .i64 n] w fun e w' => ∃ b : Bool, e = .returned (.bool b) ∧ CurAt w' g v xs ∧ w.grownBy w' (some g) := by
  go_enter Try.func23, Try.ntmps23
  go_wp2_with fail
  refine (l1Below_a g v xs n _ hc).mono ?_
  rintro e w1 ⟨x, rfl, hx0, _, _, hc1, hg1⟩
  go_wp2
  go_ret
  exact ⟨_, rfl, hc1, hg1⟩

/-- The cursor stays while the world only grows above. -/
theorem CurAt.below {w w' : World} {g : Nat} {v : Value} {xs : List Int} (h : CurAt w g v xs) (hb : Below w.heap.size w w') : CurAt w' g v xs := by
  obtain ⟨hg, z0, z1, z2, c0, ⟨i, hi, c1⟩, ⟨h, c2⟩, a, c, hv, hl, hx, hr⟩ := h
  refine ⟨Nat.lt_of_lt_of_le hg hb.size, (hb.frozen (p := ⟨g, 0, none⟩) hg).trans z0, (hb.frozen (p := ⟨g, 1, none⟩) hg).trans z1, (hb.frozen (p := ⟨g, 2, none⟩) hg).trans z2, (hb.cell (p := ⟨g, 0, none⟩) hg).trans c0, ⟨i, hi, (hb.cell (p := ⟨g, 1, none⟩) hg).trans c1⟩, ⟨h, (hb.cell (p := ⟨g, 2, none⟩) hg).trans c2⟩, a, c, hv, hl, hx, ?_⟩
  rcases hr with hr | ⟨b, off, ha, hb', hr⟩
  · exact .inl hr
  · exact .inr ⟨b, off, ha, hb', fun j hj => (hb.cell (p := ⟨b, off + j, none⟩) (by dsimp only; omega)).trans (hr j hj)⟩
theorem bal (w : World) (o : Obj) : Below w.heap.size w (w.alloc o) := (Below.refl _ _).alloc (Nat.le_refl _) o

theorem CurAt.new (w : World) (a : Option Addr) (c : Nat) (xs : List Int) (h : Int) (T : TypeId) (hs : SlB w (.slice a xs.length c) xs) : CurAt (w.alloc (.cells #[.slice a xs.length c, .int .i64 0, .int .i64 h] T)) w.heap.size (.slice a xs.length c) xs := by
  obtain ⟨a', c', hv, hl, hx, hr⟩ := hs
  refine ⟨by simp, by simp [go_sem], by simp [go_sem], by simp [go_sem], by simp [go_sem], ⟨0, Nat.zero_le _, by simp [go_sem]⟩, ⟨h, by simp [go_sem]⟩, a', c', hv, hl, hx, ?_⟩
  rcases hr with hr | ⟨b, off, ha, hb, hr⟩
  · exact .inl hr
  · exact .inr ⟨b, off, ha, hb, fun j hj => ((bal w _).cell (p := ⟨b, off + j, none⟩) hb).trans (hr j hj)⟩

set_option maxHeartbeats 1000000 in
theorem l1New_a (v : Value) (xs : List Int) (w : World) (hv : SlB w v xs) :
    Calls Try.prog 21 #[v] w fun e w' => e = .returned (.pointer (some ⟨w.heap.size, 0, none⟩)) ∧ CurAt w' w.heap.size v xs ∧ Below w.heap.size w w' := by
  have HV : Hid (SlB w v xs) := hv
  obtain ⟨a, c, rfl, hl, hx, hr⟩ := hv
  go_enter Try.func21, Try.ntmps21
  go_wp2
  go_loop [3, 4] (fun h i => ∃ (k : Nat) (H : Int), k ≤ xs.length ∧ i = .int .i64 k ∧ h = .int .i64 H) (fun _ i => xs.length - (intOf i).toNat)
  case atStart => exact ⟨0, _, Nat.zero_le _, rfl, rfl⟩
  case round =>
    obtain ⟨k, H, hk, rfl, rfl⟩ := hrel
    by_cases hlt : k < xs.length
    · rcases hr with hr | ⟨b, off, rfl, hb, hr⟩
      · rw [hr] at hlt; simp at hlt
      · have hri := hr k hlt
        generalize hy : xs.getD k 0 = y at hri
        clear hy hr hx
        go_wp2
        go_round
        case rel => exact ⟨k + 1, _, by omega, by go_num, rfl⟩
        case measure => simp [intOf]; omega
    · clear hr hx
      go_wp2
      go_ret
      exact ⟨rfl, CurAt.new w a c xs H _ HV.out, bal w _⟩

theorem own_grow {w w' : World} {base : Nat} {e : TypeId} {size : Nat} {v : Value} {n : Nat} {xs : List Value} {g : Nat} (h : w.ownsRow base e size v n xs) (hg : w.grownBy w' (some g)) (hlt : g < base) : w'.ownsRow base e size v n xs :=
  h.kept hg (by
    cases hv : v.ownBlock with
    | none => exact .inl rfl
    | some b => right; intro e; have := (h.lt b hv).1; cases e; omega)

theorem info_int64d : (Try.prog.info? 2).map (fun i => (i.zero, i.size, i.bytes)) = some (some (.int .i64 0), 1, 8) := by kernel_rfl
theorem CurAt.grown_own {w w' : World} {g : Nat} {v : Value} {xs : List Int} {row : Option Nat} (h : CurAt w g v xs) (hg : w.grownBy w' row) (hr : ∀ k, row = some k → g < k) : CurAt w' g v xs := by
  have hb : ∀ k, k ≤ g → w'.heap[k]? = w.heap[k]? := fun k hk => hg.block k (by have := h.1; omega) (fun e => by have := hr k e.symm; omega)
  obtain ⟨hlt, z0, z1, z2, c0, ⟨i, hi, c1⟩, ⟨h, c2⟩, a, c, hv, hl, hx, hrr⟩ := h
  have hbg := hb g (Nat.le_refl _)
  refine ⟨Nat.lt_of_lt_of_le hlt hg.size, (World.frozen?_of_block (w := w) hbg).trans z0, (World.frozen?_of_block (w := w) hbg).trans z1, (World.frozen?_of_block (w := w) hbg).trans z2, (World.cell?_of_block (w := w) hbg).trans c0, ⟨i, hi, (World.cell?_of_block (w := w) hbg).trans c1⟩, ⟨h, (World.cell?_of_block (w := w) hbg).trans c2⟩, a, c, hv, hl, hx, ?_⟩
  rcases hrr with hrr | ⟨b, off, ha, hb', hrr⟩
  · exact .inl hrr
  · exact .inr ⟨b, off, ha, hb', fun j hj => (World.cell?_of_block (w := w) (hb b (by omega))).trans (hrr j hj)⟩
theorem grownBy_own {w w' w0 : World} {g : Nat} {row : Option Nat} (h : w0.grownBy w (some g)) (hg : w.grownBy w' row) (hr : ∀ k, row = some k → w0.heap.size ≤ k) : w0.grownBy w' (some g) :=
  ⟨hg.os.trans h.os, hg.tape.trans h.tape, hg.output.trans h.output, Nat.le_trans h.size hg.size, fun i hi hne => (hg.block i (Nat.lt_of_lt_of_le hi h.size) (fun e => by have := hr i e.symm; omega)).trans (h.block i hi hne)⟩

end Go.Proofs.Ytkjfajdjiikpcaa
namespace Go.Proofs.Ytkjfajdjiikpcaa
open Go.ChangeShapes Go.WideShapes Go.ChangeAt Go.RowKit
theorem info_i64 : (Try.prog.info? 2).map (fun i => (i.zero, i.size, i.bytes)) = some (some (.int .i64 0), 1, 8) := by kernel_rfl
end Go.Proofs.Ytkjfajdjiikpcaa
namespace Go.Proofs.Ytkjfajdjiikpcaa
/-- The first i numbers of f end with the first k of g. -/
def EndK (f g : Nat → Int) (i k : Nat) : Prop := k ≤ i ∧ ∀ s, s < k → g s = f (i - k + s)
instance (f g : Nat → Int) (i k : Nat) : Decidable (EndK f g i k) := inferInstanceAs (Decidable (k ≤ i ∧ ∀ s, s < k → g s = f (i - k + s)))
def mxK (P : Nat → Bool) : Nat → Nat
  | 0 => 0
  | n + 1 => if P (n + 1) then n + 1 else mxK P n
theorem mxK_le (P : Nat → Bool) : ∀ n, mxK P n ≤ n
  | 0 => Nat.le_refl _
  | n + 1 => by
    rw [mxK]; split
    · exact Nat.le_refl _
    · exact Nat.le_succ_of_le (mxK_le P n)
theorem mxK_has (P : Nat → Bool) (h : P 0 = true) : ∀ n, P (mxK P n) = true
  | 0 => h
  | n + 1 => by
    rw [mxK]; split
    · assumption
    · exact mxK_has P h n
theorem mxK_top (P : Nat → Bool) : ∀ n j, mxK P n < j → j ≤ n → P j = false
  | 0, j, h1, h2 => by rw [mxK] at h1; omega
  | n + 1, j, h1, h2 => by
    rw [mxK] at h1
    split at h1
    · omega
    · rename_i e
      by_cases hj : j = n + 1
      · subst hj; simpa using e
      · exact mxK_top P n j h1 (by omega)
def heldK (f g : Nat → Int) (m i : Nat) : Nat := mxK (fun k => decide (EndK f g i k)) m
theorem EndK.zero (f g : Nat → Int) (i : Nat) : EndK f g i 0 := ⟨Nat.zero_le _, fun _ hs => absurd hs (Nat.not_lt_zero _)⟩
theorem heldK_le (f g : Nat → Int) (m i : Nat) : heldK f g m i ≤ m := mxK_le _ _
theorem heldK_end (f g : Nat → Int) (m i : Nat) : EndK f g i (heldK f g m i) := of_decide_eq_true (mxK_has (fun k => decide (EndK f g i k)) (decide_eq_true (EndK.zero f g i)) m)
theorem heldK_top (f g : Nat → Int) (m i j : Nat) (h1 : heldK f g m i < j) (h2 : j ≤ m) : ¬ EndK f g i j := of_decide_eq_false (mxK_top (fun k => decide (EndK f g i k)) m j h1 h2)
theorem heldK_lei (f g : Nat → Int) (m i : Nat) : heldK f g m i ≤ i := (heldK_end f g m i).1
theorem heldK_eq {f g : Nat → Int} {m i k : Nat} (h1 : EndK f g i k) (h2 : k ≤ m) (h3 : ∀ j, k < j → j ≤ m → ¬ EndK f g i j) : heldK f g m i = k := by
  rcases Nat.lt_trichotomy (heldK f g m i) k with h | h | h
  · exact absurd h1 (heldK_top f g m i k h h2)
  · exact h
  · exact absurd (heldK_end f g m i) (h3 _ h (heldK_le f g m i))
/-- A border of the first i + 1 numbers of a pattern of m. -/
def bK (g : Nat → Int) (m i : Nat) : Nat := heldK (fun s => g (s + 1)) g m i
theorem bK_le (g : Nat → Int) (m i : Nat) : bK g m i ≤ i := heldK_lei _ _ _ _
theorem bK_zero (g : Nat → Int) (m : Nat) : bK g m 0 = 0 := Nat.le_zero.1 (bK_le g m 0)
theorem heldK_zero (f g : Nat → Int) (m : Nat) : heldK f g m 0 = 0 := Nat.le_zero.1 (heldK_lei f g m 0)
/-- While it is looked for how much goes on. -/
def InvK (f g : Nat → Int) (m i k : Nat) : Prop := EndK f g i k ∧ k ≤ m ∧ ∀ j, k < j → j < m → EndK f g i j → g j ≠ f i
theorem InvK.start (f g : Nat → Int) (m i : Nat) : InvK f g m i (heldK f g m i) := ⟨heldK_end f g m i, heldK_le f g m i, fun j h1 h2 h3 => absurd h3 (heldK_top f g m i j h1 (Nat.le_of_lt h2))⟩
theorem InvK.next {f g : Nat → Int} {m i k : Nat} (h : InvK f g m i k) (hk : 0 < k) (hx : k = m ∨ g k ≠ f i) : InvK f g m i (bK g m (k - 1)) := by
  obtain ⟨⟨h1, h2⟩, h3, h4⟩ := h
  obtain ⟨b1, b2⟩ := heldK_end (fun s => g (s + 1)) g m (k - 1)
  have b3 := heldK_top (fun s => g (s + 1)) g m (k - 1)
  change bK g m (k - 1) ≤ k - 1 at b1
  change ∀ s, s < bK g m (k - 1) → g s = g (k - 1 - bK g m (k - 1) + s + 1) at b2
  change ∀ j, bK g m (k - 1) < j → j ≤ m → ¬ EndK (fun s => g (s + 1)) g (k - 1) j at b3
  generalize bK g m (k - 1) = b at *
  refine ⟨⟨by omega, fun s hs => ?_⟩, by omega, fun j hj1 hj2 hj3 => ?_⟩
  · rw [b2 s hs, show k - 1 - b + s + 1 = k - b + s by omega, h2 _ (by omega), show i - k + (k - b + s) = i - b + s by omega]
  · rcases Nat.lt_trichotomy j k with e | e | e
    · exfalso
      refine b3 j hj1 (by omega) ⟨by omega, fun s hs => ?_⟩
      show g s = g (k - 1 - j + s + 1)
      rw [hj3.2 s hs, show k - 1 - j + s + 1 = k - j + s by omega, h2 _ (by omega), show i - k + (k - j + s) = i - j + s by omega]
    · subst e
      rcases hx with rfl | hx
      · omega
      · exact hx
    · exact h4 j e hj2 hj3
theorem EndK.down {f g : Nat → Int} {i j : Nat} (h : EndK f g (i + 1) (j + 1)) : EndK f g i j ∧ g j = f i := by
  obtain ⟨h1, h2⟩ := h
  refine ⟨⟨by omega, fun s hs => ?_⟩, ?_⟩
  · rw [h2 s (by omega)]; congr 1; omega
  · rw [h2 j (by omega)]; congr 1; omega
theorem EndK.up {f g : Nat → Int} {i j : Nat} (h : EndK f g i j) (h2 : g j = f i) : EndK f g (i + 1) (j + 1) := by
  obtain ⟨h1, h3⟩ := h
  refine ⟨by omega, fun s hs => ?_⟩
  by_cases e : s = j
  · subst e; rw [h2]; congr 1; omega
  · rw [h3 s (by omega)]; congr 1; omega
theorem InvK.hit {f g : Nat → Int} {m i k : Nat} (h : InvK f g m i k) (hk : k < m) (hx : g k = f i) : heldK f g m (i + 1) = k + 1 := by
  refine heldK_eq (h.1.up hx) hk fun j h1 h2 h3 => ?_
  obtain ⟨j, rfl⟩ : ∃ j', j = j' + 1 := ⟨j - 1, by omega⟩
  obtain ⟨h4, h5⟩ := h3.down
  exact h.2.2 j (by omega) (by omega) h4 h5
theorem InvK.miss {f g : Nat → Int} {m i : Nat} (h : InvK f g m i 0) (hx : g 0 ≠ f i) : heldK f g m (i + 1) = 0 := by
  refine heldK_eq (EndK.zero _ _ _) (Nat.zero_le _) fun j h1 h2 h3 => ?_
  obtain ⟨j, rfl⟩ : ∃ j', j = j' + 1 := ⟨j - 1, by omega⟩
  obtain ⟨h4, h5⟩ := h3.down
  by_cases e : j = 0
  · subst e; exact hx h5
  · exact h.2.2 j (by omega) (by omega) h4 h5
def atL (p : List Int) (i : Nat) : Int := p.getD i 0
/-- All borders of a pattern. -/
def bV (p : List Int) : List Int := (List.range p.length).map fun i => (bK (atL p) p.length i : Int)
theorem bV_len (p : List Int) : (bV p).length = p.length := by simp [bV]
theorem bV_at (p : List Int) (i : Nat) (h : i < p.length) : (bV p).getD i 0 = (bK (atL p) p.length i : Int) := by simp [bV, h]
def bordersV (p : List Int) : List Int := if p.length ≤ 100 then bV p else []
/-- The places at which the first n numbers hold the pattern. -/
def plK (f g : Nat → Int) (m : Nat) : Nat → List Int
  | 0 => []
  | n + 1 => if heldK f g m (n + 1) = m then plK f g m n ++ [((n + 1 - m : Nat) : Int)] else plK f g m n
theorem plK_len (f g : Nat → Int) (m : Nat) : ∀ n, (plK f g m n).length ≤ n
  | 0 => Nat.le_refl _
  | n + 1 => by
    have := plK_len f g m n
    rw [plK]; split
    · rw [List.length_append]; simpa using this
    · omega
def placesV (t p : List Int) : List Int := if (0 < p.length ∧ p.length ≤ 100) ∧ t.length ≤ 5000 then plK (atL t) (atL p) p.length t.length else []
def periodV (p : List Int) : Int := if 0 < p.length ∧ p.length ≤ 100 then (p.length : Int) - (bK (atL p) p.length (p.length - 1) : Int) else -1
end Go.Proofs.Ytkjfajdjiikpcaa
namespace Go.Proofs.Ytkjfajdjiikpcaa
open Go.ChangeShapes Go.WideShapes Go.ChangeAt Go.RowKit
theorem own_mono {w : World} {base base' : Nat} {e : TypeId} {size : Nat} {v : Value} {n : Nat} {xs : List Value} (h : w.ownsRow base e size v n xs) (hb : base' ≤ base) : w.ownsRow base' e size v n xs := by
  refine ⟨h.1, ?_⟩
  rcases h.2 with h2 | ⟨g, cap, cur, hv, hbg, r⟩
  · exact .inl h2
  · exact .inr ⟨g, cap, cur, hv, Nat.le_trans hb hbg, r⟩
theorem bordersV_len (xs : List Int) : (bordersV xs).length ≤ 100 := by
  unfold bordersV; split
  · rw [bV_len]; assumption
  · simp
theorem placesV_len (ts xs : List Int) : (placesV ts xs).length ≤ 5000 := by
  unfold placesV; split
  · rename_i h; exact Nat.le_trans (plK_len _ _ _ _) h.2
  · simp
end Go.Proofs.Ytkjfajdjiikpcaa
namespace Go.Proofs.Ytkjfajdjiikpcaa
open Go.ChangeShapes Go.WideShapes Go.ChangeAt Go.RowKit
theorem zeros_int (n : Nat) : (madeCells #[Value.int .i64 0] n).toList = (List.replicate n (0 : Int)).map (Value.int .i64) := by
  apply List.ext_getElem?
  intro i
  rw [Array.getElem?_toList]
  unfold madeCells
  rw [Array.getElem?_map, Array.getElem?_range]
  by_cases h : i < n
  · simp [h, Nat.mod_one]
  · simp [h]
set_option maxHeartbeats 2000000 in
set_option maxRecDepth 20000 in
theorem l11Draw_a (g : Nat) (v : Value) (xs : List Int) (most : Nat) (hmost : most ≤ 20) (w : World) (hc : CurAt w g v xs) :
    Calls Try.prog 22 #[.pointer (some ⟨g, 0, none⟩), .int .i64 most] w fun e w' => ∃ (u : Value) (ys : List Int), e = .returned u ∧ ys.length ≤ most ∧ w'.ownsRow w.heap.size 2 1 u ys.length (ys.map (Value.int .i64)) ∧ CurAt w' g v xs ∧ w.grownBy w' (some g) := by
  obtain ⟨i0, hi, hz0, hz1, hz2⟩ := info_parts info_int64d
  have hlt := hc.1
  have ho0 := World.ownsRow_lit (base := w.heap.size) (e := 2) (size := 1) w #[] 0 (Nat.le_refl _) (Nat.zero_le _) rfl
  obtain ⟨M, hM⟩ : ∃ M, Hid (most + 1 = M) := ⟨_, rfl⟩
  have hwm : IntKind.i64.wrap ((most : Int) + 1) = (M : Int) := by have := hM.out; rw [show ((most : Int) + 1) = (M : Int) by omega]; simp [IntKind.wrap, IntKind.bits, IntKind.signed]; omega
  go_enter Try.func22, Try.ntmps22
  go_wp2_with fail
  refine (l1Below_a g v xs (M : Int) _ (hc.below (bal w _))).mono ?_
  rintro e w1 ⟨x, rfl, hx0, hx1, _, hc1, hg1⟩
  obtain ⟨k, rfl⟩ : ∃ k : Nat, x = k := ⟨x.toNat, by omega⟩
  have hk : k ≤ most := by have := hM.out; have := hx1 (by omega); omega
  have ho1 := own_grow ho0 hg1 hlt
  have hgr := gtr (World.grownBy_alloc w _ (some g)) hg1
  clear hg1 hc hx1 ho0 hwm
  go_wp2
  go_loopw [5, 6] (fun u i wr => ∃ (j : Nat) (ys : List Int), i = .int .i64 j ∧ ys.length + j ≤ most ∧ wr.ownsRow w.heap.size 2 1 u ys.length (ys.map (Value.int .i64)) ∧ CurAt wr g v xs ∧ w.grownBy wr (some g)) (fun _ i _ => (intOf i).toNat)
  case atStart => exact ⟨k, [], rfl, by simpa using hk, by simpa using ho1, hc1, hgr⟩
  case round =>
    clear hk ho1 hc1 hgr
    obtain ⟨j, ys, rfl, hjl, ho, hcw, hgw⟩ := hrel
    by_cases hj : 0 < j
    · have hji : 0 < (j : Int) := by omega
      go_wp2_with fail
      refine (l1Below_a g v xs 2 _ hcw).mono ?_
      rintro e w2 ⟨r, rfl, _, _, _, hc2, hg2⟩
      have ho2 := own_grow ho hg2 hlt
      have hgw2 := gtr hgw hg2
      clear hcw hg2 hgw ho
      go_wp2_with (at_builtin; refine wpList_append_own _ rfl _ _ 24 rfl w.heap.size 2 i0 (.int .i64 0) 1 8 Try.underlying24 hi hz0 hz1 hz2 rfl (by decide) _ _ _ rfl (ho2.alloc _) ⟨_, 0, none⟩ 1 1 [.int .i64 r] rfl rfl ?c1 ?c2 ?c3 ?c4 ?c5 ?_)
      case c1 =>
        intro j u hj
        match j, hj with
        | 0, hj => simp at hj; subst hj; simp [Addr.add]
      case c2 => intro u hu; simp at hu; subst hu; rfl
      case c3 => unfold maxLen; omega
      case c4 => omega
      case c5 => have := hgw2.size; simp; omega
      · intro v' w3 ho3 hg3 _
        have hown : ∀ k, u5.ownBlock = some k → w.heap.size ≤ k := fun k hk => (ho2.lt k hk).1
        have hc3 := (hc2.below (bal w2 _)).grown_own hg3 (fun k hk => by have := hown k hk; omega)
        have hgw3 := grownBy_own (gtr hgw2 (World.grownBy_alloc w2 _ (some g))) hg3 hown
        clear hg3 hown ho2 hc2 hgw2
        go_wp2
        go_roundw
        case rel => exact ⟨j - 1, ys ++ [r], by go_num, by simp; omega, by simpa using ho3, hc3, hgw3⟩
        case measure => simp [intOf]; omega
    · have hji : ¬ 0 < (j : Int) := by omega
      go_wp2
      go_ret
      exact ⟨_, rfl, ys, by omega, ho, hcw, hgw⟩
set_option maxHeartbeats 2000000 in
set_option maxRecDepth 20000 in
theorem drawBorders_a (v : Value) (xs : List Int) (w : World) (hv : SlB w v xs) :
    Calls Try.prog 10 #[v] w fun e w' => ∃ (u : Value) (ys : List Int), e = .returned u ∧ ys.length ≤ 101 ∧ w'.ownsRow w.heap.size 2 1 u ys.length (ys.map (Value.int .i64)) ∧ Below w.heap.size w w' := by
  obtain ⟨i0, hi, hz0, hz1, hz2⟩ := info_parts info_int64d
  go_enter Try.func10, Try.ntmps10
  go_wp2_with fail
  refine (l1New_a v xs _ hv).mono ?_
  rintro e w1 ⟨rfl, hc1, hb1⟩
  go_wp2_with fail
  refine (l1Once_a _ v xs 30 _ hc1).mono ?_
  rintro e w2 ⟨b, rfl, hc2, hg2⟩
  have hb2 := hb1.grown hg2 hb1.size (fun k hk => by cases hk; exact Nat.le_refl _)
  clear hc1 hb1 hg2
  have hsz := hb2.size
  cases b
  · go_wp2_with fail
    refine (l11Draw_a _ v xs 12 (by omega) _ hc2).mono ?_
    rintro e w3 ⟨u, ys, rfl, hy, ho3, hc3, hg3⟩
    have hb3 := hb2.grown hg3 hb2.size (fun k hk => by cases hk; exact Nat.le_refl _)
    have ho4 := own_mono ho3 hsz
    clear ho3 hc3 hg3 hc2 hb2
    go_wp2
    go_ret
    exact ⟨_, ys, rfl, by omega, ho4, hb3⟩
  · go_wp2_with fail
    refine (l1Below_a _ v xs 2 _ hc2).mono ?_
    rintro e w5 ⟨x, rfl, hx0, hx1, _, hc5, hg5⟩
    obtain ⟨q, rfl⟩ : ∃ q : Nat, x = q := ⟨x.toNat, by omega⟩
    have hq : q ≤ 1 := by have := hx1 (by omega); omega
    have hb5 := hb2.grown hg5 hb2.size (fun k hk => by cases hk; exact Nat.le_refl _)
    clear hc2 hc5 hg5 hx1 hb2
    obtain ⟨n, hn⟩ : ∃ n, Hid (100 + q = n) := ⟨_, rfl⟩
    have eN : IntKind.i64.wrap (100 + (q : Int)) = (n : Int) := by have := hn.out; simp [IntKind.wrap, IntKind.bits, IntKind.signed]; omega
    have hn41 : n ≤ 101 := by have := hn.out; omega
    go_wp2_with (refine wpList_make_full _ rfl _ _ 24 rfl w.heap.size 2 i0 (.int .i64 0) 1 Try.underlying24 hi hz0 hz1 .i64 .i64 (n : Int) (n : Int) n rfl rfl rfl rfl ?c1 ?c2 ?c3 ?_)
    case c1 => rw [hz2]; omega
    case c2 => unfold maxLen; omega
    case c3 => exact hb5.size
    intro w6 ho6 hg6
    have hb6 := hb5.grown hg6 hb5.size (fun k hk => by cases hk)
    have ho7 : w6.ownsRow w.heap.size 2 1 (.slice (some ⟨w5.heap.size, 0, none⟩) n n) n ((List.replicate n (0 : Int)).map (Value.int .i64)) := by rw [← zeros_int]; exact ho6
    clear hg6 ho6 hb5
    go_wp2
    go_ret
    exact ⟨_, List.replicate n 0, rfl, by simp; omega, by simpa using ho7, hb6⟩
set_option maxHeartbeats 2000000 in
set_option maxRecDepth 20000 in
theorem drawPlaces_a (v : Value) (xs : List Int) (w : World) (hv : SlB w v xs) :
    Calls Try.prog 8 #[v] w fun e w' => ∃ (u1 u2 : Value) (ys zs : List Int), e = .returned (.tuple #[u1, u2]) ∧ ys.length ≤ 5001 ∧ zs.length ≤ 4 ∧ w'.ownsRow w.heap.size 2 1 u1 ys.length (ys.map (Value.int .i64)) ∧ w'.ownsRow w.heap.size 2 1 u2 zs.length (zs.map (Value.int .i64)) ∧ Below w.heap.size w w' := by
  obtain ⟨i0, hi, hz0, hz1, hz2⟩ := info_parts info_int64d
  go_enter Try.func8, Try.ntmps8
  go_wp2_with fail
  refine (l1New_a v xs _ hv).mono ?_
  rintro e w1 ⟨rfl, hc1, hb1⟩
  have hlt := hc1.1
  go_wp2_with fail
  refine (l11Draw_a _ v xs 20 (by omega) _ hc1).mono ?_
  rintro e w2 ⟨u1, ys, rfl, hy, ho2, hc2, hg2⟩
  have hb2 := hb1.grown hg2 hb1.size (fun k hk => by cases hk; exact Nat.le_refl _)
  have hs1 := hb1.size
  clear hc1 hb1 hg2
  go_wp2_with fail
  refine (l11Draw_a _ v xs 4 (by omega) _ hc2).mono ?_
  rintro e w3 ⟨u2, zs, rfl, hz, ho3, hc3, hg3⟩
  have hs2 := hb2.size
  have hb3 := hb2.grown hg3 hb2.size (fun k hk => by cases hk; exact Nat.le_refl _)
  have ho4 := own_grow ho2 hg3 hlt
  have hlt2 := hc2.1
  clear hc2 hb2 hg3 ho2
  go_wp2_with fail
  refine (l1Once_a _ v xs 30 _ hc3).mono ?_
  rintro e w4 ⟨b, rfl, hc4, hg4⟩
  have hb4 := hb3.grown hg4 hb3.size (fun k hk => by cases hk; exact Nat.le_refl _)
  have ho5 := own_mono (own_grow ho4 hg4 hlt) hs1
  have ho6' := own_grow ho3 hg4 hlt2
  have ho6 := own_mono ho6' hs2
  clear hc3 hb3 hg4 ho3 ho4
  cases b
  · go_wp2
    exact bodyPost_ret (results_tmp2 rfl _ _ _) rfl ⟨u1, u2, ys, zs, rfl, by omega, hz, ho5, ho6, hb4⟩
  · go_wp2_with fail
    refine (l1Below_a _ v xs 2 _ hc4).mono ?_
    rintro e w5 ⟨x, rfl, hx0, hx1, _, hc5, hg5⟩
    obtain ⟨q, rfl⟩ : ∃ q : Nat, x = q := ⟨x.toNat, by omega⟩
    have hq : q ≤ 1 := by have := hx1 (by omega); omega
    have hb5 := hb4.grown hg5 hb4.size (fun k hk => by cases hk; exact Nat.le_refl _)
    have ho7 : w5.ownsRow w.heap.size 2 1 u2 zs.length (zs.map (Value.int .i64)) := own_mono (own_grow ho6' hg5 hlt2) hs2
    clear hc4 hc5 hg5 hx1 hb4 ho5 ho6 ho6'
    obtain ⟨n, hn⟩ : ∃ n, Hid (5000 + q = n) := ⟨_, rfl⟩
    have eN : IntKind.i64.wrap (5000 + (q : Int)) = (n : Int) := by have := hn.out; simp [IntKind.wrap, IntKind.bits, IntKind.signed]; omega
    have hn41 : n ≤ 5001 := by have := hn.out; omega
    go_wp2_with (refine wpList_make_full _ rfl _ _ 24 rfl w.heap.size 2 i0 (.int .i64 0) 1 Try.underlying24 hi hz0 hz1 .i64 .i64 (n : Int) (n : Int) n rfl rfl rfl rfl ?c1 ?c2 ?c3 ?_)
    case c1 => rw [hz2]; omega
    case c2 => unfold maxLen; omega
    case c3 => exact hb5.size
    intro w6 ho6 hg6
    have hb6 := hb5.grown hg6 hb5.size (fun k hk => by cases hk)
    have ho8 : w6.ownsRow w.heap.size 2 1 (.slice (some ⟨w5.heap.size, 0, none⟩) n n) n ((List.replicate n (0 : Int)).map (Value.int .i64)) := by rw [← zeros_int]; exact ho6
    have ho9 := ho7.below ((Below.refl w5.heap.size w5).grown hg6 (Nat.le_refl _) (fun k hk => by cases hk))
    clear hg6 ho6 hb5
    go_wp2
    exact bodyPost_ret (results_tmp2 rfl _ _ _) rfl ⟨.slice (some ⟨w5.heap.size, 0, none⟩) n n, u2, List.replicate n 0, zs, rfl, by simp; omega, hz, by simpa using ho8, ho9, hb6⟩
end Go.Proofs.Ytkjfajdjiikpcaa
namespace Go.Proofs.Ytkjfajdjiikpcaa
theorem plK_small (f g : Nat → Int) (m : Nat) : ∀ e, e < m → plK f g m e = []
  | 0, _ => rfl
  | e + 1, h => by
    have := heldK_lei f g m (e + 1)
    rw [plK, if_neg (by omega)]; exact plK_small f g m e (by omega)
theorem plK_pre (f g : Nat → Int) (m e : Nat) : ∀ d, ∃ r, plK f g m (e + d) = plK f g m e ++ r
  | 0 => ⟨[], by simp⟩
  | d + 1 => by
    obtain ⟨r, hr⟩ := plK_pre f g m e d
    rw [← Nat.add_assoc, plK, hr]
    split
    · exact ⟨r ++ [((e + d + 1 - m : Nat) : Int)], by rw [List.append_assoc]⟩
    · exact ⟨r, rfl⟩
theorem heldK_full (f g : Nat → Int) (m i : Nat) : heldK f g m (i + m) = m ↔ ∀ s, s < m → g s = f (i + s) := by
  constructor
  · intro h s hs
    have := (heldK_end f g m (i + m)).2 s (by rw [h]; exact hs)
    rw [h] at this
    rw [this]; congr 1; omega
  · intro h
    refine heldK_eq ⟨by omega, fun s hs => ?_⟩ (Nat.le_refl _) (fun j h1 h2 => by omega)
    rw [h s hs]; congr 1; omega
theorem take_iff (r q : List Int) (a j : Nat) (h1 : j ≤ r.length) (h2 : a + j ≤ q.length) : r.take j = (q.drop a).take j ↔ ∀ s, s < j → atL r s = atL q (a + s) := by
  constructor
  · intro h s hs
    have h3 := congrArg (fun l => l.getD s 0) h
    unfold atL
    simpa [hs, show s < r.length by omega, show a + s < q.length by omega] using h3
  · intro h
    apply List.ext_getElem?
    intro s
    by_cases hs : s < j
    · have h3 := h s hs
      unfold atL at h3
      simp [show s < r.length by omega, show a + s < q.length by omega] at h3
      simp [hs, show s < r.length by omega, show a + s < q.length by omega, h3]
    · rw [List.getElem?_eq_none (by simp; omega), List.getElem?_eq_none (by simp; omega)]
/-- A place of the pattern: the text's part there is the pattern. -/
theorem place_iff (ts ps : List Int) (i : Nat) (h : i + ps.length ≤ ts.length) : ((ts.drop i).take ps.length = ps) ↔ heldK (atL ts) (atL ps) ps.length (i + ps.length) = ps.length := by
  rw [heldK_full]
  have h1 := take_iff ps ts i ps.length (Nat.le_refl _) h
  rw [List.take_length] at h1
  rw [← h1]
  exact eq_comm
/-- The border is one. -/
theorem border_is (qs : List Int) (i : Nat) (h : i < qs.length) : qs.take (bK (atL qs) qs.length i) = (qs.drop (i + 1 - bK (atL qs) qs.length i)).take (bK (atL qs) qs.length i) := by
  have hle := bK_le (atL qs) qs.length i
  refine (take_iff qs qs _ _ (by omega) (by omega)).2 fun s hs => ?_
  have := (heldK_end (fun s => atL qs (s + 1)) (atL qs) qs.length i).2 s hs
  change atL qs s = atL qs (i - bK (atL qs) qs.length i + s + 1) at this
  rw [this]; congr 1; omega
/-- None is longer. -/
theorem border_top (qs : List Int) (i j : Nat) (h : i < qs.length) (h1 : bK (atL qs) qs.length i < j) (h2 : j ≤ i) : ¬ qs.take j = (qs.drop (i + 1 - j)).take j := by
  intro e
  have h3 := (take_iff qs qs (i + 1 - j) j (by omega) (by omega)).1 e
  refine heldK_top (fun s => atL qs (s + 1)) (atL qs) qs.length i j h1 (by omega) ⟨h2, fun s hs => ?_⟩
  show atL qs s = atL qs (i - j + s + 1)
  rw [h3 s hs]; congr 1; omega
/-- Each number is the one a period ahead. -/
theorem period_is (qs : List Int) (h : 0 < qs.length) (i : Nat) (h1 : qs.length - bK (atL qs) qs.length (qs.length - 1) ≤ i) (h2 : i < qs.length) : atL qs i = atL qs (i - (qs.length - bK (atL qs) qs.length (qs.length - 1))) := by
  have hle := bK_le (atL qs) qs.length (qs.length - 1)
  have h3 := (heldK_end (fun s => atL qs (s + 1)) (atL qs) qs.length (qs.length - 1)).2 (i - (qs.length - bK (atL qs) qs.length (qs.length - 1))) (by show _ < bK (atL qs) qs.length (qs.length - 1); omega)
  change atL qs _ = atL qs (qs.length - 1 - bK (atL qs) qs.length (qs.length - 1) + _ + 1) at h3
  rw [h3]; congr 1; omega
end Go.Proofs.Ytkjfajdjiikpcaa
namespace Go.Proofs.Ytkjfajdjiikpcaa
open Go.ChangeShapes Go.WideShapes Go.ChangeAt Go.RowKit
theorem gbl {w w' : World} (h : Below w.heap.size w w') (row : Option Nat) : w.grownBy w' row := ⟨h.os, h.tape, h.output, h.size, fun k hk _ => h.block k hk⟩
theorem setCell_gr (w : World) (B o : Nat) (u : Value) : w.grownBy (w.setCell ⟨B, o, none⟩ u) (some B) :=
  ⟨rfl, rfl, rfl, by simp, fun k _ hk => heap_setCell_other w ⟨B, o, none⟩ k _ (fun e => hk (by simp [e]))⟩
theorem grown_tr {a b c : World} {row : Option Nat} (h : a.grownBy b row) (k : b.grownBy c row) : a.grownBy c row :=
  ⟨k.os.trans h.os, k.tape.trans h.tape, k.output.trans h.output, Nat.le_trans h.size k.size, fun i hi hr => (k.block i (Nat.lt_of_lt_of_le hi h.size) hr).trans (h.block i hi hr)⟩
theorem own_lift {w0 w w' : World} {B : Nat} (hb : Below w0.heap.size w0 w) (hg : w.grownBy w' (some B)) (h : w0.heap.size ≤ B) : Below w0.heap.size w0 w' :=
  hb.grown hg hb.size (fun k hk => by cases hk; exact h)
theorem bal' (w : World) (o : Obj) : Below w.heap.size w (w.alloc o) := (Below.refl _ _).alloc (Nat.le_refl _) o
end Go.Proofs.Ytkjfajdjiikpcaa
namespace Go.Proofs.Ytkjfajdjiikpcaa
open Go.ChangeShapes Go.WideShapes Go.ChangeAt Go.RowKit
/-- A number in a box of its own. -/
def NumAt (w : World) (B : Nat) (k : Nat) : Prop := B < w.heap.size ∧ w.cell? ⟨B, 0, none⟩ = some (.int .i64 k) ∧ w.frozen? ⟨B, 0, none⟩ = false
theorem NumAt.set {w : World} {B k : Nat} (h : NumAt w B k) (k' : Nat) : NumAt (w.setCell ⟨B, 0, none⟩ (.int .i64 k')) B k' :=
  ⟨by simpa using h.1, setCell_same w ⟨B, 0, none⟩ (.int .i64 k') _ h.2.1, by rw [setCell_frozen]; exact h.2.2⟩
theorem NumAt.grown {w w' : World} {B k : Nat} {row : Option Nat} (h : NumAt w B k) (hg : w.grownBy w' row) (hr : row ≠ some B) : NumAt w' B k :=
  ⟨Nat.lt_of_lt_of_le h.1 hg.size, by rw [World.cell?_of_block (w := w) (hg.block B h.1 (Ne.symm hr))]; exact h.2.1, by rw [World.frozen?_of_block (w := w) (hg.block B h.1 (Ne.symm hr))]; exact h.2.2⟩
theorem NumAt.below {w w' : World} {B k : Nat} (h : NumAt w B k) (hb : Below w.heap.size w w') : NumAt w' B k := h.grown (gbl hb none) (by simp)
def numOf (w : World) (B : Nat) : Nat := match w.cell? ⟨B, 0, none⟩ with
  | some (.int _ n) => n.toNat
  | _ => 0
theorem NumAt.is {w : World} {B k : Nat} (h : NumAt w B k) : numOf w B = k := by
  unfold numOf; rw [h.2.1]; simp
theorem cell_kept {w w' : World} {B o : Nat} {v : Value} {row : Option Nat} (h : w.cell? ⟨B, o, none⟩ = some v) (hg : w.grownBy w' row) (hr : row ≠ some B) : w'.cell? ⟨B, o, none⟩ = some v := by
  have hlt : B < w.heap.size := World.block_lt_of_cell? w _ h
  rw [World.cell?_of_block (w := w) (hg.block B hlt (Ne.symm hr))]; exact h
theorem patternOk_any (v : Value) (xs : List Int) (w : World) (h : SlI w v xs) :
    Calls Try.prog 25 #[v] w fun e w' => e = .returned (.bool (decide (0 < xs.length ∧ xs.length ≤ 100))) ∧ w' = w := by
  obtain ⟨a, c, rfl, _⟩ := h
  obtain ⟨r, hr⟩ : ∃ r, Hid (decide (0 < xs.length ∧ xs.length ≤ 100) = r) := ⟨_, rfl⟩
  rw [hr.out]
  have hr2 : r = decide (0 < xs.length ∧ xs.length ≤ 100) := hr.out.symm
  generalize xs.length = m at *
  clear hr
  go_enter Try.func25, Try.ntmps25
  by_cases h1 : 0 < m
  · have h1i : (0 : Int) < (m : Int) := by omega
    by_cases h2 : m ≤ 100
    · have h2i : (m : Int) ≤ 100 := by omega
      have hr3 : r = true := by rw [hr2]; exact decide_eq_true ⟨h1, h2⟩
      subst hr3; clear hr2
      go_wp2
      go_ret
      exact ⟨rfl, rfl⟩
    · have h2i : ¬ (m : Int) ≤ 100 := by omega
      have hr3 : r = false := by rw [hr2]; exact decide_eq_false (fun h => h2 h.2)
      subst hr3; clear hr2
      go_wp2
      go_ret
      exact ⟨rfl, rfl⟩
  · have h1i : ¬ (0 : Int) < (m : Int) := by omega
    have hr3 : r = false := by rw [hr2]; exact decide_eq_false (fun h => h1 h.1)
    subst hr3; clear hr2
    go_wp2
    go_ret
    exact ⟨rfl, rfl⟩
set_option maxHeartbeats 2000000 in
set_option maxRecDepth 20000 in
/-- The closure is told a number of the text. -/
theorem ends_any (f g : Nat → Int) (m i n : Nat) (H W P B pb po pc bb bo bL bc : Nat) (w : World) (hm : 0 < m ∧ m ≤ 100)
    (hH : NumAt w H (heldK f g m i)) (hW : w.cell? ⟨W, 0, none⟩ = some (.int .i64 m)) (hP : w.cell? ⟨P, 0, none⟩ = some (.slice (some ⟨pb, po, none⟩) m pc)) (hB : w.cell? ⟨B, 0, none⟩ = some (.slice (some ⟨bb, bo, none⟩) bL bc))
    (hp : ∀ j, j < m → w.cell? ⟨pb, po + j, none⟩ = some (.int .i64 (g j))) (hb : ∀ j, j < n → w.cell? ⟨bb, bo + j, none⟩ = some (.int .i64 (bK g m j))) (hn : n ≤ bL) (hk : heldK f g m i ≤ n)
    (hne : W ≠ H ∧ P ≠ H ∧ B ≠ H ∧ pb ≠ H ∧ bb ≠ H) :
    Calls Try.prog 30 #[.int .i64 (f i), .pointer (some ⟨H, 0, none⟩), .pointer (some ⟨W, 0, none⟩), .pointer (some ⟨P, 0, none⟩), .pointer (some ⟨B, 0, none⟩)] w fun e w' => e = .returned (.int .i64 (heldK f g m (i + 1))) ∧ NumAt w' H (heldK f g m (i + 1)) ∧ w.grownBy w' (some H) := by
  have hI := InvK.start f g m i
  generalize heldK f g m i = k at *
  obtain ⟨r, hr⟩ : ∃ r, Hid (heldK f g m (i + 1) = r) := ⟨_, rfl⟩
  rw [hr.out]
  obtain ⟨x, hx⟩ : ∃ x, Hid (f i = x) := ⟨_, rfl⟩
  rw [hx.out]
  obtain ⟨n1, n2, n3, n4, n5⟩ := hne
  have q1 : (some H : Option Nat) ≠ some W := fun e => n1 (by injection e with e; exact e.symm)
  have q2 : (some H : Option Nat) ≠ some P := fun e => n2 (by injection e with e; exact e.symm)
  have q3 : (some H : Option Nat) ≠ some B := fun e => n3 (by injection e with e; exact e.symm)
  have q4 : (some H : Option Nat) ≠ some pb := fun e => n4 (by injection e with e; exact e.symm)
  have q5 : (some H : Option Nat) ≠ some bb := fun e => n5 (by injection e with e; exact e.symm)
  replace hI := (show Hid _ from hI)
  go_enter Try.func30, Try.ntmps30
  go_wp2
  go_loopw [] (fun wr => ∃ k : Nat, NumAt wr H k ∧ Hid (InvK f g m i k) ∧ k ≤ n ∧ w.grownBy wr (some H)) (fun wr => numOf wr H)
  case atStart => exact ⟨k, hH, hI, hk, World.grownBy.refl _ _⟩
  case round =>
    obtain ⟨k, hH1, hI1, hk1, hg⟩ := hrel
    clear hH hI hk
    have hkm : k ≤ m := hI1.out.2.1
    have c1 := cell_kept hW hg q1
    have c2 := cell_kept hP hg q2
    have c3 := cell_kept hB hg q3
    have c4 := fun j hj => cell_kept (hp j hj) hg q4
    have c5 := fun j hj => cell_kept (hb j hj) hg q5
    have hnum := hH1.is
    have hset := fun k' => hH1.set k'
    obtain ⟨hl, h0, h00⟩ := id hH1
    have hgn : ∀ y : Nat, w.grownBy (wr.setCell ⟨H, 0, none⟩ (.int .i64 y)) (some H) := fun y => grown_tr hg (setCell_gr wr H 0 _)
    replace hg := (show Hid _ from hg)
    replace hnum := (show Hid _ from hnum)
    replace hgn := (show Hid _ from hgn)
    have hgo : ∀ q : Nat, 0 < k → (k = m ∨ g k ≠ x) → Hid (q = k - 1) → Hid (InvK f g m i (bK g m q)) ∧ bK g m q < k ∧ bK g m q ≤ n := by
      intro q h1 h2 h3
      have e := h3.out
      have h4 := bK_le g m q
      refine ⟨?_, by omega, by omega⟩
      have := hI1.out.next h1 (by rw [hx.out]; exact h2)
      rw [← e] at this; exact this
    have hhit : k < m → g k = x → Hid (k + 1 = r) := fun h1 h2 => by
      have := hI1.out.hit h1 (by rw [hx.out]; exact h2)
      rw [hr.out] at this; exact this.symm
    have hmiss : k = 0 → g k ≠ x → Hid (r = 0) := fun h1 h2 => by
      subst h1
      have := hI1.out.miss (by rw [hx.out]; exact h2)
      rw [hr.out] at this; exact this
    clear hI1
    by_cases hk0 : 0 < k
    · have hki : (0 : Int) < (k : Int) := by omega
      obtain ⟨q, hq⟩ : ∃ q, Hid (q = k - 1) := ⟨_, rfl⟩
      have hqn : q < n := by have := hq.out; omega
      have hqi : (q : Int) < (bL : Int) := by omega
      have hwr : IntKind.i64.wrap ((k : Int) - 1) = (q : Int) := by have := hq.out; rw [show ((k : Int) - 1) = (q : Int) by omega]; simp [IntKind.wrap, IntKind.bits, IntKind.signed]; omega
      have cq := c5 q hqn
      by_cases hkm2 : k = m
      · obtain ⟨i1, i2, i3⟩ := hgo q hk0 (.inl hkm2) hq
        obtain ⟨y, hy⟩ : ∃ y, Hid (bK g m q = y) := ⟨_, rfl⟩
        rw [hy.out] at cq i1 i2 i3
        have hs2 := hset y
        have hke : ((k : Int) == (m : Int)) = true := by simp; omega
        clear hset hgo hhit hmiss c4 c5
        subst hkm2
        replace hs2 := (show Hid _ from hs2)
        go_wp2
        go_roundw
        case rel => exact ⟨y, hs2.out, i1, i3, hgn.out y⟩
        case measure => rw [NumAt.is hs2.out, hnum.out]; exact i2
      · have hkm3 : k < m := by omega
        have hkmi : (k : Int) < (m : Int) := by omega
        have hke : ((k : Int) == (m : Int)) = false := by simp; omega
        have hke2 : ¬ (k : Int) = (m : Int) := by omega
        have ck := c4 k hkm3
        by_cases hkx : g k = x
        · have h1 := hhit hkm3 hkx
          have hs2 := hset (k + 1)
          have hg2 := hgn.out (k + 1)
          rw [h1.out] at hs2 hg2
          have hwk : IntKind.i64.wrap ((k : Int) + 1) = (r : Int) := by have := h1.out; rw [show ((k : Int) + 1) = (r : Int) by omega]; simp [IntKind.wrap, IntKind.bits, IntKind.signed]; omega
          rw [hkx] at ck
          have hcr : (wr.setCell ⟨H, 0, none⟩ (.int .i64 r)).cell? ⟨H, 0, none⟩ = some (.int .i64 r) := hs2.2.1
          clear hset hgo hhit hmiss c4 c5 cq hwr hgn hg hkm2 hkm3
          replace hs2 := (show Hid _ from hs2)
          replace hg2 := (show Hid _ from hg2)
          replace h1 := (show Hid _ from h1)
          go_wp2
          go_ret
          exact ⟨rfl, hs2.out, hg2.out⟩
        · obtain ⟨i1, i2, i3⟩ := hgo q hk0 (.inr hkx) hq
          obtain ⟨y, hy⟩ : ∃ y, Hid (bK g m q = y) := ⟨_, rfl⟩
          rw [hy.out] at cq i1 i2 i3
          have hs2 := hset y
          generalize g k = z at *
          have hze : (z == x) = false := by simpa using hkx
          clear hset hgo hhit hmiss c4 c5 hkm2 hkm3
          replace hs2 := (show Hid _ from hs2)
          go_wp2
          go_roundw
          case rel => exact ⟨y, hs2.out, i1, i3, hgn.out y⟩
          case measure => rw [NumAt.is hs2.out, hnum.out]; exact i2
    · have hk00 : k = 0 := by omega
      have hki : ¬ (0 : Int) < (k : Int) := by omega
      have hkmi : (k : Int) < (m : Int) := by omega
      have ck := c4 k (by omega)
      by_cases hkx : g k = x
      · have h1 := hhit (by omega) hkx
        have hs2 := hset (k + 1)
        have hg2 := hgn.out (k + 1)
        rw [h1.out] at hs2 hg2
        have hwk : IntKind.i64.wrap ((k : Int) + 1) = (r : Int) := by have := h1.out; rw [show ((k : Int) + 1) = (r : Int) by omega]; simp [IntKind.wrap, IntKind.bits, IntKind.signed]; omega
        rw [hkx] at ck
        have hcr : (wr.setCell ⟨H, 0, none⟩ (.int .i64 r)).cell? ⟨H, 0, none⟩ = some (.int .i64 r) := hs2.2.1
        clear hset hgo hhit hmiss c4 c5 hgn hg hk00
        replace hs2 := (show Hid _ from hs2)
        replace hg2 := (show Hid _ from hg2)
        replace h1 := (show Hid _ from h1)
        go_wp2
        go_ret
        exact ⟨rfl, hs2.out, hg2.out⟩
      · have h1 := hmiss hk00 hkx
        have hr0 : k = r := by have := h1.out; omega
        have hs2 : Hid (NumAt wr H r) := by rw [← hr0]; exact hH1
        generalize g k = z at *
        have hze : (z == x) = false := by simpa using hkx
        have hrr : (k : Int) = (r : Int) := by omega
        rw [hrr] at h0 hki hkmi
        have hkr : po + k = po + r := by omega
        rw [hkr] at ck
        clear hset hgo hhit hmiss c4 c5 hgn hk00 hH1 hk1 hkm hnum hr0 hrr hkr hk0 h1
        go_wp2
        go_ret
        exact ⟨rfl, hs2.out, hg.out⟩
end Go.Proofs.Ytkjfajdjiikpcaa
namespace Go.Proofs.Ytkjfajdjiikpcaa
open Go.ChangeShapes Go.WideShapes Go.ChangeAt Go.RowKit
/-- A closure of boxes at N, N + 1, N + 2, N + 3. -/
def cloE (N : Nat) : Value := .func (.func 30) #[] #[.pointer (some ⟨N + 3, 0, none⟩), .pointer (some ⟨N + 2, 0, none⟩), .pointer (some ⟨N, 0, none⟩), .pointer (some ⟨N + 1, 0, none⟩)]
def CloAt (w : World) (N : Nat) (vp vb : Value) (m k : Nat) : Prop := NumAt w (N + 3) k ∧ w.cell? ⟨N + 2, 0, none⟩ = some (.int .i64 m) ∧ w.cell? ⟨N, 0, none⟩ = some vp ∧ w.cell? ⟨N + 1, 0, none⟩ = some vb
theorem CloAt.below {w w' : World} {N : Nat} {vp vb : Value} {m k : Nat} (h : CloAt w N vp vb m k) (hb : Below w.heap.size w w') : CloAt w' N vp vb m k :=
  ⟨h.1.below hb, cell_kept h.2.1 (gbl hb none) (by simp), cell_kept h.2.2.1 (gbl hb none) (by simp), cell_kept h.2.2.2 (gbl hb none) (by simp)⟩
set_option maxHeartbeats 1000000 in
set_option maxRecDepth 20000 in
theorem ending_any (a b : Option Addr) (m c bL bc : Nat) (w : World) :
    Calls Try.prog 26 #[.slice a m c, .slice b bL bc] w fun e w' => e = .returned (cloE w.heap.size) ∧ CloAt w' w.heap.size (.slice a m c) (.slice b bL bc) m 0 ∧ Below w.heap.size w w' := by
  go_enter Try.func26, Try.ntmps26
  go_wp2
  go_ret
  refine ⟨rfl, ⟨⟨by simp [go_sem], by simp [go_sem], by simp [go_sem]⟩, by simp [go_sem], by simp [go_sem], by simp [go_sem]⟩, ?_⟩
  exact ((((Below.refl _ _).alloc (Nat.le_refl _) _).alloc (by simp) _).alloc (by simp; omega) _).alloc (by simp; omega) _
end Go.Proofs.Ytkjfajdjiikpcaa
namespace Go.Proofs.Ytkjfajdjiikpcaa
open Go.ChangeShapes Go.WideShapes Go.ChangeAt Go.RowKit
theorem own_nil_lit (w : World) : (w.alloc (Obj.cells #[] 2)).ownsRow w.heap.size 2 1 (.slice (some ⟨w.heap.size, 0, none⟩) 0 0) 0 [] := World.ownsRow_lit (base := w.heap.size) (e := 2) (size := 1) w #[] 0 (Nat.le_refl _) (Nat.zero_le _) rfl
/-- A slice is no longer than its room. -/
def CapOk (v : Value) (n : Nat) : Prop := ∃ a c, v = .slice a n c ∧ n ≤ c
theorem CapOk.own {w : World} {base : Nat} {e : TypeId} {size : Nat} {v : Value} {n : Nat} {xs : List Value} (h : w.ownsRow base e size v n xs) : CapOk v n := by
  rcases h.2 with ⟨rfl, rfl⟩ | ⟨g, cap, cur, rfl, _, _, hl, _⟩
  · exact ⟨_, _, rfl, Nat.le_refl _⟩
  · exact ⟨_, _, rfl, hl⟩
theorem CapOk.row {k : IntKind} {w : World} {a : Option Addr} {len cap : Nat} {zs : List Int} (h : IsRow k w a len cap zs) : CapOk (.slice a len cap) len := by
  rcases h with ⟨rfl, rfl, rfl, rfl⟩ | ⟨x, rfl, hl, _⟩
  · exact ⟨_, _, rfl, Nat.le_refl _⟩
  · exact ⟨_, _, rfl, hl⟩
theorem brd_done {g : Nat → Int} {m : Nat} {bs : List Int} {ys : List Value} (hlen : bs.length = m) (hbat : ∀ i, i < m → bs.getD i 0 = (bK g m i : Int)) (hy : ys.length = m) (h : ∀ t, t < m → ys[t]? = some (.int .i64 (bK g m t))) : ys = bs.map (Value.int .i64) := by
  apply List.ext_getElem?
  intro i
  by_cases hi : i < m
  · rw [h i hi, ← hbat i hi]; simp [show i < bs.length by omega]
  · rw [List.getElem?_eq_none (by omega), List.getElem?_eq_none (by simp; omega)]
set_option maxHeartbeats 4000000 in
set_option maxRecDepth 20000 in
theorem implBorders_any (v : Value) (xs : List Int) (w : World) (h : SlI w v xs) (hcap : CapOk v xs.length) :
    Calls Try.prog 11 #[v] w fun e w' => ∃ u, e = .returned u ∧ w'.ownsRow w.heap.size 2 1 u (bordersV xs).length ((bordersV xs).map (Value.int .i64)) ∧ Below w.heap.size w w' := by
  have hcall := patternOk_any v xs w h
  by_cases hok : 0 < xs.length ∧ xs.length ≤ 100
  case neg =>
    rw [decide_eq_false hok] at hcall
    have hA : bordersV xs = [] := by
      unfold bordersV
      split
      · have : xs = [] := List.eq_nil_of_length_eq_zero (by omega)
        subst this; rfl
      · rfl
    rw [hA]
    clear hA hok
    go_enter Try.func11, Try.ntmps11
    go_wp2_with fail
    refine hcall.mono ?_
    rintro e w1 ⟨rfl, rfl⟩
    go_wp2
    go_ret
    exact ⟨_, rfl, own_nil_lit _, bal' _ _⟩
  rw [decide_eq_true hok] at hcall
  have hA : bordersV xs = bV xs := by unfold bordersV; rw [if_pos hok.2]
  rw [hA]
  obtain ⟨hm1, hm2⟩ := hok
  obtain ⟨_, c, rfl, e | ⟨pb, po, rfl, hlt, hc⟩⟩ := h
  · rw [e] at hm1; simp at hm1
  have hlen := bV_len xs
  have hbat := bV_at xs
  generalize hbv : bV xs = bs at *
  change ∀ i, i < xs.length → w.cell? ⟨pb, po + i, none⟩ = some (.int .i64 (atL xs i)) at hc
  generalize atL xs = g at *
  have hmc : xs.length ≤ c := by obtain ⟨a, c', e, h⟩ := hcap; cases e; exact h
  clear hcap
  generalize hm : xs.length = m at *
  clear hA hbv
  obtain ⟨i0, hi, hz0, hz1, hz2⟩ := info_parts info_i64
  replace hlen := (show Hid _ from hlen)
  replace hbat := (show Hid _ from hbat)
  replace hm := (show Hid _ from hm)
  rw [hlen.out]
  go_enter Try.func11, Try.ntmps11
  go_wp2_with fail
  refine hcall.mono ?_
  rintro e w1 ⟨rfl, hw1⟩
  subst hw1
  clear hcall
  go_wp2_with (refine wpList_make_full _ rfl _ _ 24 rfl w1.heap.size 2 i0 (.int .i64 0) 1 Try.underlying24 hi hz0 hz1 .i64 .i64 (m : Int) (m : Int) m rfl rfl rfl rfl ?c1 ?c2 ?c3 ?_)
  case c1 => rw [hz2]; omega
  case c2 => unfold maxLen; omega
  case c3 => exact Nat.le_refl _
  intro w2 ho hg
  have hb2 : Below w1.heap.size w1 w2 := (Below.refl _ _).grown hg (Nat.le_refl _) (fun k hk => by cases hk)
  clear hg
  go_wp2_with fail
  refine (ending_any _ _ m c m m w2).mono ?_
  rintro e w3 ⟨rfl, hclo, hb3⟩
  have ho3 := ho.below hb3
  have hb03 := hb2.trans (hb3.mono hb2.size)
  have hN : w1.heap.size < w2.heap.size := (World.ownsRow.lt ho w1.heap.size rfl).2
  clear ho hb3
  replace ho3 : Hid (w3.ownsRow w1.heap.size 2 1 (Value.slice (some ⟨w1.heap.size, 0, none⟩) m m) m (madeCells #[Value.int .i64 0] m).toList) := ho3
  replace hclo : Hid (CloAt w3 w2.heap.size (.slice (some ⟨pb, po, none⟩) m c) (.slice (some ⟨w1.heap.size, 0, none⟩) m m) m 0) := hclo
  have hc3 := fun i hi => cell_kept (hc i hi) (gbl hb03 none) (by simp)
  have hzero : (madeCells #[Value.int .i64 0] m).toList.length = m := by simpa using ho3.out.1
  have hz0t : ∀ t, t < 1 → (madeCells #[Value.int .i64 0] m).toList[t]? = some (.int .i64 (bK g m t)) := by
    intro t ht
    obtain rfl : t = 0 := by omega
    rw [bK_zero]
    have : 0 < m := hm1
    simp [madeCells, this]
  generalize (madeCells #[Value.int .i64 0] m).toList = zs0 at *
  by_cases hmo : m = 1
  · subst hmo
    have hfin := brd_done hlen.out hbat.out hzero hz0t
    replace hfin := (show Hid _ from hfin)
    replace hb03 : Hid (Below w1.heap.size w1 w3) := hb03
    clear hzero hz0t
    by_cases hc1 : c = 1
    · subst hc1
      go_wp2
      refine wp_loop_rounds 1 ?_
      rw [rounds_succ]
      go_wp2
      go_ret
      exact ⟨_, rfl, by rw [← hfin.out]; exact ho3.out, hb03.out⟩
    · have hc1f : (c = 1) = False := by simp [hc1]
      go_wp2
      refine wp_loop_rounds 1 ?_
      rw [rounds_succ]
      go_wp2
      go_ret
      exact ⟨_, rfl, by rw [← hfin.out]; exact ho3.out, hb03.out⟩
  have hc1f : (c = 1) = False := by simp; omega
  have hmi1 : (1 : Int) ≤ (m : Int) := by omega
  have hwm : IntKind.i64.wrap ((m : Int) - 1) = ((m - 1 : Nat) : Int) := by simp [IntKind.wrap, IntKind.bits, IntKind.signed]; omega
  go_wp2
  obtain ⟨M, hM⟩ : ∃ M, Hid (m - 1 = M) := ⟨_, rfl⟩
  obtain ⟨N, hN2⟩ : ∃ N, Hid (w2.heap.size = N) := ⟨_, rfl⟩
  rw [hM.out] at hwm ⊢
  rw [hN2.out] at hclo hN ⊢
  unfold cloE
  have ho3' := ho3.out
  have hb03' : Hid (Below w1.heap.size w1 w3) := hb03
  clear hb03 hb2 hc3 hwm ho3
  go_loopw [20] (fun i wr => ∃ (j : Nat) (ys : List Value), j ≤ M ∧ i = .int .i64 j ∧ wr.ownsRow w1.heap.size 2 1 (.slice (some ⟨w1.heap.size, 0, none⟩) m m) m ys ∧ ys.length = m ∧ Hid (∀ t, t < j + 1 → ys[t]? = some (.int .i64 (bK g m t))) ∧ Hid (CloAt wr N (.slice (some ⟨pb, po, none⟩) m c) (.slice (some ⟨w1.heap.size, 0, none⟩) m m) m (bK g m j)) ∧ Hid (Below w1.heap.size w1 wr)) (fun i _ => M - (intOf i).toNat)
  case atStart => exact ⟨0, zs0, Nat.zero_le _, rfl, ho3', hzero, hz0t, by rw [bK_zero]; exact hclo, hb03'⟩
  case round =>
    obtain ⟨j, ys, hj, rfl, ho, hyl, hys, hcl, hb⟩ := hrel
    clear ho3' hclo hb03'
    by_cases hlt : j < M
    · have hji : (j : Int) < (M : Int) := by omega
      have hjm : j + 1 < m := by have := hM.out; omega
      have hcj : wr.cell? ⟨pb, po + 1 + j, none⟩ = some (.int .i64 (g (j + 1))) := by
        have := cell_kept (hc (j + 1) hjm) (gbl hb.out none) (by simp)
        rw [show po + 1 + j = po + (j + 1) by omega]; exact this
      have hcall : True → Calls Try.prog 30 #[.int .i64 (g (j + 1)), .pointer (some ⟨N + 3, 0, none⟩), .pointer (some ⟨N + 2, 0, none⟩), .pointer (some ⟨N, 0, none⟩), .pointer (some ⟨N + 1, 0, none⟩)] wr fun e w' => e = .returned (.int .i64 (bK g m (j + 1))) ∧ NumAt w' (N + 3) (bK g m (j + 1)) ∧ wr.grownBy w' (some (N + 3)) := by
        intro _
        obtain ⟨q1, q2, q3, q4⟩ := hcl.out
        refine ends_any (fun s => g (s + 1)) g m j (j + 1) (N + 3) (N + 2) N (N + 1) pb po c w1.heap.size 0 m m wr ⟨hm1, hm2⟩ q1 q2 q3 q4 (fun t ht => cell_kept (hc t ht) (gbl hb.out none) (by simp)) (fun t ht => ?_) (by omega) (Nat.le_succ_of_le (bK_le g m j)) ⟨by omega, by omega, by omega, by omega, by omega⟩
        rw [Nat.zero_add, ho.cellAt t (by omega)]; exact hys.out t ht
      obtain ⟨r, hr⟩ : ∃ r, Hid (bK g m (j + 1) = r) := ⟨_, rfl⟩
      rw [hr.out] at hcall
      generalize g (j + 1) = y at *
      have ho2 := ho
      clear ho
      replace ho2 : Hid (wr.ownsRow w1.heap.size 2 1 (Value.slice (some ⟨w1.heap.size, 0, none⟩) m m) m ys) := ho2
      replace hcall := (show Hid _ from hcall)
      replace hyl := (show Hid _ from hyl)
      have hwj : IntKind.i64.wrap ((j : Int) + 1) = ((j + 1 : Nat) : Int) := by simp [IntKind.wrap, IntKind.bits, IntKind.signed]; omega
      have hjmi : ((j + 1 : Nat) : Int) < (m : Int) := by omega
      go_wp2_with fail
      refine (hcall.out trivial).mono ?_
      rintro e w4 ⟨rfl, hn4, hg4⟩
      have ho4 := ho2.out.kept hg4 (.inr (by intro e; injection e with e; have e2 : w1.heap.size = N + 3 := e; omega))
      have hb4 := own_lift hb.out hg4 (by omega)
      obtain ⟨q1, q2, q3, q4⟩ := hcl.out
      have qn : ∀ t : Nat, t ≠ N + 3 → (some (N + 3) : Option Nat) ≠ some t := fun t h e => h (by injection e with e; exact e.symm)
      have hcl4 : Hid (CloAt w4 N (.slice (some ⟨pb, po, none⟩) m c) (.slice (some ⟨w1.heap.size, 0, none⟩) m m) m r) := ⟨hn4, cell_kept q2 hg4 (qn _ (by omega)), cell_kept q3 hg4 (qn _ (by omega)), cell_kept q4 hg4 (qn _ (by omega))⟩
      have h1 : ∃ u, w4.cell? ⟨w1.heap.size, j + 1, none⟩ = some u := by
        rw [ho4.cellAt (j + 1) (by omega)]; exact ⟨_, List.getElem?_eq_getElem (by have := hyl.out; omega)⟩
      obtain ⟨u, h1⟩ := h1
      have h2 := ho4.frozenAt (j + 1)
      obtain ⟨hst1, hst2⟩ := ho4.stored (j + 1) (.int .i64 r)
      have hb5 : Hid (Below w1.heap.size w1 (w4.setCell ⟨w1.heap.size, j + 1, none⟩ (.int .i64 r))) := own_lift hb4 hst2 (Nat.le_refl _)
      have hsz4 := q1.1
      have hcl5 : Hid (CloAt (w4.setCell ⟨w1.heap.size, j + 1, none⟩ (.int .i64 r)) N (.slice (some ⟨pb, po, none⟩) m c) (.slice (some ⟨w1.heap.size, 0, none⟩) m m) m r) := by
        obtain ⟨y1, y2, y3, y4⟩ := hcl4.out
        have qm : ∀ t : Nat, t ≠ w1.heap.size → (some w1.heap.size : Option Nat) ≠ some t := fun t h e => h (by injection e with e; exact e.symm)
        exact ⟨y1.grown hst2 (qm _ (by omega)), cell_kept y2 hst2 (qm _ (by omega)), cell_kept y3 hst2 (qm _ (by omega)), cell_kept y4 hst2 (qm _ (by omega))⟩
      have hy2 : Hid (∀ t, t < j + 1 + 1 → (ys.set (j + 1) (.int .i64 r))[t]? = some (.int .i64 (bK g m t))) := by
        intro t ht
        by_cases e : t = j + 1
        · subst e; rw [List.getElem?_set_self (by have := hyl.out; omega), hr.out]
        · rw [List.getElem?_set_ne (by omega)]; exact hys.out t (by omega)
      replace hst1 : Hid ((w4.setCell ⟨w1.heap.size, j + 1, none⟩ (.int .i64 r)).ownsRow w1.heap.size 2 1 (.slice (some ⟨w1.heap.size, 0, none⟩) m m) m (ys.set (j + 1) (.int .i64 r))) := hst1
      have hcl6 : Hid (CloAt (w4.setCell ⟨w1.heap.size, j + 1, none⟩ (.int .i64 r)) N (.slice (some ⟨pb, po, none⟩) m c) (.slice (some ⟨w1.heap.size, 0, none⟩) m m) m (bK g m (j + 1))) := by rw [hr.out]; exact hcl5
      clear ho2 ho4 hb4 hcl4 hcl5 hcl hst2 q1 q2 q3 q4 hg4 hcall hys hcj qn hn4
      go_wp2
      go_roundw
      case rel => exact ⟨j + 1, _, by omega, by go_num, hst1.out, by simpa using hyl.out, hy2, hcl6, hb5⟩
      case measure => simp [intOf]; omega
    · have hjM : ¬ (j : Int) < (M : Int) := by omega
      have hjm : j + 1 = m := by have := hM.out; omega
      have hfin := brd_done hlen.out hbat.out hyl (fun t ht => hys.out t (by omega))
      replace hfin := (show Hid _ from hfin)
      have ho2 : Hid (wr.ownsRow w1.heap.size 2 1 (Value.slice (some ⟨w1.heap.size, 0, none⟩) m m) m ys) := ho
      clear ho hys hcl hyl hjm
      go_wp2
      go_ret
      exact ⟨_, rfl, by rw [← hfin.out]; exact ho2.out, hb.out⟩
end Go.Proofs.Ytkjfajdjiikpcaa
namespace Go.Proofs.Ytkjfajdjiikpcaa
open Go.ChangeShapes Go.WideShapes Go.ChangeAt Go.RowKit
set_option maxHeartbeats 2000000 in
set_option maxRecDepth 20000 in
theorem implPeriod_any (v : Value) (xs : List Int) (w : World) (h : SlI w v xs) (hcap : CapOk v xs.length) :
    Calls Try.prog 12 #[v] w fun e w' => e = .returned (.int .i64 (periodV xs)) ∧ Below w.heap.size w w' := by
  have hcall := patternOk_any v xs w h
  by_cases hok : 0 < xs.length ∧ xs.length ≤ 100
  case neg =>
    rw [decide_eq_false hok] at hcall
    have hA : periodV xs = -1 := if_neg hok
    rw [hA]
    clear hA hok h hcap
    go_enter Try.func12, Try.ntmps12
    go_wp2_with fail
    refine hcall.mono ?_
    rintro e w1 ⟨rfl, rfl⟩
    go_wp2
    go_ret
    exact ⟨rfl, Below.refl _ _⟩
  rw [decide_eq_true hok] at hcall
  have hbc := fun W (k : Below w.heap.size w W) => implBorders_any v xs W (h.below k) hcap
  have hA : periodV xs = (xs.length : Int) - (bK (atL xs) xs.length (xs.length - 1) : Int) := if_pos hok
  have hB : bordersV xs = bV xs := if_pos hok.2
  have hat := bV_at xs (xs.length - 1) (by omega)
  have hle := bK_le (atL xs) xs.length (xs.length - 1)
  have hle2 : 0 ≤ (bV xs).getD (xs.length - 1) 0 ∧ (bV xs).getD (xs.length - 1) 0 ≤ (xs.length : Int) := by rw [hat]; omega
  rw [← hat] at hA
  clear hle
  rw [hA]
  rw [hB] at hbc
  have hbl := bV_len xs
  generalize bV xs = bs at *
  obtain ⟨a, c, rfl, _⟩ := h
  generalize xs.length = m at *
  clear hA hB hat hcap
  obtain ⟨hm1, hm2⟩ := hok
  obtain ⟨q, hq⟩ : ∃ q, Hid (m - 1 = q) := ⟨_, rfl⟩
  rw [hq.out] at hle2 ⊢
  have hqm : (q : Int) < (m : Int) := by have := hq.out; omega
  have hq2 : q < m := by have := hq.out; omega
  have hwq : IntKind.i64.wrap ((m : Int) - 1) = (q : Int) := by have := hq.out; rw [show ((m : Int) - 1) = (q : Int) by omega]; simp [IntKind.wrap, IntKind.bits, IntKind.signed]; omega
  rw [hbl] at hbc
  replace hbc := (show Hid _ from hbc)
  replace hbl := (show Hid _ from hbl)
  obtain ⟨z, hz⟩ : ∃ z, Hid (bs.getD q 0 = z) := ⟨_, rfl⟩
  rw [hz.out] at hle2 ⊢
  go_enter Try.func12, Try.ntmps12
  go_wp2_with fail
  refine hcall.mono ?_
  rintro e w1 ⟨rfl, hw1⟩
  subst hw1
  clear hcall
  go_wp2_with fail
  refine (hbc.out _ (Below.refl _ _)).mono ?_
  rintro e w2 ⟨u, rfl, ho, hb⟩
  obtain ⟨g, cap, rfl, _, _⟩ := ho.form (by omega)
  have hcq : w2.cell? ⟨g, q, none⟩ = some (.int .i64 (bs.getD q 0)) := by
    rw [ho.cellAt q (by omega)]; have := hbl.out; simp [show q < bs.length by omega]
  rw [hz.out] at hcq
  have hwz : IntKind.i64.wrap ((m : Int) - z) = (m : Int) - z := by simp [IntKind.wrap, IntKind.bits, IntKind.signed]; omega
  clear ho hbc
  replace hb : Hid (Below w1.heap.size w1 w2) := hb
  go_wp2
  go_ret
  exact ⟨rfl, hb.out⟩
/-- A number onto a list of numbers of one's own: where it then lies. -/
theorem append_one {w : World} {ops : Array Oper} {rest : List Oper} {o : Oper} {ac : Act} {Q : Exit → Act → World → Prop} (hgd : o.guard = none) (s x : Operand)
    (ho : o.op = .call { callee := .builtin .append, args := #[s, x], argTypes := #[24, 24] })
    (base g cap : Nat) (xs : List Int) (hes : xs.length ≤ 1000000) (hs : ac.eval s = .slice (some ⟨g, 0, none⟩) xs.length cap) (hown : w.ownsRow base 2 1 (.slice (some ⟨g, 0, none⟩) xs.length cap) xs.length (xs.map (Value.int .i64))) (y : Int) (hx : ac.eval x = .slice (some ⟨w.heap.size, 0, none⟩) 1 1) (hbase : base ≤ w.heap.size)
    (h : ∀ g' cap' w', w'.ownsRow base 2 1 (.slice (some ⟨g', 0, none⟩) (xs.length + 1) cap') (xs.length + 1) ((xs ++ [y]).map (Value.int .i64)) → w.grownBy w' (some g) → (g' = g ∨ g' = w.heap.size + 1) → wpList Try.prog ops Q rest (ac.put o.dst (.slice (some ⟨g', 0, none⟩) (xs.length + 1) cap')) w') :
    wpList Try.prog ops Q (o :: rest) ac (w.alloc (.cells #[.int .i64 y] 2)) := by
  obtain ⟨i0, hi, hz0, hz1, hz2⟩ := info_parts info_i64
  have hall := World.grownBy_alloc w (.cells #[.int .i64 y] 2) (some g)
  refine wpList_append_lies _ hgd s x _ ho base 2 i0 (.int .i64 0) 1 8 Try.underlying24 hi hz0 hz1 hz2 rfl (by decide) _ xs.length _ hs (World.ownsRow.alloc hown _) ⟨w.heap.size, 0, none⟩ 1 1 [.int .i64 y] hx rfl ?_ (by intro u hu; simp at hu; subst hu; rfl) (by decide) (by unfold maxLen; omega) (by omega) (by simp; omega) (w.heap.size + 1) (by simp) (fun g' cap' w' ho' hg' hat _ => ?_)
  · intro j u hj
    have e : (⟨w.heap.size, 0, none⟩ : Addr).add j = ⟨w.heap.size, j, none⟩ := by unfold Addr.add; split <;> simp_all
    rw [e, cell_of_row _ w.heap.size j _ 2 (0, 0) (heap_alloc_new w _)]
    simpa using hj
  · refine h g' cap' w' ?_ (grown_tr hall hg') ?_
    · rw [List.map_append]
      exact ho'
    · rcases hat with e | e
      · have : g = g' := by simpa [Value.ownBlock] using e
        exact .inl this.symm
      · exact .inr e
theorem append_n {w : World} {ops : Array Oper} {rest : List Oper} {o : Oper} {ac : Act} {Q : Exit → Act → World → Prop} (hgd : o.guard = none) (s x : Operand)
    (ho : o.op = .call { callee := .builtin .append, args := #[s, x], argTypes := #[24, 24] })
    (base g cap n : Nat) (xs : List Int) (hn : xs.length = n) (hes : n ≤ 1000000) (hs : ac.eval s = .slice (some ⟨g, 0, none⟩) n cap) (hown : w.ownsRow base 2 1 (.slice (some ⟨g, 0, none⟩) n cap) n (xs.map (Value.int .i64))) (y : Int) (hx : ac.eval x = .slice (some ⟨w.heap.size, 0, none⟩) 1 1) (hbase : base ≤ w.heap.size)
    (h : ∀ g' cap' w', w'.ownsRow base 2 1 (.slice (some ⟨g', 0, none⟩) (n + 1) cap') (n + 1) ((xs ++ [y]).map (Value.int .i64)) → w.grownBy w' (some g) → (g' = g ∨ g' = w.heap.size + 1) → wpList Try.prog ops Q rest (ac.put o.dst (.slice (some ⟨g', 0, none⟩) (n + 1) cap')) w') :
    wpList Try.prog ops Q (o :: rest) ac (w.alloc (.cells #[.int .i64 y] 2)) := by
  subst hn
  exact append_one hgd s x ho base g cap xs hes hs hown y hx hbase h
set_option maxHeartbeats 4000000 in
set_option maxRecDepth 20000 in
theorem implPlaces_any (vt v : Value) (ts xs : List Int) (w : World) (ht : SlI w vt ts) (h : SlI w v xs) (hcap : CapOk v xs.length) :
    Calls Try.prog 9 #[vt, v] w fun e w' => ∃ u, e = .returned u ∧ w'.ownsRow w.heap.size 2 1 u (placesV ts xs).length ((placesV ts xs).map (Value.int .i64)) ∧ Below w.heap.size w w' := by
  have hcall := fun W (k : Below w.heap.size w W) => patternOk_any v xs W (h.below k)
  obtain ⟨a, c, rfl, hta⟩ := ht
  by_cases hok : 0 < xs.length ∧ xs.length ≤ 100
  case neg =>
    simp only [decide_eq_false hok] at hcall
    have hA : placesV ts xs = [] := if_neg (fun q => hok q.1)
    rw [hA]
    clear hA hok hta h hcap
    replace hcall := (show Hid _ from hcall)
    go_enter Try.func9, Try.ntmps9
    go_wp2_with fail
    refine (hcall.out _ (bal' _ _)).mono ?_
    rintro e w1 ⟨rfl, rfl⟩
    go_wp2
    go_ret
    exact ⟨_, rfl, own_nil_lit _, bal' _ _⟩
  simp only [decide_eq_true hok] at hcall
  by_cases hn : ts.length ≤ 5000
  case neg =>
    have hA : placesV ts xs = [] := if_neg (fun q => hn q.2)
    rw [hA]
    have hni : (5000 : Int) < (ts.length : Int) := by omega
    clear hA hok hta h hcap
    replace hcall := (show Hid _ from hcall)
    go_enter Try.func9, Try.ntmps9
    go_wp2_with fail
    refine (hcall.out _ (bal' _ _)).mono ?_
    rintro e w1 ⟨rfl, rfl⟩
    go_wp2
    go_ret
    exact ⟨_, rfl, own_nil_lit _, bal' _ _⟩
  have hbc := fun W (k : Below w.heap.size w W) => implBorders_any v xs W (h.below k) hcap
  have hA : placesV ts xs = plK (atL ts) (atL xs) xs.length ts.length := if_pos ⟨hok, hn⟩
  have hB : bordersV xs = bV xs := if_pos hok.2
  rw [hB] at hbc
  rw [hA]
  have hbl := bV_len xs
  have hbat := bV_at xs
  generalize bV xs = bs at *
  clear hA hB hcap
  obtain ⟨hm1, hm2⟩ := hok
  obtain ⟨_, pc, rfl, e | ⟨pb, po, rfl, hlt, hc⟩⟩ := h
  · rw [e] at hm1; simp at hm1
  change ∀ i, i < xs.length → w.cell? ⟨pb, po + i, none⟩ = some (.int .i64 (atL xs i)) at hc
  have hta2 : Hid (ts.length = 0 ∨ ∃ b off, a = some ⟨b, off, none⟩ ∧ b < w.heap.size ∧ ∀ i, i < ts.length → w.cell? ⟨b, off + i, none⟩ = some (.int .i64 (atL ts i))) := by
    rcases hta with e | e
    · exact .inl (by rw [e]; rfl)
    · exact .inr e
  clear hta
  generalize atL xs = g at *
  generalize atL ts = f at *
  generalize xs.length = m at *
  generalize ts.length = n at *
  have hni : ¬ (5000 : Int) < (n : Int) := by omega
  replace hbl := (show Hid _ from hbl)
  replace hbat := (show Hid _ from hbat)
  replace hcall := (show Hid _ from hcall)
  rw [hbl.out] at hbc
  replace hbc := (show Hid _ from hbc)
  have hr1 := bal' w (Obj.cells #[] 2)
  replace hr1 : Hid (Below w.heap.size w (w.alloc (Obj.cells #[] 2))) := hr1
  go_enter Try.func9, Try.ntmps9
  go_wp2_with fail
  refine (hcall.out _ (bal' _ _)).mono ?_
  rintro e w1 ⟨rfl, hw1⟩
  subst hw1
  clear hcall
  go_wp2_with fail
  refine (hbc.out _ (bal' _ _)).mono ?_
  rintro e w2 ⟨u, rfl, ho2, hb2⟩
  obtain ⟨bb, bc, rfl, hbb, hbb2⟩ := ho2.form (by omega)
  have hB : Hid (∀ t, t < m → w2.cell? ⟨bb, t, none⟩ = some (.int .i64 (bK g m t))) := fun t ht => by
    rw [ho2.cellAt t (by omega)]; have := hbl.out; have h2 := hbat.out t ht; simp [show t < bs.length by omega]; rw [← h2]; simp [show t < bs.length by omega]
  have hk2 := (bal' w (Obj.cells #[] 2)).trans (hb2.mono (by simp))
  have hoP := (own_nil_lit w).below hb2
  have hbbw : w.heap.size + 1 ≤ bb := by simpa using hbb
  clear hbc ho2 hb2 hbl hbat hbb
  replace hoP : Hid (w2.ownsRow w.heap.size 2 1 (.slice (some ⟨w.heap.size, 0, none⟩) 0 0) 0 []) := hoP
  replace hk2 : Hid (Below w.heap.size w w2) := hk2
  go_wp2_with fail
  refine (ending_any _ _ m pc m bc w2).mono ?_
  rintro e w3 ⟨rfl, hclo, hb3⟩
  have hk3 : Hid (Below w.heap.size w w3) := hk2.out.trans (hb3.mono hk2.out.size)
  have hoP3 : Hid (w3.ownsRow w.heap.size 2 1 (.slice (some ⟨w.heap.size, 0, none⟩) 0 0) 0 []) := hoP.out.below hb3
  have hB3 : Hid (∀ t, t < m → w3.cell? ⟨bb, t, none⟩ = some (.int .i64 (bK g m t))) := fun t ht => cell_kept (hB.out t ht) (gbl hb3 none) (by simp)
  replace hclo : Hid (CloAt w3 w2.heap.size (.slice (some ⟨pb, po, none⟩) m pc) (.slice (some ⟨bb, 0, none⟩) m bc) m 0) := hclo
  generalize w2.heap.size = N at *
  clear hk2 hoP hB hb3 hr1
  unfold cloE
  have hoP4 := hoP3.out
  clear hoP3
  go_wp2
  go_loopw [5, 28] (fun pv iv wr => ∃ (j gp cap : Nat), j ≤ n ∧ iv = .int .i64 j ∧ pv = .slice (some ⟨gp, 0, none⟩) (plK f g m j).length cap ∧ wr.ownsRow w.heap.size 2 1 (.slice (some ⟨gp, 0, none⟩) (plK f g m j).length cap) (plK f g m j).length ((plK f g m j).map (Value.int .i64)) ∧ (gp = w.heap.size ∨ N + 3 < gp) ∧ Hid (CloAt wr N (.slice (some ⟨pb, po, none⟩) m pc) (.slice (some ⟨bb, 0, none⟩) m bc) m (heldK f g m j)) ∧ Hid (∀ t, t < m → wr.cell? ⟨bb, t, none⟩ = some (.int .i64 (bK g m t))) ∧ Hid (Below w.heap.size w wr)) (fun _ iv _ => n - (intOf iv).toNat)
  case atStart => exact ⟨0, _, 0, Nat.zero_le _, rfl, rfl, hoP4, .inl rfl, by rw [heldK_zero]; exact hclo, hB3, hk3⟩
  case round =>
    obtain ⟨j, gp, cap, hj, rfl, rfl, ho, hgp, hcl, hB, hk⟩ := hrel
    clear hoP4 hclo hB3 hk3
    have hplen := plK_len f g m j
    by_cases hlt2 : j < n
    · have hji : (j : Int) < (n : Int) := by omega
      rcases hta2.out with e | ⟨tb, toff, rfl, htb, htc⟩
      · omega
      have hcj : wr.cell? ⟨tb, toff + j, none⟩ = some (.int .i64 (f j)) := cell_kept (htc j hlt2) (gbl hk.out none) (by simp)
      have hcall : True → Calls Try.prog 30 #[.int .i64 (f j), .pointer (some ⟨N + 3, 0, none⟩), .pointer (some ⟨N + 2, 0, none⟩), .pointer (some ⟨N, 0, none⟩), .pointer (some ⟨N + 1, 0, none⟩)] wr fun e w' => e = .returned (.int .i64 (heldK f g m (j + 1))) ∧ NumAt w' (N + 3) (heldK f g m (j + 1)) ∧ wr.grownBy w' (some (N + 3)) := by
        intro _
        obtain ⟨q1, q2, q3, q4⟩ := hcl.out
        refine ends_any f g m j m (N + 3) (N + 2) N (N + 1) pb po pc bb 0 m bc wr ⟨hm1, hm2⟩ q1 q2 q3 q4 (fun t ht => cell_kept (hc t ht) (gbl hk.out none) (by simp)) (fun t ht => ?_) (Nat.le_refl _) (heldK_le f g m j) ⟨by omega, by omega, by omega, by omega, by omega⟩
        rw [Nat.zero_add]; exact hB.out t ht
      have hri := heldK_lei f g m (j + 1)
      have hpl : plK f g m (j + 1) = if heldK f g m (j + 1) = m then plK f g m j ++ [((j + 1 - m : Nat) : Int)] else plK f g m j := by rw [plK]
      obtain ⟨r, hr⟩ : ∃ r, Hid (heldK f g m (j + 1) = r) := ⟨_, rfl⟩
      rw [hr.out] at hcall hri hpl
      obtain ⟨L, hL⟩ : ∃ L, Hid (plK f g m j = L) := ⟨_, rfl⟩
      rw [hL.out] at ho hplen hpl ⊢
      generalize f j = y at *
      replace ho : Hid (wr.ownsRow w.heap.size 2 1 (.slice (some ⟨gp, 0, none⟩) L.length cap) L.length (L.map (Value.int .i64))) := ho
      replace hcall := (show Hid _ from hcall)
      replace hpl := (show Hid _ from hpl)
      go_wp2_with fail
      refine (hcall.out trivial).mono ?_
      rintro e w4 ⟨rfl, hn4, hg4⟩
      have qn : ∀ t : Nat, t ≠ N + 3 → (some (N + 3) : Option Nat) ≠ some t := fun t h e => h (by injection e with e; exact e.symm)
      have hgne : gp ≠ N + 3 := by omega
      have hcl4 : Hid (CloAt w4 N (.slice (some ⟨pb, po, none⟩) m pc) (.slice (some ⟨bb, 0, none⟩) m bc) m r) := by
        obtain ⟨q1, q2, q3, q4⟩ := hcl.out
        exact ⟨hn4, cell_kept q2 hg4 (qn _ (by omega)), cell_kept q3 hg4 (qn _ (by omega)), cell_kept q4 hg4 (qn _ (by omega))⟩
      have ho4 : Hid (w4.ownsRow w.heap.size 2 1 (.slice (some ⟨gp, 0, none⟩) L.length cap) L.length (L.map (Value.int .i64))) := ho.out.kept hg4 (.inr (by intro e; injection e with e; exact hgne e))
      have hk4 : Hid (Below w.heap.size w w4) := own_lift hk.out hg4 (by omega)
      have hB4 : Hid (∀ t, t < m → w4.cell? ⟨bb, t, none⟩ = some (.int .i64 (bK g m t))) := fun t ht => cell_kept (hB.out t ht) hg4 (qn _ (by omega))
      have hN4 := hn4.1
      clear hcl ho hk hB hg4 hn4 hcall hcj qn
      by_cases hrm : r = m
      · have hre : ((r : Int) == (m : Int)) = true := by simp; omega
        have hpl2 : Hid (plK f g m (j + 1) = L ++ [((j + 1 - m : Nat) : Int)]) := by rw [hpl.out, if_pos hrm]; trivial
        clear hpl
        subst hrm
        rw [show ((j + 1 - r : Nat) : Int) = (j : Int) + 1 - (r : Int) by omega] at hpl2
        replace hpl2 := (show Hid _ from hpl2)
        have hksz := hk4.out.size
        go_wp2_with (at_builtin; refine append_one (w := w4) rfl _ _ rfl w.heap.size gp cap L (by omega) (by rfl) ho4.out ((j : Int) + 1 - (r : Int)) (by rfl) hksz ?_; intro g2 cap2 w5 ho5 hg5 hat)
        have hk5 : Hid (Below w.heap.size w w5) := own_lift hk4.out hg5 (by omega)
        have qm : ∀ t : Nat, t ≠ gp → (some gp : Option Nat) ≠ some t := fun t h e => h (by injection e with e; exact e.symm)
        have hcl5 : Hid (CloAt w5 N (.slice (some ⟨pb, po, none⟩) r pc) (.slice (some ⟨bb, 0, none⟩) r bc) r r) := by
          obtain ⟨q1, q2, q3, q4⟩ := hcl4.out
          exact ⟨q1.grown hg5 (qm _ (by omega)), cell_kept q2 hg5 (qm _ (by omega)), cell_kept q3 hg5 (qm _ (by omega)), cell_kept q4 hg5 (qm _ (by omega))⟩
        have hB5 : Hid (∀ t, t < r → w5.cell? ⟨bb, t, none⟩ = some (.int .i64 (bK g r t))) := fun t ht => cell_kept (hB4.out t ht) hg5 (qm _ (by omega))
        have hat2 : g2 = w.heap.size ∨ N + 3 < g2 := by
          rcases hat with e | e
          · rw [e]; exact hgp
          · right; rw [e]; omega
        replace ho5 : Hid (w5.ownsRow w.heap.size 2 1 (.slice (some ⟨g2, 0, none⟩) (L.length + 1) cap2) (L.length + 1) ((L ++ [((j : Int) + 1 - (r : Int))]).map (Value.int .i64))) := ho5
        clear hcl4 ho4 hk4 hB4 hg5 hat qm hgp
        replace hat2 := (show Hid _ from hat2)
        go_wp2
        go_roundw
        case rel =>
          have hpe := hpl2.out
          have hle : (plK f g r (j + 1)).length = L.length + 1 := by rw [hpe, List.length_append]; rfl
          refine ⟨j + 1, g2, cap2, by omega, by go_num, by rw [hle], ?_, hat2.out, ?_, hB5, hk5⟩
          · rw [hle, hpe]; exact ho5.out
          · rw [hr.out]; exact hcl5
        case measure => simp [intOf]; omega
      · have hre : ((r : Int) == (m : Int)) = false := by simp; omega
        have hpl2 : Hid (plK f g m (j + 1) = L) := by rw [hpl.out, if_neg hrm]; trivial
        clear hpl
        replace hgp := (show Hid _ from hgp)
        go_wp2
        go_roundw
        case rel =>
          have hpe := hpl2.out
          refine ⟨j + 1, gp, cap, by omega, by go_num, by rw [hpe], ?_, hgp.out, ?_, hB4, hk4⟩
          · rw [hpe]; exact ho4.out
          · rw [hr.out]; exact hcl4
        case measure => simp [intOf]; omega
    · have hji : ¬ (j : Int) < (n : Int) := by omega
      obtain rfl : j = n := by omega
      obtain ⟨L, hL⟩ : ∃ L, Hid (plK f g m j = L) := ⟨_, rfl⟩
      rw [hL.out] at ho ⊢
      replace ho : Hid (wr.ownsRow w.heap.size 2 1 (.slice (some ⟨gp, 0, none⟩) L.length cap) L.length (L.map (Value.int .i64))) := ho
      clear hcl hB
      go_wp2
      go_ret
      exact ⟨_, rfl, by rw [hL.out]; exact ho.out, hk.out⟩
end Go.Proofs.Ytkjfajdjiikpcaa
namespace Go.Proofs.Ytkjfajdjiikpcaa
open Go.ChangeShapes Go.WideShapes Go.ChangeAt Go.RowKit
theorem drwK (w : World) (n : Nat) : Below w.heap.size w (w.drewN n) := ⟨rfl, rfl, rfl, Nat.le_refl _, fun _ _ => rfl⟩
theorem drwL {w0 w : World} (h : Below w0.heap.size w0 w) (n : Nat) : Below w0.heap.size w0 (w.drewN n) := h.trans ((drwK w n).mono h.size)
def brdL (g : Nat → Int) (m i : Nat) : List Int := (List.range i).map fun t => (bK g m t : Int)
theorem brdL_len (g : Nat → Int) (m i : Nat) : (brdL g m i).length = i := by simp [brdL]
theorem brdL_succ (g : Nat → Int) (m i : Nat) : brdL g m (i + 1) = brdL g m i ++ [(bK g m i : Int)] := by simp [brdL, List.range_succ]
theorem brdL_at (g : Nat → Int) (m i t : Nat) (h : t < i) : ((brdL g m i).map (Value.int .i64))[t]? = some (.int .i64 (bK g m t)) := by simp [brdL, h]
set_option maxHeartbeats 4000000 in
set_option maxRecDepth 20000 in
theorem l11Borders_any (v : Value) (xs : List Int) (w : World) (h : SlI w v xs) (hm2 : xs.length ≤ 100) :
    Calls Try.prog 28 #[v] w fun e w' => ∃ g cap, e = .returned (.slice (some ⟨g, 0, none⟩) xs.length cap) ∧ w'.ownsRow w.heap.size 2 1 (.slice (some ⟨g, 0, none⟩) xs.length cap) xs.length ((bV xs).map (Value.int .i64)) ∧ Below w.heap.size w w' := by
  have hbv : bV xs = brdL (atL xs) xs.length xs.length := rfl
  rw [hbv]
  obtain ⟨a, c, rfl, hta⟩ := h
  have hta2 : Hid (xs.length = 0 ∨ ∃ b off, a = some ⟨b, off, none⟩ ∧ b < w.heap.size ∧ ∀ i, i < xs.length → w.cell? ⟨b, off + i, none⟩ = some (.int .i64 (atL xs i))) := by
    rcases hta with e | e
    · exact .inl (by rw [e]; rfl)
    · exact .inr e
  clear hta hbv
  generalize atL xs = g at *
  generalize xs.length = m at *
  have ho0 := own_nil_lit w
  have hb0 := bal' w (Obj.cells #[] 2)
  replace ho0 : Hid ((w.alloc (Obj.cells #[] 2)).ownsRow w.heap.size 2 1 (.slice (some ⟨w.heap.size, 0, none⟩) 0 0) 0 []) := ho0
  replace hb0 : Hid (Below w.heap.size w (w.alloc (Obj.cells #[] 2))) := hb0
  go_enter Try.func28, Try.ntmps28
  go_wp2
  go_loopw [3, 4, 5] (fun ov kv iv wr => ∃ (i gp cap : Nat), i ≤ m ∧ iv = .int .i64 i ∧ kv = .int .i64 (bK g m (i - 1)) ∧ ov = .slice (some ⟨gp, 0, none⟩) i cap ∧ Hid (wr.ownsRow w.heap.size 2 1 (.slice (some ⟨gp, 0, none⟩) i cap) i ((brdL g m i).map (Value.int .i64))) ∧ Hid (Below w.heap.size w wr)) (fun _ _ iv _ => m - (intOf iv).toNat)
  case atStart => exact ⟨0, _, 0, Nat.zero_le _, rfl, by rw [Nat.zero_sub, bK_zero]; rfl, rfl, ho0, hb0⟩
  case round =>
    obtain ⟨i, gp, cap, hi, rfl, rfl, rfl, ho, hb⟩ := hrel
    clear ho0 hb0
    by_cases hlt : i < m
    · have hii : (i : Int) < (m : Int) := by omega
      rcases hta2.out with e | ⟨tb, toff, rfl, htb, htc⟩
      · omega
      have hbsz := hb.out.size
      have hlen := brdL_len g m i
      have hsuc := brdL_succ g m i
      have hgp := World.ownsRow.lt ho.out gp rfl
      by_cases hi0 : i = 0
      · subst hi0
        have hz := bK_zero g m
        rw [hz] at hsuc
        replace hsuc := (show Hid _ from hsuc)
        replace hz := (show Hid _ from hz)
        rw [show (0 : Nat) - 1 = 0 from rfl, hz.out, show ((0 : Nat) : Int) = 0 from rfl]
        have ho2 : Hid (wr.ownsRow w.heap.size 2 1 (.slice (some ⟨gp, 0, none⟩) (brdL g m 0).length cap) (brdL g m 0).length ((brdL g m 0).map (Value.int .i64))) := by rw [hlen]; exact ho.out
        clear ho hta2
        have hbz : (brdL g m 0).length = 0 := hlen
        go_wp2
        refine wp_loop_rounds 1 ?_
        rw [rounds_succ]
        go_wp2
        go_quiet (fail)
        go_wp2
        go_quiet (fail)
        go_wp2_with (at_builtin; refine append_one rfl _ _ rfl w.heap.size gp cap (brdL g m 0) (by omega) (by rfl) (by exact ho2.out) 0 (by rfl) (by simpa using hbsz) ?_; intro g2 cap2 w5 ho5 hg5 hat)
        have hk5 : Hid (Below w.heap.size w w5) := own_lift (hb.out.trans ((drwK wr _).mono hb.out.size)) hg5 (by omega)
        refine ⟨⟨1, g2, cap2, by omega, rfl, ?_, ?_, ?_, hk5⟩, ?_⟩
        · rw [show 1 - 1 = 0 from rfl, hz.out]; rfl
        · rfl
        · rw [hsuc.out]; rw [hlen] at ho5; exact ho5
        · simp [intOf]; omega
      · have hi1 : 1 ≤ i := by omega
        obtain ⟨i1, rfl⟩ : ∃ i1, i = i1 + 1 := ⟨i - 1, by omega⟩
        clear hi0 hi1
        rw [show i1 + 1 - 1 = i1 from rfl]
        have hI := InvK.start (fun s => g (s + 1)) g m i1
        change InvK (fun s => g (s + 1)) g m i1 (bK g m i1) at hI
        have hI' : Hid (InvK (fun s => g (s + 1)) g m i1 (bK g m i1)) := hI
        have hkle : bK g m i1 ≤ i1 := bK_le g m i1
        clear hI
        obtain ⟨r, hr⟩ : ∃ r, Hid (bK g m (i1 + 1) = r) := ⟨_, rfl⟩
        obtain ⟨x, hx⟩ : ∃ x, Hid (g (i1 + 1) = x) := ⟨_, rfl⟩
        have cx : ∀ W : World, Below wr.heap.size wr W → W.cell? ⟨tb, toff + (i1 + 1), none⟩ = some (.int .i64 x) := fun W k => by
          rw [← hx.out]; exact cell_kept (htc (i1 + 1) hlt) (gbl (hb.out.trans (k.mono hbsz)) none) (by simp)
        have cp : ∀ t, t < m → ∀ W : World, Below wr.heap.size wr W → W.cell? ⟨tb, toff + t, none⟩ = some (.int .i64 (g t)) := fun t ht W k => cell_kept (htc t ht) (gbl (hb.out.trans (k.mono hbsz)) none) (by simp)
        have cb : ∀ t, t < i1 + 1 → ∀ W : World, Below wr.heap.size wr W → W.cell? ⟨gp, t, none⟩ = some (.int .i64 (bK g m t)) := fun t ht W k => by
          have h1 := ho.out.cellAt t (by omega)
          rw [brdL_at g m (i1 + 1) t ht] at h1
          exact cell_kept h1 (gbl k none) (by simp)
        generalize bK g m i1 = k0 at *
        replace hsuc := (show Hid _ from hsuc)
        replace cx := (show Hid _ from cx)
        replace cp := (show Hid _ from cp)
        replace cb := (show Hid _ from cb)
        clear hta2 htc
        have hi1i : (0 : Int) < ((i1 + 1 : Nat) : Int) := by omega
        go_wp2
        go_loopw [4] (fun kv W => ∃ k : Nat, kv = .int .i64 k ∧ Hid (InvK (fun s => g (s + 1)) g m i1 k) ∧ k ≤ i1 ∧ ∃ nn, W = wr.drewN nn) (fun kv _ => (intOf kv).toNat)
        case atStart => exact ⟨k0, rfl, hI', hkle, 0, rfl⟩
        case round =>
          obtain ⟨k, rfl, hI, hk, nn, rfl⟩ := hrel
          clear hI' hkle
          have ck := cp.out k (by omega) wr (Below.refl _ _)
          have cx1 := cx.out wr (Below.refl _ _)
          have hkm : (k : Int) < (m : Int) := by omega
          have him : ((i1 + 1 : Nat) : Int) < (m : Int) := hii
          have hlen2 : Hid ((brdL g m (i1 + 1)).length = i1 + 1) := hlen
          clear hlen
          by_cases hkx : g k = x
          · have hrk : Hid (bK g m (i1 + 1) = k + 1) := hI.out.hit (by omega) (by show g k = g (i1 + 1); rw [hx.out]; exact hkx)
            have hrk2 : r = k + 1 := by rw [← hr.out]; exact hrk.out
            rw [hkx] at ck
            have hwk : IntKind.i64.wrap ((k : Int) + 1) = (r : Int) := by rw [show ((k : Int) + 1) = (r : Int) by omega]; simp [IntKind.wrap, IntKind.bits, IntKind.signed]; omega
            rw [hr.out] at hsuc
            clear hI hrk hkx hrk2
            by_cases hk0 : 0 < k
            · have hki : (0 : Int) < (k : Int) := by omega
              go_wp2
              go_quiet (fail)
              go_wp2
              go_quiet (fail)
              go_wp2_with (at_builtin; refine append_n rfl _ _ rfl w.heap.size gp cap (i1 + 1) (brdL g m (i1 + 1)) hlen2.out (by omega) (by rfl) (by exact ho.out) (r : Int) (by rfl) (by simpa using hbsz) ?_; intro g2 cap2 w5 ho5 hg5 hat)
              have hk5 : Hid (Below w.heap.size w w5) := own_lift (drwL hb.out _) hg5 (by omega)
              refine ⟨⟨i1 + 1 + 1, g2, cap2, by omega, by go_num, ?_, ?_, ?_, hk5⟩, ?_⟩
              · rw [show i1 + 1 + 1 - 1 = i1 + 1 from rfl, hr.out]
              · rfl
              · rw [hsuc.out]; exact ho5
              · simp [intOf]; omega
            · have hki : ¬ (0 : Int) < (k : Int) := by omega
              go_wp2
              go_quiet (fail)
              go_wp2
              go_quiet (fail)
              go_wp2_with (at_builtin; refine append_n rfl _ _ rfl w.heap.size gp cap (i1 + 1) (brdL g m (i1 + 1)) hlen2.out (by omega) (by rfl) (by exact ho.out) (r : Int) (by rfl) (by simpa using hbsz) ?_; intro g2 cap2 w5 ho5 hg5 hat)
              have hk5 : Hid (Below w.heap.size w w5) := own_lift (drwL hb.out _) hg5 (by omega)
              refine ⟨⟨i1 + 1 + 1, g2, cap2, by omega, by go_num, ?_, ?_, ?_, hk5⟩, ?_⟩
              · rw [show i1 + 1 + 1 - 1 = i1 + 1 from rfl, hr.out]
              · rfl
              · rw [hsuc.out]; exact ho5
              · simp [intOf]; omega
          · by_cases hk0 : 0 < k
            · have hki : (0 : Int) < (k : Int) := by omega
              obtain ⟨q, hq⟩ : ∃ q, Hid (q = k - 1) := ⟨_, rfl⟩
              have hqk : q < k := by have := hq.out; omega
              have hqL : q < i1 + 1 := by omega
              have hqi : (q : Int) < ((i1 + 1 : Nat) : Int) := by omega
              have hwr : IntKind.i64.wrap ((k : Int) - 1) = (q : Int) := by have := hq.out; rw [show ((k : Int) - 1) = (q : Int) by omega]; simp [IntKind.wrap, IntKind.bits, IntKind.signed]; omega
              have cq := cb.out q hqL wr (Below.refl _ _)
              have hnx : Hid (InvK (fun s => g (s + 1)) g m i1 (bK g m q)) := by
                have := hI.out.next hk0 (.inr (by show g k ≠ g (i1 + 1); rw [hx.out]; exact hkx))
                rw [← hq.out] at this; exact this
              have hyq := bK_le g m q
              generalize bK g m q = y at *
              generalize g k = z at *
              have hze : (z == x) = false := by simpa using hkx
              clear hI ho
              go_wp2
              go_quiet (fail)
              go_wp2
              go_roundw
              case rel => exact ⟨y, rfl, hnx, by omega, nn + nq, by simp⟩
              case measure => simp [intOf]; omega
            · have hk00 : k = 0 := by omega
              have hki : ¬ (0 : Int) < (k : Int) := by omega
              have hr0 : Hid (r = 0) := by
                have h1 := hI.out
                rw [hk00] at h1 hkx
                have h2 : bK g m (i1 + 1) = 0 := h1.miss (by show g 0 ≠ g (i1 + 1); rw [hx.out]; exact hkx)
                rw [hr.out] at h2; exact h2
              rw [hr.out] at hsuc
              have hr2 := hr0.out
              subst hr2
              subst hk00
              rw [show ((0 : Nat) : Int) = 0 from rfl] at hsuc hki hkm ⊢
              rw [Nat.add_zero] at ck
              generalize g 0 = z at *
              have hze : (z == x) = false := by simpa using hkx
              clear hI hr0
              go_wp2
              go_quiet (fail)
              go_wp2
              go_quiet (fail)
              go_wp2_with (at_builtin; refine append_n rfl _ _ rfl w.heap.size gp cap (i1 + 1) (brdL g m (i1 + 1)) hlen2.out (by omega) (by rfl) (by exact ho.out) 0 (by rfl) (by simpa using hbsz) ?_; intro g2 cap2 w5 ho5 hg5 hat)
              have hk5 : Hid (Below w.heap.size w w5) := own_lift (drwL hb.out _) hg5 (by omega)
              refine ⟨⟨i1 + 1 + 1, g2, cap2, by omega, by go_num, ?_, ?_, ?_, hk5⟩, ?_⟩
              · rw [show i1 + 1 + 1 - 1 = i1 + 1 from rfl, hr.out]; rfl
              · rfl
              · rw [hsuc.out]; exact ho5
              · simp [intOf]; omega
    · have hii : ¬ (i : Int) < (m : Int) := by omega
      obtain rfl : i = m := by omega
      clear hta2
      go_wp2
      go_ret
      exact ⟨gp, cap, rfl, ho.out, hb.out⟩
end Go.Proofs.Ytkjfajdjiikpcaa
namespace Go.Proofs.Ytkjfajdjiikpcaa
open Go.ChangeShapes Go.WideShapes Go.ChangeAt Go.RowKit
set_option maxHeartbeats 1000000 in
set_option maxRecDepth 20000 in
theorem specBorders_any (v : Value) (xs : List Int) (w : World) (h : SlI w v xs) :
    Calls Try.prog 15 #[v] w fun e w' => ∃ u, e = .returned u ∧ w'.ownsRow w.heap.size 2 1 u (bordersV xs).length ((bordersV xs).map (Value.int .i64)) ∧ Below w.heap.size w w' := by
  by_cases hn : xs.length ≤ 100
  · have hA : bordersV xs = bV xs := if_pos hn
    rw [hA, bV_len]
    have hcall := fun (_ : True) => l11Borders_any v xs w h hn
    obtain ⟨a, c, rfl, _⟩ := h
    generalize bV xs = bs at *
    generalize xs.length = m at *
    clear hA
    have hni : ¬ (100 : Int) < (m : Int) := by omega
    replace hcall := (show Hid _ from hcall)
    go_enter Try.func15, Try.ntmps15
    go_wp2_with fail
    refine (hcall.out trivial).mono ?_
    rintro e w1 ⟨g, cap, rfl, ho, hb⟩
    replace ho : Hid (w1.ownsRow w.heap.size 2 1 (.slice (some ⟨g, 0, none⟩) m cap) m (bs.map (Value.int .i64))) := ho
    go_wp2
    go_ret
    exact ⟨_, rfl, ho.out, hb⟩
  · have hA : bordersV xs = [] := if_neg hn
    rw [hA]
    obtain ⟨a, c, rfl, _⟩ := h
    generalize xs.length = m at *
    clear hA
    have hni : (100 : Int) < (m : Int) := by omega
    go_enter Try.func15, Try.ntmps15
    go_wp2
    go_ret
    exact ⟨_, rfl, own_nil_lit _, bal' _ _⟩
set_option maxHeartbeats 2000000 in
set_option maxRecDepth 20000 in
theorem specPeriod_any (v : Value) (xs : List Int) (w : World) (h : SlI w v xs) :
    Calls Try.prog 16 #[v] w fun e w' => e = .returned (.int .i64 (periodV xs)) ∧ Below w.heap.size w w' := by
  by_cases hok : 0 < xs.length ∧ xs.length ≤ 100
  case neg =>
    have hA : periodV xs = -1 := if_neg hok
    rw [hA]
    obtain ⟨a, c, rfl, _⟩ := h
    generalize xs.length = m at *
    clear hA
    go_enter Try.func16, Try.ntmps16
    by_cases h1 : m < 1
    · have h1i : (m : Int) < 1 := by omega
      go_wp2
      go_ret
      exact ⟨rfl, Below.refl _ _⟩
    · have h1i : ¬ (m : Int) < 1 := by omega
      have h2i : (100 : Int) < (m : Int) := by omega
      go_wp2
      go_ret
      exact ⟨rfl, Below.refl _ _⟩
  have hbc := fun (_ : True) => l11Borders_any v xs w h hok.2
  have hA : periodV xs = (xs.length : Int) - (bK (atL xs) xs.length (xs.length - 1) : Int) := if_pos hok
  have hat := bV_at xs (xs.length - 1) (by omega)
  have hle := bK_le (atL xs) xs.length (xs.length - 1)
  have hle2 : 0 ≤ (bV xs).getD (xs.length - 1) 0 ∧ (bV xs).getD (xs.length - 1) 0 ≤ (xs.length : Int) := by rw [hat]; omega
  rw [← hat] at hA
  rw [hA]
  have hbl := bV_len xs
  generalize bV xs = bs at *
  obtain ⟨a, c, rfl, _⟩ := h
  generalize xs.length = m at *
  clear hA hat hle
  obtain ⟨hm1, hm2⟩ := hok
  have h1i : ¬ (m : Int) < 1 := by omega
  have h2i : ¬ (100 : Int) < (m : Int) := by omega
  obtain ⟨q, hq⟩ : ∃ q, Hid (m - 1 = q) := ⟨_, rfl⟩
  rw [hq.out] at hle2 ⊢
  have hqm : (q : Int) < (m : Int) := by have := hq.out; omega
  have hq2 : q < m := by have := hq.out; omega
  have hwq : IntKind.i64.wrap ((m : Int) - 1) = (q : Int) := by have := hq.out; rw [show ((m : Int) - 1) = (q : Int) by omega]; simp [IntKind.wrap, IntKind.bits, IntKind.signed]; omega
  replace hbc := (show Hid _ from hbc)
  replace hbl := (show Hid _ from hbl)
  obtain ⟨z, hz⟩ : ∃ z, Hid (bs.getD q 0 = z) := ⟨_, rfl⟩
  rw [hz.out] at hle2 ⊢
  go_enter Try.func16, Try.ntmps16
  go_wp2_with fail
  refine (hbc.out trivial).mono ?_
  rintro e w2 ⟨g, cap, rfl, ho, hb⟩
  have hcq : w2.cell? ⟨g, q, none⟩ = some (.int .i64 z) := by
    rw [ho.cellAt q (by omega)]; have := hbl.out; rw [← hz.out]; simp [show q < bs.length by omega]
  have hwz : IntKind.i64.wrap ((m : Int) - z) = (m : Int) - z := by simp [IntKind.wrap, IntKind.bits, IntKind.signed]; omega
  clear ho hbc
  replace hb : Hid (Below w.heap.size w w2) := hb
  go_wp2
  go_ret
  exact ⟨rfl, hb.out⟩
set_option maxHeartbeats 4000000 in
set_option maxRecDepth 20000 in
theorem l11Places_any (vt v : Value) (ts xs : List Int) (w : World) (ht : SlI w vt ts) (h : SlI w v xs) (hm1 : 0 < xs.length) (hm2 : xs.length ≤ 100) (hn : ts.length ≤ 5000) :
    Calls Try.prog 27 #[vt, v] w fun e w' => ∃ u, e = .returned u ∧ w'.ownsRow w.heap.size 2 1 u (plK (atL ts) (atL xs) xs.length ts.length).length ((plK (atL ts) (atL xs) xs.length ts.length).map (Value.int .i64)) ∧ Below w.heap.size w w' := by
  have hbc := fun W (k : Below w.heap.size w W) => l11Borders_any v xs W (h.below k) hm2
  have hbl := bV_len xs
  have hbat := bV_at xs
  generalize bV xs = bs at *
  obtain ⟨a, c, rfl, hta⟩ := ht
  obtain ⟨_, pc, rfl, e | ⟨pb, po, rfl, hlt, hc⟩⟩ := h
  · rw [e] at hm1; simp at hm1
  change ∀ i, i < xs.length → w.cell? ⟨pb, po + i, none⟩ = some (.int .i64 (atL xs i)) at hc
  have hta2 : Hid (ts.length = 0 ∨ ∃ b off, a = some ⟨b, off, none⟩ ∧ b < w.heap.size ∧ ∀ i, i < ts.length → w.cell? ⟨b, off + i, none⟩ = some (.int .i64 (atL ts i))) := by
    rcases hta with e | e
    · exact .inl (by rw [e]; rfl)
    · exact .inr e
  clear hta
  generalize atL xs = g at *
  generalize atL ts = f at *
  generalize xs.length = m at *
  generalize ts.length = n at *
  replace hbl := (show Hid _ from hbl)
  replace hbat := (show Hid _ from hbat)
  replace hbc := (show Hid _ from hbc)
  go_enter Try.func27, Try.ntmps27
  go_wp2_with fail
  refine (hbc.out _ (bal' _ _)).mono ?_
  rintro e w2 ⟨bb, bcap, rfl, ho2, hb2⟩
  have hbbl := World.ownsRow.lt ho2 bb rfl
  have hB : Hid (∀ t, t < m → ∀ W : World, Below w2.heap.size w2 W → W.cell? ⟨bb, t, none⟩ = some (.int .i64 (bK g m t))) := fun t ht W k => by
    refine cell_kept ?_ (gbl k none) (by simp)
    rw [ho2.cellAt t (by omega)]; have := hbl.out; have h2 := hbat.out t ht; simp [show t < bs.length by omega]; rw [← h2]; simp [show t < bs.length by omega]
  have hk2 : Hid (Below w.heap.size w w2) := (bal' w (Obj.cells #[] 2)).trans (hb2.mono (by simp))
  have hoP : Hid (w2.ownsRow w.heap.size 2 1 (.slice (some ⟨w.heap.size, 0, none⟩) 0 0) 0 []) := (own_nil_lit w).below hb2
  have hbb1 : w.heap.size + 1 ≤ bb := by simpa using hbbl.1
  have hbb2 := hbbl.2
  clear hbc ho2 hb2 hbl hbat hbbl
  go_wp2
  go_loopw [5, 7, 8] (fun pv kv iv wr => ∃ (i gp cap : Nat), i ≤ n ∧ iv = .int .i64 i ∧ kv = .int .i64 (heldK f g m i) ∧ pv = .slice (some ⟨gp, 0, none⟩) (plK f g m i).length cap ∧ Hid (wr.ownsRow w.heap.size 2 1 (.slice (some ⟨gp, 0, none⟩) (plK f g m i).length cap) (plK f g m i).length ((plK f g m i).map (Value.int .i64))) ∧ (gp = w.heap.size ∨ bb < gp) ∧ Hid (∀ t, t < m → ∀ W : World, Below wr.heap.size wr W → W.cell? ⟨bb, t, none⟩ = some (.int .i64 (bK g m t))) ∧ Hid (Below w.heap.size w wr)) (fun _ _ iv _ => n - (intOf iv).toNat)
  case atStart => exact ⟨0, _, 0, Nat.zero_le _, rfl, by rw [heldK_zero]; rfl, rfl, hoP, .inl rfl, hB, hk2⟩
  case round =>
    obtain ⟨i, gp, cap, hi, rfl, rfl, rfl, ho, hgp, hB1, hb⟩ := hrel
    clear hoP hk2 hB
    have hB := hB1
    clear hB1
    by_cases hlt2 : i < n
    · have hii : (i : Int) < (n : Int) := by omega
      rcases hta2.out with e | ⟨tb, toff, rfl, htb, htc⟩
      · omega
      have hbsz := hb.out.size
      have hgpl := World.ownsRow.lt ho.out gp rfl
      have hbbl : bb < wr.heap.size := by
        have h1 := hB.out 0 hm1 wr (Below.refl _ _)
        exact World.block_lt_of_cell? wr _ h1
      have hI := InvK.start f g m i
      have hI' : Hid (InvK f g m i (heldK f g m i)) := hI
      have hkle := heldK_le f g m i
      clear hI
      have hri := heldK_lei f g m (i + 1)
      have hpl : plK f g m (i + 1) = if heldK f g m (i + 1) = m then plK f g m i ++ [((i + 1 - m : Nat) : Int)] else plK f g m i := by rw [plK]
      obtain ⟨r, hr⟩ : ∃ r, Hid (heldK f g m (i + 1) = r) := ⟨_, rfl⟩
      rw [hr.out] at hpl hri
      have hplen := plK_len f g m i
      obtain ⟨L, hL⟩ : ∃ L, Hid (plK f g m i = L) := ⟨_, rfl⟩
      rw [hL.out] at hpl ho hplen ⊢
      obtain ⟨x, hx⟩ : ∃ x, Hid (f i = x) := ⟨_, rfl⟩
      have cx : wr.cell? ⟨tb, toff + i, none⟩ = some (.int .i64 x) := by rw [← hx.out]; exact cell_kept (htc i hlt2) (gbl hb.out none) (by simp)
      have cp : Hid (∀ t, t < m → wr.cell? ⟨pb, po + t, none⟩ = some (.int .i64 (g t))) := fun t ht => cell_kept (hc t ht) (gbl hb.out none) (by simp)
      generalize heldK f g m i = k0 at *
      replace hpl := (show Hid _ from hpl)
      replace hc := (show Hid _ from hc)
      clear hta2 htc
      go_wp2
      go_loopw [7] (fun kv W => ∃ k : Nat, kv = .int .i64 k ∧ Hid (InvK f g m i k) ∧ k ≤ m ∧ ∃ nn, W = wr.drewN nn) (fun kv _ => (intOf kv).toNat)
      case atStart => exact ⟨k0, rfl, hI', hkle, 0, rfl⟩
      case round =>
        obtain ⟨k, rfl, hI, hk, nn, rfl⟩ := hrel
        clear hI' hkle
        by_cases hk0 : 0 < k
        · have hki : (0 : Int) < (k : Int) := by omega
          by_cases hgo : k = m ∨ g k ≠ x
          · obtain ⟨q, hq⟩ : ∃ q, Hid (q = k - 1) := ⟨_, rfl⟩
            have hqk : q < k := by have := hq.out; omega
            have hqm : q < m := by omega
            have hqi : (q : Int) < (m : Int) := by omega
            have hwr : IntKind.i64.wrap ((k : Int) - 1) = (q : Int) := by have := hq.out; rw [show ((k : Int) - 1) = (q : Int) by omega]; simp [IntKind.wrap, IntKind.bits, IntKind.signed]; omega
            have cq := hB.out q hqm wr (Below.refl _ _)
            have hnx : Hid (InvK f g m i (bK g m q)) := by
              have := hI.out.next hk0 (by rw [hx.out]; exact hgo)
              rw [← hq.out] at this; exact this
            have hyq := bK_le g m q
            generalize bK g m q = y at *
            clear hI ho
            by_cases hkm : k = m
            · have hke : ((k : Int) == (m : Int)) = true := by simp; omega
              clear hgo
              subst hkm
              go_wp2
              go_quiet (fail)
              go_wp2
              go_roundw
              case rel => exact ⟨y, rfl, hnx, by omega, nn + nq, by simp⟩
              case measure => simp [intOf]; omega
            · have hke : ((k : Int) == (m : Int)) = false := by simp; omega
              have hkmi : (k : Int) < (m : Int) := by omega
              have ck := cp.out k (by omega)
              have hkx : g k ≠ x := hgo.resolve_left hkm
              generalize g k = z at *
              have hze : (z == x) = false := by simpa using hkx
              clear hgo
              go_wp2
              go_quiet (fail)
              go_wp2
              go_roundw
              case rel => exact ⟨y, rfl, hnx, by omega, nn + nq, by simp⟩
              case measure => simp [intOf]; omega
          · have hkm : k < m := by omega
            have hkx : g k = x := Classical.byContradiction fun e => hgo (.inr e)
            have hke : ((k : Int) == (m : Int)) = false := by simp; omega
            have hkmi : (k : Int) < (m : Int) := by omega
            have hrk : r = k + 1 := by rw [← hr.out]; exact hI.out.hit hkm (by rw [hx.out]; exact hkx)
            have hwk : IntKind.i64.wrap ((k : Int) + 1) = (r : Int) := by rw [show ((k : Int) + 1) = (r : Int) by omega]; simp [IntKind.wrap, IntKind.bits, IntKind.signed]; omega
            have ck := cp.out k hkm
            rw [hkx] at ck
            clear hI hgo hkx hrk
            go_wp2
            go_quiet (fail)
            go_wp2
            go_quiet (fail)
            by_cases hrm : r = m
            · have hre : ((r : Int) == (m : Int)) = true := by simp; omega
              have hpl2 : Hid (plK f g m (i + 1) = L ++ [(i : Int) - (r : Int) + 1]) := by
                have h1 := hpl.out
                rw [if_pos hrm, show ((i + 1 - m : Nat) : Int) = (i : Int) - (r : Int) + 1 by omega] at h1
                exact h1
              clear hpl
              subst hrm
              go_wp2_with (at_builtin; refine append_n rfl _ _ rfl w.heap.size gp cap L.length L rfl (by omega) (by rfl) (by exact ho.out) ((i : Int) - (r : Int) + 1) (by rfl) (by simpa using hbsz) ?_; intro g2 cap2 w5 ho5 hg5 hat)
              have hk5 : Hid (Below w.heap.size w w5) := own_lift (drwL hb.out _) hg5 (by omega)
              have qm : ∀ t : Nat, t ≠ gp → (some gp : Option Nat) ≠ some t := fun t h e => h (by injection e with e; exact e.symm)
              have hB5 : Hid (∀ t, t < r → w5.cell? ⟨bb, t, none⟩ = some (.int .i64 (bK g r t))) := fun t ht => cell_kept (hB.out t ht _ (drwK wr _)) hg5 (qm _ (by omega))
              have hat2 : g2 = w.heap.size ∨ bb < g2 := by
                rcases hat with e | e
                · rw [e]; exact hgp
                · right; rw [e]; simp; omega
              refine ⟨⟨i + 1, g2, cap2, by omega, by go_num, ?_, ?_, ?_, hat2, fun t ht W k => cell_kept (hB5.out t ht) (gbl k none) (by simp), hk5⟩, ?_⟩
              · rw [hr.out]
              · rw [hpl2.out, List.length_append]; rfl
              · rw [hpl2.out, List.length_append]; exact ho5
              · simp [intOf]; omega
            · have hre : ((r : Int) == (m : Int)) = false := by simp; omega
              have hpl2 : Hid (plK f g m (i + 1) = L) := by have h1 := hpl.out; rw [if_neg hrm] at h1; exact h1
              clear hpl
              go_wp2
              refine ⟨⟨i + 1, gp, cap, by omega, by go_num, ?_, ?_, ?_, hgp, fun t ht W k => hB.out t ht W ((drwK wr _).trans (k.mono (Nat.le_refl _))), drwL hb.out _⟩, ?_⟩
              · rw [hr.out]
              · rw [hpl2.out]
              · rw [hpl2.out]; exact ho.out
              · simp [intOf]; omega
        · have hkm : k < m := by omega
          have hki : ¬ (0 : Int) < (k : Int) := by omega
          have hkmi : (k : Int) < (m : Int) := by omega
          have ck := cp.out k hkm
          by_cases hkx : g k = x
          · have hrk : r = k + 1 := by rw [← hr.out]; exact hI.out.hit hkm (by rw [hx.out]; exact hkx)
            have hwk : IntKind.i64.wrap ((k : Int) + 1) = (r : Int) := by rw [show ((k : Int) + 1) = (r : Int) by omega]; simp [IntKind.wrap, IntKind.bits, IntKind.signed]; omega
            rw [hkx] at ck
            clear hI hkx hrk
            go_wp2
            go_quiet (fail)
            go_wp2
            go_quiet (fail)
            by_cases hrm : r = m
            · have hre : ((r : Int) == (m : Int)) = true := by simp; omega
              have hpl2 : Hid (plK f g m (i + 1) = L ++ [(i : Int) - (r : Int) + 1]) := by
                have h1 := hpl.out
                rw [if_pos hrm, show ((i + 1 - m : Nat) : Int) = (i : Int) - (r : Int) + 1 by omega] at h1
                exact h1
              clear hpl
              subst hrm
              go_wp2_with (at_builtin; refine append_n rfl _ _ rfl w.heap.size gp cap L.length L rfl (by omega) (by rfl) (by exact ho.out) ((i : Int) - (r : Int) + 1) (by rfl) (by simpa using hbsz) ?_; intro g2 cap2 w5 ho5 hg5 hat)
              have hk5 : Hid (Below w.heap.size w w5) := own_lift (drwL hb.out _) hg5 (by omega)
              have qm : ∀ t : Nat, t ≠ gp → (some gp : Option Nat) ≠ some t := fun t h e => h (by injection e with e; exact e.symm)
              have hB5 : Hid (∀ t, t < r → w5.cell? ⟨bb, t, none⟩ = some (.int .i64 (bK g r t))) := fun t ht => cell_kept (hB.out t ht _ (drwK wr _)) hg5 (qm _ (by omega))
              have hat2 : g2 = w.heap.size ∨ bb < g2 := by
                rcases hat with e | e
                · rw [e]; exact hgp
                · right; rw [e]; simp; omega
              refine ⟨⟨i + 1, g2, cap2, by omega, by go_num, ?_, ?_, ?_, hat2, fun t ht W k => cell_kept (hB5.out t ht) (gbl k none) (by simp), hk5⟩, ?_⟩
              · rw [hr.out]
              · rw [hpl2.out, List.length_append]; rfl
              · rw [hpl2.out, List.length_append]; exact ho5
              · simp [intOf]; omega
            · have hre : ((r : Int) == (m : Int)) = false := by simp; omega
              have hpl2 : Hid (plK f g m (i + 1) = L) := by have h1 := hpl.out; rw [if_neg hrm] at h1; exact h1
              clear hpl
              go_wp2
              refine ⟨⟨i + 1, gp, cap, by omega, by go_num, ?_, ?_, ?_, hgp, fun t ht W k => hB.out t ht W ((drwK wr _).trans (k.mono (Nat.le_refl _))), drwL hb.out _⟩, ?_⟩
              · rw [hr.out]
              · rw [hpl2.out]
              · rw [hpl2.out]; exact ho.out
              · simp [intOf]; omega
          · have hk00 : k = 0 := by omega
            subst hk00
            have hr0 : r = 0 := by rw [← hr.out]; exact hI.out.miss (by rw [hx.out]; exact hkx)
            subst hr0
            rw [show ((0 : Nat) : Int) = 0 from rfl] at hki hkmi ⊢
            rw [Nat.add_zero] at ck
            generalize g 0 = z at *
            have hze : (z == x) = false := by simpa using hkx
            have hm0 : (0 == (m : Int)) = false := by simp; omega
            have hrm : ¬ 0 = m := by omega
            have hpl2 : Hid (plK f g m (i + 1) = L) := by have h1 := hpl.out; rw [if_neg hrm] at h1; exact h1
            clear hI hpl
            go_wp2
            go_quiet (fail)
            go_wp2
            go_quiet (fail)
            go_wp2
            refine ⟨⟨i + 1, gp, cap, by omega, by go_num, ?_, ?_, ?_, hgp, fun t ht W k => hB.out t ht W ((drwK wr _).trans (k.mono (Nat.le_refl _))), drwL hb.out _⟩, ?_⟩
            · rw [hr.out]; rfl
            · rw [hpl2.out]
            · rw [hpl2.out]; exact ho.out
            · simp [intOf]; omega
    · have hii : ¬ (i : Int) < (n : Int) := by omega
      obtain rfl : i = n := by omega
      obtain ⟨L, hL⟩ : ∃ L, Hid (plK f g m i = L) := ⟨_, rfl⟩
      rw [hL.out] at ho ⊢
      clear hta2
      go_wp2
      go_ret
      exact ⟨_, rfl, by rw [hL.out]; exact ho.out, hb.out⟩
set_option maxHeartbeats 1000000 in
set_option maxRecDepth 20000 in
theorem specPlaces_any (vt v : Value) (ts xs : List Int) (w : World) (ht : SlI w vt ts) (h : SlI w v xs) :
    Calls Try.prog 14 #[vt, v] w fun e w' => ∃ u, e = .returned u ∧ w'.ownsRow w.heap.size 2 1 u (placesV ts xs).length ((placesV ts xs).map (Value.int .i64)) ∧ Below w.heap.size w w' := by
  by_cases hok : (0 < xs.length ∧ xs.length ≤ 100) ∧ ts.length ≤ 5000
  · have hA : placesV ts xs = plK (atL ts) (atL xs) xs.length ts.length := if_pos hok
    obtain ⟨⟨hm1, hm2⟩, hn⟩ := hok
    rw [hA]
    have hcall := fun (_ : True) => l11Places_any vt v ts xs w ht h hm1 hm2 hn
    generalize plK (atL ts) (atL xs) xs.length ts.length = L at *
    obtain ⟨a, c, rfl, _⟩ := ht
    obtain ⟨a', c', rfl, _⟩ := h
    generalize xs.length = m at *
    generalize ts.length = n at *
    clear hA
    have h1i : ¬ (m : Int) < 1 := by omega
    have h2i : ¬ (100 : Int) < (m : Int) := by omega
    have h3i : ¬ (5000 : Int) < (n : Int) := by omega
    replace hcall := (show Hid _ from hcall)
    go_enter Try.func14, Try.ntmps14
    go_wp2_with fail
    refine (hcall.out trivial).mono ?_
    rintro e w1 ⟨u, rfl, ho, hb⟩
    replace ho : Hid (w1.ownsRow w.heap.size 2 1 u L.length (L.map (Value.int .i64))) := ho
    go_wp2
    go_ret
    exact ⟨_, rfl, ho.out, hb⟩
  · have hA : placesV ts xs = [] := if_neg hok
    rw [hA]
    obtain ⟨a, c, rfl, _⟩ := ht
    obtain ⟨a', c', rfl, _⟩ := h
    generalize xs.length = m at *
    generalize ts.length = n at *
    clear hA
    go_enter Try.func14, Try.ntmps14
    by_cases h1 : m < 1
    · have h1i : (m : Int) < 1 := by omega
      go_wp2
      go_ret
      exact ⟨_, rfl, own_nil_lit _, bal' _ _⟩
    · have h1i : ¬ (m : Int) < 1 := by omega
      by_cases h2 : 100 < m
      · have h2i : (100 : Int) < (m : Int) := by omega
        go_wp2
        go_ret
        exact ⟨_, rfl, own_nil_lit _, bal' _ _⟩
      · have h2i : ¬ (100 : Int) < (m : Int) := by omega
        have h3i : (5000 : Int) < (n : Int) := by omega
        go_wp2
        go_ret
        exact ⟨_, rfl, own_nil_lit _, bal' _ _⟩
end Go.Proofs.Ytkjfajdjiikpcaa
namespace Go.Proofs.Ytkjfajdjiikpcaa
open Go.ChangeShapes Go.WideShapes Go.ChangeAt Go.RowKit
set_option maxHeartbeats 400000 in
theorem like_same (va vb : Value) (xs : List Int) (w : World) (ha : SlI w va xs) (hb : SlI w vb xs) (hl : xs.length ≤ 1073741824) :
    Calls Try.prog 13 #[va, vb] w fun e w' => e = .returned (.bool true) ∧ ∃ n, w' = w.drewN n := by
  by_cases h0 : xs = []
  · subst h0
    obtain ⟨a, c, rfl, _⟩ := ha
    obtain ⟨a', c', rfl, _⟩ := hb
    go_enter Try.func13, Try.ntmps13
    go_wp2
    refine wp_loop_rounds 1 ?_
    rw [rounds_succ]
    go_wp2
    go_ret
    exact ⟨rfl, 0, rfl⟩
  · obtain ⟨_, c, rfl, e | ⟨b, off, rfl, _, hca⟩⟩ := ha
    · exact absurd e h0
    · obtain ⟨_, c', rfl, e | ⟨b', off', rfl, _, hcb⟩⟩ := hb
      · exact absurd e h0
      · generalize hn : xs.length = n at *
        clear h0 hn
        go_enter Try.func13, Try.ntmps13
        go_wp2
        go_loopw [5] (fun i wr => ∃ k : Nat, k ≤ n ∧ i = .int .i64 k ∧ ∃ m, wr = w.drewN m) (fun i _ => n - (intOf i).toNat)
        case atStart => exact ⟨0, Nat.zero_le _, rfl, 0, rfl⟩
        case round =>
          obtain ⟨k, hk, rfl, m, rfl⟩ := hrel
          by_cases hlt : k < n
          · have h1 : w.cell? ⟨b, off + k, none⟩ = some (.int .i64 (xs.getD k 0)) := hca k hlt
            have h2 : w.cell? ⟨b', off' + k, none⟩ = some (.int .i64 (xs.getD k 0)) := hcb k hlt
            have hi : (k : Int) < (n : Int) := by omega
            generalize xs.getD k 0 = x at *
            clear hca hcb
            go_wp2
            go_quiet (fail)
            go_wp2
            go_roundw
            case rel => exact ⟨k + 1, by omega, by go_num, m + nq, by simp⟩
            case measure => simp [intOf]; omega
          · go_wp2
            go_ret
            exact ⟨rfl, m, rfl⟩


/-- A slice whose cells hold these values, one a place: what append takes its news from. -/
def ReadsRow (w : World) (u : Value) (news : List Value) : Prop :=
  (u = .slice none 0 0 ∧ news = []) ∨ ∃ ad c, u = .slice (some ad) news.length c ∧ ∀ j x, news[j]? = some x → w.cell? (ad.add j) = some x
theorem ReadsRow.of_own {w : World} {base : Nat} {e : TypeId} {v : Value} {n : Nat} {xs : List Value} (h : w.ownsRow base e 1 v n xs) : ReadsRow w v xs := by
  have hl : xs.length = n := by simpa using h.1
  rcases h.2 with ⟨rfl, rfl⟩ | ⟨g, cap, cur, hv, _⟩
  · exact .inl ⟨rfl, List.eq_nil_of_length_eq_zero hl⟩
  · exact .inr ⟨⟨g, 0, none⟩, cap, by rw [hv, hl], h.cells (by rw [hv]; rfl)⟩
theorem ReadsRow.below {w w' : World} {u : Value} {news : List Value} (h : ReadsRow w u news) (hb : Below w.heap.size w w') : ReadsRow w' u news := by
  rcases h with h | ⟨ad, c, hu, hc⟩
  · exact .inl h
  · refine .inr ⟨ad, c, hu, fun j x hx => ?_⟩
    have h1 := hc j x hx
    exact (hb.cell (World.block_lt_of_cell? w _ h1)).trans h1
end Go.Proofs.Ytkjfajdjiikpcaa
namespace Go.Proofs.Ytkjfajdjiikpcaa
open Go.ChangeShapes Go.WideShapes Go.ChangeAt Go.RowKit
theorem ints_ext1 {xs ys : List Int} (hl : xs.length = ys.length) (h : ∀ k, k < xs.length → xs.getD k 0 = ys.getD k 0) : xs = ys := by
  refine List.ext_getElem hl fun i h1 h2 => ?_
  have := h i h1
  simpa [List.getD_eq_getElem?_getD, h1, h2] using this
set_option maxHeartbeats 1000000 in
set_option maxRecDepth 20000 in
theorem like_d (va vb : Value) (xs ys : List Int) (w : World) (ha : SlI w va xs) (hb : SlI w vb ys) (hl : xs.length ≤ 1073741824) :
    Calls Try.prog 13 #[va, vb] w fun e w' => e = .returned (.bool (decide (xs = ys))) ∧ ∃ n, w' = w.drewN n := by
  by_cases he : xs = ys
  · subst he
    rw [decide_eq_true rfl]
    refine (like_same va vb xs w ha hb hl).mono ?_
    rintro e w' ⟨rfl, n, rfl⟩
    exact ⟨rfl, n, rfl⟩
  · rw [decide_eq_false he]
    obtain ⟨a, c, rfl, hca⟩ := ha
    obtain ⟨a', c', rfl, hcb⟩ := hb
    by_cases hlen : xs.length = ys.length
    case neg =>
      have hni : ¬ ((xs.length : Int) = (ys.length : Int)) := by omega
      clear hca hcb
      go_enter Try.func13, Try.ntmps13
      go_wp2
      go_ret
      exact ⟨rfl, 0, rfl⟩
    obtain ⟨k, hk, hkn, hmin⟩ : ∃ k, k < xs.length ∧ ¬ xs.getD k 0 = ys.getD k 0 ∧ ∀ j, j < k → xs.getD j 0 = ys.getD j 0 := by
      rcases Classical.em (∃ k, k < xs.length ∧ ¬ xs.getD k 0 = ys.getD k 0) with h | h
      · have key : ∀ n k, k ≤ n → k < xs.length → ¬ xs.getD k 0 = ys.getD k 0 → ∃ k, k < xs.length ∧ ¬ xs.getD k 0 = ys.getD k 0 ∧ ∀ j, j < k → xs.getD j 0 = ys.getD j 0 := by
          intro n
          induction n with
          | zero => intro k h1 h2 h3; exact ⟨k, h2, h3, fun j hj => by omega⟩
          | succ n ih =>
            intro k h1 h2 h3
            rcases Classical.em (∃ j, j < k ∧ ¬ xs.getD j 0 = ys.getD j 0) with ⟨j, h4, h5⟩ | h4
            · exact ih j (by omega) (by omega) h5
            · exact ⟨k, h2, h3, fun j hj => Classical.byContradiction fun h5 => h4 ⟨j, hj, h5⟩⟩
        obtain ⟨k, h1, h2⟩ := h
        exact key k k (Nat.le_refl _) h1 h2
      · exact absurd (ints_ext1 hlen (fun k hk => Classical.byContradiction fun h2 => h ⟨k, hk, h2⟩)) he
    have hkb : k < ys.length := by omega
    rcases hca with h | ⟨b, off, rfl, _, hs1⟩
    · exfalso; rw [h] at hk; simp at hk
    rcases hcb with h | ⟨b', off', rfl, _, hs2⟩
    · exfalso; rw [h] at hkb; simp at hkb
    generalize hn : xs.length = n at *
    rw [← hlen] at hs2 ⊢
    clear hlen he hn hkb
    replace hmin := (show Hid _ from hmin)
    replace hkn := (show Hid _ from hkn)
    replace hs1 := (show Hid _ from hs1)
    replace hs2 := (show Hid _ from hs2)
    go_enter Try.func13, Try.ntmps13
    go_wp2
    go_loopw [5] (fun i wr => ∃ j : Nat, j ≤ k ∧ i = .int .i64 j ∧ ∃ m, wr = w.drewN m) (fun i _ => k - (intOf i).toNat)
    case atStart => exact ⟨0, Nat.zero_le _, rfl, 0, rfl⟩
    case round =>
      obtain ⟨j, hj, rfl, m, rfl⟩ := hrel
      have h1 : w.cell? ⟨b, off + j, none⟩ = some (.int .i64 (xs.getD j 0)) := hs1.out j (by omega)
      have h2 : w.cell? ⟨b', off' + j, none⟩ = some (.int .i64 (ys.getD j 0)) := hs2.out j (by omega)
      have hi : (j : Int) < (n : Int) := by omega
      have hin : j < n := by omega
      by_cases hjk : j = k
      · subst hjk
        have hne := hkn.out
        generalize xs.getD j 0 = x at *
        generalize ys.getD j 0 = y at *
        have hq : (x == y) = false := by simpa using hne
        go_wp2
        go_quiet (fail)
        go_wp2
        go_ret
        exact ⟨rfl, m + nq, by simp⟩
      · have heq := hmin.out j (by omega)
        rw [← heq] at h2
        generalize xs.getD j 0 = x at *
        clear heq
        go_wp2
        go_quiet (fail)
        go_wp2
        go_roundw
        case rel => exact ⟨j + 1, by omega, by go_num, m + nq, by simp⟩
        case measure => simp [intOf]; omega
end Go.Proofs.Ytkjfajdjiikpcaa
namespace Go.Proofs.Ytkjfajdjiikpcaa
open Go.ChangeShapes Go.WideShapes Go.ChangeAt Go.RowKit
theorem u8_bd (y : Int) (h : (Lit.int .u8 y).wf = true) : 0 ≤ y ∧ y < 256 := by
  have := bounds_u8 h
  omega
theorem SlB.of_row {w : World} {a : Option Addr} {len cap : Nat} {zs : List Int} (h : IsRow .u8 w a len cap zs) (h4 : len ≤ 4096) : SlB w (.slice a len cap) (zs.take len) ∧ (zs.take len).length = len := by
  rcases h with ⟨rfl, rfl, rfl, rfl⟩ | ⟨x, rfl, hl, hm, hz, hc, hw⟩
  · exact ⟨⟨none, 0, rfl, by simp, by simp, .inl rfl⟩, rfl⟩
  · have hlen : (zs.take len).length = len := by rw [List.length_take]; omega
    refine ⟨⟨some x, cap, by rw [hlen], by rw [hlen]; exact h4, fun y hy => ?_, ?_⟩, hlen⟩
    · have := hw y (List.mem_of_mem_take hy)
      exact u8_bd y this
    · by_cases h0 : len = 0
      · left; subst h0; simp
      · right
        obtain ⟨b, off, spot⟩ := x
        have h1 := hc 0 (by omega)
        have hspot : spot = none := by simpa [Addr.add] using World.cell?_spot h1
        subst hspot
        refine ⟨b, off, rfl, World.block_lt_of_cell? w _ h1, fun i hi => ?_⟩
        rw [hlen] at hi
        have h2 := hc i (by omega)
        have e : (zs.take len).getD i 0 = zs.getD i 0 := by simp [List.getD, hi]
        rw [e, ← h2]
        by_cases hi0 : i = 0
        · subst hi0; simp [Addr.add]
        · simp [Addr.add, hi0]
theorem big_a (a : Option Addr) (len cap : Nat) (w : World) :
    Calls Try.prog 7 #[.slice a len cap] w fun e w' => e = .returned (.bool (decide (4096 < (len : Int)))) ∧ w' = w := by
  go_enter Try.func7, Try.ntmps7
  go_wp2
  go_ret
  exact ⟨rfl, rfl⟩
end Go.Proofs.Ytkjfajdjiikpcaa
