/- The cursor over the bytes of a draw: what its functions leave. The cursor: made, asked, kept. Styles drawn. Draws of runes and lists of runes. -/
import Derived.Test.YteimcepkoclpbaaDoorRows
import Derived.WalkKit
import Derived.ProofKit
import Derived.OpenShut
import Derived.LoopN
import Derived.WalkSpells
import Derived.Deep.QuietTactic
import Derived.BigQuiet
import Derived.Laws.Bits128
import Derived.Test.YteimcepkoclpbaaDoorJSlDefs
import Derived.Test.YteimcepkoclpbaaDoorJM1
namespace Go.Proofs.YteimcepkoclpbaaDoor
open Go.ChangeShapes Go.WideShapes Go.ChangeAt Go.RowKit

theorem and_mask (n : Int) (k : Nat) (hk : k < 63) (m : Int) (hN : (BitVec.ofInt 64 m).toNat = 2 ^ k - 1) : 0 ≤ bits .and .i64 n m ∧ bits .and .i64 n m < 2 ^ k := by
  have key : (BitVec.ofInt 64 n &&& BitVec.ofInt 64 m).toNat = (n % ((2 ^ 64 : Nat) : Int)).toNat % 2 ^ k := by
    rw [BitVec.toNat_and, BitVec.toNat_ofInt, hN, Nat.and_two_pow_sub_one_eq_mod]
  have e : bits .and .i64 n m = IntKind.i64.wrap ((BitVec.ofInt 64 n &&& BitVec.ofInt 64 m).toNat : Nat) := rfl
  rw [e, key, IntKind.wrap_i64]
  have hlt : (n % ((2 ^ 64 : Nat) : Int)).toNat % 2 ^ k < 2 ^ k := Nat.mod_lt _ (Nat.two_pow_pos k)
  have hp : (2 : Nat) ^ k ≤ 2 ^ 62 := Nat.pow_le_pow_right (by omega) (by omega)
  have hc : ((2 ^ k : Nat) : Int) = (2 : Int) ^ k := by simp
  rw [← hc]
  generalize (n % ((2 ^ 64 : Nat) : Int)).toNat % 2 ^ k = q at *
  generalize 2 ^ k = K at *
  omega
theorem and_255 (n : Int) : 0 ≤ bits .and .i64 n 255 ∧ bits .and .i64 n 255 ≤ 255 := by
  have := and_mask n 8 (by decide) 255 (by decide)
  omega
theorem and_30 (n : Int) : 0 ≤ bits .and .i64 n 1073741823 ∧ bits .and .i64 n 1073741823 ≤ 1073741823 := by
  have := and_mask n 30 (by decide) 1073741823 (by decide)
  omega

/-- A slice of bytes that can be read. -/
def SlB (w : World) (v : Value) (xs : List Int) : Prop :=
  ∃ a c, v = .slice a xs.length c ∧ xs.length ≤ 4096 ∧ (∀ x ∈ xs, 0 ≤ x ∧ x < 256) ∧ (xs = [] ∨ ∃ b off, a = some ⟨b, off, none⟩ ∧ b < w.heap.size ∧ ∀ i, i < xs.length → w.cell? ⟨b, off + i, none⟩ = some (.int .u8 (xs.getD i 0)))
theorem SlB.below {w w' : World} {v : Value} {xs : List Int} (h : SlB w v xs) (hb : Below w.heap.size w w') : SlB w' v xs := by
  obtain ⟨a, c, hv, h1, h2, h | ⟨b, off, ha, hlt, hc⟩⟩ := h
  · exact ⟨a, c, hv, h1, h2, .inl h⟩
  · exact ⟨a, c, hv, h1, h2, .inr ⟨b, off, ha, Nat.lt_of_lt_of_le hlt hb.size, fun i hi => (hb.cell (p := ⟨b, off + i, none⟩) hlt).trans (hc i hi)⟩⟩

/-- The cursor's struct lies in block g: the bytes' slice, a place in it, a number. -/
def CurAt (w : World) (g : Nat) (v : Value) (xs : List Int) : Prop :=
  g < w.heap.size ∧ w.frozen? ⟨g, 0, none⟩ = false ∧ w.frozen? ⟨g, 1, none⟩ = false ∧ w.frozen? ⟨g, 2, none⟩ = false ∧ w.cell? ⟨g, 0, none⟩ = some v ∧
  (∃ i : Nat, i ≤ xs.length ∧ w.cell? ⟨g, 1, none⟩ = some (.int .i64 i)) ∧ (∃ h : Int, w.cell? ⟨g, 2, none⟩ = some (.int .i64 h)) ∧
  ∃ a c, v = .slice a xs.length c ∧ xs.length ≤ 4096 ∧ (∀ x ∈ xs, 0 ≤ x ∧ x < 256) ∧ (xs = [] ∨ ∃ b off, a = some ⟨b, off, none⟩ ∧ b < g ∧ ∀ i, i < xs.length → w.cell? ⟨b, off + i, none⟩ = some (.int .u8 (xs.getD i 0)))

theorem CurAt.drewN {w : World} {g : Nat} {v : Value} {xs : List Int} (h : CurAt w g v xs) (n : Nat) : CurAt (w.drewN n) g v xs := h
theorem setCell_cell_ne (w : World) (g a b : Nat) (u : Value) (h : a ≠ b) : (w.setCell ⟨g, b, none⟩ u).cell? ⟨g, a, none⟩ = w.cell? ⟨g, a, none⟩ := by
  simp [World.setCell, World.cell?, Array.getElem?_modify]
  cases hh : w.heap[g]? with
  | none => simp
  | some o => cases o <;> simp [Ne.symm h]
theorem setCell_far (w : World) (p q : Addr) (u : Value) (h : q.block ≠ p.block) : (w.setCell p u).cell? q = w.cell? q :=
  World.cell?_of_block (Below.heap_setCell _ _ _ _ h)
theorem setCell_frozen (w : World) (p q : Addr) (u : Value) : (w.setCell p u).frozen? q = w.frozen? q := by simp [go_sem]
theorem setCell_same (w : World) (p : Addr) (u v : Value) (h : w.cell? p = some v) : (w.setCell p u).cell? p = some u := by simp [go_sem, h]
theorem CurAt.set2 {w : World} {g : Nat} {v : Value} {xs : List Int} (hc : CurAt w g v xs) (H : Int) : CurAt (w.setCell ⟨g, 2, none⟩ (.int .i64 H)) g v xs ∧ w.grownBy (w.setCell ⟨g, 2, none⟩ (.int .i64 H)) (some g) := by
  obtain ⟨hg, z0, z1, z2, c0, ⟨i, hi, c1⟩, ⟨h, c2⟩, a, c, hv, hl, hx, hr⟩ := hc
  refine ⟨⟨by simpa using hg, by rw [setCell_frozen]; exact z0, by rw [setCell_frozen]; exact z1, by rw [setCell_frozen]; exact z2, ?_, ⟨i, hi, ?_⟩, ⟨H, setCell_same _ _ _ _ c2⟩, a, c, hv, hl, hx, ?_⟩, ⟨rfl, rfl, rfl, by simp, fun k _ hk => heap_setCell_other w ⟨g, 2, none⟩ k _ (fun e => hk (by simp [e]))⟩⟩
  · rw [setCell_cell_ne _ _ _ _ _ (by decide)]; exact c0
  · rw [setCell_cell_ne _ _ _ _ _ (by decide)]; exact c1
  · rcases hr with hr | ⟨b, off, ha, hb, hr⟩
    · exact .inl hr
    · exact .inr ⟨b, off, ha, hb, fun j hj => by rw [setCell_far _ _ _ _ (by dsimp only; omega)]; exact hr j hj⟩
theorem CurAt.set1 {w : World} {g : Nat} {v : Value} {xs : List Int} (hc : CurAt w g v xs) (q : Int) (k : Nat) (hq : q = (k : Int)) (hk : k ≤ xs.length) : CurAt (w.setCell ⟨g, 1, none⟩ (.int .i64 q)) g v xs ∧ w.grownBy (w.setCell ⟨g, 1, none⟩ (.int .i64 q)) (some g) := by
  obtain ⟨hg, z0, z1, z2, c0, ⟨i, hi, c1⟩, ⟨h, c2⟩, a, c, hv, hl, hx, hr⟩ := hc
  subst hq
  refine ⟨⟨by simpa using hg, by rw [setCell_frozen]; exact z0, by rw [setCell_frozen]; exact z1, by rw [setCell_frozen]; exact z2, ?_, ⟨k, hk, setCell_same _ _ _ _ c1⟩, ⟨h, ?_⟩, a, c, hv, hl, hx, ?_⟩, ⟨rfl, rfl, rfl, by simp, fun k _ hk => heap_setCell_other w ⟨g, 1, none⟩ k _ (fun e => hk (by simp [e]))⟩⟩
  · rw [setCell_cell_ne _ _ _ _ _ (by decide)]; exact c0
  · rw [setCell_cell_ne _ _ _ _ _ (by decide)]; exact c2
  · rcases hr with hr | ⟨b, off, ha, hb, hr⟩
    · exact .inl hr
    · exact .inr ⟨b, off, ha, hb, fun j hj => by rw [setCell_far _ _ _ _ (by dsimp only; omega)]; exact hr j hj⟩
theorem gtr {a b c : World} {row : Option Nat} (h : a.grownBy b row) (k : b.grownBy c row) : a.grownBy c row :=
  ⟨k.os.trans h.os, k.tape.trans h.tape, k.output.trans h.output, Nat.le_trans h.size k.size, fun i hi hr => (k.block i (Nat.lt_of_lt_of_le hi h.size) hr).trans (h.block i hi hr)⟩
theorem gdr {a b : World} {row : Option Nat} (h : a.grownBy b row) (n : Nat) : a.grownBy (b.drewN n) row := ⟨h.os, h.tape, h.output, h.size, h.block⟩

set_option maxHeartbeats 1000000 in
theorem l1Byte_a (g : Nat) (v : Value) (xs : List Int) (w : World) (hc : CurAt w g v xs) :
    Calls Tryd.prog 70 #[.pointer (some ⟨g, 0, none⟩)] w fun e w' => ∃ x, e = .returned (.int .i64 x) ∧ 0 ≤ x ∧ x ≤ 255 ∧ CurAt w' g v xs ∧ w.grownBy w' (some g) := by
  have HC : Hid (CurAt w g v xs) := hc
  obtain ⟨hg, z0, z1, z2, c0, ⟨i, hi, c1⟩, ⟨h, c2⟩, a, c, rfl, hl, hx, hr⟩ := hc
  by_cases hlt : i < xs.length
  · rcases hr with hr | ⟨b, off, rfl, hbg, hr⟩
    · rw [hr] at hlt; simp at hlt
    · have hbne : b ≠ g := by omega
      have hri := hr i hlt
      have hxi := hx (xs.getD i 0) (by simp [List.getD, hlt])
      generalize xs.getD i 0 = y at *
      have hlti : (i : Int) < (xs.length : Int) := by omega
      go_enter Tryd.func70, Tryd.ntmps70
      go_wp2
      generalize wrap64 (wrap64 (h * 6364136223846793005) + 1442695040888963407) = H
      go_quiet (fail)
      go_wp2
      generalize bits BinOp.and IntKind.i64 (bits BinOp.xor IntKind.i64 (H / 8589934592) (H / 35184372088832)) 255 = X
      go_quiet (fail)
      go_wp2
      go_quiet (fail)
      go_wp2
      go_ret
      have k2 := HC.out.set2 H
      have k1 := fun n => (k2.1.drewN n).set1 ((i : Int) + 1) (i + 1) (by omega) (by omega)
      exact ⟨_, rfl, (and_255 _).1, (and_255 _).2, (k1 _).1, gtr (gdr k2.2 _) (k1 _).2⟩
  · have hlti : ¬ (i : Int) < (xs.length : Int) := by omega
    go_enter Tryd.func70, Tryd.ntmps70
    go_wp2
    generalize wrap64 (wrap64 (h * 6364136223846793005) + 1442695040888963407) = H
    go_quiet (fail)
    go_wp2
    go_quiet (fail)
    go_wp2
    go_ret
    have k2 := HC.out.set2 H
    exact ⟨_, rfl, (and_255 _).1, (and_255 _).2, (k2.1.drewN _).drewN _, gdr (gdr k2.2 _) _⟩

set_option maxHeartbeats 1000000 in
theorem l1Below_a (g : Nat) (v : Value) (xs : List Int) (n : Int) (w : World) (hc : CurAt w g v xs) :
    Calls Tryd.prog 43 #[.pointer (some ⟨g, 0, none⟩), .int .i64 n] w fun e w' => ∃ x, e = .returned (.int .i64 x) ∧ 0 ≤ x ∧ (0 < n → x < n) ∧ (n ≤ 0 → x = 0) ∧ CurAt w' g v xs ∧ w.grownBy w' (some g) := by
  by_cases h0 : n ≤ 0
  · go_enter Tryd.func43, Tryd.ntmps43
    go_wp2
    go_ret
    exact ⟨0, rfl, by omega, by omega, by omega, hc, World.grownBy.refl _ _⟩
  · have hz : (n == 0) = false := by simp; omega
    by_cases h1 : n ≤ 256
    · go_enter Tryd.func43, Tryd.ntmps43
      go_wp2_with fail
      refine (l1Byte_a g v xs _ hc).mono ?_
      rintro e w1 ⟨x, rfl, hx0, hx1, hc1, hg1⟩
      go_wp2
      go_ret
      have hm0 := Int.emod_nonneg x (show n ≠ 0 by omega)
      have hm1 := Int.emod_lt_of_pos x (show 0 < n by omega)
      exact ⟨_, rfl, hm0, fun _ => hm1, fun h => by omega, hc1, hg1⟩
    · go_enter Tryd.func43, Tryd.ntmps43
      go_wp2_with fail
      refine (l1Byte_a g v xs _ hc).mono ?_
      rintro e w1 ⟨x1, rfl, hx10, hx11, hc1, hg1⟩
      go_wp2_with fail
      refine (l1Byte_a g v xs _ hc1).mono ?_
      rintro e w2 ⟨x2, rfl, hx20, hx21, hc2, hg2⟩
      go_wp2_with fail
      refine (l1Byte_a g v xs _ hc2).mono ?_
      rintro e w3 ⟨x3, rfl, hx30, hx31, hc3, hg3⟩
      go_wp2_with fail
      refine (l1Byte_a g v xs _ hc3).mono ?_
      rintro e w4 ⟨x4, rfl, hx40, hx41, hc4, hg4⟩
      go_wp2
      go_ret
      have hm0 := Int.emod_nonneg (x1 * 16777216 + x2 * 65536 + x3 * 256 + x4) (show n ≠ 0 by omega)
      have hm1 := Int.emod_lt_of_pos (x1 * 16777216 + x2 * 65536 + x3 * 256 + x4) (show 0 < n by omega)
      exact ⟨_, rfl, hm0, fun _ => hm1, fun h => by omega, hc4, gtr (gtr (gtr hg1 hg2) hg3) hg4⟩
end Go.Proofs.YteimcepkoclpbaaDoor
namespace Go.Proofs.YteimcepkoclpbaaDoor
open Go.ChangeShapes Go.WideShapes Go.ChangeAt Go.RowKit

theorem l1Once_a (g : Nat) (v : Value) (xs : List Int) (n : Int) (w : World) (hc : CurAt w g v xs) :
    Calls Tryd.prog 38 #[.pointer (some ⟨g, 0, none⟩), .int .i64 n] w fun e w' => ∃ b : Bool, e = .returned (.bool b) ∧ CurAt w' g v xs ∧ w.grownBy w' (some g) := by
  go_enter Tryd.func38, Tryd.ntmps38
  go_wp2_with fail
  refine (l1Below_a g v xs n _ hc).mono ?_
  rintro e w1 ⟨x, rfl, hx0, _, _, hc1, hg1⟩
  go_wp2
  go_ret
  exact ⟨_, rfl, hc1, hg1⟩

/-- The cursor stays while the world only grows above. -/
theorem CurAt.below {w w' : World} {g : Nat} {v : Value} {xs : List Int} (h : CurAt w g v xs) (hb : Below w.heap.size w w') : CurAt w' g v xs := by
  obtain ⟨hg, z0, z1, z2, c0, ⟨i, hi, c1⟩, ⟨h, c2⟩, a, c, hv, hl, hx, hr⟩ := h
  refine ⟨Nat.lt_of_lt_of_le hg hb.size, (hb.frozen (p := ⟨g, 0, none⟩) hg).trans z0, (hb.frozen (p := ⟨g, 1, none⟩) hg).trans z1, (hb.frozen (p := ⟨g, 2, none⟩) hg).trans z2, (hb.cell (p := ⟨g, 0, none⟩) hg).trans c0, ⟨i, hi, (hb.cell (p := ⟨g, 1, none⟩) hg).trans c1⟩, ⟨h, (hb.cell (p := ⟨g, 2, none⟩) hg).trans c2⟩, a, c, hv, hl, hx, ?_⟩
  rcases hr with hr | ⟨b, off, ha, hb', hr⟩
  · exact .inl hr
  · exact .inr ⟨b, off, ha, hb', fun j hj => (hb.cell (p := ⟨b, off + j, none⟩) (by dsimp only; omega)).trans (hr j hj)⟩
theorem bal (w : World) (o : Obj) : Below w.heap.size w (w.alloc o) := (Below.refl _ _).alloc (Nat.le_refl _) o

theorem lit_cell (w : World) (L : List Int) (K : IntKind) (t : TypeId) (k : Nat) (hk : k < L.length) : (w.alloc (.cells (L.map (Value.int K)).toArray t)).cell? ⟨w.heap.size, k, none⟩ = some (.int K (L.getD k 0)) := by
  rw [cell_of_row _ w.heap.size k _ t (0, 0) (heap_alloc_new w _)]
  simp [hk]
/-- What a drawn number picks out of a row that has just been laid. -/
theorem lit_pick {w w1 : World} {g : Nat} (L : List Int) (K : IntKind) (t : TypeId) (hg : (w.alloc (.cells (L.map (Value.int K)).toArray t)).grownBy w1 (some g)) (hlt : g < w.heap.size) (k : Nat) (hk : k < L.length) : w1.cell? ⟨w.heap.size, k, none⟩ = some (.int K (L.getD k 0)) :=
  hg.cell (lit_cell w L K t k hk) (by simp; omega)
theorem getD_all {p : Int → Prop} (L : List Int) (h : ∀ r ∈ L, p r) (k : Nat) (hk : k < L.length) : p (L.getD k 0) := by
  have e : L.getD k 0 = L[k] := by simp [List.getD, hk]
  rw [e]; exact h _ (List.getElem_mem hk)

theorem CurAt.new (w : World) (a : Option Addr) (c : Nat) (xs : List Int) (h : Int) (T : TypeId) (hs : SlB w (.slice a xs.length c) xs) : CurAt (w.alloc (.cells #[.slice a xs.length c, .int .i64 0, .int .i64 h] T)) w.heap.size (.slice a xs.length c) xs := by
  obtain ⟨a', c', hv, hl, hx, hr⟩ := hs
  refine ⟨by simp, by simp [go_sem], by simp [go_sem], by simp [go_sem], by simp [go_sem], ⟨0, Nat.zero_le _, by simp [go_sem]⟩, ⟨h, by simp [go_sem]⟩, a', c', hv, hl, hx, ?_⟩
  rcases hr with hr | ⟨b, off, ha, hb, hr⟩
  · exact .inl hr
  · exact .inr ⟨b, off, ha, hb, fun j hj => ((bal w _).cell (p := ⟨b, off + j, none⟩) hb).trans (hr j hj)⟩

set_option maxHeartbeats 1000000 in
theorem l1New_a (v : Value) (xs : List Int) (w : World) (hv : SlB w v xs) :
    Calls Tryd.prog 35 #[v] w fun e w' => e = .returned (.pointer (some ⟨w.heap.size, 0, none⟩)) ∧ CurAt w' w.heap.size v xs ∧ Below w.heap.size w w' := by
  have HV : Hid (SlB w v xs) := hv
  obtain ⟨a, c, rfl, hl, hx, hr⟩ := hv
  go_enter Tryd.func35, Tryd.ntmps35
  go_wp2
  go_loop [3, 4] (fun h i => ∃ (k : Nat) (H : Int), k ≤ xs.length ∧ i = .int .i64 k ∧ h = .int .i64 H) (fun _ i => xs.length - (intOf i).toNat)
  case atStart => exact ⟨0, _, Nat.zero_le _, rfl, rfl⟩
  case round =>
    obtain ⟨k, H, hk, rfl, rfl⟩ := hrel
    by_cases hlt : k < xs.length
    · rcases hr with hr | ⟨b, off, rfl, hb, hr⟩
      · rw [hr] at hlt; simp at hlt
      · have hri := hr k hlt
        generalize hy : xs.getD k 0 = y at hri
        clear hy hr hx
        go_wp2
        go_round
        case rel => exact ⟨k + 1, _, by omega, by go_num, rfl⟩
        case measure => simp [intOf]; omega
    · clear hr hx
      go_wp2
      go_ret
      exact ⟨rfl, CurAt.new w a c xs H _ HV.out, bal w _⟩

theorem own_grow {w w' : World} {base : Nat} {e : TypeId} {size : Nat} {v : Value} {n : Nat} {xs : List Value} {g : Nat} (h : w.ownsRow base e size v n xs) (hg : w.grownBy w' (some g)) (hlt : g < base) : w'.ownsRow base e size v n xs :=
  h.kept hg (by
    cases hv : v.ownBlock with
    | none => exact .inl rfl
    | some b => right; intro e; have := (h.lt b hv).1; cases e; omega)

theorem info_int64d : (Tryd.prog.info? 2).map (fun i => (i.zero, i.size, i.bytes)) = some (some (.int .i64 0), 1, 8) := by kernel_rfl
theorem CurAt.grown_own {w w' : World} {g : Nat} {v : Value} {xs : List Int} {row : Option Nat} (h : CurAt w g v xs) (hg : w.grownBy w' row) (hr : ∀ k, row = some k → g < k) : CurAt w' g v xs := by
  have hb : ∀ k, k ≤ g → w'.heap[k]? = w.heap[k]? := fun k hk => hg.block k (by have := h.1; omega) (fun e => by have := hr k e.symm; omega)
  obtain ⟨hlt, z0, z1, z2, c0, ⟨i, hi, c1⟩, ⟨h, c2⟩, a, c, hv, hl, hx, hrr⟩ := h
  have hbg := hb g (Nat.le_refl _)
  refine ⟨Nat.lt_of_lt_of_le hlt hg.size, (World.frozen?_of_block (w := w) hbg).trans z0, (World.frozen?_of_block (w := w) hbg).trans z1, (World.frozen?_of_block (w := w) hbg).trans z2, (World.cell?_of_block (w := w) hbg).trans c0, ⟨i, hi, (World.cell?_of_block (w := w) hbg).trans c1⟩, ⟨h, (World.cell?_of_block (w := w) hbg).trans c2⟩, a, c, hv, hl, hx, ?_⟩
  rcases hrr with hrr | ⟨b, off, ha, hb', hrr⟩
  · exact .inl hrr
  · exact .inr ⟨b, off, ha, hb', fun j hj => (World.cell?_of_block (w := w) (hb b (by omega))).trans (hrr j hj)⟩
theorem grownBy_own {w w' w0 : World} {g : Nat} {row : Option Nat} (h : w0.grownBy w (some g)) (hg : w.grownBy w' row) (hr : ∀ k, row = some k → w0.heap.size ≤ k) : w0.grownBy w' (some g) :=
  ⟨hg.os.trans h.os, hg.tape.trans h.tape, hg.output.trans h.output, Nat.le_trans h.size hg.size, fun i hi hne => (hg.block i (Nat.lt_of_lt_of_le hi h.size) (fun e => by have := hr i e.symm; omega)).trans (h.block i hi hne)⟩

end Go.Proofs.YteimcepkoclpbaaDoor
namespace Go.Proofs.YteimcepkoclpbaaDoor
open Go.ChangeShapes Go.WideShapes Go.ChangeAt Go.RowKit

theorem StAt.drawn {w w' : World} {B g : Nat} {s : St} (h : StAt w B s) (hg : w.grownBy w' (some g)) (hne : g ≠ B) : StAt w' B s := h.grown hg (by intro e; cases e; exact hne rfl)
theorem putSt_cur {w : World} {g B : Nat} {v : Value} {xs : List Int} (h : CurAt w g v xs) (hlt : g < B) (s : St) : CurAt (putSt w B s) g v xs := h.grown_own (putSt_grown w B s) (fun k hk => by cases hk; exact hlt)
theorem putSt_up {w0 w : World} {g B : Nat} (h : w0.grownBy w (some g)) (hB : w0.heap.size ≤ B) (s : St) : w0.grownBy (putSt w B s) (some g) := grownBy_own h (putSt_grown w B s) (fun k hk => by cases hk; exact hB)

set_option maxHeartbeats 2000000 in
theorem l3Draw_a (g : Nat) (v : Value) (xs : List Int) (w : World) (hc : CurAt w g v xs) :
    Calls Tryd.prog 68 #[.pointer (some ⟨g, 0, none⟩)] w fun e w' => ∃ s : St, e = .returned (stV s) ∧ CurAt w' g v xs ∧ w.grownBy w' (some g) := by
  have hlt := hc.1
  have h0 := StAt.new w St.zero 26
  have hg0 := World.grownBy_alloc w (Obj.cells #[.int .i64 0, .int .i64 0, .bool false, .bool false, .bool false] 26) (some g)
  have hc0 := hc.below (bal w (Obj.cells #[.int .i64 0, .int .i64 0, .bool false, .bool false, .bool false] 26))
  go_enter Tryd.func68, Tryd.ntmps68
  go_wp2_with fail
  refine (l1Once_a g v xs 3 _ hc0).mono ?_
  rintro e w1 ⟨b, rfl, hc1, hg1⟩
  have k1 := h0.drawn hg1 (by omega)
  have hu1 := gtr hg0 hg1
  clear h0 hg0 hc0 hg1
  cases b
  · go_wp2_with fail
    refine (l1Below_a g v xs 9 _ hc1).mono ?_
    rintro e w2 ⟨x1, rfl, _, _, _, hc2, hg2⟩
    have k2 := k1.drawn hg2 (by omega)
    have hu2 := gtr hu1 hg2
    clear hg2 k1 hu1 hc1
    go_wp2_with fail
    refine (l1Below_a g v xs 9 _ hc2).mono ?_
    rintro e w3 ⟨x2, rfl, _, _, _, hc3, hg3⟩
    have k3 := k2.drawn hg3 (by omega)
    have hu3 := gtr hu2 hg3
    clear hg3 k2 hu2 hc2
    go_wp2_with fail
    refine (l1Once_a g v xs 3 _ hc3).mono ?_
    rintro e w4 ⟨b3, rfl, hc4, hg4⟩
    have k4 := k3.drawn hg4 (by omega)
    have hu4 := gtr hu3 hg4
    clear hg4 k3 hu3 hc3
    go_wp2_with fail
    refine (l1Once_a g v xs 4 _ hc4).mono ?_
    rintro e w5 ⟨b4, rfl, hc5, hg5⟩
    have k5 := k4.drawn hg5 (by omega)
    have hu5 := gtr hu4 hg5
    clear hg5 k4 hu4 hc4
    go_wp2_with fail
    refine (l1Once_a g v xs 4 _ hc5).mono ?_
    rintro e w6 ⟨b5, rfl, hc6, hg6⟩
    have k6 := k5.drawn hg6 (by omega)
    have hu6 := gtr hu5 hg6
    clear hg6 k5 hu5 hc5
    have kP := k6.put ⟨x1, x2, b3, b4, b5⟩
    have cP := putSt_cur hc6 hlt ⟨x1, x2, b3, b4, b5⟩
    have uP := putSt_up hu6 (Nat.le_refl w.heap.size) ⟨x1, x2, b3, b4, b5⟩
    obtain ⟨_, ⟨d0, d1, d2, d3, d4⟩, ⟨y0, y1, y2, y3, y4⟩⟩ := k6
    obtain ⟨_, ⟨e0, e1, e2, e3, e4⟩, _⟩ := kP
    simp only [putSt] at cP uP e0 e1 e2 e3 e4
    go_wp2
    exact bodyPost_ret (v := .agg #[.int .i64 x1, .int .i64 x2, .bool b3, .bool b4, .bool b5]) (by simp [results, Tryd.results68, go_sem, e0, e1, e2, e3, e4]) rfl ⟨⟨x1, x2, b3, b4, b5⟩, rfl, cP, uP⟩
  · have kP := k1.put St.zero
    have cP := putSt_cur hc1 hlt St.zero
    have uP := putSt_up hu1 (Nat.le_refl w.heap.size) St.zero
    obtain ⟨_, ⟨d0, d1, d2, d3, d4⟩, ⟨y0, y1, y2, y3, y4⟩⟩ := k1
    obtain ⟨_, ⟨e0, e1, e2, e3, e4⟩, _⟩ := kP
    simp only [putSt, St.zero] at cP uP e0 e1 e2 e3 e4 d0 d1 d2 d3 d4
    go_wp2
    exact bodyPost_ret (v := .agg #[.int .i64 0, .int .i64 0, .bool false, .bool false, .bool false]) (by simp [results, Tryd.results68, go_sem, e0, e1, e2, e3, e4]) rfl ⟨St.zero, rfl, cP, uP⟩
theorem StAt.setFore {w : World} {B : Nat} {s : St} (h : StAt w B s) (y : Int) : StAt (w.setCell ⟨B, 0, none⟩ (.int .i64 y)) B { s with fore := y } := by
  obtain ⟨hlt, ⟨c0, c1, c2, c3, c4⟩, ⟨z0, z1, z2, z3, z4⟩⟩ := h
  refine ⟨by simpa using hlt, ⟨by simp [go_sem, c0], ?_, ?_, ?_, ?_⟩, ⟨by simp [go_sem, z0], by simp [go_sem, z1], by simp [go_sem, z2], by simp [go_sem, z3], by simp [go_sem, z4]⟩⟩
  · rw [setCell_ne' _ _ _ _ _ (by decide)]; exact c1
  · rw [setCell_ne' _ _ _ _ _ (by decide)]; exact c2
  · rw [setCell_ne' _ _ _ _ _ (by decide)]; exact c3
  · rw [setCell_ne' _ _ _ _ _ (by decide)]; exact c4
def RF : List Int := [-1, 8, 9, 4611686018427387904]
set_option maxHeartbeats 2000000 in
theorem l3DrawAny_a (g : Nat) (v : Value) (xs : List Int) (w : World) (hc : CurAt w g v xs) :
    Calls Tryd.prog 41 #[.pointer (some ⟨g, 0, none⟩)] w fun e w' => ∃ s : St, e = .returned (stV s) ∧ CurAt w' g v xs ∧ w.grownBy w' (some g) := by
  have hlt := hc.1
  have h0 := StAt.new w St.zero 26
  have hg0 := World.grownBy_alloc w (Obj.cells #[.int .i64 0, .int .i64 0, .bool false, .bool false, .bool false] 26) (some g)
  have hc0 := hc.below (bal w (Obj.cells #[.int .i64 0, .int .i64 0, .bool false, .bool false, .bool false] 26))
  go_enter Tryd.func41, Tryd.ntmps41
  go_wp2_with fail
  refine (l3Draw_a g v xs _ hc0).mono ?_
  rintro e w1 ⟨s, rfl, hc1, hg1⟩
  have k1 := h0.drawn hg1 (by omega)
  have hu1 := gtr hg0 hg1
  have hl1 : w.heap.size < w1.heap.size := k1.1
  have kA := k1.below (bal w1 (Obj.cells #[.int .i64 s.fore, .int .i64 s.back, .bool s.bold, .bool s.under, .bool s.turned] 26))
  have sA := StAt.new w1 s 26
  have cA := hc1.below (bal w1 (Obj.cells #[.int .i64 s.fore, .int .i64 s.back, .bool s.bold, .bool s.under, .bool s.turned] 26))
  have uA := gtr hu1 (World.grownBy_alloc w1 (Obj.cells #[.int .i64 s.fore, .int .i64 s.back, .bool s.bold, .bool s.under, .bool s.turned] 26) (some g))
  have hg1' : g < w1.heap.size := hc1.1
  clear h0 hg0 hc0 hg1 k1 hu1 hc1
  unfold stV
  go_wp2_with fail
  refine (l1Once_a g v xs 14 _ cA).mono ?_
  rintro e w2 ⟨b, rfl, hc2, hg2⟩
  have k2 := kA.drawn hg2 (by omega)
  have s2 := sA.drawn hg2 (by omega)
  have u2 := gtr uA hg2
  clear kA sA cA uA hg2
  generalize w1.heap.size = B3 at *
  have fin : ∀ (W : World) (y : St), StAt W w.heap.size St.zero → CurAt W g v xs → w.grownBy W (some g) → CurAt (putSt W w.heap.size y) g v xs ∧ w.grownBy (putSt W w.heap.size y) (some g) ∧ StAt (putSt W w.heap.size y) w.heap.size y := fun W y a1 a2 a3 => ⟨putSt_cur a2 hlt y, putSt_up a3 (Nat.le_refl _) y, a1.put y⟩
  cases b
  · obtain ⟨cP, uP, kP⟩ := fin w2 s k2 hc2 u2
    obtain ⟨_, ⟨d0, d1, d2, d3, d4⟩, ⟨y0, y1, y2, y3, y4⟩⟩ := k2
    obtain ⟨_, ⟨f0, f1, f2, f3, f4⟩, _⟩ := s2
    obtain ⟨_, ⟨e0, e1, e2, e3, e4⟩, _⟩ := kP
    simp only [putSt, St.zero] at cP uP e0 e1 e2 e3 e4 d0 d1 d2 d3 d4
    clear fin
    go_wp2
    exact bodyPost_ret (v := .agg #[.int .i64 s.fore, .int .i64 s.back, .bool s.bold, .bool s.under, .bool s.turned]) (by simp [results, Tryd.results41, go_sem, e0, e1, e2, e3, e4]) rfl ⟨s, rfl, cP, uP⟩
  · go_wp2_with fail
    have hl2 : g < w2.heap.size := hc2.1
    refine (l1Below_a g v xs 4 _ (hc2.below (bal w2 _))).mono ?_
    rintro e w3 ⟨x, rfl, hx0, hx1, _, hc3, hg3⟩
    obtain ⟨k, rfl⟩ : ∃ k : Nat, x = k := ⟨x.toNat, by omega⟩
    have hk : k < 4 := by have := hx1 (by omega); omega
    have hki : (k : Int) < 4 := by omega
    have hcell := lit_pick RF .i64 2 hg3 hl2 k hk
    have hgA := gtr (World.grownBy_alloc w2 _ (some g)) hg3
    have k3 := k2.drawn hgA (by omega)
    have s3 := s2.drawn hgA (by omega)
    have u3 := gtr u2 hgA
    generalize RF.getD k 0 = y at *
    have s4 := s3.setFore y
    have g4 := setCell_gr w3 B3 0 (.int .i64 y)
    have k4 := k3.grown g4 (by intro e; cases e; omega)
    have c4 := hc3.grown_own g4 (fun q hq => by cases hq; omega)
    have u4 := grownBy_own u3 g4 (fun q hq => by cases hq; omega)
    obtain ⟨_, ⟨b0, _, _, _, _⟩, ⟨a0, _, _, _, _⟩⟩ := s3
    obtain ⟨cP, uP, kP⟩ := fin _ { s with fore := y } k4 c4 u4
    obtain ⟨_, ⟨d0, d1, d2, d3, d4⟩, ⟨y0, y1, y2, y3, y4⟩⟩ := k4
    obtain ⟨_, ⟨f0, f1, f2, f3, f4⟩, _⟩ := s4
    obtain ⟨_, ⟨e0, e1, e2, e3, e4⟩, _⟩ := kP
    simp only [putSt, St.zero] at cP uP e0 e1 e2 e3 e4 d0 d1 d2 d3 d4
    clear fin hg3 hgA hx1 k2 s2 k3 g4
    go_wp2
    exact bodyPost_ret (v := .agg #[.int .i64 y, .int .i64 s.back, .bool s.bold, .bool s.under, .bool s.turned]) (by simp [results, Tryd.results41, go_sem, e0, e1, e2, e3, e4]) rfl ⟨{ s with fore := y }, rfl, cP, uP⟩
end Go.Proofs.YteimcepkoclpbaaDoor
namespace Go.Proofs.YteimcepkoclpbaaDoor
open Go.ChangeShapes Go.WideShapes Go.ChangeAt Go.RowKit

def RS : List Int := [65, 97, 98, 32, 233, 19968, 128512, 769, 10, 27, 127, 65533]
theorem RS_ok : ∀ r ∈ RS, runeOk r = true := by decide
set_option maxHeartbeats 1000000 in
theorem l1DrawRune_a (g : Nat) (v : Value) (xs : List Int) (w : World) (hc : CurAt w g v xs) :
    Calls Tryd.prog 39 #[.pointer (some ⟨g, 0, none⟩)] w fun e w' => ∃ r, e = .returned (.int .i64 r) ∧ runeOk r = true ∧ CurAt w' g v xs ∧ w.grownBy w' (some g) := by
  have hlt := hc.1
  go_enter Tryd.func39, Tryd.ntmps39
  go_wp2_with fail
  refine (l1Below_a g v xs 12 _ (hc.below (bal w _))).mono ?_
  rintro e w1 ⟨x, rfl, hx0, hx1, _, hc1, hg1⟩
  obtain ⟨k, rfl⟩ : ∃ k : Nat, x = k := ⟨x.toNat, by omega⟩
  have hk : k < 12 := by have := hx1 (by omega); omega
  have hcell := lit_pick RS .i64 2 hg1 hlt k hk
  have hok := getD_all RS RS_ok k hk
  have hki : (k : Int) < 12 := by omega
  have hgr := gtr (World.grownBy_alloc w _ (some g)) hg1
  generalize RS.getD k 0 = r at *
  clear hg1 hc hx1
  go_wp2
  go_ret
  exact ⟨_, rfl, hok, hc1, hgr⟩

end Go.Proofs.YteimcepkoclpbaaDoor
