/- With how many first numbers of a pattern a text ends: borders, places, periods. Plain mathematics. Slices of int64 that can be read, and rows that stay. What a contract leaves, as growth. The cursor over the bytes of a draw: what its functions leave. The program's closure that is told a text number by number. The program's closure is made. The laws' own helper that copies a list of int64. The program's Borders. The program's Places and Period. The specification's borders. The specification's Borders, Period and Places. The laws' own helpers on lists of int64: like, marked, held. The walk of the exact law of Period. -/
import Derived.Test.YtkjfajdjiikpcaaRows
import Derived.WalkKit
import Derived.ProofKit
import Derived.OpenShut
import Derived.LoopN
import Derived.WalkSpells
import Derived.Deep.QuietTactic
import Derived.BigQuiet
import Derived.Laws.Bits128
import Derived.Deep.AppendLies
namespace Go.Proofs.Ytkjfajdjiikpcaa
/-- The first i numbers of f end with the first k of g. -/
def EndK (f g : Nat → Int) (i k : Nat) : Prop := k ≤ i ∧ ∀ s, s < k → g s = f (i - k + s)
instance (f g : Nat → Int) (i k : Nat) : Decidable (EndK f g i k) := inferInstanceAs (Decidable (k ≤ i ∧ ∀ s, s < k → g s = f (i - k + s)))
def mxK (P : Nat → Bool) : Nat → Nat
  | 0 => 0
  | n + 1 => if P (n + 1) then n + 1 else mxK P n
theorem mxK_le (P : Nat → Bool) : ∀ n, mxK P n ≤ n
  | 0 => Nat.le_refl _
  | n + 1 => by
    rw [mxK]; split
    · exact Nat.le_refl _
    · exact Nat.le_succ_of_le (mxK_le P n)
theorem mxK_has (P : Nat → Bool) (h : P 0 = true) : ∀ n, P (mxK P n) = true
  | 0 => h
  | n + 1 => by
    rw [mxK]; split
    · assumption
    · exact mxK_has P h n
theorem mxK_top (P : Nat → Bool) : ∀ n j, mxK P n < j → j ≤ n → P j = false
  | 0, j, h1, h2 => by rw [mxK] at h1; omega
  | n + 1, j, h1, h2 => by
    rw [mxK] at h1
    split at h1
    · omega
    · rename_i e
      by_cases hj : j = n + 1
      · subst hj; simpa using e
      · exact mxK_top P n j h1 (by omega)
def heldK (f g : Nat → Int) (m i : Nat) : Nat := mxK (fun k => decide (EndK f g i k)) m
theorem EndK.zero (f g : Nat → Int) (i : Nat) : EndK f g i 0 := ⟨Nat.zero_le _, fun _ hs => absurd hs (Nat.not_lt_zero _)⟩
theorem heldK_le (f g : Nat → Int) (m i : Nat) : heldK f g m i ≤ m := mxK_le _ _
theorem heldK_end (f g : Nat → Int) (m i : Nat) : EndK f g i (heldK f g m i) := of_decide_eq_true (mxK_has (fun k => decide (EndK f g i k)) (decide_eq_true (EndK.zero f g i)) m)
theorem heldK_top (f g : Nat → Int) (m i j : Nat) (h1 : heldK f g m i < j) (h2 : j ≤ m) : ¬ EndK f g i j := of_decide_eq_false (mxK_top (fun k => decide (EndK f g i k)) m j h1 h2)
theorem heldK_lei (f g : Nat → Int) (m i : Nat) : heldK f g m i ≤ i := (heldK_end f g m i).1
theorem heldK_eq {f g : Nat → Int} {m i k : Nat} (h1 : EndK f g i k) (h2 : k ≤ m) (h3 : ∀ j, k < j → j ≤ m → ¬ EndK f g i j) : heldK f g m i = k := by
  rcases Nat.lt_trichotomy (heldK f g m i) k with h | h | h
  · exact absurd h1 (heldK_top f g m i k h h2)
  · exact h
  · exact absurd (heldK_end f g m i) (h3 _ h (heldK_le f g m i))
/-- A border of the first i + 1 numbers of a pattern of m. -/
def bK (g : Nat → Int) (m i : Nat) : Nat := heldK (fun s => g (s + 1)) g m i
theorem bK_le (g : Nat → Int) (m i : Nat) : bK g m i ≤ i := heldK_lei _ _ _ _
theorem bK_zero (g : Nat → Int) (m : Nat) : bK g m 0 = 0 := Nat.le_zero.1 (bK_le g m 0)
/-- While it is looked for how much goes on. -/
def InvK (f g : Nat → Int) (m i k : Nat) : Prop := EndK f g i k ∧ k ≤ m ∧ ∀ j, k < j → j < m → EndK f g i j → g j ≠ f i
theorem InvK.start (f g : Nat → Int) (m i : Nat) : InvK f g m i (heldK f g m i) := ⟨heldK_end f g m i, heldK_le f g m i, fun j h1 h2 h3 => absurd h3 (heldK_top f g m i j h1 (Nat.le_of_lt h2))⟩
theorem InvK.next {f g : Nat → Int} {m i k : Nat} (h : InvK f g m i k) (hk : 0 < k) (hx : k = m ∨ g k ≠ f i) : InvK f g m i (bK g m (k - 1)) := by
  obtain ⟨⟨h1, h2⟩, h3, h4⟩ := h
  obtain ⟨b1, b2⟩ := heldK_end (fun s => g (s + 1)) g m (k - 1)
  have b3 := heldK_top (fun s => g (s + 1)) g m (k - 1)
  change bK g m (k - 1) ≤ k - 1 at b1
  change ∀ s, s < bK g m (k - 1) → g s = g (k - 1 - bK g m (k - 1) + s + 1) at b2
  change ∀ j, bK g m (k - 1) < j → j ≤ m → ¬ EndK (fun s => g (s + 1)) g (k - 1) j at b3
  generalize bK g m (k - 1) = b at *
  refine ⟨⟨by omega, fun s hs => ?_⟩, by omega, fun j hj1 hj2 hj3 => ?_⟩
  · rw [b2 s hs, show k - 1 - b + s + 1 = k - b + s by omega, h2 _ (by omega), show i - k + (k - b + s) = i - b + s by omega]
  · rcases Nat.lt_trichotomy j k with e | e | e
    · exfalso
      refine b3 j hj1 (by omega) ⟨by omega, fun s hs => ?_⟩
      show g s = g (k - 1 - j + s + 1)
      rw [hj3.2 s hs, show k - 1 - j + s + 1 = k - j + s by omega, h2 _ (by omega), show i - k + (k - j + s) = i - j + s by omega]
    · subst e
      rcases hx with rfl | hx
      · omega
      · exact hx
    · exact h4 j e hj2 hj3
theorem EndK.down {f g : Nat → Int} {i j : Nat} (h : EndK f g (i + 1) (j + 1)) : EndK f g i j ∧ g j = f i := by
  obtain ⟨h1, h2⟩ := h
  refine ⟨⟨by omega, fun s hs => ?_⟩, ?_⟩
  · rw [h2 s (by omega)]; congr 1; omega
  · rw [h2 j (by omega)]; congr 1; omega
theorem EndK.up {f g : Nat → Int} {i j : Nat} (h : EndK f g i j) (h2 : g j = f i) : EndK f g (i + 1) (j + 1) := by
  obtain ⟨h1, h3⟩ := h
  refine ⟨by omega, fun s hs => ?_⟩
  by_cases e : s = j
  · subst e; rw [h2]; congr 1; omega
  · rw [h3 s (by omega)]; congr 1; omega
theorem InvK.hit {f g : Nat → Int} {m i k : Nat} (h : InvK f g m i k) (hk : k < m) (hx : g k = f i) : heldK f g m (i + 1) = k + 1 := by
  refine heldK_eq (h.1.up hx) hk fun j h1 h2 h3 => ?_
  obtain ⟨j, rfl⟩ : ∃ j', j = j' + 1 := ⟨j - 1, by omega⟩
  obtain ⟨h4, h5⟩ := h3.down
  exact h.2.2 j (by omega) (by omega) h4 h5
theorem InvK.miss {f g : Nat → Int} {m i : Nat} (h : InvK f g m i 0) (hx : g 0 ≠ f i) : heldK f g m (i + 1) = 0 := by
  refine heldK_eq (EndK.zero _ _ _) (Nat.zero_le _) fun j h1 h2 h3 => ?_
  obtain ⟨j, rfl⟩ : ∃ j', j = j' + 1 := ⟨j - 1, by omega⟩
  obtain ⟨h4, h5⟩ := h3.down
  by_cases e : j = 0
  · subst e; exact hx h5
  · exact h.2.2 j (by omega) (by omega) h4 h5
def atL (p : List Int) (i : Nat) : Int := p.getD i 0
/-- All borders of a pattern. -/
def bV (p : List Int) : List Int := (List.range p.length).map fun i => (bK (atL p) p.length i : Int)
theorem bV_len (p : List Int) : (bV p).length = p.length := by simp [bV]
theorem bV_at (p : List Int) (i : Nat) (h : i < p.length) : (bV p).getD i 0 = (bK (atL p) p.length i : Int) := by simp [bV, h]
def bordersV (p : List Int) : List Int := if p.length ≤ 100 then bV p else []
def periodV (p : List Int) : Int := if 0 < p.length ∧ p.length ≤ 100 then (p.length : Int) - (bK (atL p) p.length (p.length - 1) : Int) else -1
end Go.Proofs.Ytkjfajdjiikpcaa
namespace Go.Proofs.Ytkjfajdjiikpcaa
open Go.ChangeShapes Go.WideShapes Go.ChangeAt Go.RowKit
/-- What is owned stays owned while the world only grows above. -/
theorem _root_.Go.World.ownsRow.below {w w' : World} {base : Nat} {e : TypeId} {size : Nat} {v : Value} {n : Nat} {xs : List Value} (h : w.ownsRow base e size v n xs) (hb : Below w.heap.size w w') : w'.ownsRow base e size v n xs := by
  refine ⟨h.1, ?_⟩
  rcases h.2 with h2 | ⟨g, cap, cur, hv, hbg, hg, r⟩
  · exact .inl h2
  · exact .inr ⟨g, cap, cur, hv, hbg, by rw [hb.block g (Array.getElem?_eq_some_iff.1 hg).1]; exact hg, r⟩
/-- A slice that can be read: of no element, or a row of cells that hold the numbers. -/
def SlI (w : World) (v : Value) (xs : List Int) : Prop :=
  ∃ a c, v = .slice a xs.length c ∧ (xs = [] ∨ ∃ b off, a = some ⟨b, off, none⟩ ∧ b < w.heap.size ∧ ∀ i, i < xs.length → w.cell? ⟨b, off + i, none⟩ = some (.int .i64 (xs.getD i 0)))
theorem SlI.of_own {w : World} {base : Nat} {e : TypeId} {v : Value} {xs : List Int} (h : w.ownsRow base e 1 v xs.length (xs.map (Value.int .i64))) : SlI w v xs := by
  rcases h.2 with ⟨rfl, h2⟩ | ⟨g, cap, cur, rfl, hb, hg, hr⟩
  · exact ⟨none, 0, by rw [h2], .inl (List.eq_nil_of_length_eq_zero h2)⟩
  · refine ⟨_, cap, rfl, .inr ⟨g, 0, rfl, (Array.getElem?_eq_some_iff.1 hg).1, fun i hi => ?_⟩⟩
    have := h.cellAt i (by simpa using hi)
    rw [Nat.zero_add, this]
    simp [hi]
theorem SlI.below {w w' : World} {v : Value} {xs : List Int} (h : SlI w v xs) (hb : Below w.heap.size w w') : SlI w' v xs := by
  obtain ⟨a, c, hv, h | ⟨b, off, ha, hlt, hc⟩⟩ := h
  · exact ⟨a, c, hv, .inl h⟩
  · exact ⟨a, c, hv, .inr ⟨b, off, ha, Nat.lt_of_lt_of_le hlt hb.size, fun i hi => (hb.cell (p := ⟨b, off + i, none⟩) hlt).trans (hc i hi)⟩⟩
theorem SlI.drewN {w : World} {v : Value} {xs : List Int} (h : SlI w v xs) (n : Nat) : SlI (w.drewN n) v xs := h

/-- What a law is told of a slice of integers that came in: nil; or a row of cap cells, the numbers zs (the first len are its elements), each fitting its kind. -/
def IsRow (k : IntKind) (w : World) (a : Option Addr) (len cap : Nat) (zs : List Int) : Prop :=
  (a = none ∧ len = 0 ∧ cap = 0 ∧ zs = []) ∨
  ∃ x, a = some x ∧ len ≤ cap ∧ cap ≤ maxLen ∧ zs.length = cap ∧ (∀ i, i < zs.length → w.cell? (x.add i) = some (.int k (zs.getD i 0))) ∧ ∀ n ∈ zs, (Lit.int k n).wf = true
theorem SlI.of_row {w : World} {a : Option Addr} {len cap : Nat} {zs : List Int} (h : IsRow .i64 w a len cap zs) : SlI w (.slice a len cap) (zs.take len) ∧ (zs.take len).length = len := by
  rcases h with ⟨rfl, rfl, rfl, rfl⟩ | ⟨x, rfl, hl, hm, hz, hc, hw⟩
  · exact ⟨⟨none, 0, rfl, .inl rfl⟩, rfl⟩
  · have hlen : (zs.take len).length = len := by rw [List.length_take]; omega
    refine ⟨⟨some x, cap, by rw [hlen], ?_⟩, hlen⟩
    by_cases h0 : len = 0
    · left; subst h0; simp
    · right
      obtain ⟨b, off, spot⟩ := x
      have h1 := hc 0 (by omega)
      have hspot : spot = none := by simpa [Addr.add] using World.cell?_spot h1
      subst hspot
      refine ⟨b, off, rfl, World.block_lt_of_cell? w _ h1, fun i hi => ?_⟩
      rw [hlen] at hi
      have h2 := hc i (by omega)
      have e : (zs.take len).getD i 0 = zs.getD i 0 := by simp [List.getD, hi]
      rw [e, ← h2]
      by_cases hi0 : i = 0
      · subst hi0; simp [Addr.add]
      · simp [Addr.add, hi0]

end Go.Proofs.Ytkjfajdjiikpcaa
namespace Go.Proofs.Ytkjfajdjiikpcaa
open Go.ChangeShapes Go.WideShapes Go.ChangeAt Go.RowKit
theorem gbl {w w' : World} (h : Below w.heap.size w w') (row : Option Nat) : w.grownBy w' row := ⟨h.os, h.tape, h.output, h.size, fun k hk _ => h.block k hk⟩
theorem setCell_gr (w : World) (B o : Nat) (u : Value) : w.grownBy (w.setCell ⟨B, o, none⟩ u) (some B) :=
  ⟨rfl, rfl, rfl, by simp, fun k _ hk => heap_setCell_other w ⟨B, o, none⟩ k _ (fun e => hk (by simp [e]))⟩
theorem grown_tr {a b c : World} {row : Option Nat} (h : a.grownBy b row) (k : b.grownBy c row) : a.grownBy c row :=
  ⟨k.os.trans h.os, k.tape.trans h.tape, k.output.trans h.output, Nat.le_trans h.size k.size, fun i hi hr => (k.block i (Nat.lt_of_lt_of_le hi h.size) hr).trans (h.block i hi hr)⟩
theorem own_lift {w0 w w' : World} {B : Nat} (hb : Below w0.heap.size w0 w) (hg : w.grownBy w' (some B)) (h : w0.heap.size ≤ B) : Below w0.heap.size w0 w' :=
  hb.grown hg hb.size (fun k hk => by cases hk; exact h)
theorem bal' (w : World) (o : Obj) : Below w.heap.size w (w.alloc o) := (Below.refl _ _).alloc (Nat.le_refl _) o
end Go.Proofs.Ytkjfajdjiikpcaa
namespace Go.Proofs.Ytkjfajdjiikpcaa
open Go.ChangeShapes Go.WideShapes Go.ChangeAt Go.RowKit
/-- A slice of bytes that can be read. -/
def SlB (w : World) (v : Value) (xs : List Int) : Prop :=
  ∃ a c, v = .slice a xs.length c ∧ xs.length ≤ 4096 ∧ (∀ x ∈ xs, 0 ≤ x ∧ x < 256) ∧ (xs = [] ∨ ∃ b off, a = some ⟨b, off, none⟩ ∧ b < w.heap.size ∧ ∀ i, i < xs.length → w.cell? ⟨b, off + i, none⟩ = some (.int .u8 (xs.getD i 0)))
theorem SlB.below {w w' : World} {v : Value} {xs : List Int} (h : SlB w v xs) (hb : Below w.heap.size w w') : SlB w' v xs := by
  obtain ⟨a, c, hv, h1, h2, h | ⟨b, off, ha, hlt, hc⟩⟩ := h
  · exact ⟨a, c, hv, h1, h2, .inl h⟩
  · exact ⟨a, c, hv, h1, h2, .inr ⟨b, off, ha, Nat.lt_of_lt_of_le hlt hb.size, fun i hi => (hb.cell (p := ⟨b, off + i, none⟩) hlt).trans (hc i hi)⟩⟩

/-- The cursor's struct lies in block g: the bytes' slice, a place in it, a number. -/
def CurAt (w : World) (g : Nat) (v : Value) (xs : List Int) : Prop :=
  g < w.heap.size ∧ w.frozen? ⟨g, 0, none⟩ = false ∧ w.frozen? ⟨g, 1, none⟩ = false ∧ w.frozen? ⟨g, 2, none⟩ = false ∧ w.cell? ⟨g, 0, none⟩ = some v ∧
  (∃ i : Nat, i ≤ xs.length ∧ w.cell? ⟨g, 1, none⟩ = some (.int .i64 i)) ∧ (∃ h : Int, w.cell? ⟨g, 2, none⟩ = some (.int .i64 h)) ∧
  ∃ a c, v = .slice a xs.length c ∧ xs.length ≤ 4096 ∧ (∀ x ∈ xs, 0 ≤ x ∧ x < 256) ∧ (xs = [] ∨ ∃ b off, a = some ⟨b, off, none⟩ ∧ b < g ∧ ∀ i, i < xs.length → w.cell? ⟨b, off + i, none⟩ = some (.int .u8 (xs.getD i 0)))

theorem CurAt.drewN {w : World} {g : Nat} {v : Value} {xs : List Int} (h : CurAt w g v xs) (n : Nat) : CurAt (w.drewN n) g v xs := h
theorem setCell_frozen (w : World) (p q : Addr) (u : Value) : (w.setCell p u).frozen? q = w.frozen? q := by simp [go_sem]
theorem setCell_same (w : World) (p : Addr) (u v : Value) (h : w.cell? p = some v) : (w.setCell p u).cell? p = some u := by simp [go_sem, h]
end Go.Proofs.Ytkjfajdjiikpcaa
namespace Go.Proofs.Ytkjfajdjiikpcaa
open Go.ChangeShapes Go.WideShapes Go.ChangeAt Go.RowKit
/-- A number in a box of its own. -/
def NumAt (w : World) (B : Nat) (k : Nat) : Prop := B < w.heap.size ∧ w.cell? ⟨B, 0, none⟩ = some (.int .i64 k) ∧ w.frozen? ⟨B, 0, none⟩ = false
theorem NumAt.set {w : World} {B k : Nat} (h : NumAt w B k) (k' : Nat) : NumAt (w.setCell ⟨B, 0, none⟩ (.int .i64 k')) B k' :=
  ⟨by simpa using h.1, setCell_same w ⟨B, 0, none⟩ (.int .i64 k') _ h.2.1, by rw [setCell_frozen]; exact h.2.2⟩
theorem NumAt.grown {w w' : World} {B k : Nat} {row : Option Nat} (h : NumAt w B k) (hg : w.grownBy w' row) (hr : row ≠ some B) : NumAt w' B k :=
  ⟨Nat.lt_of_lt_of_le h.1 hg.size, by rw [World.cell?_of_block (w := w) (hg.block B h.1 (Ne.symm hr))]; exact h.2.1, by rw [World.frozen?_of_block (w := w) (hg.block B h.1 (Ne.symm hr))]; exact h.2.2⟩
theorem NumAt.below {w w' : World} {B k : Nat} (h : NumAt w B k) (hb : Below w.heap.size w w') : NumAt w' B k := h.grown (gbl hb none) (by simp)
def numOf (w : World) (B : Nat) : Nat := match w.cell? ⟨B, 0, none⟩ with
  | some (.int _ n) => n.toNat
  | _ => 0
theorem NumAt.is {w : World} {B k : Nat} (h : NumAt w B k) : numOf w B = k := by
  unfold numOf; rw [h.2.1]; simp
theorem cell_kept {w w' : World} {B o : Nat} {v : Value} {row : Option Nat} (h : w.cell? ⟨B, o, none⟩ = some v) (hg : w.grownBy w' row) (hr : row ≠ some B) : w'.cell? ⟨B, o, none⟩ = some v := by
  have hlt : B < w.heap.size := World.block_lt_of_cell? w _ h
  rw [World.cell?_of_block (w := w) (hg.block B hlt (Ne.symm hr))]; exact h
theorem patternOk_any (v : Value) (xs : List Int) (w : World) (h : SlI w v xs) :
    Calls Try.prog 25 #[v] w fun e w' => e = .returned (.bool (decide (0 < xs.length ∧ xs.length ≤ 100))) ∧ w' = w := by
  obtain ⟨a, c, rfl, _⟩ := h
  obtain ⟨r, hr⟩ : ∃ r, Hid (decide (0 < xs.length ∧ xs.length ≤ 100) = r) := ⟨_, rfl⟩
  rw [hr.out]
  have hr2 : r = decide (0 < xs.length ∧ xs.length ≤ 100) := hr.out.symm
  generalize xs.length = m at *
  clear hr
  go_enter Try.func25, Try.ntmps25
  by_cases h1 : 0 < m
  · have h1i : (0 : Int) < (m : Int) := by omega
    by_cases h2 : m ≤ 100
    · have h2i : (m : Int) ≤ 100 := by omega
      have hr3 : r = true := by rw [hr2]; exact decide_eq_true ⟨h1, h2⟩
      subst hr3; clear hr2
      go_wp2
      go_ret
      exact ⟨rfl, rfl⟩
    · have h2i : ¬ (m : Int) ≤ 100 := by omega
      have hr3 : r = false := by rw [hr2]; exact decide_eq_false (fun h => h2 h.2)
      subst hr3; clear hr2
      go_wp2
      go_ret
      exact ⟨rfl, rfl⟩
  · have h1i : ¬ (0 : Int) < (m : Int) := by omega
    have hr3 : r = false := by rw [hr2]; exact decide_eq_false (fun h => h1 h.1)
    subst hr3; clear hr2
    go_wp2
    go_ret
    exact ⟨rfl, rfl⟩
set_option maxHeartbeats 2000000 in
set_option maxRecDepth 20000 in
/-- The closure is told a number of the text. -/
theorem ends_any (f g : Nat → Int) (m i n : Nat) (H W P B pb po pc bb bo bL bc : Nat) (w : World) (hm : 0 < m ∧ m ≤ 100)
    (hH : NumAt w H (heldK f g m i)) (hW : w.cell? ⟨W, 0, none⟩ = some (.int .i64 m)) (hP : w.cell? ⟨P, 0, none⟩ = some (.slice (some ⟨pb, po, none⟩) m pc)) (hB : w.cell? ⟨B, 0, none⟩ = some (.slice (some ⟨bb, bo, none⟩) bL bc))
    (hp : ∀ j, j < m → w.cell? ⟨pb, po + j, none⟩ = some (.int .i64 (g j))) (hb : ∀ j, j < n → w.cell? ⟨bb, bo + j, none⟩ = some (.int .i64 (bK g m j))) (hn : n ≤ bL) (hk : heldK f g m i ≤ n)
    (hne : W ≠ H ∧ P ≠ H ∧ B ≠ H ∧ pb ≠ H ∧ bb ≠ H) :
    Calls Try.prog 30 #[.int .i64 (f i), .pointer (some ⟨H, 0, none⟩), .pointer (some ⟨W, 0, none⟩), .pointer (some ⟨P, 0, none⟩), .pointer (some ⟨B, 0, none⟩)] w fun e w' => e = .returned (.int .i64 (heldK f g m (i + 1))) ∧ NumAt w' H (heldK f g m (i + 1)) ∧ w.grownBy w' (some H) := by
  have hI := InvK.start f g m i
  generalize heldK f g m i = k at *
  obtain ⟨r, hr⟩ : ∃ r, Hid (heldK f g m (i + 1) = r) := ⟨_, rfl⟩
  rw [hr.out]
  obtain ⟨x, hx⟩ : ∃ x, Hid (f i = x) := ⟨_, rfl⟩
  rw [hx.out]
  obtain ⟨n1, n2, n3, n4, n5⟩ := hne
  have q1 : (some H : Option Nat) ≠ some W := fun e => n1 (by injection e with e; exact e.symm)
  have q2 : (some H : Option Nat) ≠ some P := fun e => n2 (by injection e with e; exact e.symm)
  have q3 : (some H : Option Nat) ≠ some B := fun e => n3 (by injection e with e; exact e.symm)
  have q4 : (some H : Option Nat) ≠ some pb := fun e => n4 (by injection e with e; exact e.symm)
  have q5 : (some H : Option Nat) ≠ some bb := fun e => n5 (by injection e with e; exact e.symm)
  replace hI := (show Hid _ from hI)
  go_enter Try.func30, Try.ntmps30
  go_wp2
  go_loopw [] (fun wr => ∃ k : Nat, NumAt wr H k ∧ Hid (InvK f g m i k) ∧ k ≤ n ∧ w.grownBy wr (some H)) (fun wr => numOf wr H)
  case atStart => exact ⟨k, hH, hI, hk, World.grownBy.refl _ _⟩
  case round =>
    obtain ⟨k, hH1, hI1, hk1, hg⟩ := hrel
    clear hH hI hk
    have hkm : k ≤ m := hI1.out.2.1
    have c1 := cell_kept hW hg q1
    have c2 := cell_kept hP hg q2
    have c3 := cell_kept hB hg q3
    have c4 := fun j hj => cell_kept (hp j hj) hg q4
    have c5 := fun j hj => cell_kept (hb j hj) hg q5
    have hnum := hH1.is
    have hset := fun k' => hH1.set k'
    obtain ⟨hl, h0, h00⟩ := id hH1
    have hgn : ∀ y : Nat, w.grownBy (wr.setCell ⟨H, 0, none⟩ (.int .i64 y)) (some H) := fun y => grown_tr hg (setCell_gr wr H 0 _)
    replace hg := (show Hid _ from hg)
    replace hnum := (show Hid _ from hnum)
    replace hgn := (show Hid _ from hgn)
    have hgo : ∀ q : Nat, 0 < k → (k = m ∨ g k ≠ x) → Hid (q = k - 1) → Hid (InvK f g m i (bK g m q)) ∧ bK g m q < k ∧ bK g m q ≤ n := by
      intro q h1 h2 h3
      have e := h3.out
      have h4 := bK_le g m q
      refine ⟨?_, by omega, by omega⟩
      have := hI1.out.next h1 (by rw [hx.out]; exact h2)
      rw [← e] at this; exact this
    have hhit : k < m → g k = x → Hid (k + 1 = r) := fun h1 h2 => by
      have := hI1.out.hit h1 (by rw [hx.out]; exact h2)
      rw [hr.out] at this; exact this.symm
    have hmiss : k = 0 → g k ≠ x → Hid (r = 0) := fun h1 h2 => by
      subst h1
      have := hI1.out.miss (by rw [hx.out]; exact h2)
      rw [hr.out] at this; exact this
    clear hI1
    by_cases hk0 : 0 < k
    · have hki : (0 : Int) < (k : Int) := by omega
      obtain ⟨q, hq⟩ : ∃ q, Hid (q = k - 1) := ⟨_, rfl⟩
      have hqn : q < n := by have := hq.out; omega
      have hqi : (q : Int) < (bL : Int) := by omega
      have hwr : IntKind.i64.wrap ((k : Int) - 1) = (q : Int) := by have := hq.out; rw [show ((k : Int) - 1) = (q : Int) by omega]; simp [IntKind.wrap, IntKind.bits, IntKind.signed]; omega
      have cq := c5 q hqn
      by_cases hkm2 : k = m
      · obtain ⟨i1, i2, i3⟩ := hgo q hk0 (.inl hkm2) hq
        obtain ⟨y, hy⟩ : ∃ y, Hid (bK g m q = y) := ⟨_, rfl⟩
        rw [hy.out] at cq i1 i2 i3
        have hs2 := hset y
        have hke : ((k : Int) == (m : Int)) = true := by simp; omega
        clear hset hgo hhit hmiss c4 c5
        subst hkm2
        replace hs2 := (show Hid _ from hs2)
        go_wp2
        go_roundw
        case rel => exact ⟨y, hs2.out, i1, i3, hgn.out y⟩
        case measure => rw [NumAt.is hs2.out, hnum.out]; exact i2
      · have hkm3 : k < m := by omega
        have hkmi : (k : Int) < (m : Int) := by omega
        have hke : ((k : Int) == (m : Int)) = false := by simp; omega
        have hke2 : ¬ (k : Int) = (m : Int) := by omega
        have ck := c4 k hkm3
        by_cases hkx : g k = x
        · have h1 := hhit hkm3 hkx
          have hs2 := hset (k + 1)
          have hg2 := hgn.out (k + 1)
          rw [h1.out] at hs2 hg2
          have hwk : IntKind.i64.wrap ((k : Int) + 1) = (r : Int) := by have := h1.out; rw [show ((k : Int) + 1) = (r : Int) by omega]; simp [IntKind.wrap, IntKind.bits, IntKind.signed]; omega
          rw [hkx] at ck
          have hcr : (wr.setCell ⟨H, 0, none⟩ (.int .i64 r)).cell? ⟨H, 0, none⟩ = some (.int .i64 r) := hs2.2.1
          clear hset hgo hhit hmiss c4 c5 cq hwr hgn hg hkm2 hkm3
          replace hs2 := (show Hid _ from hs2)
          replace hg2 := (show Hid _ from hg2)
          replace h1 := (show Hid _ from h1)
          go_wp2
          go_ret
          exact ⟨rfl, hs2.out, hg2.out⟩
        · obtain ⟨i1, i2, i3⟩ := hgo q hk0 (.inr hkx) hq
          obtain ⟨y, hy⟩ : ∃ y, Hid (bK g m q = y) := ⟨_, rfl⟩
          rw [hy.out] at cq i1 i2 i3
          have hs2 := hset y
          generalize g k = z at *
          have hze : (z == x) = false := by simpa using hkx
          clear hset hgo hhit hmiss c4 c5 hkm2 hkm3
          replace hs2 := (show Hid _ from hs2)
          go_wp2
          go_roundw
          case rel => exact ⟨y, hs2.out, i1, i3, hgn.out y⟩
          case measure => rw [NumAt.is hs2.out, hnum.out]; exact i2
    · have hk00 : k = 0 := by omega
      have hki : ¬ (0 : Int) < (k : Int) := by omega
      have hkmi : (k : Int) < (m : Int) := by omega
      have ck := c4 k (by omega)
      by_cases hkx : g k = x
      · have h1 := hhit (by omega) hkx
        have hs2 := hset (k + 1)
        have hg2 := hgn.out (k + 1)
        rw [h1.out] at hs2 hg2
        have hwk : IntKind.i64.wrap ((k : Int) + 1) = (r : Int) := by have := h1.out; rw [show ((k : Int) + 1) = (r : Int) by omega]; simp [IntKind.wrap, IntKind.bits, IntKind.signed]; omega
        rw [hkx] at ck
        have hcr : (wr.setCell ⟨H, 0, none⟩ (.int .i64 r)).cell? ⟨H, 0, none⟩ = some (.int .i64 r) := hs2.2.1
        clear hset hgo hhit hmiss c4 c5 hgn hg hk00
        replace hs2 := (show Hid _ from hs2)
        replace hg2 := (show Hid _ from hg2)
        replace h1 := (show Hid _ from h1)
        go_wp2
        go_ret
        exact ⟨rfl, hs2.out, hg2.out⟩
      · have h1 := hmiss hk00 hkx
        have hr0 : k = r := by have := h1.out; omega
        have hs2 : Hid (NumAt wr H r) := by rw [← hr0]; exact hH1
        generalize g k = z at *
        have hze : (z == x) = false := by simpa using hkx
        have hrr : (k : Int) = (r : Int) := by omega
        rw [hrr] at h0 hki hkmi
        have hkr : po + k = po + r := by omega
        rw [hkr] at ck
        clear hset hgo hhit hmiss c4 c5 hgn hk00 hH1 hk1 hkm hnum hr0 hrr hkr hk0 h1
        go_wp2
        go_ret
        exact ⟨rfl, hs2.out, hg.out⟩
end Go.Proofs.Ytkjfajdjiikpcaa
namespace Go.Proofs.Ytkjfajdjiikpcaa
open Go.ChangeShapes Go.WideShapes Go.ChangeAt Go.RowKit
/-- A closure of boxes at N, N + 1, N + 2, N + 3. -/
def cloE (N : Nat) : Value := .func (.func 30) #[] #[.pointer (some ⟨N + 3, 0, none⟩), .pointer (some ⟨N + 2, 0, none⟩), .pointer (some ⟨N, 0, none⟩), .pointer (some ⟨N + 1, 0, none⟩)]
def CloAt (w : World) (N : Nat) (vp vb : Value) (m k : Nat) : Prop := NumAt w (N + 3) k ∧ w.cell? ⟨N + 2, 0, none⟩ = some (.int .i64 m) ∧ w.cell? ⟨N, 0, none⟩ = some vp ∧ w.cell? ⟨N + 1, 0, none⟩ = some vb
theorem CloAt.below {w w' : World} {N : Nat} {vp vb : Value} {m k : Nat} (h : CloAt w N vp vb m k) (hb : Below w.heap.size w w') : CloAt w' N vp vb m k :=
  ⟨h.1.below hb, cell_kept h.2.1 (gbl hb none) (by simp), cell_kept h.2.2.1 (gbl hb none) (by simp), cell_kept h.2.2.2 (gbl hb none) (by simp)⟩
set_option maxHeartbeats 1000000 in
set_option maxRecDepth 20000 in
theorem ending_any (a b : Option Addr) (m c bL bc : Nat) (w : World) :
    Calls Try.prog 26 #[.slice a m c, .slice b bL bc] w fun e w' => e = .returned (cloE w.heap.size) ∧ CloAt w' w.heap.size (.slice a m c) (.slice b bL bc) m 0 ∧ Below w.heap.size w w' := by
  go_enter Try.func26, Try.ntmps26
  go_wp2
  go_ret
  refine ⟨rfl, ⟨⟨by simp [go_sem], by simp [go_sem], by simp [go_sem]⟩, by simp [go_sem], by simp [go_sem], by simp [go_sem]⟩, ?_⟩
  exact ((((Below.refl _ _).alloc (Nat.le_refl _) _).alloc (by simp) _).alloc (by simp; omega) _).alloc (by simp; omega) _
end Go.Proofs.Ytkjfajdjiikpcaa
namespace Go.Proofs.Ytkjfajdjiikpcaa
open Go.ChangeShapes Go.WideShapes Go.ChangeAt Go.RowKit
theorem info_i64 : (Try.prog.info? 2).map (fun i => (i.zero, i.size, i.bytes)) = some (some (.int .i64 0), 1, 8) := by kernel_rfl
set_option maxHeartbeats 400000 in
theorem toI_copy (v : Value) (xs : List Int) (w : World) (hv : SlI w v xs) (hl : xs.length ≤ 1073741824) :
    Calls Try.prog 17 #[v] w fun e w' => ∃ u, e = .returned u ∧ w'.ownsRow w.heap.size 2 1 u xs.length (xs.map (Value.int .i64)) ∧ Below w.heap.size w w' := by
  obtain ⟨i0, hi, hz0, hz1, hz2⟩ := info_parts info_i64
  obtain ⟨a, c, rfl, hc⟩ := hv
  generalize hn : xs.length = n at *
  go_enter Try.func17, Try.ntmps17
  go_wp2_with (refine wpList_make_full _ rfl _ _ 24 rfl w.heap.size 2 i0 (.int .i64 0) 1 Try.underlying24 hi hz0 hz1 .i64 .i64 (n : Int) (n : Int) n rfl rfl rfl rfl ?c1 ?c2 ?c3 ?_)
  case c1 => rw [hz2]; omega
  case c2 => unfold maxLen; omega
  case c3 => exact Nat.le_refl _
  intro w1 ho hg
  have hb1 : Below w.heap.size w w1 := (Below.refl _ _).grown hg (Nat.le_refl _) (fun k hk => by cases hk)
  clear hg
  go_wp2
  go_loopw [4] (fun i wr => ∃ (j : Nat) (ys : List Value), j ≤ n ∧ i = .int .i64 j ∧ wr.ownsRow w.heap.size 2 1 (.slice (some ⟨w.heap.size, 0, none⟩) n n) n ys ∧ ys.length = n ∧ (∀ t, t < j → ys[t]? = some (.int .i64 (xs.getD t 0))) ∧ Below w.heap.size w wr) (fun i _ => n - (intOf i).toNat)
  case atStart => exact ⟨0, _, Nat.zero_le _, rfl, ho, by simpa using ho.1, by simp, hb1⟩
  case round =>
    obtain ⟨j, ys, hj, rfl, ho, hyl, hys, hbel⟩ := hrel
    by_cases hlt : j < n
    · rcases hc with hc | ⟨b, off, rfl, hb, hc⟩
      · rw [hc] at hn; simp at hn; omega
      · have h0 : wr.cell? ⟨b, off + j, none⟩ = some (.int .i64 (xs.getD j 0)) := (hbel.cell (p := ⟨b, off + j, none⟩) hb).trans (hc j hlt)
        have h1 : ∃ u, wr.cell? ⟨w.heap.size, j, none⟩ = some u := by
          rw [ho.cellAt j (by omega)]; exact ⟨_, List.getElem?_eq_getElem (by omega)⟩
        obtain ⟨u, h1⟩ := h1
        have h2 := ho.frozenAt j
        obtain ⟨hst1, hst2⟩ := ho.stored j (.int .i64 (xs.getD j 0))
        have hy2 : ∀ t, t < j + 1 → (ys.set j (.int .i64 (xs.getD j 0)))[t]? = some (.int .i64 (xs.getD t 0)) := by
          intro t ht
          by_cases e : t = j
          · subst e; rw [List.getElem?_set_self (by omega)]
          · rw [List.getElem?_set_ne (by omega)]; exact hys t (by omega)
        clear ho hc hys
        generalize xs.getD j 0 = x at *
        have hbs := hbel.size
        go_wp2
        go_roundw
        case rel =>
          exact ⟨j + 1, ys.set j (.int .i64 x), by omega, by go_num, hst1, by simpa using hyl, hy2, hbel.grown hst2 hbs (fun k hk => by cases hk; exact Nat.le_refl _)⟩
        case measure => simp [intOf]; omega
    · have hjn : j = n := by omega
      subst hjn
      have hye : ys = xs.map (Value.int .i64) := by
        apply List.ext_getElem?
        intro i
        by_cases hi : i < j
        · rw [hys i hi]; simp [show i < xs.length by omega]
        · rw [List.getElem?_eq_none (by omega), List.getElem?_eq_none (by simp; omega)]
      go_wp2
      go_ret
      exact ⟨_, rfl, by rw [← hye]; exact ho, hbel⟩
end Go.Proofs.Ytkjfajdjiikpcaa
namespace Go.Proofs.Ytkjfajdjiikpcaa
open Go.ChangeShapes Go.WideShapes Go.ChangeAt Go.RowKit
theorem own_nil_lit (w : World) : (w.alloc (Obj.cells #[] 2)).ownsRow w.heap.size 2 1 (.slice (some ⟨w.heap.size, 0, none⟩) 0 0) 0 [] := World.ownsRow_lit (base := w.heap.size) (e := 2) (size := 1) w #[] 0 (Nat.le_refl _) (Nat.zero_le _) rfl
/-- A slice is no longer than its room. -/
def CapOk (v : Value) (n : Nat) : Prop := ∃ a c, v = .slice a n c ∧ n ≤ c
theorem CapOk.own {w : World} {base : Nat} {e : TypeId} {size : Nat} {v : Value} {n : Nat} {xs : List Value} (h : w.ownsRow base e size v n xs) : CapOk v n := by
  rcases h.2 with ⟨rfl, rfl⟩ | ⟨g, cap, cur, rfl, _, _, hl, _⟩
  · exact ⟨_, _, rfl, Nat.le_refl _⟩
  · exact ⟨_, _, rfl, hl⟩
theorem CapOk.row {k : IntKind} {w : World} {a : Option Addr} {len cap : Nat} {zs : List Int} (h : IsRow k w a len cap zs) : CapOk (.slice a len cap) len := by
  rcases h with ⟨rfl, rfl, rfl, rfl⟩ | ⟨x, rfl, hl, _⟩
  · exact ⟨_, _, rfl, Nat.le_refl _⟩
  · exact ⟨_, _, rfl, hl⟩
theorem brd_done {g : Nat → Int} {m : Nat} {bs : List Int} {ys : List Value} (hlen : bs.length = m) (hbat : ∀ i, i < m → bs.getD i 0 = (bK g m i : Int)) (hy : ys.length = m) (h : ∀ t, t < m → ys[t]? = some (.int .i64 (bK g m t))) : ys = bs.map (Value.int .i64) := by
  apply List.ext_getElem?
  intro i
  by_cases hi : i < m
  · rw [h i hi, ← hbat i hi]; simp [show i < bs.length by omega]
  · rw [List.getElem?_eq_none (by omega), List.getElem?_eq_none (by simp; omega)]
set_option maxHeartbeats 4000000 in
set_option maxRecDepth 20000 in
theorem implBorders_any (v : Value) (xs : List Int) (w : World) (h : SlI w v xs) (hcap : CapOk v xs.length) :
    Calls Try.prog 11 #[v] w fun e w' => ∃ u, e = .returned u ∧ w'.ownsRow w.heap.size 2 1 u (bordersV xs).length ((bordersV xs).map (Value.int .i64)) ∧ Below w.heap.size w w' := by
  have hcall := patternOk_any v xs w h
  by_cases hok : 0 < xs.length ∧ xs.length ≤ 100
  case neg =>
    rw [decide_eq_false hok] at hcall
    have hA : bordersV xs = [] := by
      unfold bordersV
      split
      · have : xs = [] := List.eq_nil_of_length_eq_zero (by omega)
        subst this; rfl
      · rfl
    rw [hA]
    clear hA hok
    go_enter Try.func11, Try.ntmps11
    go_wp2_with fail
    refine hcall.mono ?_
    rintro e w1 ⟨rfl, rfl⟩
    go_wp2
    go_ret
    exact ⟨_, rfl, own_nil_lit _, bal' _ _⟩
  rw [decide_eq_true hok] at hcall
  have hA : bordersV xs = bV xs := by unfold bordersV; rw [if_pos hok.2]
  rw [hA]
  obtain ⟨hm1, hm2⟩ := hok
  obtain ⟨_, c, rfl, e | ⟨pb, po, rfl, hlt, hc⟩⟩ := h
  · rw [e] at hm1; simp at hm1
  have hlen := bV_len xs
  have hbat := bV_at xs
  generalize hbv : bV xs = bs at *
  change ∀ i, i < xs.length → w.cell? ⟨pb, po + i, none⟩ = some (.int .i64 (atL xs i)) at hc
  generalize atL xs = g at *
  have hmc : xs.length ≤ c := by obtain ⟨a, c', e, h⟩ := hcap; cases e; exact h
  clear hcap
  generalize hm : xs.length = m at *
  clear hA hbv
  obtain ⟨i0, hi, hz0, hz1, hz2⟩ := info_parts info_i64
  replace hlen := (show Hid _ from hlen)
  replace hbat := (show Hid _ from hbat)
  replace hm := (show Hid _ from hm)
  rw [hlen.out]
  go_enter Try.func11, Try.ntmps11
  go_wp2_with fail
  refine hcall.mono ?_
  rintro e w1 ⟨rfl, hw1⟩
  subst hw1
  clear hcall
  go_wp2_with (refine wpList_make_full _ rfl _ _ 24 rfl w1.heap.size 2 i0 (.int .i64 0) 1 Try.underlying24 hi hz0 hz1 .i64 .i64 (m : Int) (m : Int) m rfl rfl rfl rfl ?c1 ?c2 ?c3 ?_)
  case c1 => rw [hz2]; omega
  case c2 => unfold maxLen; omega
  case c3 => exact Nat.le_refl _
  intro w2 ho hg
  have hb2 : Below w1.heap.size w1 w2 := (Below.refl _ _).grown hg (Nat.le_refl _) (fun k hk => by cases hk)
  clear hg
  go_wp2_with fail
  refine (ending_any _ _ m c m m w2).mono ?_
  rintro e w3 ⟨rfl, hclo, hb3⟩
  have ho3 := ho.below hb3
  have hb03 := hb2.trans (hb3.mono hb2.size)
  have hN : w1.heap.size < w2.heap.size := (World.ownsRow.lt ho w1.heap.size rfl).2
  clear ho hb3
  replace ho3 : Hid (w3.ownsRow w1.heap.size 2 1 (Value.slice (some ⟨w1.heap.size, 0, none⟩) m m) m (madeCells #[Value.int .i64 0] m).toList) := ho3
  replace hclo : Hid (CloAt w3 w2.heap.size (.slice (some ⟨pb, po, none⟩) m c) (.slice (some ⟨w1.heap.size, 0, none⟩) m m) m 0) := hclo
  have hc3 := fun i hi => cell_kept (hc i hi) (gbl hb03 none) (by simp)
  have hzero : (madeCells #[Value.int .i64 0] m).toList.length = m := by simpa using ho3.out.1
  have hz0t : ∀ t, t < 1 → (madeCells #[Value.int .i64 0] m).toList[t]? = some (.int .i64 (bK g m t)) := by
    intro t ht
    obtain rfl : t = 0 := by omega
    rw [bK_zero]
    have : 0 < m := hm1
    simp [madeCells, this]
  generalize (madeCells #[Value.int .i64 0] m).toList = zs0 at *
  by_cases hmo : m = 1
  · subst hmo
    have hfin := brd_done hlen.out hbat.out hzero hz0t
    replace hfin := (show Hid _ from hfin)
    replace hb03 : Hid (Below w1.heap.size w1 w3) := hb03
    clear hzero hz0t
    by_cases hc1 : c = 1
    · subst hc1
      go_wp2
      refine wp_loop_rounds 1 ?_
      rw [rounds_succ]
      go_wp2
      go_ret
      exact ⟨_, rfl, by rw [← hfin.out]; exact ho3.out, hb03.out⟩
    · have hc1f : (c = 1) = False := by simp [hc1]
      go_wp2
      refine wp_loop_rounds 1 ?_
      rw [rounds_succ]
      go_wp2
      go_ret
      exact ⟨_, rfl, by rw [← hfin.out]; exact ho3.out, hb03.out⟩
  have hc1f : (c = 1) = False := by simp; omega
  have hmi1 : (1 : Int) ≤ (m : Int) := by omega
  have hwm : IntKind.i64.wrap ((m : Int) - 1) = ((m - 1 : Nat) : Int) := by simp [IntKind.wrap, IntKind.bits, IntKind.signed]; omega
  go_wp2
  obtain ⟨M, hM⟩ : ∃ M, Hid (m - 1 = M) := ⟨_, rfl⟩
  obtain ⟨N, hN2⟩ : ∃ N, Hid (w2.heap.size = N) := ⟨_, rfl⟩
  rw [hM.out] at hwm ⊢
  rw [hN2.out] at hclo hN ⊢
  unfold cloE
  have ho3' := ho3.out
  have hb03' : Hid (Below w1.heap.size w1 w3) := hb03
  clear hb03 hb2 hc3 hwm ho3
  go_loopw [20] (fun i wr => ∃ (j : Nat) (ys : List Value), j ≤ M ∧ i = .int .i64 j ∧ wr.ownsRow w1.heap.size 2 1 (.slice (some ⟨w1.heap.size, 0, none⟩) m m) m ys ∧ ys.length = m ∧ Hid (∀ t, t < j + 1 → ys[t]? = some (.int .i64 (bK g m t))) ∧ Hid (CloAt wr N (.slice (some ⟨pb, po, none⟩) m c) (.slice (some ⟨w1.heap.size, 0, none⟩) m m) m (bK g m j)) ∧ Hid (Below w1.heap.size w1 wr)) (fun i _ => M - (intOf i).toNat)
  case atStart => exact ⟨0, zs0, Nat.zero_le _, rfl, ho3', hzero, hz0t, by rw [bK_zero]; exact hclo, hb03'⟩
  case round =>
    obtain ⟨j, ys, hj, rfl, ho, hyl, hys, hcl, hb⟩ := hrel
    clear ho3' hclo hb03'
    by_cases hlt : j < M
    · have hji : (j : Int) < (M : Int) := by omega
      have hjm : j + 1 < m := by have := hM.out; omega
      have hcj : wr.cell? ⟨pb, po + 1 + j, none⟩ = some (.int .i64 (g (j + 1))) := by
        have := cell_kept (hc (j + 1) hjm) (gbl hb.out none) (by simp)
        rw [show po + 1 + j = po + (j + 1) by omega]; exact this
      have hcall : True → Calls Try.prog 30 #[.int .i64 (g (j + 1)), .pointer (some ⟨N + 3, 0, none⟩), .pointer (some ⟨N + 2, 0, none⟩), .pointer (some ⟨N, 0, none⟩), .pointer (some ⟨N + 1, 0, none⟩)] wr fun e w' => e = .returned (.int .i64 (bK g m (j + 1))) ∧ NumAt w' (N + 3) (bK g m (j + 1)) ∧ wr.grownBy w' (some (N + 3)) := by
        intro _
        obtain ⟨q1, q2, q3, q4⟩ := hcl.out
        refine ends_any (fun s => g (s + 1)) g m j (j + 1) (N + 3) (N + 2) N (N + 1) pb po c w1.heap.size 0 m m wr ⟨hm1, hm2⟩ q1 q2 q3 q4 (fun t ht => cell_kept (hc t ht) (gbl hb.out none) (by simp)) (fun t ht => ?_) (by omega) (Nat.le_succ_of_le (bK_le g m j)) ⟨by omega, by omega, by omega, by omega, by omega⟩
        rw [Nat.zero_add, ho.cellAt t (by omega)]; exact hys.out t ht
      obtain ⟨r, hr⟩ : ∃ r, Hid (bK g m (j + 1) = r) := ⟨_, rfl⟩
      rw [hr.out] at hcall
      generalize g (j + 1) = y at *
      have ho2 := ho
      clear ho
      replace ho2 : Hid (wr.ownsRow w1.heap.size 2 1 (Value.slice (some ⟨w1.heap.size, 0, none⟩) m m) m ys) := ho2
      replace hcall := (show Hid _ from hcall)
      replace hyl := (show Hid _ from hyl)
      have hwj : IntKind.i64.wrap ((j : Int) + 1) = ((j + 1 : Nat) : Int) := by simp [IntKind.wrap, IntKind.bits, IntKind.signed]; omega
      have hjmi : ((j + 1 : Nat) : Int) < (m : Int) := by omega
      go_wp2_with fail
      refine (hcall.out trivial).mono ?_
      rintro e w4 ⟨rfl, hn4, hg4⟩
      have ho4 := ho2.out.kept hg4 (.inr (by intro e; injection e with e; have e2 : w1.heap.size = N + 3 := e; omega))
      have hb4 := own_lift hb.out hg4 (by omega)
      obtain ⟨q1, q2, q3, q4⟩ := hcl.out
      have qn : ∀ t : Nat, t ≠ N + 3 → (some (N + 3) : Option Nat) ≠ some t := fun t h e => h (by injection e with e; exact e.symm)
      have hcl4 : Hid (CloAt w4 N (.slice (some ⟨pb, po, none⟩) m c) (.slice (some ⟨w1.heap.size, 0, none⟩) m m) m r) := ⟨hn4, cell_kept q2 hg4 (qn _ (by omega)), cell_kept q3 hg4 (qn _ (by omega)), cell_kept q4 hg4 (qn _ (by omega))⟩
      have h1 : ∃ u, w4.cell? ⟨w1.heap.size, j + 1, none⟩ = some u := by
        rw [ho4.cellAt (j + 1) (by omega)]; exact ⟨_, List.getElem?_eq_getElem (by have := hyl.out; omega)⟩
      obtain ⟨u, h1⟩ := h1
      have h2 := ho4.frozenAt (j + 1)
      obtain ⟨hst1, hst2⟩ := ho4.stored (j + 1) (.int .i64 r)
      have hb5 : Hid (Below w1.heap.size w1 (w4.setCell ⟨w1.heap.size, j + 1, none⟩ (.int .i64 r))) := own_lift hb4 hst2 (Nat.le_refl _)
      have hsz4 := q1.1
      have hcl5 : Hid (CloAt (w4.setCell ⟨w1.heap.size, j + 1, none⟩ (.int .i64 r)) N (.slice (some ⟨pb, po, none⟩) m c) (.slice (some ⟨w1.heap.size, 0, none⟩) m m) m r) := by
        obtain ⟨y1, y2, y3, y4⟩ := hcl4.out
        have qm : ∀ t : Nat, t ≠ w1.heap.size → (some w1.heap.size : Option Nat) ≠ some t := fun t h e => h (by injection e with e; exact e.symm)
        exact ⟨y1.grown hst2 (qm _ (by omega)), cell_kept y2 hst2 (qm _ (by omega)), cell_kept y3 hst2 (qm _ (by omega)), cell_kept y4 hst2 (qm _ (by omega))⟩
      have hy2 : Hid (∀ t, t < j + 1 + 1 → (ys.set (j + 1) (.int .i64 r))[t]? = some (.int .i64 (bK g m t))) := by
        intro t ht
        by_cases e : t = j + 1
        · subst e; rw [List.getElem?_set_self (by have := hyl.out; omega), hr.out]
        · rw [List.getElem?_set_ne (by omega)]; exact hys.out t (by omega)
      replace hst1 : Hid ((w4.setCell ⟨w1.heap.size, j + 1, none⟩ (.int .i64 r)).ownsRow w1.heap.size 2 1 (.slice (some ⟨w1.heap.size, 0, none⟩) m m) m (ys.set (j + 1) (.int .i64 r))) := hst1
      have hcl6 : Hid (CloAt (w4.setCell ⟨w1.heap.size, j + 1, none⟩ (.int .i64 r)) N (.slice (some ⟨pb, po, none⟩) m c) (.slice (some ⟨w1.heap.size, 0, none⟩) m m) m (bK g m (j + 1))) := by rw [hr.out]; exact hcl5
      clear ho2 ho4 hb4 hcl4 hcl5 hcl hst2 q1 q2 q3 q4 hg4 hcall hys hcj qn hn4
      go_wp2
      go_roundw
      case rel => exact ⟨j + 1, _, by omega, by go_num, hst1.out, by simpa using hyl.out, hy2, hcl6, hb5⟩
      case measure => simp [intOf]; omega
    · have hjM : ¬ (j : Int) < (M : Int) := by omega
      have hjm : j + 1 = m := by have := hM.out; omega
      have hfin := brd_done hlen.out hbat.out hyl (fun t ht => hys.out t (by omega))
      replace hfin := (show Hid _ from hfin)
      have ho2 : Hid (wr.ownsRow w1.heap.size 2 1 (Value.slice (some ⟨w1.heap.size, 0, none⟩) m m) m ys) := ho
      clear ho hys hcl hyl hjm
      go_wp2
      go_ret
      exact ⟨_, rfl, by rw [← hfin.out]; exact ho2.out, hb.out⟩
end Go.Proofs.Ytkjfajdjiikpcaa
namespace Go.Proofs.Ytkjfajdjiikpcaa
open Go.ChangeShapes Go.WideShapes Go.ChangeAt Go.RowKit
set_option maxHeartbeats 2000000 in
set_option maxRecDepth 20000 in
theorem implPeriod_any (v : Value) (xs : List Int) (w : World) (h : SlI w v xs) (hcap : CapOk v xs.length) :
    Calls Try.prog 12 #[v] w fun e w' => e = .returned (.int .i64 (periodV xs)) ∧ Below w.heap.size w w' := by
  have hcall := patternOk_any v xs w h
  by_cases hok : 0 < xs.length ∧ xs.length ≤ 100
  case neg =>
    rw [decide_eq_false hok] at hcall
    have hA : periodV xs = -1 := if_neg hok
    rw [hA]
    clear hA hok h hcap
    go_enter Try.func12, Try.ntmps12
    go_wp2_with fail
    refine hcall.mono ?_
    rintro e w1 ⟨rfl, rfl⟩
    go_wp2
    go_ret
    exact ⟨rfl, Below.refl _ _⟩
  rw [decide_eq_true hok] at hcall
  have hbc := fun W (k : Below w.heap.size w W) => implBorders_any v xs W (h.below k) hcap
  have hA : periodV xs = (xs.length : Int) - (bK (atL xs) xs.length (xs.length - 1) : Int) := if_pos hok
  have hB : bordersV xs = bV xs := if_pos hok.2
  have hat := bV_at xs (xs.length - 1) (by omega)
  have hle := bK_le (atL xs) xs.length (xs.length - 1)
  have hle2 : 0 ≤ (bV xs).getD (xs.length - 1) 0 ∧ (bV xs).getD (xs.length - 1) 0 ≤ (xs.length : Int) := by rw [hat]; omega
  rw [← hat] at hA
  clear hle
  rw [hA]
  rw [hB] at hbc
  have hbl := bV_len xs
  generalize bV xs = bs at *
  obtain ⟨a, c, rfl, _⟩ := h
  generalize xs.length = m at *
  clear hA hB hat hcap
  obtain ⟨hm1, hm2⟩ := hok
  obtain ⟨q, hq⟩ : ∃ q, Hid (m - 1 = q) := ⟨_, rfl⟩
  rw [hq.out] at hle2 ⊢
  have hqm : (q : Int) < (m : Int) := by have := hq.out; omega
  have hq2 : q < m := by have := hq.out; omega
  have hwq : IntKind.i64.wrap ((m : Int) - 1) = (q : Int) := by have := hq.out; rw [show ((m : Int) - 1) = (q : Int) by omega]; simp [IntKind.wrap, IntKind.bits, IntKind.signed]; omega
  rw [hbl] at hbc
  replace hbc := (show Hid _ from hbc)
  replace hbl := (show Hid _ from hbl)
  obtain ⟨z, hz⟩ : ∃ z, Hid (bs.getD q 0 = z) := ⟨_, rfl⟩
  rw [hz.out] at hle2 ⊢
  go_enter Try.func12, Try.ntmps12
  go_wp2_with fail
  refine hcall.mono ?_
  rintro e w1 ⟨rfl, hw1⟩
  subst hw1
  clear hcall
  go_wp2_with fail
  refine (hbc.out _ (Below.refl _ _)).mono ?_
  rintro e w2 ⟨u, rfl, ho, hb⟩
  obtain ⟨g, cap, rfl, _, _⟩ := ho.form (by omega)
  have hcq : w2.cell? ⟨g, q, none⟩ = some (.int .i64 (bs.getD q 0)) := by
    rw [ho.cellAt q (by omega)]; have := hbl.out; simp [show q < bs.length by omega]
  rw [hz.out] at hcq
  have hwz : IntKind.i64.wrap ((m : Int) - z) = (m : Int) - z := by simp [IntKind.wrap, IntKind.bits, IntKind.signed]; omega
  clear ho hbc
  replace hb : Hid (Below w1.heap.size w1 w2) := hb
  go_wp2
  go_ret
  exact ⟨rfl, hb.out⟩
/-- A number onto a list of numbers of one's own: where it then lies. -/
theorem append_one {w : World} {ops : Array Oper} {rest : List Oper} {o : Oper} {ac : Act} {Q : Exit → Act → World → Prop} (hgd : o.guard = none) (s x : Operand)
    (ho : o.op = .call { callee := .builtin .append, args := #[s, x], argTypes := #[24, 24] })
    (base g cap : Nat) (xs : List Int) (hes : xs.length ≤ 1000000) (hs : ac.eval s = .slice (some ⟨g, 0, none⟩) xs.length cap) (hown : w.ownsRow base 2 1 (.slice (some ⟨g, 0, none⟩) xs.length cap) xs.length (xs.map (Value.int .i64))) (y : Int) (hx : ac.eval x = .slice (some ⟨w.heap.size, 0, none⟩) 1 1) (hbase : base ≤ w.heap.size)
    (h : ∀ g' cap' w', w'.ownsRow base 2 1 (.slice (some ⟨g', 0, none⟩) (xs.length + 1) cap') (xs.length + 1) ((xs ++ [y]).map (Value.int .i64)) → w.grownBy w' (some g) → (g' = g ∨ g' = w.heap.size + 1) → wpList Try.prog ops Q rest (ac.put o.dst (.slice (some ⟨g', 0, none⟩) (xs.length + 1) cap')) w') :
    wpList Try.prog ops Q (o :: rest) ac (w.alloc (.cells #[.int .i64 y] 2)) := by
  obtain ⟨i0, hi, hz0, hz1, hz2⟩ := info_parts info_i64
  have hall := World.grownBy_alloc w (.cells #[.int .i64 y] 2) (some g)
  refine wpList_append_lies _ hgd s x _ ho base 2 i0 (.int .i64 0) 1 8 Try.underlying24 hi hz0 hz1 hz2 rfl (by decide) _ xs.length _ hs (World.ownsRow.alloc hown _) ⟨w.heap.size, 0, none⟩ 1 1 [.int .i64 y] hx rfl ?_ (by intro u hu; simp at hu; subst hu; rfl) (by decide) (by unfold maxLen; omega) (by omega) (by simp; omega) (w.heap.size + 1) (by simp) (fun g' cap' w' ho' hg' hat _ => ?_)
  · intro j u hj
    have e : (⟨w.heap.size, 0, none⟩ : Addr).add j = ⟨w.heap.size, j, none⟩ := by unfold Addr.add; split <;> simp_all
    rw [e, cell_of_row _ w.heap.size j _ 2 (0, 0) (heap_alloc_new w _)]
    simpa using hj
  · refine h g' cap' w' ?_ (grown_tr hall hg') ?_
    · rw [List.map_append]
      exact ho'
    · rcases hat with e | e
      · have : g = g' := by simpa [Value.ownBlock] using e
        exact .inl this.symm
      · exact .inr e
theorem append_n {w : World} {ops : Array Oper} {rest : List Oper} {o : Oper} {ac : Act} {Q : Exit → Act → World → Prop} (hgd : o.guard = none) (s x : Operand)
    (ho : o.op = .call { callee := .builtin .append, args := #[s, x], argTypes := #[24, 24] })
    (base g cap n : Nat) (xs : List Int) (hn : xs.length = n) (hes : n ≤ 1000000) (hs : ac.eval s = .slice (some ⟨g, 0, none⟩) n cap) (hown : w.ownsRow base 2 1 (.slice (some ⟨g, 0, none⟩) n cap) n (xs.map (Value.int .i64))) (y : Int) (hx : ac.eval x = .slice (some ⟨w.heap.size, 0, none⟩) 1 1) (hbase : base ≤ w.heap.size)
    (h : ∀ g' cap' w', w'.ownsRow base 2 1 (.slice (some ⟨g', 0, none⟩) (n + 1) cap') (n + 1) ((xs ++ [y]).map (Value.int .i64)) → w.grownBy w' (some g) → (g' = g ∨ g' = w.heap.size + 1) → wpList Try.prog ops Q rest (ac.put o.dst (.slice (some ⟨g', 0, none⟩) (n + 1) cap')) w') :
    wpList Try.prog ops Q (o :: rest) ac (w.alloc (.cells #[.int .i64 y] 2)) := by
  subst hn
  exact append_one hgd s x ho base g cap xs hes hs hown y hx hbase h
end Go.Proofs.Ytkjfajdjiikpcaa
namespace Go.Proofs.Ytkjfajdjiikpcaa
open Go.ChangeShapes Go.WideShapes Go.ChangeAt Go.RowKit
theorem drwK (w : World) (n : Nat) : Below w.heap.size w (w.drewN n) := ⟨rfl, rfl, rfl, Nat.le_refl _, fun _ _ => rfl⟩
theorem drwL {w0 w : World} (h : Below w0.heap.size w0 w) (n : Nat) : Below w0.heap.size w0 (w.drewN n) := h.trans ((drwK w n).mono h.size)
def brdL (g : Nat → Int) (m i : Nat) : List Int := (List.range i).map fun t => (bK g m t : Int)
theorem brdL_len (g : Nat → Int) (m i : Nat) : (brdL g m i).length = i := by simp [brdL]
theorem brdL_succ (g : Nat → Int) (m i : Nat) : brdL g m (i + 1) = brdL g m i ++ [(bK g m i : Int)] := by simp [brdL, List.range_succ]
theorem brdL_at (g : Nat → Int) (m i t : Nat) (h : t < i) : ((brdL g m i).map (Value.int .i64))[t]? = some (.int .i64 (bK g m t)) := by simp [brdL, h]
set_option maxHeartbeats 4000000 in
set_option maxRecDepth 20000 in
theorem l11Borders_any (v : Value) (xs : List Int) (w : World) (h : SlI w v xs) (hm2 : xs.length ≤ 100) :
    Calls Try.prog 28 #[v] w fun e w' => ∃ g cap, e = .returned (.slice (some ⟨g, 0, none⟩) xs.length cap) ∧ w'.ownsRow w.heap.size 2 1 (.slice (some ⟨g, 0, none⟩) xs.length cap) xs.length ((bV xs).map (Value.int .i64)) ∧ Below w.heap.size w w' := by
  have hbv : bV xs = brdL (atL xs) xs.length xs.length := rfl
  rw [hbv]
  obtain ⟨a, c, rfl, hta⟩ := h
  have hta2 : Hid (xs.length = 0 ∨ ∃ b off, a = some ⟨b, off, none⟩ ∧ b < w.heap.size ∧ ∀ i, i < xs.length → w.cell? ⟨b, off + i, none⟩ = some (.int .i64 (atL xs i))) := by
    rcases hta with e | e
    · exact .inl (by rw [e]; rfl)
    · exact .inr e
  clear hta hbv
  generalize atL xs = g at *
  generalize xs.length = m at *
  have ho0 := own_nil_lit w
  have hb0 := bal' w (Obj.cells #[] 2)
  replace ho0 : Hid ((w.alloc (Obj.cells #[] 2)).ownsRow w.heap.size 2 1 (.slice (some ⟨w.heap.size, 0, none⟩) 0 0) 0 []) := ho0
  replace hb0 : Hid (Below w.heap.size w (w.alloc (Obj.cells #[] 2))) := hb0
  go_enter Try.func28, Try.ntmps28
  go_wp2
  go_loopw [3, 4, 5] (fun ov kv iv wr => ∃ (i gp cap : Nat), i ≤ m ∧ iv = .int .i64 i ∧ kv = .int .i64 (bK g m (i - 1)) ∧ ov = .slice (some ⟨gp, 0, none⟩) i cap ∧ Hid (wr.ownsRow w.heap.size 2 1 (.slice (some ⟨gp, 0, none⟩) i cap) i ((brdL g m i).map (Value.int .i64))) ∧ Hid (Below w.heap.size w wr)) (fun _ _ iv _ => m - (intOf iv).toNat)
  case atStart => exact ⟨0, _, 0, Nat.zero_le _, rfl, by rw [Nat.zero_sub, bK_zero]; rfl, rfl, ho0, hb0⟩
  case round =>
    obtain ⟨i, gp, cap, hi, rfl, rfl, rfl, ho, hb⟩ := hrel
    clear ho0 hb0
    by_cases hlt : i < m
    · have hii : (i : Int) < (m : Int) := by omega
      rcases hta2.out with e | ⟨tb, toff, rfl, htb, htc⟩
      · omega
      have hbsz := hb.out.size
      have hlen := brdL_len g m i
      have hsuc := brdL_succ g m i
      have hgp := World.ownsRow.lt ho.out gp rfl
      by_cases hi0 : i = 0
      · subst hi0
        have hz := bK_zero g m
        rw [hz] at hsuc
        replace hsuc := (show Hid _ from hsuc)
        replace hz := (show Hid _ from hz)
        rw [show (0 : Nat) - 1 = 0 from rfl, hz.out, show ((0 : Nat) : Int) = 0 from rfl]
        have ho2 : Hid (wr.ownsRow w.heap.size 2 1 (.slice (some ⟨gp, 0, none⟩) (brdL g m 0).length cap) (brdL g m 0).length ((brdL g m 0).map (Value.int .i64))) := by rw [hlen]; exact ho.out
        clear ho hta2
        have hbz : (brdL g m 0).length = 0 := hlen
        go_wp2
        refine wp_loop_rounds 1 ?_
        rw [rounds_succ]
        go_wp2
        go_quiet (fail)
        go_wp2
        go_quiet (fail)
        go_wp2_with (at_builtin; refine append_one rfl _ _ rfl w.heap.size gp cap (brdL g m 0) (by omega) (by rfl) (by exact ho2.out) 0 (by rfl) (by simpa using hbsz) ?_; intro g2 cap2 w5 ho5 hg5 hat)
        have hk5 : Hid (Below w.heap.size w w5) := own_lift (hb.out.trans ((drwK wr _).mono hb.out.size)) hg5 (by omega)
        refine ⟨⟨1, g2, cap2, by omega, rfl, ?_, ?_, ?_, hk5⟩, ?_⟩
        · rw [show 1 - 1 = 0 from rfl, hz.out]; rfl
        · rfl
        · rw [hsuc.out]; rw [hlen] at ho5; exact ho5
        · simp [intOf]; omega
      · have hi1 : 1 ≤ i := by omega
        obtain ⟨i1, rfl⟩ : ∃ i1, i = i1 + 1 := ⟨i - 1, by omega⟩
        clear hi0 hi1
        rw [show i1 + 1 - 1 = i1 from rfl]
        have hI := InvK.start (fun s => g (s + 1)) g m i1
        change InvK (fun s => g (s + 1)) g m i1 (bK g m i1) at hI
        have hI' : Hid (InvK (fun s => g (s + 1)) g m i1 (bK g m i1)) := hI
        have hkle : bK g m i1 ≤ i1 := bK_le g m i1
        clear hI
        obtain ⟨r, hr⟩ : ∃ r, Hid (bK g m (i1 + 1) = r) := ⟨_, rfl⟩
        obtain ⟨x, hx⟩ : ∃ x, Hid (g (i1 + 1) = x) := ⟨_, rfl⟩
        have cx : ∀ W : World, Below wr.heap.size wr W → W.cell? ⟨tb, toff + (i1 + 1), none⟩ = some (.int .i64 x) := fun W k => by
          rw [← hx.out]; exact cell_kept (htc (i1 + 1) hlt) (gbl (hb.out.trans (k.mono hbsz)) none) (by simp)
        have cp : ∀ t, t < m → ∀ W : World, Below wr.heap.size wr W → W.cell? ⟨tb, toff + t, none⟩ = some (.int .i64 (g t)) := fun t ht W k => cell_kept (htc t ht) (gbl (hb.out.trans (k.mono hbsz)) none) (by simp)
        have cb : ∀ t, t < i1 + 1 → ∀ W : World, Below wr.heap.size wr W → W.cell? ⟨gp, t, none⟩ = some (.int .i64 (bK g m t)) := fun t ht W k => by
          have h1 := ho.out.cellAt t (by omega)
          rw [brdL_at g m (i1 + 1) t ht] at h1
          exact cell_kept h1 (gbl k none) (by simp)
        generalize bK g m i1 = k0 at *
        replace hsuc := (show Hid _ from hsuc)
        replace cx := (show Hid _ from cx)
        replace cp := (show Hid _ from cp)
        replace cb := (show Hid _ from cb)
        clear hta2 htc
        have hi1i : (0 : Int) < ((i1 + 1 : Nat) : Int) := by omega
        go_wp2
        go_loopw [4] (fun kv W => ∃ k : Nat, kv = .int .i64 k ∧ Hid (InvK (fun s => g (s + 1)) g m i1 k) ∧ k ≤ i1 ∧ ∃ nn, W = wr.drewN nn) (fun kv _ => (intOf kv).toNat)
        case atStart => exact ⟨k0, rfl, hI', hkle, 0, rfl⟩
        case round =>
          obtain ⟨k, rfl, hI, hk, nn, rfl⟩ := hrel
          clear hI' hkle
          have ck := cp.out k (by omega) wr (Below.refl _ _)
          have cx1 := cx.out wr (Below.refl _ _)
          have hkm : (k : Int) < (m : Int) := by omega
          have him : ((i1 + 1 : Nat) : Int) < (m : Int) := hii
          have hlen2 : Hid ((brdL g m (i1 + 1)).length = i1 + 1) := hlen
          clear hlen
          by_cases hkx : g k = x
          · have hrk : Hid (bK g m (i1 + 1) = k + 1) := hI.out.hit (by omega) (by show g k = g (i1 + 1); rw [hx.out]; exact hkx)
            have hrk2 : r = k + 1 := by rw [← hr.out]; exact hrk.out
            rw [hkx] at ck
            have hwk : IntKind.i64.wrap ((k : Int) + 1) = (r : Int) := by rw [show ((k : Int) + 1) = (r : Int) by omega]; simp [IntKind.wrap, IntKind.bits, IntKind.signed]; omega
            rw [hr.out] at hsuc
            clear hI hrk hkx hrk2
            by_cases hk0 : 0 < k
            · have hki : (0 : Int) < (k : Int) := by omega
              go_wp2
              go_quiet (fail)
              go_wp2
              go_quiet (fail)
              go_wp2_with (at_builtin; refine append_n rfl _ _ rfl w.heap.size gp cap (i1 + 1) (brdL g m (i1 + 1)) hlen2.out (by omega) (by rfl) (by exact ho.out) (r : Int) (by rfl) (by simpa using hbsz) ?_; intro g2 cap2 w5 ho5 hg5 hat)
              have hk5 : Hid (Below w.heap.size w w5) := own_lift (drwL hb.out _) hg5 (by omega)
              refine ⟨⟨i1 + 1 + 1, g2, cap2, by omega, by go_num, ?_, ?_, ?_, hk5⟩, ?_⟩
              · rw [show i1 + 1 + 1 - 1 = i1 + 1 from rfl, hr.out]
              · rfl
              · rw [hsuc.out]; exact ho5
              · simp [intOf]; omega
            · have hki : ¬ (0 : Int) < (k : Int) := by omega
              go_wp2
              go_quiet (fail)
              go_wp2
              go_quiet (fail)
              go_wp2_with (at_builtin; refine append_n rfl _ _ rfl w.heap.size gp cap (i1 + 1) (brdL g m (i1 + 1)) hlen2.out (by omega) (by rfl) (by exact ho.out) (r : Int) (by rfl) (by simpa using hbsz) ?_; intro g2 cap2 w5 ho5 hg5 hat)
              have hk5 : Hid (Below w.heap.size w w5) := own_lift (drwL hb.out _) hg5 (by omega)
              refine ⟨⟨i1 + 1 + 1, g2, cap2, by omega, by go_num, ?_, ?_, ?_, hk5⟩, ?_⟩
              · rw [show i1 + 1 + 1 - 1 = i1 + 1 from rfl, hr.out]
              · rfl
              · rw [hsuc.out]; exact ho5
              · simp [intOf]; omega
          · by_cases hk0 : 0 < k
            · have hki : (0 : Int) < (k : Int) := by omega
              obtain ⟨q, hq⟩ : ∃ q, Hid (q = k - 1) := ⟨_, rfl⟩
              have hqk : q < k := by have := hq.out; omega
              have hqL : q < i1 + 1 := by omega
              have hqi : (q : Int) < ((i1 + 1 : Nat) : Int) := by omega
              have hwr : IntKind.i64.wrap ((k : Int) - 1) = (q : Int) := by have := hq.out; rw [show ((k : Int) - 1) = (q : Int) by omega]; simp [IntKind.wrap, IntKind.bits, IntKind.signed]; omega
              have cq := cb.out q hqL wr (Below.refl _ _)
              have hnx : Hid (InvK (fun s => g (s + 1)) g m i1 (bK g m q)) := by
                have := hI.out.next hk0 (.inr (by show g k ≠ g (i1 + 1); rw [hx.out]; exact hkx))
                rw [← hq.out] at this; exact this
              have hyq := bK_le g m q
              generalize bK g m q = y at *
              generalize g k = z at *
              have hze : (z == x) = false := by simpa using hkx
              clear hI ho
              go_wp2
              go_quiet (fail)
              go_wp2
              go_roundw
              case rel => exact ⟨y, rfl, hnx, by omega, nn + nq, by simp⟩
              case measure => simp [intOf]; omega
            · have hk00 : k = 0 := by omega
              have hki : ¬ (0 : Int) < (k : Int) := by omega
              have hr0 : Hid (r = 0) := by
                have h1 := hI.out
                rw [hk00] at h1 hkx
                have h2 : bK g m (i1 + 1) = 0 := h1.miss (by show g 0 ≠ g (i1 + 1); rw [hx.out]; exact hkx)
                rw [hr.out] at h2; exact h2
              rw [hr.out] at hsuc
              have hr2 := hr0.out
              subst hr2
              subst hk00
              rw [show ((0 : Nat) : Int) = 0 from rfl] at hsuc hki hkm ⊢
              rw [Nat.add_zero] at ck
              generalize g 0 = z at *
              have hze : (z == x) = false := by simpa using hkx
              clear hI hr0
              go_wp2
              go_quiet (fail)
              go_wp2
              go_quiet (fail)
              go_wp2_with (at_builtin; refine append_n rfl _ _ rfl w.heap.size gp cap (i1 + 1) (brdL g m (i1 + 1)) hlen2.out (by omega) (by rfl) (by exact ho.out) 0 (by rfl) (by simpa using hbsz) ?_; intro g2 cap2 w5 ho5 hg5 hat)
              have hk5 : Hid (Below w.heap.size w w5) := own_lift (drwL hb.out _) hg5 (by omega)
              refine ⟨⟨i1 + 1 + 1, g2, cap2, by omega, by go_num, ?_, ?_, ?_, hk5⟩, ?_⟩
              · rw [show i1 + 1 + 1 - 1 = i1 + 1 from rfl, hr.out]; rfl
              · rfl
              · rw [hsuc.out]; exact ho5
              · simp [intOf]; omega
    · have hii : ¬ (i : Int) < (m : Int) := by omega
      obtain rfl : i = m := by omega
      clear hta2
      go_wp2
      go_ret
      exact ⟨gp, cap, rfl, ho.out, hb.out⟩
end Go.Proofs.Ytkjfajdjiikpcaa
namespace Go.Proofs.Ytkjfajdjiikpcaa
open Go.ChangeShapes Go.WideShapes Go.ChangeAt Go.RowKit
set_option maxHeartbeats 2000000 in
set_option maxRecDepth 20000 in
theorem specPeriod_any (v : Value) (xs : List Int) (w : World) (h : SlI w v xs) :
    Calls Try.prog 16 #[v] w fun e w' => e = .returned (.int .i64 (periodV xs)) ∧ Below w.heap.size w w' := by
  by_cases hok : 0 < xs.length ∧ xs.length ≤ 100
  case neg =>
    have hA : periodV xs = -1 := if_neg hok
    rw [hA]
    obtain ⟨a, c, rfl, _⟩ := h
    generalize xs.length = m at *
    clear hA
    go_enter Try.func16, Try.ntmps16
    by_cases h1 : m < 1
    · have h1i : (m : Int) < 1 := by omega
      go_wp2
      go_ret
      exact ⟨rfl, Below.refl _ _⟩
    · have h1i : ¬ (m : Int) < 1 := by omega
      have h2i : (100 : Int) < (m : Int) := by omega
      go_wp2
      go_ret
      exact ⟨rfl, Below.refl _ _⟩
  have hbc := fun (_ : True) => l11Borders_any v xs w h hok.2
  have hA : periodV xs = (xs.length : Int) - (bK (atL xs) xs.length (xs.length - 1) : Int) := if_pos hok
  have hat := bV_at xs (xs.length - 1) (by omega)
  have hle := bK_le (atL xs) xs.length (xs.length - 1)
  have hle2 : 0 ≤ (bV xs).getD (xs.length - 1) 0 ∧ (bV xs).getD (xs.length - 1) 0 ≤ (xs.length : Int) := by rw [hat]; omega
  rw [← hat] at hA
  rw [hA]
  have hbl := bV_len xs
  generalize bV xs = bs at *
  obtain ⟨a, c, rfl, _⟩ := h
  generalize xs.length = m at *
  clear hA hat hle
  obtain ⟨hm1, hm2⟩ := hok
  have h1i : ¬ (m : Int) < 1 := by omega
  have h2i : ¬ (100 : Int) < (m : Int) := by omega
  obtain ⟨q, hq⟩ : ∃ q, Hid (m - 1 = q) := ⟨_, rfl⟩
  rw [hq.out] at hle2 ⊢
  have hqm : (q : Int) < (m : Int) := by have := hq.out; omega
  have hq2 : q < m := by have := hq.out; omega
  have hwq : IntKind.i64.wrap ((m : Int) - 1) = (q : Int) := by have := hq.out; rw [show ((m : Int) - 1) = (q : Int) by omega]; simp [IntKind.wrap, IntKind.bits, IntKind.signed]; omega
  replace hbc := (show Hid _ from hbc)
  replace hbl := (show Hid _ from hbl)
  obtain ⟨z, hz⟩ : ∃ z, Hid (bs.getD q 0 = z) := ⟨_, rfl⟩
  rw [hz.out] at hle2 ⊢
  go_enter Try.func16, Try.ntmps16
  go_wp2_with fail
  refine (hbc.out trivial).mono ?_
  rintro e w2 ⟨g, cap, rfl, ho, hb⟩
  have hcq : w2.cell? ⟨g, q, none⟩ = some (.int .i64 z) := by
    rw [ho.cellAt q (by omega)]; have := hbl.out; rw [← hz.out]; simp [show q < bs.length by omega]
  have hwz : IntKind.i64.wrap ((m : Int) - z) = (m : Int) - z := by simp [IntKind.wrap, IntKind.bits, IntKind.signed]; omega
  clear ho hbc
  replace hb : Hid (Below w.heap.size w w2) := hb
  go_wp2
  go_ret
  exact ⟨rfl, hb.out⟩
end Go.Proofs.Ytkjfajdjiikpcaa
namespace Go.Proofs.Ytkjfajdjiikpcaa
open Go.ChangeShapes Go.WideShapes Go.ChangeAt Go.RowKit
set_option maxHeartbeats 400000 in
theorem eqI_same (va vb : Value) (xs : List Int) (w : World) (ha : SlI w va xs) (hb : SlI w vb xs) (hl : xs.length ≤ 1073741824) :
    Calls Try.prog 18 #[va, vb] w fun e w' => e = .returned (.bool true) ∧ ∃ n, w' = w.drewN n := by
  by_cases h0 : xs = []
  · subst h0
    obtain ⟨a, c, rfl, _⟩ := ha
    obtain ⟨a', c', rfl, _⟩ := hb
    go_enter Try.func18, Try.ntmps18
    go_wp2
    refine wp_loop_rounds 1 ?_
    rw [rounds_succ]
    go_wp2
    go_ret
    exact ⟨rfl, 0, rfl⟩
  · obtain ⟨_, c, rfl, e | ⟨b, off, rfl, _, hca⟩⟩ := ha
    · exact absurd e h0
    · obtain ⟨_, c', rfl, e | ⟨b', off', rfl, _, hcb⟩⟩ := hb
      · exact absurd e h0
      · generalize hn : xs.length = n at *
        clear h0 hn
        go_enter Try.func18, Try.ntmps18
        go_wp2
        go_loopw [5] (fun i wr => ∃ k : Nat, k ≤ n ∧ i = .int .i64 k ∧ ∃ m, wr = w.drewN m) (fun i _ => n - (intOf i).toNat)
        case atStart => exact ⟨0, Nat.zero_le _, rfl, 0, rfl⟩
        case round =>
          obtain ⟨k, hk, rfl, m, rfl⟩ := hrel
          by_cases hlt : k < n
          · have h1 : w.cell? ⟨b, off + k, none⟩ = some (.int .i64 (xs.getD k 0)) := hca k hlt
            have h2 : w.cell? ⟨b', off' + k, none⟩ = some (.int .i64 (xs.getD k 0)) := hcb k hlt
            have hi : (k : Int) < (n : Int) := by omega
            generalize xs.getD k 0 = x at *
            clear hca hcb
            go_wp2
            go_quiet (fail)
            go_wp2
            go_roundw
            case rel => exact ⟨k + 1, by omega, by go_num, m + nq, by simp⟩
            case measure => simp [intOf]; omega
          · go_wp2
            go_ret
            exact ⟨rfl, m, rfl⟩

end Go.Proofs.Ytkjfajdjiikpcaa
namespace Go.Proofs.Ytkjfajdjiikpcaa
open Go.ChangeShapes Go.WideShapes Go.ChangeAt Go.RowKit
set_option maxHeartbeats 2000000 in
set_option maxRecDepth 20000 in
theorem walk_FnExactPeriod (w : World) (a : Option Addr) (len cap : Nat) (zs : List Int) (hr : IsRow .i64 w a len cap zs) :
    Calls Try.prog 6 #[.slice a len cap] w fun e w' => e = .returned (.bool true) ∧ Below w.heap.size w w' := by
  obtain ⟨ha, hl⟩ := SlI.of_row hr
  generalize zs.take len = xs at *
  clear hr
  by_cases h1 : len ≤ 1048576
  case neg =>
    have h1i : (1048576 : Int) < (len : Int) := by omega
    go_enter Try.func6, Try.ntmps6
    go_wp2
    go_ret
    exact ⟨rfl, Below.refl _ _⟩
  have h1i : ¬ (1048576 : Int) < (len : Int) := by omega
  have hxl : xs.length ≤ 1073741824 := by omega
  have hS := fun u W (q : SlI W u xs) => specPeriod_any u xs W q
  have hI := fun u W (q : SlI W u xs) (qc : CapOk u xs.length) => implPeriod_any u xs W q qc
  generalize periodV xs = r at *
  replace hS := (show Hid _ from hS)
  replace hI := (show Hid _ from hI)
  go_enter Try.func6, Try.ntmps6
  go_wp2_with fail
  refine (toI_copy _ xs _ ha hxl).mono ?_
  rintro e w1 ⟨u1, rfl, o1, b1⟩
  go_wp2_with fail
  refine (hS.out _ _ (SlI.of_own o1)).mono ?_
  rintro e w2 ⟨rfl, b2⟩
  have k2 := b1.trans (b2.mono b1.size)
  clear o1 b1 b2
  go_wp2_with fail
  refine (toI_copy _ xs _ (ha.below k2) hxl).mono ?_
  rintro e w3 ⟨u3, rfl, o3, b3⟩
  have k3 := k2.trans (b3.mono k2.size)
  clear b3
  go_wp2_with fail
  refine (hI.out _ _ (SlI.of_own o3) (CapOk.own o3)).mono ?_
  rintro e w4 ⟨rfl, b4⟩
  have k4 := k3.trans (b4.mono k3.size)
  have s4 := (SlI.of_own o3).below b4
  clear o3 b4
  go_wp2_with fail
  refine (toI_copy _ xs _ (ha.below k4) hxl).mono ?_
  rintro e w5 ⟨u5, rfl, o5, b5⟩
  have k5 := k4.trans (b5.mono k4.size)
  go_wp2_with fail
  refine (eqI_same _ _ xs _ (s4.below b5) (SlI.of_own o5) hxl).mono ?_
  rintro e w6 ⟨rfl, q6, hq⟩
  have k6 : Below w.heap.size w w6 := by rw [hq]; exact drwL k5 _
  clear hq
  go_wp2
  go_ret
  exact ⟨rfl, k6⟩
end Go.Proofs.Ytkjfajdjiikpcaa
