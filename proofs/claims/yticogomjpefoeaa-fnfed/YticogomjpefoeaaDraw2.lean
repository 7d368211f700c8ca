/- Draws of runes and lists of runes. -/
import Derived.Test.YticogomjpefoeaaDraw1
namespace Go.Proofs.Yticogomjpefoeaa
open Go.ChangeShapes Go.WideShapes Go.ChangeAt Go.RowKit

theorem CurAt.new (w : World) (a : Option Addr) (c : Nat) (xs : List Int) (h : Int) (T : TypeId) (hs : SlB w (.slice a xs.length c) xs) : CurAt (w.alloc (.cells #[.slice a xs.length c, .int .i64 0, .int .i64 h] T)) w.heap.size (.slice a xs.length c) xs := by
  obtain ⟨a', c', hv, hl, hx, hr⟩ := hs
  refine ⟨by simp, by simp [go_sem], by simp [go_sem], by simp [go_sem], by simp [go_sem], ⟨0, Nat.zero_le _, by simp [go_sem]⟩, ⟨h, by simp [go_sem]⟩, a', c', hv, hl, hx, ?_⟩
  rcases hr with hr | ⟨b, off, ha, hb, hr⟩
  · exact .inl hr
  · exact .inr ⟨b, off, ha, hb, fun j hj => ((bal w _).cell (p := ⟨b, off + j, none⟩) hb).trans (hr j hj)⟩

set_option maxHeartbeats 1000000 in
theorem l1New_a (v : Value) (xs : List Int) (w : World) (hv : SlB w v xs) :
    Calls Try.prog 31 #[v] w fun e w' => e = .returned (.pointer (some ⟨w.heap.size, 0, none⟩)) ∧ CurAt w' w.heap.size v xs ∧ Below w.heap.size w w' := by
  have HV : Hid (SlB w v xs) := hv
  obtain ⟨a, c, rfl, hl, hx, hr⟩ := hv
  go_enter Try.func31, Try.ntmps31
  go_wp2
  go_loop [3, 4] (fun h i => ∃ (k : Nat) (H : Int), k ≤ xs.length ∧ i = .int .i64 k ∧ h = .int .i64 H) (fun _ i => xs.length - (intOf i).toNat)
  case atStart => exact ⟨0, _, Nat.zero_le _, rfl, rfl⟩
  case round =>
    obtain ⟨k, H, hk, rfl, rfl⟩ := hrel
    by_cases hlt : k < xs.length
    · rcases hr with hr | ⟨b, off, rfl, hb, hr⟩
      · rw [hr] at hlt; simp at hlt
      · have hri := hr k hlt
        generalize hy : xs.getD k 0 = y at hri
        clear hy hr hx
        go_wp2
        go_round
        case rel => exact ⟨k + 1, _, by omega, by go_num, rfl⟩
        case measure => simp [intOf]; omega
    · clear hr hx
      go_wp2
      go_ret
      exact ⟨rfl, CurAt.new w a c xs H _ HV.out, bal w _⟩

theorem own_grow {w w' : World} {base : Nat} {e : TypeId} {size : Nat} {v : Value} {n : Nat} {xs : List Value} {g : Nat} (h : w.ownsRow base e size v n xs) (hg : w.grownBy w' (some g)) (hlt : g < base) : w'.ownsRow base e size v n xs :=
  h.kept hg (by
    cases hv : v.ownBlock with
    | none => exact .inl rfl
    | some b => right; intro e; have := (h.lt b hv).1; cases e; omega)

theorem info_int64d : (Try.prog.info? 2).map (fun i => (i.zero, i.size, i.bytes)) = some (some (.int .i64 0), 1, 8) := by kernel_rfl
theorem CurAt.grown_own {w w' : World} {g : Nat} {v : Value} {xs : List Int} {row : Option Nat} (h : CurAt w g v xs) (hg : w.grownBy w' row) (hr : ∀ k, row = some k → g < k) : CurAt w' g v xs := by
  have hb : ∀ k, k ≤ g → w'.heap[k]? = w.heap[k]? := fun k hk => hg.block k (by have := h.1; omega) (fun e => by have := hr k e.symm; omega)
  obtain ⟨hlt, z0, z1, z2, c0, ⟨i, hi, c1⟩, ⟨h, c2⟩, a, c, hv, hl, hx, hrr⟩ := h
  have hbg := hb g (Nat.le_refl _)
  refine ⟨Nat.lt_of_lt_of_le hlt hg.size, (World.frozen?_of_block (w := w) hbg).trans z0, (World.frozen?_of_block (w := w) hbg).trans z1, (World.frozen?_of_block (w := w) hbg).trans z2, (World.cell?_of_block (w := w) hbg).trans c0, ⟨i, hi, (World.cell?_of_block (w := w) hbg).trans c1⟩, ⟨h, (World.cell?_of_block (w := w) hbg).trans c2⟩, a, c, hv, hl, hx, ?_⟩
  rcases hrr with hrr | ⟨b, off, ha, hb', hrr⟩
  · exact .inl hrr
  · exact .inr ⟨b, off, ha, hb', fun j hj => (World.cell?_of_block (w := w) (hb b (by omega))).trans (hrr j hj)⟩
theorem grownBy_own {w w' w0 : World} {g : Nat} {row : Option Nat} (h : w0.grownBy w (some g)) (hg : w.grownBy w' row) (hr : ∀ k, row = some k → w0.heap.size ≤ k) : w0.grownBy w' (some g) :=
  ⟨hg.os.trans h.os, hg.tape.trans h.tape, hg.output.trans h.output, Nat.le_trans h.size hg.size, fun i hi hne => (hg.block i (Nat.lt_of_lt_of_le hi h.size) (fun e => by have := hr i e.symm; omega)).trans (h.block i hi hne)⟩

set_option maxHeartbeats 1000000 in
theorem l1DrawRunes_a (g : Nat) (v : Value) (xs : List Int) (w : World) (hc : CurAt w g v xs) :
    Calls Try.prog 32 #[.pointer (some ⟨g, 0, none⟩)] w fun e w' => ∃ (u : Value) (ys : List Int), e = .returned u ∧ ys.length ≤ 8 ∧ (∀ r ∈ ys, runeOk r = true) ∧ w'.ownsRow w.heap.size 2 1 u ys.length (ys.map (Value.int .i64)) ∧ CurAt w' g v xs ∧ w.grownBy w' (some g) := by
  obtain ⟨i0, hi, hz0, hz1, hz2⟩ := info_parts info_int64d
  have hlt := hc.1
  have ho0 := World.ownsRow_lit (base := w.heap.size) (e := 2) (size := 1) w #[] 0 (Nat.le_refl _) (Nat.zero_le _) rfl
  go_enter Try.func32, Try.ntmps32
  go_wp2_with fail
  refine (l1Below_a g v xs 9 _ (hc.below (bal w _))).mono ?_
  rintro e w1 ⟨x, rfl, hx0, hx1, _, hc1, hg1⟩
  obtain ⟨k, rfl⟩ : ∃ k : Nat, x = k := ⟨x.toNat, by omega⟩
  have hk : k ≤ 8 := by have := hx1 (by omega); omega
  have ho1 := own_grow ho0 hg1 hlt
  have hgr := gtr (World.grownBy_alloc w _ (some g)) hg1
  clear hg1 hc hx1 ho0
  go_wp2
  go_loopw [3, 4] (fun u i wr => ∃ (j : Nat) (ys : List Int), i = .int .i64 j ∧ ys.length + j ≤ 8 ∧ (∀ r ∈ ys, runeOk r = true) ∧ wr.ownsRow w.heap.size 2 1 u ys.length (ys.map (Value.int .i64)) ∧ CurAt wr g v xs ∧ w.grownBy wr (some g)) (fun _ i _ => (intOf i).toNat)
  case atStart => exact ⟨k, [], rfl, by simpa using hk, by simp, by simpa using ho1, hc1, hgr⟩
  case round =>
    clear hk ho1 hc1 hgr
    obtain ⟨j, ys, rfl, hjl, hys, ho, hcw, hgw⟩ := hrel
    by_cases hj : 0 < j
    · have hji : 0 < (j : Int) := by omega
      go_wp2_with fail
      refine (l1DrawRune_a g v xs _ hcw).mono ?_
      rintro e w2 ⟨r, rfl, hr, hc2, hg2⟩
      have ho2 := own_grow ho hg2 hlt
      have hgw2 := gtr hgw hg2
      clear hcw hg2 hgw ho
      go_wp2_with (at_builtin; refine wpList_append_own _ rfl _ _ 26 rfl w.heap.size 2 i0 (.int .i64 0) 1 8 Try.underlying26 hi hz0 hz1 hz2 rfl (by decide) _ _ _ rfl (ho2.alloc _) ⟨_, 0, none⟩ 1 1 [.int .i64 r] rfl rfl ?c1 ?c2 ?c3 ?c4 ?c5 ?_)
      case c1 =>
        intro j u hj
        match j, hj with
        | 0, hj => simp at hj; subst hj; simp [Addr.add]
      case c2 => intro u hu; simp at hu; subst hu; rfl
      case c3 => unfold maxLen; omega
      case c4 => omega
      case c5 => have := hgw2.size; simp; omega
      · intro v' w3 ho3 hg3 _
        have hown : ∀ k, u3.ownBlock = some k → w.heap.size ≤ k := fun k hk => (ho2.lt k hk).1
        have hc3 := (hc2.below (bal w2 _)).grown_own hg3 (fun k hk => by have := hown k hk; omega)
        have hgw3 := grownBy_own (gtr hgw2 (World.grownBy_alloc w2 _ (some g))) hg3 hown
        clear hg3 hown ho2 hc2 hgw2
        go_wp2
        go_roundw
        case rel => exact ⟨j - 1, ys ++ [r], by go_num, by simp; omega, by intro q hq; rcases List.mem_append.1 hq with hq | hq; exact hys q hq; simp at hq; subst hq; exact hr, by simpa using ho3, hc3, hgw3⟩
        case measure => simp [intOf]; omega
    · have hji : ¬ 0 < (j : Int) := by omega
      go_wp2
      go_ret
      exact ⟨_, rfl, ys, by omega, hys, ho, hcw, hgw⟩
end Go.Proofs.Yticogomjpefoeaa
