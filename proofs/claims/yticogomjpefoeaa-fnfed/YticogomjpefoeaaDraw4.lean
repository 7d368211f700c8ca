/- Rows of bytes that a conversion made or an append: what they hold, and one byte more. -/
import Derived.Test.YticogomjpefoeaaDraw2
import Derived.Test.YticogomjpefoeaaText
import Derived.ArgAppend
import Derived.Laws.IdiomStrings
namespace Go.Proofs.Yticogomjpefoeaa
open Go.ChangeShapes Go.WideShapes Go.ChangeAt Go.RowKit

/-- A slice over a row of this call's own: its cells can be written, the first hold the numbers. -/
def OwnB (w : World) (base : Nat) (v : Value) (L : List Int) : Prop :=
  ∃ g cap, v = .slice (some ⟨g, 0, none⟩) L.length cap ∧ base ≤ g ∧ g < w.heap.size ∧ L.length ≤ cap ∧ cap ≤ maxLen ∧
    (∀ j, j < cap → (w.cell? ⟨g, j, none⟩).isSome = true ∧ w.frozen? ⟨g, j, none⟩ = false) ∧ (∀ i, i < L.length → w.cell? ⟨g, i, none⟩ = some (.int .u8 (L.getD i 0))) ∧ ∀ x ∈ L, 0 ≤ x ∧ x < 256
theorem OwnB.grown {w w' : World} {base : Nat} {v : Value} {L : List Int} {row : Option Nat} (h : OwnB w base v L) (hg : w.grownBy w' row) (hr : ∀ k, row = some k → k < base) : OwnB w' base v L := by
  obtain ⟨g, cap, hv, hb, hlt, hc, hm, hz, hi, hx⟩ := h
  have hne : some g ≠ row := fun e => by have := hr g e.symm; omega
  have hbl := hg.block g hlt hne
  exact ⟨g, cap, hv, hb, Nat.lt_of_lt_of_le hlt hg.size, hc, hm, fun j hj => ⟨by rw [World.cell?_of_block (w := w) hbl]; exact (hz j hj).1, by rw [World.frozen?_of_block (w := w) hbl]; exact (hz j hj).2⟩, fun i h => by rw [World.cell?_of_block (w := w) hbl]; exact hi i h, hx⟩
theorem OwnB.of_row {w : World} {base : Nat} {v : Value} {L : List Int} (h : w.ownsRow base 5 1 v L.length (L.map (Value.int .u8))) (h0 : 0 < L.length) (hx : ∀ x ∈ L, 0 ≤ x ∧ x < 256) : OwnB w base v L := by
  rcases h.2 with ⟨_, h2⟩ | ⟨g, cap, cur, hv, hb, hg, hn, hm, hs, ht⟩
  · omega
  · refine ⟨g, cap, hv, hb, (Array.getElem?_eq_some_iff.1 hg).1, hn, hm, fun j hj => ⟨?_, by simp [World.frozen?, hg]⟩, fun i hi => ?_, hx⟩
    · rw [cell_of_row w g j cur _ (0, 0) hg, Array.getElem?_eq_getElem (by omega)]; rfl
    · have hv' : v.ownBlock = some g := by rw [hv]; rfl
      have := h.cells hv' i (.int .u8 (L.getD i 0)) (by simp [hi])
      have e : (⟨g, 0, none⟩ : Addr).add i = ⟨g, i, none⟩ := by unfold Addr.add; split <;> simp_all
      rw [e] at this; exact this

theorem cell_set_same (w : World) (g o : Nat) (x : Value) (h : (w.cell? ⟨g, o, none⟩).isSome = true) : (w.setCell ⟨g, o, none⟩ x).cell? ⟨g, o, none⟩ = some x := by
  obtain ⟨u, hu⟩ := Option.isSome_iff_exists.1 h
  exact setCell_same w ⟨g, o, none⟩ x u hu
/-- One byte more where there is room. -/
theorem OwnB.room {w : World} {base g cap : Nat} {L : List Int} (h : OwnB w base (.slice (some ⟨g, 0, none⟩) L.length cap) L) (x : Int) (hr : L.length + 1 ≤ cap) (hx : 0 ≤ x ∧ x < 256) :
    OwnB (w.setCells g (0 + L.length * 1) [.int .u8 x]) base (.slice (some ⟨g, 0, none⟩) (L.length + 1) cap) (L ++ [x]) ∧ w.grownBy (w.setCells g (0 + L.length * 1) [.int .u8 x]) (some g) := by
  obtain ⟨g', cap', hv, hb, hlt, hc, hm, hz, hi, hL⟩ := h
  simp only [Value.slice.injEq, Option.some.injEq, Addr.mk.injEq, and_true, true_and] at hv
  obtain ⟨hg, hcap⟩ := hv
  subst hg; subst hcap
  have e : w.setCells g (0 + L.length * 1) [.int .u8 x] = w.setCell ⟨g, L.length, none⟩ (.int .u8 x) := by simp [World.setCells]
  rw [e]
  have hne : ∀ j, j ≠ L.length → (w.setCell ⟨g, L.length, none⟩ (.int .u8 x)).cell? ⟨g, j, none⟩ = w.cell? ⟨g, j, none⟩ := fun j hj => setCell_cell_ne w g j L.length _ hj
  refine ⟨⟨g, cap, by simp, hb, by simpa using hlt, by simp; omega, hm, fun j hj => ⟨?_, by rw [setCell_frozen]; exact (hz j hj).2⟩, fun i hlt' => ?_, ?_⟩, ⟨rfl, rfl, rfl, by simp, fun k _ hk => heap_setCell_other w ⟨g, L.length, none⟩ k _ (fun e => hk (by simp [e]))⟩⟩
  · by_cases hj' : j = L.length
    · subst hj'; rw [cell_set_same w g _ (.int .u8 x) (hz _ hj).1]; rfl
    · rw [hne j hj']; exact (hz j hj).1
  · by_cases hj' : i = L.length
    · subst hj'; rw [cell_set_same w g _ (.int .u8 x) (hz _ (by omega)).1]; simp
    · rw [hne i hj']
      have hi' : i < L.length := by simp at hlt'; omega
      rw [hi i hi']; simp [List.getD, List.getElem?_append_left hi']
  · intro y hy
    rcases List.mem_append.1 hy with hy | hy
    · exact hL y hy
    · simp at hy; subst hy; exact hx

theorem own_base3 {w : World} {base base' : Nat} {e : TypeId} {size : Nat} {v : Value} {n : Nat} {xs : List Value} (h : w.ownsRow base e size v n xs) (hb : base' ≤ base) : w.ownsRow base' e size v n xs := by
  refine ⟨h.1, ?_⟩
  rcases h.2 with h2 | ⟨g, cap, cur, hv, hbg, r⟩
  · exact .inl h2
  · exact .inr ⟨g, cap, cur, hv, Nat.le_trans hb hbg, r⟩
theorem append_byte {w : World} {ops : Array Oper} {rest : List Oper} {o : Oper} {a : Act} {Q : Exit → Act → World → Prop} (hgd : o.guard = none) (s x : Operand)
    (ho : o.op = .call { callee := .builtin .append, args := #[s, x], argTypes := #[22, 22] })
    (base : Nat) (v : Value) (L : List Int) (hs : a.eval s = v) (hown : OwnB w base v L) (hbase : base ≤ w.heap.size) (hl : L.length ≤ 1000)
    (ad : Addr) (c : Nat) (y : Int) (hy : 0 ≤ y ∧ y < 256) (hx : a.eval x = .slice (some ad) 1 c) (hc : w.cell? ad = some (.int .u8 y))
    (h : ∀ v' w', OwnB w' base v' (L ++ [y]) → w.grownBy w' v.ownBlock → wpList Try.prog ops Q rest (a.put o.dst v') w') : wpList Try.prog ops Q (o :: rest) a w := by
  obtain ⟨i0, hi, hz0, hz1, hz2⟩ := info_parts info_u8
  have hO := hown
  obtain ⟨g, cap, rfl, hb, hlt, hcp, hm, hz, hci, hL⟩ := hown
  have hc0 : ad.add 0 = ad := by unfold Addr.add; split <;> simp_all
  refine wpList_append_arg w hgd s x _ ho 5 i0 (.int .u8 0) 1 1 Try.underlying22 hi hz0 hz1 hz2 rfl (by decide) g 0 L.length cap (L.map (Value.int .u8)) hs (by simp) ?_ ad 1 c [.int .u8 y] hx (by simp) ?_ (by intro u hu; simp at hu; subst hu; rfl) ?_ (by unfold maxLen; omega) (by omega) ?_ ?_
  · intro j u hj
    have hj' : j < L.length := by have := (List.getElem?_eq_some_iff.1 hj).1; simpa using this
    rw [Nat.zero_add, hci j hj']
    simp [List.getElem?_eq_getElem hj'] at hj
    simp [← hj, List.getD, hj']
  · intro j u hj
    match j, hj with
    | 0, hj => simp at hj; subst hj; rw [hc0]; exact hc
  · intro hr j hj
    simp at hj; subst hj
    simp only [Nat.zero_add, Nat.mul_one, Nat.add_zero]
    exact hz L.length (by omega)
  · intro hr
    obtain ⟨r1, r2⟩ := hO.room y hr hy
    exact h _ _ r1 r2
  · intro hr v' w' r1 r2
    refine h v' w' (OwnB.of_row (L := L ++ [y]) ?_ (by simp) ?_) ?_
    · have := own_base3 r1 hbase
      simpa using this
    · intro q hq
      rcases List.mem_append.1 hq with hq | hq
      · exact hL q hq
      · simp at hq; subst hq; exact hy
    · exact ⟨r2.os, r2.tape, r2.output, r2.size, fun k hk _ => r2.block k hk (by simp)⟩
end Go.Proofs.Yticogomjpefoeaa
