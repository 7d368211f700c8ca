/- The laws' own helper that copies a list of int64. -/
import Derived.Test.YtjcoebabipmmhaaSlDefs
namespace Go.Proofs.Ytjcoebabipmmhaa
open Go.ChangeShapes Go.WideShapes Go.ChangeAt Go.RowKit

theorem info_i64 : (Try.prog.info? 2).map (fun i => (i.zero, i.size, i.bytes)) = some (some (.int .i64 0), 1, 8) := by kernel_rfl
set_option maxHeartbeats 400000 in
theorem toI_copy (v : Value) (xs : List Int) (w : World) (hv : SlI w v xs) (hl : xs.length ≤ 1073741824) :
    Calls Try.prog 10 #[v] w fun e w' => ∃ u, e = .returned u ∧ w'.ownsRow w.heap.size 2 1 u xs.length (xs.map (Value.int .i64)) ∧ Below w.heap.size w w' := by
  obtain ⟨i0, hi, hz0, hz1, hz2⟩ := info_parts info_i64
  obtain ⟨a, c, rfl, hc⟩ := hv
  generalize hn : xs.length = n at *
  go_enter Try.func10, Try.ntmps10
  go_wp2_with (refine wpList_make_full _ rfl _ _ 28 rfl w.heap.size 2 i0 (.int .i64 0) 1 Try.underlying28 hi hz0 hz1 .i64 .i64 (n : Int) (n : Int) n rfl rfl rfl rfl ?c1 ?c2 ?c3 ?_)
  case c1 => rw [hz2]; omega
  case c2 => unfold maxLen; omega
  case c3 => exact Nat.le_refl _
  intro w1 ho hg
  have hb1 : Below w.heap.size w w1 := (Below.refl _ _).grown hg (Nat.le_refl _) (fun k hk => by cases hk)
  clear hg
  go_wp2
  go_loopw [4] (fun i wr => ∃ (j : Nat) (ys : List Value), j ≤ n ∧ i = .int .i64 j ∧ wr.ownsRow w.heap.size 2 1 (.slice (some ⟨w.heap.size, 0, none⟩) n n) n ys ∧ ys.length = n ∧ (∀ t, t < j → ys[t]? = some (.int .i64 (xs.getD t 0))) ∧ Below w.heap.size w wr) (fun i _ => n - (intOf i).toNat)
  case atStart => exact ⟨0, _, Nat.zero_le _, rfl, ho, by simpa using ho.1, by simp, hb1⟩
  case round =>
    obtain ⟨j, ys, hj, rfl, ho, hyl, hys, hbel⟩ := hrel
    by_cases hlt : j < n
    · rcases hc with hc | ⟨b, off, rfl, hb, hc⟩
      · rw [hc] at hn; simp at hn; omega
      · have h0 : wr.cell? ⟨b, off + j, none⟩ = some (.int .i64 (xs.getD j 0)) := (hbel.cell (p := ⟨b, off + j, none⟩) hb).trans (hc j hlt)
        have h1 : ∃ u, wr.cell? ⟨w.heap.size, j, none⟩ = some u := by
          rw [ho.cellAt j (by omega)]; exact ⟨_, List.getElem?_eq_getElem (by omega)⟩
        obtain ⟨u, h1⟩ := h1
        have h2 := ho.frozenAt j
        obtain ⟨hst1, hst2⟩ := ho.stored j (.int .i64 (xs.getD j 0))
        have hy2 : ∀ t, t < j + 1 → (ys.set j (.int .i64 (xs.getD j 0)))[t]? = some (.int .i64 (xs.getD t 0)) := by
          intro t ht
          by_cases e : t = j
          · subst e; rw [List.getElem?_set_self (by omega)]
          · rw [List.getElem?_set_ne (by omega)]; exact hys t (by omega)
        clear ho hc hys
        generalize xs.getD j 0 = x at *
        have hbs := hbel.size
        go_wp2
        go_roundw
        case rel =>
          exact ⟨j + 1, ys.set j (.int .i64 x), by omega, by go_num, hst1, by simpa using hyl, hy2, hbel.grown hst2 hbs (fun k hk => by cases hk; exact Nat.le_refl _)⟩
        case measure => simp [intOf]; omega
    · have hjn : j = n := by omega
      subst hjn
      have hye : ys = xs.map (Value.int .i64) := by
        apply List.ext_getElem?
        intro i
        by_cases hi : i < j
        · rw [hys i hi]; simp [show i < xs.length by omega]
        · rw [List.getElem?_eq_none (by omega), List.getElem?_eq_none (by simp; omega)]
      go_wp2
      go_ret
      exact ⟨_, rfl, by rw [← hye]; exact ho, hbel⟩
end Go.Proofs.Ytjcoebabipmmhaa
