/- Contracts of Runes. -/
import Derived.Test.YticogomjpefoeaaSGet
import Derived.Test.YticogomjpefoeaaM4
import Derived.Test.YticogomjpefoeaaSlDefs
namespace Go.Proofs.Yticogomjpefoeaa
open Go.ChangeShapes Go.WideShapes Go.ChangeAt Go.RowKit

theorem info_int64 : (Try.prog.info? 2).map (fun i => (i.zero, i.size, i.bytes)) = some (some (.int .i64 0), 1, 8) := by kernel_rfl
theorem World.grownBy.trans_alloc {w w' : World} {o : Obj} {row : Option Nat} (h : (w.alloc o).grownBy w' row) : w.grownBy w' row :=
  ⟨h.os, h.tape, h.output, by have := h.size; simp at this; omega, fun k hk hr => by
    rw [h.block k (by simp; omega) hr]; exact Below.heap_alloc _ _ _ hk⟩
theorem iter_not_row {w : World} {base : Nat} {e : TypeId} {size : Nat} {v : Value} {n : Nat} {xs : List Value} (h : w.ownsRow base e size v n xs) {k : Nat} {s : ByteArray} {p : Nat} (hk : w.heap[k]? = some (.stringIter s p)) : some k ≠ v.ownBlock := by
  intro e
  rcases h.2 with ⟨rfl, _⟩ | ⟨g, cap, cur, rfl, _, hg, _⟩
  · simp [Value.ownBlock] at e
  · simp [Value.ownBlock] at e
    subst e
    rw [hk] at hg
    simp at hg
theorem ownsRow_iterAt {w : World} {base : Nat} {e : TypeId} {size : Nat} {v : Value} {n : Nat} {xs : List Value} (h : w.ownsRow base e size v n xs) {k : Nat} {s : ByteArray} {p : Nat} (hk : w.heap[k]? = some (.stringIter s p)) (p' : Nat) : (w.iterAt k s p').ownsRow base e size v n xs := by
  refine ⟨h.1, ?_⟩
  rcases h.2 with h2 | ⟨g, cap, cur, hv, hb, hg, r⟩
  · exact .inl h2
  · refine .inr ⟨g, cap, cur, hv, hb, ?_, r⟩
    rw [Lib.iterAt_other _ _ _ _ _ (by rintro rfl; rw [hk] at hg; simp at hg)]
    exact hg

set_option maxHeartbeats 1000000 in
theorem implRunes_any (s : ByteArray) (w : World) (hs : s.size ≤ 1048576) :
    Calls Try.prog 12 #[.string s] w fun e w' => ∃ v, e = .returned v ∧ Below w.heap.size w w' ∧ w'.ownsRow w.heap.size 2 1 v (runesV s).length ((runesV s).map (Value.int .i64)) := by
  obtain ⟨i0, hi, hz0, hz1, hz2⟩ := info_parts info_int64
  go_enter Try.func12, Try.ntmps12
  go_wp2
  go_loopw [3] (fun v wr => ∃ (pos : Nat) (xs : List Int), pos ≤ s.size ∧ xs ++ runesF s.size ((nums s).drop pos) = runesV s ∧ wr.ownsRow w.heap.size 2 1 v xs.length (xs.map (Value.int .i64)) ∧
      wr.heap[w.heap.size + 1]? = some (.stringIter s pos) ∧ Below w.heap.size w wr)
    (fun _ wr => s.size - wr.iterPos (w.heap.size + 1))
  case atStart =>
    refine ⟨0, [], Nat.zero_le _, by simp [runesV], ?_, ?_, ?_⟩
    · have := World.ownsRow_lit (base := w.heap.size) (e := 2) (size := 1) w #[] 0 (Nat.le_refl _) (Nat.zero_le _) rfl
      exact this.alloc _
    · have := World.iter_heap (w.alloc (Obj.cells #[] 2)) s 0
      simpa using this
    · exact ((Below.refl _ _).alloc (Nat.le_refl _) _).alloc (by simp) _
  case round =>
    obtain ⟨pos, xs, hp, hx, hown, hit, hbel⟩ := hrel
    have hX : Hid (xs ++ runesF s.size ((nums s).drop pos) = runesV s) := hx
    have hlen : xs.length ≤ 1048576 := by have := congrArg List.length hx; have := runesV_len s; simp at *; omega
    clear hx
    by_cases hlt : pos < s.size
    · have hne : (nums s).drop pos ≠ [] := by
        intro e; have := congrArg List.length e; simp [nums_len] at this; omega
      have hst := runes_at s pos hlt
      have hbd := dec_bd _ hne (fun x hx => nums_nonneg s x (List.mem_of_mem_drop hx))
      have hdd := decode_dec s pos hlt
      have hll : ((nums s).drop pos).length = s.size - pos := by simp [nums_len]
      rw [hll] at hbd
      obtain ⟨c, k, hck⟩ : ∃ c k, dec ((nums s).drop pos) = (c, k) := ⟨_, _, rfl⟩
      rw [hck] at hst hbd hdd
      simp only [both, Prod.mk.injEq] at hdd
      simp only at hst hbd
      have hnx : ∀ ty, (Instr.next (.pointer (some ⟨w.heap.size + 1, 0, none⟩)) true ty).run Try.prog wr = .ok (.tuple #[.bool true, .int .i64 pos, .int .i32 c]) (wr.iterAt (w.heap.size + 1) s (pos + k.toNat)) := by
        intro ty
        rw [Lib.run_next_any_at wr (w.heap.size + 1) s pos ty hit hlt, hdd.1, ← hdd.2]; simp
      have hX2 : Hid ((xs ++ [c]) ++ runesF s.size ((nums s).drop (pos + k.toNat)) = runesV s) := by
        have := hX.out; rw [hst] at this; show _ = _; simpa using this
      have hown1 := ownsRow_iterAt hown hit (pos + k.toNat)
      have hit1 := Lib.iterAt_heap wr (w.heap.size + 1) s pos (pos + k.toNat) hit
      have hbel1 := Lib.below_iterAt hbel (k := w.heap.size + 1) (by omega) s (pos + k.toNat)
      have hip : wr.iterPos (w.heap.size + 1) = pos := by simp [World.iterPos, hit]
      have HI : Hid (wr.iterPos (w.heap.size + 1) = pos) := hip
      clear hst hck hdd hip hll hne hown hit hbel
      generalize hW1 : wr.iterAt (w.heap.size + 1) s (pos + k.toNat) = W1 at *
      clear hW1
      go_wp2_with (first
        | (at_builtin; refine wpList_append_own _ rfl _ _ 26 rfl w.heap.size 2 i0 (.int .i64 0) 1 8 Try.underlying26 hi hz0 hz1 hz2 rfl (by decide) _ _ _ rfl (hown1.alloc _) ⟨W1.heap.size, 0, none⟩ 1 1 [.int .i64 c] rfl rfl ?c1 ?c2 ?c3 ?c4 ?c5 ?_)
        | go_in)
      case c1 =>
        intro j u hj
        match j, hj with
        | 0, hj => simp at hj; subst hj; simp [Addr.add]
      case c2 => intro u hu; simp at hu; subst hu; rfl
      case c3 => unfold maxLen; omega
      case c4 => omega
      case c5 => have := hbel1.size; simp; omega
      · intro v' w1 hown2 hg2 _
        have hg3 : W1.grownBy w1 u3.ownBlock := World.grownBy.trans_alloc hg2
        have hit2 : w1.heap[w.heap.size + 1]? = some (.stringIter s (pos + k.toNat)) := by
          rw [hg3.block _ (Array.getElem?_eq_some_iff.1 hit1).1 (iter_not_row hown1 hit1)]; exact hit1
        have hbel2 : Below w.heap.size w w1 := hbel1.grown hg3 hbel1.size (fun k hk => (hown1.lt k hk).1)
        have hm : w1.iterPos (w.heap.size + 1) = pos + k.toNat := by simp [World.iterPos, hit2]
        have HM : Hid (w1.iterPos (w.heap.size + 1) = pos + k.toNat) := hm
        clear hm hnx hg2 hg3 hown1 hit1 hbel1
        go_wp2
        go_roundw
        case rel =>
          refine ⟨pos + k.toNat, xs ++ [c], by omega, hX2.out, ?_, hit2, hbel2⟩
          simpa using hown2
        case measure => rw [HM.out, HI.out]; omega
    · have hnx : ∀ ty, (Instr.next (.pointer (some ⟨w.heap.size + 1, 0, none⟩)) true ty).run Try.prog wr = .ok (.tuple #[.bool false]) wr := fun ty => Lib.run_next_end_at wr (w.heap.size + 1) s pos ty hit hlt
      have hpe : pos = s.size := by omega
      have hxe : xs = runesV s := by
        have := hX.out
        rw [hpe, ← nums_len s, List.drop_length, runesF_nil, List.append_nil] at this
        exact this
      clear hit
      go_wp2
      go_ret
      exact ⟨_, rfl, hbel, by rw [← hxe]; exact hown⟩
end Go.Proofs.Yticogomjpefoeaa
