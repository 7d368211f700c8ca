/- Contracts of the specification's blank rows. -/
import Derived.Test.YteimcepkoclpbaaDoorRC0
import Derived.Test.YteimcepkoclpbaaDoorBase0S
namespace Go.Proofs.YteimcepkoclpbaaDoor
open Go.ChangeShapes Go.WideShapes Go.ChangeAt Go.RowKit

theorem l4Blank_any (s : St) (w : World) :
    Calls Tryd.prog 72 #[stV s] w fun e w' => e = .returned (ceV (blankC s)) ∧ Below w.heap.size w w' := by
  obtain ⟨f, b, bo, un, tu⟩ := s
  unfold stV
  simp only
  go_enter Tryd.func72, Tryd.ntmps72
  go_wp2
  exact bodyPost_ret (v := .agg #[.int .i64 32, .int .i64 f, .int .i64 b, .bool bo, .bool un, .bool tu, .int .i64 0]) (by simp [results, Tryd.results72, go_sem]) rfl ⟨rfl, ((Below.refl _ _).alloc (Nat.le_refl _) _).alloc (by simp) _⟩
/-- A row of this call's own beside what stays. -/
def OC (base : Nat) (v : Value) (L : List Ce) (w0 W : World) : Prop := OwnC W base v L ∧ Below w0.heap.size w0 W ∧ base ≤ W.heap.size ∧ w0.heap.size ≤ base
theorem OC.below {base : Nat} {v : Value} {L : List Ce} {w0 W W' : World} (k : OC base v L w0 W) (hb : Below W.heap.size W W') : OC base v L w0 W' :=
  ⟨k.1.below hb, k.2.1.trans (hb.mono k.2.1.size), Nat.le_trans k.2.2.1 hb.size, k.2.2.2⟩
theorem OC.own {base : Nat} {v v' : Value} {L L' : List Ce} {w0 W W' : World} (k : OC base v L w0 W) (ho : OwnC W' base v' L') (hg : W.grownBy W' v.ownBlock) : OC base v' L' w0 W' :=
  ⟨ho, k.2.1.grown hg k.2.1.size (fun g e => Nat.le_trans k.2.2.2 (k.1.lt g e).1), Nat.le_trans k.2.2.1 hg.size, k.2.2.2⟩
theorem StAt.own {W W' : World} {B base : Nat} {s : St} {v : Value} {L : List Ce} (h : StAt W B s) (k : OwnC W base v L) (hB : B < base) (hg : W.grownBy W' v.ownBlock) : StAt W' B s :=
  h.grown hg (fun e => by have := (k.lt B e).1; omega)
set_option maxHeartbeats 2000000 in
theorem l4Row_any (n : Nat) (s : St) (w : World) (hn : n ≤ 1000) :
    Calls Tryd.prog 53 #[.int .i64 n, stV s] w fun e w' => ∃ v, e = .returned v ∧ OwnC w' w.heap.size v (rowL n s) ∧ Below w.heap.size w w' := by
  have h2 := StAt.new w s 26
  have hbA := bal' w (Obj.cells #[.int .i64 s.fore, .int .i64 s.back, .bool s.bold, .bool s.under, .bool s.turned] 26)
  have hbl := l4Blank_any s
  unfold stV ceV blankC at *
  simp only at hbl
  go_enter Tryd.func53, Tryd.ntmps53
  go_wp2
  have k0 : OC (w.heap.size + 1) (.slice (some ⟨w.heap.size + 1, 0, none⟩) 0 0) [] w ((w.alloc (Obj.cells #[.int .i64 s.fore, .int .i64 s.back, .bool s.bold, .bool s.under, .bool s.turned] 26)).alloc (Obj.cells #[] 37)) := by
    refine ⟨?_, hbA.trans ((bal' _ _).mono hbA.size), by simp, by omega⟩
    have := ownC_nil (w.alloc (Obj.cells #[.int .i64 s.fore, .int .i64 s.back, .bool s.bold, .bool s.under, .bool s.turned] 26)) (w.heap.size + 1) (by simp)
    simpa using this
  have hs0 := h2.below (bal' _ (Obj.cells #[] 37))
  go_loopw [5, 6] (fun u i wr => ∃ j : Nat, i = .int .i64 j ∧ j ≤ n ∧ OC (w.heap.size + 1) u (rowL j s) w wr ∧ StAt wr w.heap.size s) (fun _ i _ => n - (intOf i).toNat)
  case atStart => exact ⟨0, rfl, Nat.zero_le _, k0, hs0⟩
  case round =>
    clear k0 hs0 h2 hbA
    obtain ⟨j, rfl, hj, k, hs⟩ := hrel
    by_cases hlt : j < n
    · have hji : (j : Int) < (n : Int) := by omega
      have hsn : Hid (rowL (j + 1) s = rowL j s ++ [⟨32, s, 0⟩]) := by show _ = _; rw [rowL, List.replicate_succ']; rfl
      have hl : (rowL j s).length < 2000000 := by simp [rowL]; omega
      obtain ⟨_, ⟨c0, c1, c2, c3, c4⟩, _⟩ := id hs
      generalize rowL j s = L at *
      go_wp2_with fail
      refine (hbl _).mono ?_
      rintro e w1 ⟨rfl, hb1⟩
      have k1 := k.below hb1
      have hs1 := hs.below hb1
      clear k hs c0 c1 c2 c3 c4 hb1 hbl
      go_wp2_with (at_builtin; refine append_oc rfl _ _ rfl (w.heap.size + 1) _ L ⟨32, s, 0⟩ rfl (by exact k1.1) k1.2.2.1 hl _ (by simp) rfl ?_; intro v' w' ho' hg')
      have k2 := (k1.below (bal' _ _)).own ho' hg'
      have hs2 := (hs1.below (bal' _ _)).own (k1.below (bal' _ _)).1 (Nat.lt_succ_self _) hg'
      clear k1 hs1 ho' hg'
      go_wp2
      go_roundw
      case rel => exact ⟨j + 1, by go_num, by omega, by rw [hsn.out]; exact k2, hs2⟩
      case measure => simp [intOf]; omega
    · have hjn : j = n := by omega
      have hji : ¬ (j : Int) < (n : Int) := by omega
      subst hjn
      clear hbl hs
      go_wp2
      go_ret
      exact ⟨_, rfl, k.1.low (by omega), k.2.1⟩
theorem bigRow (n : Nat) (s : St) : (rowL n s).length = n := by simp [rowL]
end Go.Proofs.YteimcepkoclpbaaDoor
