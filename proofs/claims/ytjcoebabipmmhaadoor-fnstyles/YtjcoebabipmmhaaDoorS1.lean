/- Contracts of Styled as the specification has it. -/
import Derived.Test.YtjcoebabipmmhaaDoorS0
import Derived.Test.YtjcoebabipmmhaaDoorSlDefs
import Derived.Test.YtjcoebabipmmhaaDoorHeld
import Derived.Deep.RegionHeld3
import Derived.Deep.DrawnRows
namespace Go.Proofs.YtjcoebabipmmhaaDoor
open Go.ChangeShapes Go.WideShapes Go.ChangeAt Go.RowKit
attribute [local go_sem ↓] Go.wp_at_zero Go.wp_at_succ

/-- A style lies in block B. -/
def StAt (w : World) (B : Nat) (s : St) : Prop :=
  B < w.heap.size ∧ (w.cell? ⟨B, 0, none⟩ = some (.int .i64 s.fore) ∧ w.cell? ⟨B, 1, none⟩ = some (.int .i64 s.back) ∧ w.cell? ⟨B, 2, none⟩ = some (.bool s.bold) ∧ w.cell? ⟨B, 3, none⟩ = some (.bool s.under) ∧ w.cell? ⟨B, 4, none⟩ = some (.bool s.turned)) ∧
    (w.frozen? ⟨B, 0, none⟩ = false ∧ w.frozen? ⟨B, 1, none⟩ = false ∧ w.frozen? ⟨B, 2, none⟩ = false ∧ w.frozen? ⟨B, 3, none⟩ = false ∧ w.frozen? ⟨B, 4, none⟩ = false)
theorem StAt.grown {w w' : World} {B : Nat} {s : St} {row : Option Nat} (h : StAt w B s) (hg : w.grownBy w' row) (hr : row ≠ some B) : StAt w' B s := by
  have hb := hg.block B h.1 (Ne.symm hr)
  have hc : ∀ k, w'.cell? ⟨B, k, none⟩ = w.cell? ⟨B, k, none⟩ := fun k => World.cell?_of_block (w := w) hb
  have hz : ∀ k, w'.frozen? ⟨B, k, none⟩ = w.frozen? ⟨B, k, none⟩ := fun k => World.frozen?_of_block (w := w) hb
  refine ⟨Nat.lt_of_lt_of_le h.1 hg.size, ?_, ?_⟩
  · rw [hc, hc, hc, hc, hc]; exact h.2.1
  · rw [hz, hz, hz, hz, hz]; exact h.2.2
theorem StAt.below {w w' : World} {B : Nat} {s : St} (h : StAt w B s) (hb : Below w.heap.size w w') : StAt w' B s := h.grown (gbl hb none) (by simp)
theorem StAt.new (w : World) (s : St) (t : TypeId) : StAt (w.alloc (.cells #[.int .i64 s.fore, .int .i64 s.back, .bool s.bold, .bool s.under, .bool s.turned] t)) w.heap.size s :=
  ⟨by simp, ⟨by simp [go_sem], by simp [go_sem], by simp [go_sem], by simp [go_sem], by simp [go_sem]⟩, ⟨by simp [go_sem], by simp [go_sem], by simp [go_sem], by simp [go_sem], by simp [go_sem]⟩⟩
/-- Another style is written there whole. -/
def putSt (w : World) (B : Nat) (s : St) : World :=
  ((((w.setCell ⟨B, 0, none⟩ (.int .i64 s.fore)).setCell ⟨B, 1, none⟩ (.int .i64 s.back)).setCell ⟨B, 2, none⟩ (.bool s.bold)).setCell ⟨B, 3, none⟩ (.bool s.under)).setCell ⟨B, 4, none⟩ (.bool s.turned)

theorem putSt_grown (w : World) (B : Nat) (s : St) : w.grownBy (putSt w B s) (some B) :=
  grown_tr (grown_tr (grown_tr (grown_tr (setCell_gr w B 0 _) (setCell_gr _ B 1 _)) (setCell_gr _ B 2 _)) (setCell_gr _ B 3 _)) (setCell_gr _ B 4 _)
theorem setCell_ne' (w : World) (B a b : Nat) (u : Value) (h : a ≠ b) : (w.setCell ⟨B, b, none⟩ u).cell? ⟨B, a, none⟩ = w.cell? ⟨B, a, none⟩ := by
  simp [World.setCell, World.cell?, Array.getElem?_modify]
  cases hh : w.heap[B]? with
  | none => simp
  | some o => cases o <;> simp [Ne.symm h]
theorem StAt.put {w : World} {B : Nat} {s : St} (h : StAt w B s) (s' : St) : StAt (putSt w B s') B s' := by
  obtain ⟨hlt, ⟨c0, c1, c2, c3, c4⟩, ⟨z0, z1, z2, z3, z4⟩⟩ := h
  refine ⟨by simpa [putSt] using hlt, ⟨?_, ?_, ?_, ?_, ?_⟩, ⟨?_, ?_, ?_, ?_, ?_⟩⟩
  all_goals simp only [putSt]
  · rw [setCell_ne' _ _ _ _ _ (by decide), setCell_ne' _ _ _ _ _ (by decide), setCell_ne' _ _ _ _ _ (by decide), setCell_ne' _ _ _ _ _ (by decide)]; simp [go_sem, c0]
  · rw [setCell_ne' _ _ _ _ _ (by decide), setCell_ne' _ _ _ _ _ (by decide), setCell_ne' _ _ _ _ _ (by decide)]; simp [go_sem, c1]
  · rw [setCell_ne' _ _ _ _ _ (by decide), setCell_ne' _ _ _ _ _ (by decide)]; simp [go_sem, c2]
  · rw [setCell_ne' _ _ _ _ _ (by decide)]; simp [go_sem, c3]
  · simp [go_sem, c4]
  · simp [go_sem, z0]
  · simp [go_sem, z1]
  · simp [go_sem, z2]
  · simp [go_sem, z3]
  · simp [go_sem, z4]
/-- What stays while a list is gone through: the style in hand, the answer's place, the list's own cell. -/
def KS (B2 B4 bb o : Nat) (n : Int) (s z : St) (w0 W : World) : Prop := StAt W B2 s ∧ StAt W B4 z ∧ (bb < w0.heap.size ∧ W.cell? ⟨bb, o, none⟩ = some (.int .i64 n)) ∧ Below w0.heap.size w0 W
theorem KS.below {B2 B4 bb o : Nat} {n : Int} {s z : St} {w0 W W' : World} (k : KS B2 B4 bb o n s z w0 W) (hb : Below W.heap.size W W') : KS B2 B4 bb o n s z w0 W' :=
  ⟨k.1.below hb, k.2.1.below hb, ⟨k.2.2.1.1, (hb.cell (p := ⟨bb, o, none⟩) (Nat.lt_of_lt_of_le k.2.2.1.1 k.2.2.2.size)).trans k.2.2.1.2⟩, k.2.2.2.trans (hb.mono k.2.2.2.size)⟩

theorem l3Param_ks (B2 B4 bb o : Nat) (n : Int) (s z : St) (w0 W : World) (k : W.cell? ⟨B2, 0, none⟩ = some (.int .i64 s.fore) ∧ W.cell? ⟨B2, 1, none⟩ = some (.int .i64 s.back) ∧ W.cell? ⟨B2, 2, none⟩ = some (.bool s.bold) ∧ W.cell? ⟨B2, 3, none⟩ = some (.bool s.under) ∧ W.cell? ⟨B2, 4, none⟩ = some (.bool s.turned) ∧ W.cell? ⟨bb, o, none⟩ = some (.int .i64 n) ∧ KS B2 B4 bb o n s z w0 W) :
    Calls Tryd.prog 44 #[stV s, .int .i64 n] W fun e w' => e = .returned (.agg #[.int .i64 (paramV s n).fore, .int .i64 (paramV s n).back, .bool (paramV s n).bold, .bool (paramV s n).under, .bool (paramV s n).turned]) ∧ (w'.cell? ⟨B2, 0, none⟩ = some (.int .i64 s.fore) ∧ w'.cell? ⟨B2, 1, none⟩ = some (.int .i64 s.back) ∧ w'.cell? ⟨B2, 2, none⟩ = some (.bool s.bold) ∧ w'.cell? ⟨B2, 3, none⟩ = some (.bool s.under) ∧ w'.cell? ⟨B2, 4, none⟩ = some (.bool s.turned) ∧ w'.cell? ⟨bb, o, none⟩ = some (.int .i64 n) ∧ KS B2 B4 bb o n s z w0 w') :=
  (l3Param_any s n W).mono fun _ _ ⟨he, hb⟩ => by
    have kb := k.2.2.2.2.2.2.below hb
    exact ⟨he, kb.1.2.1.1, kb.1.2.1.2.1, kb.1.2.1.2.2.1, kb.1.2.1.2.2.2.1, kb.1.2.1.2.2.2.2, kb.2.2.1.2, kb⟩
theorem KS.all {B2 B4 bb o : Nat} {n : Int} {s z : St} {w0 W : World} (kb : KS B2 B4 bb o n s z w0 W) : W.cell? ⟨B2, 0, none⟩ = some (.int .i64 s.fore) ∧ W.cell? ⟨B2, 1, none⟩ = some (.int .i64 s.back) ∧ W.cell? ⟨B2, 2, none⟩ = some (.bool s.bold) ∧ W.cell? ⟨B2, 3, none⟩ = some (.bool s.under) ∧ W.cell? ⟨B2, 4, none⟩ = some (.bool s.turned) ∧ W.cell? ⟨bb, o, none⟩ = some (.int .i64 n) ∧ KS B2 B4 bb o n s z w0 W :=
  ⟨kb.1.2.1.1, kb.1.2.1.2.1, kb.1.2.1.2.2.1, kb.1.2.1.2.2.2.1, kb.1.2.1.2.2.2.2, kb.2.2.1.2, kb⟩

set_option maxHeartbeats 4000000 in
theorem l3Styled_any (s : St) (v : Value) (xs : List Int) (w : World) (hv : SlI w v xs) (hl : xs.length ≤ 1048576) (hne : xs ≠ []) :
    Calls Tryd.prog 36 #[stV s, v] w fun e w' => e = .returned (stV (styledF s xs)) ∧ Below w.heap.size w w' := by
  obtain ⟨f, b, bo, un, tu⟩ := s
  obtain ⟨_, c, rfl, e | ⟨bb, off, rfl, hbb, hc⟩⟩ := hv
  · exact absurd e hne
  · have hx0 : 0 < xs.length := List.length_pos_iff.2 hne
    have hxz : ((xs.length : Int) == 0) = false := by simp; exact hne
    unfold stV
    simp only
    go_enter Tryd.func36, Tryd.ntmps36
    go_wp2
    have h2 := StAt.new w ⟨f, b, bo, un, tu⟩ 25
    have h4 := StAt.new (w.alloc (Obj.cells #[.int .i64 f, .int .i64 b, .bool bo, .bool un, .bool tu] 25)) St.zero 25
    have h2' := h2.below (w' := (w.alloc (Obj.cells #[.int .i64 f, .int .i64 b, .bool bo, .bool un, .bool tu] 25)).alloc (Obj.cells #[.int .i64 0, .int .i64 0, .bool false, .bool false, .bool false] 25)) ((Below.refl _ _).alloc (Nat.le_refl _) _)
    have e4 : (w.alloc (Obj.cells #[.int .i64 f, .int .i64 b, .bool bo, .bool un, .bool tu] 25)).heap.size = w.heap.size + 1 := by simp
    rw [e4] at h4
    have hbA : Below w.heap.size w ((w.alloc (Obj.cells #[.int .i64 f, .int .i64 b, .bool bo, .bool un, .bool tu] 25)).alloc (Obj.cells #[.int .i64 0, .int .i64 0, .bool false, .bool false, .bool false] 25)) := ((Below.refl _ _).alloc (Nat.le_refl _) _).alloc (by simp) _
    go_loopw [5] (fun i wr => ∃ j : Nat, i = .int .i64 j ∧ j ≤ xs.length ∧ StAt wr w.heap.size (styledF ⟨f, b, bo, un, tu⟩ (xs.take j)) ∧ StAt wr (w.heap.size + 1) St.zero ∧ Below w.heap.size w wr) (fun i _ => xs.length - (intOf i).toNat)
    case atStart => exact ⟨0, rfl, Nat.zero_le _, h2', h4, hbA⟩
    case round =>
      clear h2 h4 h2' e4 hbA
      obtain ⟨j, rfl, hj, k2, k4, kb⟩ := hrel
      by_cases hlt : j < xs.length
      · have hji : (j : Int) < (xs.length : Int) := by omega
        have hj0 : (0 : Int) ≤ (j : Int) := by omega
        have hst : Hid (styledF ⟨f, b, bo, un, tu⟩ (xs.take (j + 1)) = paramV (styledF ⟨f, b, bo, un, tu⟩ (xs.take j)) (xs.getD j 0)) := by
          show _ = _
          rw [List.take_succ_eq_append_getElem hlt, styledF, List.foldl_append]
          simp [styledF, hlt]
        have hcj := (kb.cell (p := ⟨bb, off + j, none⟩) hbb).trans (hc j hlt)
        generalize xs.getD j 0 = n at *
        generalize styledF ⟨f, b, bo, un, tu⟩ (xs.take j) = y at *
        have k : KS w.heap.size (w.heap.size + 1) bb (off + j) n y St.zero w wr := ⟨k2, k4, ⟨hbb, hcj⟩, kb⟩
        obtain ⟨_, ⟨c0, c1, c2, c3, c4⟩, ⟨z0, z1, z2, z3, z4⟩⟩ := k2
        clear hc
        go_wp2
        go_region_with (first | (go_at_call 44; refine (l3Param_ks w.heap.size (w.heap.size + 1) bb (off + j) n y St.zero w _ ?_).mono ?_; (first | exact k.all | exact (k.below (bdr _)).all); rintro e wk ⟨rfl, hk⟩; obtain ⟨_, ⟨d0, d1, d2, d3, d4⟩, ⟨x0, x1, x2, x3, x4⟩⟩ := hk.2.2.2.2.2.2.1))
        all_goals
          have k2' := hk.2.2.2.2.2.2.1.put (paramV y n)
          have k4' := hk.2.2.2.2.2.2.2.1.grown (putSt_grown wk w.heap.size (paramV y n)) (by simp)
          have kb' := own_lift hk.2.2.2.2.2.2.2.2.2 (putSt_grown wk w.heap.size (paramV y n)) (Nat.le_refl _)
          simp only [putSt] at k2' k4' kb'
          clear hk d0 d1 d2 d3 d4 x0 x1 x2 x3 x4 k c0 c1 c2 c3 c4 z0 z1 z2 z3 z4
          generalize ((((wk.setCell ⟨w.heap.size, 0, none⟩ (.int .i64 (paramV y n).fore)).setCell ⟨w.heap.size, 1, none⟩ (.int .i64 (paramV y n).back)).setCell ⟨w.heap.size, 2, none⟩ (.bool (paramV y n).bold)).setCell ⟨w.heap.size, 3, none⟩ (.bool (paramV y n).under)).setCell ⟨w.heap.size, 4, none⟩ (.bool (paramV y n).turned) = Wf at *
          go_wp2
          go_roundw
          case rel =>
            exact ⟨j + 1, by go_num, by omega, by rw [hst.out]; exact k2', k4', kb'⟩
          case measure => simp [intOf]; omega
      · have hjn : j = xs.length := by omega
        have hji : ¬ (j : Int) < (xs.length : Int) := by omega
        rw [hjn, List.take_length] at k2
        clear hc
        have hyy : Hid (∃ y, y = styledF ⟨f, b, bo, un, tu⟩ xs) := ⟨_, rfl⟩
        obtain ⟨y, hy⟩ := hyy.out
        rw [← hy] at k2
        have HY : Hid (y = styledF ⟨f, b, bo, un, tu⟩ xs) := hy
        clear hy hyy
        have kP := k4.put y
        have kbP := own_lift kb (putSt_grown wr (w.heap.size + 1) y) (by omega)
        obtain ⟨_, ⟨c0, c1, c2, c3, c4⟩, ⟨z0, z1, z2, z3, z4⟩⟩ := k2
        obtain ⟨_, ⟨d0, d1, d2, d3, d4⟩, ⟨x0, x1, x2, x3, x4⟩⟩ := k4
        obtain ⟨_, ⟨e0, e1, e2, e3, e4⟩, _⟩ := kP
        simp only [putSt] at kbP e0 e1 e2 e3 e4
        go_wp2
        exact bodyPost_ret (v := .agg #[.int .i64 y.fore, .int .i64 y.back, .bool y.bold, .bool y.under, .bool y.turned]) (by simp [results, Tryd.results36, go_sem, e0, e1, e2, e3, e4]) rfl ⟨by rw [← HY.out], kbP⟩
end Go.Proofs.YtjcoebabipmmhaaDoor
