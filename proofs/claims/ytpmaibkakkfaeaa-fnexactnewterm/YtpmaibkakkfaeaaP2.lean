/- The laws' own helpers on grids: marked and held. Sizes of grids that the laws reckon with; what stays within a range. A parser's block in memory, whole. The laws' own helpers on lists of int64: like, marked, held. The laws' own helpers on parsers: size, copy, likeness. The laws' own helpers on screens: copy. A screen's cells, each one cell. Contracts of the specification's parser: states, copies, what an escape does. Contracts of the specification's new screens. Contracts of the program's blanked windows. A blank row's cells. Contract of the program's StyleOk. Contract of the program's Blank. Contract of the program's NewGrid. Contracts of both NewTerm. The laws' own helpers on grids: likeness. The walk of the law of Feed. The laws' own helpers on screens: likeness. The laws' own helpers on parsers and actions: likeness, marks. The laws' own helpers on screens: marked and held. The walk of the exact law of NewTerm. -/
import Derived.Test.YtpmaibkakkfaeaaP1
namespace Go.Proofs.Ytpmaibkakkfaeaa
open Go.ChangeShapes Go.WideShapes Go.ChangeAt Go.RowKit
def sumG (rows : List (List Ce)) : Nat → Nat
  | 0 => 0
  | j + 1 => sumG rows j + (rowX rows j).length
theorem sumG_mono (rows : List (List Ce)) {i j : Nat} (h : i ≤ j) : sumG rows i ≤ sumG rows j := by
  induction h with
  | refl => exact Nat.le_refl _
  | step _ ih => exact Nat.le_trans ih (Nat.le_add_right _ _)
theorem sumG_row (rows : List (List Ce)) {i j : Nat} (h : i < j) : (rowX rows i).length ≤ sumG rows j := by
  have := sumG_mono rows (show i + 1 ≤ j from h)
  have e : sumG rows (i + 1) = sumG rows i + (rowX rows i).length := rfl
  omega
/-- The rows marked, the first j of them. -/
def markUpG (k : Nat) (rows : List (List Ce)) (j : Nat) : List (List Ce) := genR rows.length fun i => if i < j then marksC (k + 7 * sumG rows i) (rowX rows i).length else rowX rows i
def marksG (k : Nat) (rows : List (List Ce)) : List (List Ce) := markUpG k rows rows.length
theorem markUpG_len (k : Nat) (rows : List (List Ce)) (j : Nat) : (markUpG k rows j).length = rows.length := genR_len _ _
theorem markUpG_zero (k : Nat) (rows : List (List Ce)) : markUpG k rows 0 = rows := ext_rowX _ _ (markUpG_len _ _ _) fun i hi => by
  rw [markUpG_len] at hi
  unfold markUpG
  rw [genR_at _ _ _ hi, if_neg (Nat.not_lt_zero i)]
theorem markUpG_step (k : Nat) (rows : List (List Ce)) (j : Nat) (hj : j < rows.length) : markUpG k rows (j + 1) = (markUpG k rows j).set j (marksC (k + 7 * sumG rows j) (rowX rows j).length) := ext_rowX _ _ (by rw [List.length_set, markUpG_len, markUpG_len]) fun i hi => by
  rw [markUpG_len] at hi
  rw [rowX_set' (by rw [markUpG_len]; exact hj)]
  unfold markUpG
  rw [genR_at _ _ _ hi, genR_at _ _ _ hi]
  by_cases e : i = j
  · rw [if_pos (by omega), if_pos e, e]
  · rw [if_neg e]
    by_cases c : i < j
    · rw [if_pos c, if_pos (by omega)]
    · rw [if_neg c, if_neg (by omega)]
theorem markUpG_at (k : Nat) (rows : List (List Ce)) (j i : Nat) (hi : i < rows.length) : rowX (markUpG k rows j) i = if i < j then marksC (k + 7 * sumG rows i) (rowX rows i).length else rowX rows i := by
  unfold markUpG; rw [genR_at _ _ _ hi]
set_option maxHeartbeats 2000000 in
theorem markCSS_own (lo hi : Nat) (v : Value) (vs : List Value) (k : Nat) (rows : List (List Ce)) (w : World) (h : OwnV w lo hi v vs rows) (hk : k ≤ 1048576) (hl : sumG rows rows.length ≤ 1048576) (hn : rows.length ≤ 1048576) :
    Calls Try.prog 28 #[v, .int .i64 k] w fun e w' => e = .returned (.int .i64 ((k + 7 * sumG rows rows.length : Nat) : Int)) ∧ OwnV w' lo hi v vs (marksG k rows) ∧ GrB lo hi w w' := by
  rcases h.shape with ⟨rfl, rfl⟩ | ⟨g, cap, rfl, hbg, hlg, hcap⟩
  · go_enter Try.func28, Try.ntmps28
    go_wp2
    refine wp_loop_rounds 1 ?_
    rw [rounds_succ]
    go_wp2
    go_ret
    exact ⟨by simp [sumG], by simpa [marksG, markUpG, genR] using h, GrB.refl _ _ _⟩
  · generalize hN : rows.length = n at *
    go_enter Try.func28, Try.ntmps28
    go_wp2
    go_loopw [1, 5] (fun q i wr => ∃ (j : Nat), j ≤ n ∧ i = .int .i64 j ∧ q = .int .i64 ((k + 7 * sumG rows j : Nat) : Int) ∧ OwnV wr lo hi (.slice (some ⟨g, 0, none⟩) n cap) vs (markUpG k rows j) ∧ GrB lo hi w wr) (fun _ i _ => n - (intOf i).toNat)
    case atStart => exact ⟨0, Nat.zero_le _, rfl, rfl, by rw [markUpG_zero]; exact h, GrB.refl _ _ _⟩
    case round =>
      clear h
      obtain ⟨j, hj, rfl, rfl, ho, hgr⟩ := hrel
      have hlen : (markUpG k rows j).length = n := by rw [markUpG_len]; exact hN
      by_cases hlt : j < n
      · have hji : (j : Int) < (n : Int) := by omega
        have hj0 : (0 : Int) ≤ (j : Int) := by omega
        have hcj := ho.cell hlen j hlt
        have hx := markUpG_at k rows j j (by omega)
        rw [if_neg (Nat.lt_irrefl j)] at hx
        have hrow := ho.2.2.1 j (by omega)
        rw [hx] at hrow
        have hs1 := sumG_mono rows (show j ≤ n by omega)
        have hs2 := sumG_row rows hlt
        have hm := markC_own lo (rowV vs j) (k + 7 * sumG rows j) (rowX rows j) wr hrow (by omega) (by omega)
        have hst : Hid (markUpG k rows (j + 1) = (markUpG k rows j).set j (marksC (k + 7 * sumG rows j) (rowX rows j).length)) := markUpG_step k rows j (by omega)
        have hsum : Hid ((k + 7 * sumG rows j) + 7 * (rowX rows j).length = k + 7 * sumG rows (j + 1)) := by show _ = _; rw [sumG]; omega
        have hB : ∀ g', (rowV vs j).ownBlock = some g' → lo ≤ g' ∧ g' < hi := fun g' e => ⟨(hrow.lt g' e).1, ho.2.2.2.1 j (by omega) g' e⟩
        rw [hsum.out] at hm
        have hfin := fun W' (h1 : OwnC W' lo (rowV vs j) (marksC (k + 7 * sumG rows j) (rowX rows j).length)) (h2 : wr.grownBy W' (rowV vs j).ownBlock) => (show OwnV W' lo hi (.slice (some ⟨g, 0, none⟩) n cap) vs (markUpG k rows (j + 1)) from by rw [hst.out]; exact ho.rowset (by omega) _ h1 h2)
        have hsh : ∃ a n c, rowV vs j = Value.slice a n c := by rcases hrow.shape with ⟨h, _⟩ | ⟨_, _, h, _⟩ <;> exact ⟨_, _, _, h⟩
        clear hst hsum hrow hx ho hs1 hs2
        generalize rowV vs j = r at *
        obtain ⟨ra, rn, rc, rfl⟩ := hsh
        go_wp2_with fail
        refine hm.mono ?_
        rintro e w2 ⟨rfl, ho2, hg2⟩
        have kk := hfin w2 ho2 hg2
        have gg := hgr.trans (GrB.of_grown hg2 hB)
        clear hfin ho2 hg2 hB hm hgr
        go_wp2
        go_roundw
        case rel => exact ⟨j + 1, by omega, by go_num, rfl, kk, gg⟩
        case measure => simp [intOf]; omega
      · have hjn : j = n := by omega
        have hji : ¬ (j : Int) < (n : Int) := by omega
        subst hjn
        go_wp2
        go_ret
        exact ⟨rfl, by unfold marksG; rw [hN]; exact ho, hgr⟩
theorem marksG_at (k : Nat) (rows : List (List Ce)) (i : Nat) (hi : i < rows.length) : rowX (marksG k rows) i = marksC (k + 7 * sumG rows i) (rowX rows i).length := by
  unfold marksG; rw [markUpG_at _ _ _ _ hi, if_pos hi]
set_option maxHeartbeats 2000000 in
theorem heldCSS_marks (v : Value) (k : Nat) (rows : List (List Ce)) (w : World) (hv : SlG w v (marksG k rows)) (hk : k ≤ 1048576) (hl : sumG rows rows.length ≤ 1048576) (hn : rows.length ≤ 1048576) :
    Calls Try.prog 29 #[v, .int .i64 k] w fun e w' => e = .returned (.int .i64 ((k + 7 * sumG rows rows.length : Nat) : Int)) ∧ w' = w := by
  obtain ⟨a, c, vs, rfl, hcp, _, hr, hs⟩ := hv
  have hlen : (marksG k rows).length = rows.length := markUpG_len _ _ _
  rw [hlen] at hr hs hcp ⊢
  generalize hN : rows.length = n at *
  go_enter Try.func29, Try.ntmps29
  go_wp2
  go_loop [1, 5] (fun q i => ∃ j : Nat, j ≤ n ∧ i = .int .i64 j ∧ q = .int .i64 ((k + 7 * sumG rows j : Nat) : Int)) (fun _ i => n - (intOf i).toNat)
  case atStart => exact ⟨0, Nat.zero_le _, rfl, rfl⟩
  case round =>
    obtain ⟨j, hj, rfl, rfl⟩ := hrel
    by_cases hlt : j < n
    · have hji : (j : Int) < (n : Int) := by omega
      have hj0 : (0 : Int) ≤ (j : Int) := by omega
      rcases hr with h | ⟨b, off, rfl, hbb, hrc⟩
      · rw [h] at hlen; simp at hlen; omega
      have hsj := hs j hlt
      have hcj := hrc j hlt
      rw [marksG_at k rows j (by omega)] at hsj
      obtain ⟨aj, cj, ev, _⟩ := id hsj
      rw [ev] at hcj hsj
      have hs1 := sumG_mono rows (show j ≤ n by omega)
      have hs2 := sumG_row rows hlt
      have hm := heldC_marks _ (k + 7 * sumG rows j) (rowX rows j).length w hsj (by omega) (by omega)
      have hsum : Hid ((k + 7 * sumG rows j) + 7 * (rowX rows j).length = k + 7 * sumG rows (j + 1)) := by show _ = _; rw [sumG]; omega
      rw [hsum.out] at hm
      have hnn : ¬ (((k + 7 * sumG rows (j + 1) : Nat) : Int) < 0) := by omega
      clear hs hrc ev hsj hs1 hs2 hsum hlen
      rw [marksC_len] at hm hcj
      generalize (rowX rows j).length = m at *
      go_wp2_with fail
      refine hm.mono ?_
      rintro e w2 ⟨rfl, hw⟩
      subst hw
      go_wp2
      go_round
      case rel => exact ⟨j + 1, by omega, by go_num, rfl⟩
      case measure => simp [intOf]; omega
    · have hjn : j = n := by omega
      have hji : ¬ (j : Int) < (n : Int) := by omega
      subst hjn
      clear hs hr
      go_wp2
      go_ret
      exact ⟨rfl, rfl⟩
/-- What lies in a range, marked. -/
theorem markGrid_own (lo hi : Nat) (cols : Int) (v : Value) (k : Nat) (rows : List (List Ce)) (w : World) (h : OwnR w lo hi v rows) (hk : k ≤ 1048576) (hl : sumG rows rows.length ≤ 1048576) (hn : rows.length ≤ 1048576) :
    Calls Try.prog 17 #[gridV cols v, .int .i64 k] w fun e w' => e = .returned (.int .i64 ((k + 7 * sumG rows rows.length : Nat) : Int)) ∧ OwnR w' lo hi v (marksG k rows) ∧ GrB lo hi w w' := by
  have hb0 := bal' w (Obj.cells #[.int .i64 cols, v] 24)
  obtain ⟨vs, hv⟩ := h.1.v
  have hv1 : OwnV (w.alloc (Obj.cells #[.int .i64 cols, v] 24)) lo hi v vs rows := hv.below hb0
  have hm := markCSS_own lo hi v vs k rows _ hv1 hk hl hn
  have hG0 := GrN.new w cols v 24
  have hin := h.2
  obtain ⟨a, n, c, rfl⟩ : ∃ a n c, v = Value.slice a n c := by rcases hv.shape with ⟨h, _⟩ | ⟨_, _, h, _⟩ <;> exact ⟨_, _, _, h⟩
  unfold gridV
  obtain ⟨_, g0, g1⟩ := id hG0
  clear hv hv1 h
  generalize k + 7 * sumG rows rows.length = q at *
  go_enter Try.func17, Try.ntmps17
  go_wp2_with fail
  refine hm.mono ?_
  rintro e w2 ⟨rfl, ho2, hg2⟩
  go_wp2
  go_ret
  exact ⟨rfl, ⟨ho2.g, hin.1, Nat.le_trans hin.2 (Nat.le_trans hb0.size hg2.size)⟩, (GrB.of_below hb0).trans hg2⟩
theorem heldGrid_marks (cols : Int) (v : Value) (k : Nat) (rows : List (List Ce)) (w : World) (hv : SlG w v (marksG k rows)) (hk : k ≤ 1048576) (hl : sumG rows rows.length ≤ 1048576) (hn : rows.length ≤ 1048576) :
    Calls Try.prog 20 #[gridV cols v, .int .i64 k] w fun e w' => e = .returned (.int .i64 ((k + 7 * sumG rows rows.length : Nat) : Int)) ∧ Below w.heap.size w w' := by
  have hb0 := bal' w (Obj.cells #[.int .i64 cols, v] 24)
  have hG0 := GrN.new w cols v 24
  have hm := heldCSS_marks v k rows _ (hv.below hb0) hk hl hn
  obtain ⟨a, c, vs, rfl, _⟩ := hv
  unfold gridV
  obtain ⟨_, g0, g1⟩ := id hG0
  have hnn : ¬ (((k + 7 * sumG rows rows.length : Nat) : Int) < 0) := by omega
  generalize k + 7 * sumG rows rows.length = q at *
  go_enter Try.func20, Try.ntmps20
  go_wp2_with fail
  refine hm.mono ?_
  rintro e w2 ⟨rfl, hw⟩
  subst hw
  go_wp2
  go_ret
  exact ⟨rfl, hb0⟩
end Go.Proofs.Ytpmaibkakkfaeaa
namespace Go.Proofs.Ytpmaibkakkfaeaa
open Go.ChangeShapes Go.WideShapes Go.ChangeAt Go.RowKit
theorem sumG_bd (rows : List (List Ce)) (m : Nat) (h : ∀ i, i < rows.length → (rowX rows i).length ≤ m) : ∀ j, j ≤ rows.length → sumG rows j ≤ j * m
  | 0, _ => Nat.zero_le _
  | j + 1, hj => by
    have := sumG_bd rows m h j (by omega)
    have := h j (by omega)
    rw [sumG, Nat.add_mul]; omega
theorem StAt.grB {lo hi B : Nat} {w w' : World} {s : St} (h : StAt w B s) (hg : GrB lo hi w w') (hne : B < lo ∨ hi ≤ B) : StAt w' B s := by
  obtain ⟨h0, ⟨c0, c1, c2, c3, c4⟩, z0, z1, z2, z3, z4⟩ := h
  refine ⟨Nat.lt_of_lt_of_le h0 hg.size, ⟨?_, ?_, ?_, ?_, ?_⟩, ?_, ?_, ?_, ?_, ?_⟩
  all_goals first | rw [hg.cell h0 hne] | rw [hg.frozen h0 hne]
  all_goals assumption
theorem slShp {w : World} {v : Value} {rows : List (List Ce)} (h : SlG w v rows) : ∃ a n c, v = Value.slice a n c := by
  obtain ⟨a, c, vs, rfl, _⟩ := h
  exact ⟨_, _, _, rfl⟩
end Go.Proofs.Ytpmaibkakkfaeaa
namespace Go.Proofs.Ytpmaibkakkfaeaa
open Go.ChangeShapes Go.WideShapes Go.ChangeAt Go.RowKit
/-- A parser's block, whole. -/
def PbB (w : World) (B : Nat) (s : Int) (pv : Value) (m : Int) (tv : Value) : Prop := w.heap[B]? = some (.cells #[.int .i64 s, pv, .int .i64 m, tv] 29 (0, 0))
theorem PbB.lt {w : World} {B : Nat} {s m : Int} {pv tv : Value} (h : PbB w B s pv m tv) : B < w.heap.size := (Array.getElem?_eq_some_iff.1 h).1
theorem PbB.cells {w : World} {B : Nat} {s m : Int} {pv tv : Value} (h : PbB w B s pv m tv) :
    w.cell? ⟨B, 0, none⟩ = some (.int .i64 s) ∧ w.cell? ⟨B, 1, none⟩ = some pv ∧ w.cell? ⟨B, 2, none⟩ = some (.int .i64 m) ∧ w.cell? ⟨B, 3, none⟩ = some tv := by
  refine ⟨?_, ?_, ?_, ?_⟩ <;> (rw [cell_of_row w B _ _ _ (0, 0) h]; rfl)
theorem PbB.frozen {w : World} {B : Nat} {s m : Int} {pv tv : Value} (h : PbB w B s pv m tv) : w.frozen? ⟨B, 0, none⟩ = false ∧ w.frozen? ⟨B, 1, none⟩ = false ∧ w.frozen? ⟨B, 2, none⟩ = false ∧ w.frozen? ⟨B, 3, none⟩ = false :=
  ⟨frozen_of_row w B 0 _ _ h, frozen_of_row w B 1 _ _ h, frozen_of_row w B 2 _ _ h, frozen_of_row w B 3 _ _ h⟩
theorem PbB.set {w : World} {B : Nat} {s m : Int} {pv tv : Value} (h : PbB w B s pv m tv) (j : Nat) (u : Value) : (w.setCell ⟨B, j, none⟩ u).heap[B]? = some (.cells ((#[.int .i64 s, pv, .int .i64 m, tv] : Array Value).setIfInBounds j u) 29 (0, 0)) := heap_setCell_same w B j _ _ u h
theorem PbB.put {w : World} {B : Nat} {s m : Int} {pv tv : Value} (h : PbB w B s pv m tv) (s' m' : Int) (pv' tv' : Value) : PbB (putP w B s' pv' m' tv') B s' pv' m' tv' := by
  have k0 : PbB (w.setCell ⟨B, 0, none⟩ (.int .i64 s')) B s' pv m tv := h.set 0 _
  have k1 : PbB _ B s' pv' m tv := k0.set 1 _
  have k2 : PbB _ B s' pv' m' tv := k1.set 2 _
  exact k2.set 3 _
theorem PbB.kept {w w' : World} {B : Nat} {s m : Int} {pv tv : Value} {row : Option Nat} (h : PbB w B s pv m tv) (hg : w.grownBy w' row) (hne : row ≠ some B) : PbB w' B s pv m tv := by
  unfold PbB
  rw [hg.block B h.lt (Ne.symm hne)]
  exact h
theorem PbB.below {w w' : World} {B : Nat} {s m : Int} {pv tv : Value} (h : PbB w B s pv m tv) (hb : Below w.heap.size w w') : PbB w' B s pv m tv := h.kept (gbl hb none) (by simp)
theorem PbB.new (w : World) (s m : Int) (pv tv : Value) : PbB (w.alloc (.cells #[.int .i64 s, pv, .int .i64 m, tv] 29)) w.heap.size s pv m tv := heap_alloc_new w _
end Go.Proofs.Ytpmaibkakkfaeaa
namespace Go.Proofs.Ytpmaibkakkfaeaa
open Go.ChangeShapes Go.WideShapes Go.ChangeAt Go.RowKit
set_option maxHeartbeats 400000 in
theorem eqI_same (va vb : Value) (xs : List Int) (w : World) (ha : SlI w va xs) (hb : SlI w vb xs) (hl : xs.length ≤ 1073741824) :
    Calls Try.prog 14 #[va, vb] w fun e w' => e = .returned (.bool true) ∧ ∃ n, w' = w.drewN n := by
  by_cases h0 : xs = []
  · subst h0
    obtain ⟨a, c, rfl, _⟩ := ha
    obtain ⟨a', c', rfl, _⟩ := hb
    go_enter Try.func14, Try.ntmps14
    go_wp2
    refine wp_loop_rounds 1 ?_
    rw [rounds_succ]
    go_wp2
    go_ret
    exact ⟨rfl, 0, rfl⟩
  · obtain ⟨_, c, rfl, e | ⟨b, off, rfl, _, hca⟩⟩ := ha
    · exact absurd e h0
    · obtain ⟨_, c', rfl, e | ⟨b', off', rfl, _, hcb⟩⟩ := hb
      · exact absurd e h0
      · generalize hn : xs.length = n at *
        clear h0 hn
        go_enter Try.func14, Try.ntmps14
        go_wp2
        go_loopw [5] (fun i wr => ∃ k : Nat, k ≤ n ∧ i = .int .i64 k ∧ ∃ m, wr = w.drewN m) (fun i _ => n - (intOf i).toNat)
        case atStart => exact ⟨0, Nat.zero_le _, rfl, 0, rfl⟩
        case round =>
          obtain ⟨k, hk, rfl, m, rfl⟩ := hrel
          by_cases hlt : k < n
          · have h1 : w.cell? ⟨b, off + k, none⟩ = some (.int .i64 (xs.getD k 0)) := hca k hlt
            have h2 : w.cell? ⟨b', off' + k, none⟩ = some (.int .i64 (xs.getD k 0)) := hcb k hlt
            have hi : (k : Int) < (n : Int) := by omega
            generalize xs.getD k 0 = x at *
            clear hca hcb
            go_wp2
            go_quiet (fail)
            go_wp2
            go_roundw
            case rel => exact ⟨k + 1, by omega, by go_num, m + nq, by simp⟩
            case measure => simp [intOf]; omega
          · go_wp2
            go_ret
            exact ⟨rfl, m, rfl⟩

theorem grown_trans {a b c : World} {row : Option Nat} (h : a.grownBy b row) (k : b.grownBy c row) : a.grownBy c row :=
  ⟨k.os.trans h.os, k.tape.trans h.tape, k.output.trans h.output, Nat.le_trans h.size k.size, fun i hi hr => (k.block i (Nat.lt_of_lt_of_le hi h.size) hr).trans (h.block i hi hr)⟩
def marksI (k : Int) (n : Nat) : List Int := (List.range n).map fun (i : Nat) => k + (i : Int)
theorem marksI_len (k : Int) (n : Nat) : (marksI k n).length = n := by simp [marksI]
theorem marksI_at (k : Int) (n i : Nat) (h : i < n) : (marksI k n).getD i 0 = k + (i : Int) := by simp [marksI, h]

set_option maxHeartbeats 400000 in
theorem heldI_marks (v : Value) (k : Int) (n : Nat) (w : World) (hv : SlI w v (marksI k n)) (hk : 0 ≤ k ∧ k ≤ 1073741824) (hl : n ≤ 1073741824) :
    Calls Try.prog 21 #[v, .int .i64 k] w fun e w' => e = .returned (.int .i64 (k + n)) ∧ w' = w := by
  obtain ⟨a, c, rfl, e | ⟨b, off, rfl, _, hc⟩⟩ := hv
  · have h0 : n = 0 := by have := marksI_len k n; rw [e] at this; simpa using this.symm
    subst h0
    rw [marksI_len]
    go_enter Try.func21, Try.ntmps21
    go_wp2
    refine wp_loop_rounds 1 ?_
    rw [rounds_succ]
    go_wp2
    go_ret
    exact ⟨by simp, rfl⟩
  · rw [marksI_len] at hc ⊢
    have hc2 : ∀ i, i < n → w.cell? ⟨b, off + i, none⟩ = some (.int .i64 (k + (i : Int))) := fun i hi => by rw [hc i hi, marksI_at k n i hi]
    clear hc
    go_enter Try.func21, Try.ntmps21
    go_wp2
    go_loop [1, 5] (fun q i => ∃ j : Nat, j ≤ n ∧ i = .int .i64 j ∧ q = .int .i64 (k + (j : Int))) (fun _ i => n - (intOf i).toNat)
    case atStart => exact ⟨0, Nat.zero_le _, rfl, by simp⟩
    case round =>
      obtain ⟨j, hj, rfl, rfl⟩ := hrel
      by_cases hlt : j < n
      · have h1 := hc2 j hlt
        clear hc2
        go_wp2
        go_round
        case rel => exact ⟨j + 1, by omega, by go_num, by go_num⟩
        case measure => simp [intOf]; omega
      · have hjn : j = n := by omega
        subst hjn
        go_wp2
        go_ret
        exact ⟨rfl, rfl⟩

/-- Two lists' prefixes marked: what stands there while it is marked. -/
theorem marked_all (k : Int) (n : Nat) (ys : List Value) (hl : ys.length = n) (h : ∀ i, i < n → ys[i]? = some (.int .i64 (k + (i : Int)))) : ys = (marksI k n).map (Value.int .i64) := by
  apply List.ext_getElem?
  intro i
  by_cases hi : i < n
  · rw [h i hi]; simp [marksI, hi]
  · rw [List.getElem?_eq_none (by omega), List.getElem?_eq_none (by simp [marksI]; omega)]

set_option maxHeartbeats 400000 in
theorem markI_own (base : Nat) (v : Value) (k : Int) (n : Nat) (xs : List Value) (w : World) (hown : w.ownsRow base 2 1 v n xs) (hk : 0 ≤ k ∧ k ≤ 1073741824) (hl : n ≤ 1073741824) :
    Calls Try.prog 18 #[v, .int .i64 k] w fun e w' => e = .returned (.int .i64 (k + n)) ∧ w'.ownsRow base 2 1 v n ((marksI k n).map (Value.int .i64)) ∧ w.grownBy w' v.ownBlock := by
  have hlen := hown.1
  rcases hown.2 with ⟨rfl, rfl⟩ | ⟨g, cap, cur, rfl, hb, hg, _⟩
  · go_enter Try.func18, Try.ntmps18
    go_wp2
    refine wp_loop_rounds 1 ?_
    rw [rounds_succ]
    go_wp2
    go_ret
    exact ⟨by simp, World.ownsRow_nil _ _ _ _, World.grownBy.refl _ _⟩
  · clear hg
    go_enter Try.func18, Try.ntmps18
    go_wp2
    go_loopw [1, 5] (fun q i wr => ∃ (j : Nat) (ys : List Value), j ≤ n ∧ i = .int .i64 j ∧ q = .int .i64 (k + (j : Int)) ∧ wr.ownsRow base 2 1 (.slice (some ⟨g, 0, none⟩) n cap) n ys ∧ ys.length = n ∧ (∀ t, t < j → ys[t]? = some (.int .i64 (k + (t : Int)))) ∧ w.grownBy wr (some g)) (fun _ i _ => n - (intOf i).toNat)
    case atStart => exact ⟨0, xs, Nat.zero_le _, rfl, by simp, hown, by simpa using hlen, by simp, World.grownBy.refl _ _⟩
    case round =>
      obtain ⟨j, ys, hj, rfl, rfl, ho, hyl, hys, hgr⟩ := hrel
      by_cases hlt : j < n
      · have h1 : ∃ u, wr.cell? ⟨g, j, none⟩ = some u := by
          rw [ho.cellAt j (by omega)]; exact ⟨_, List.getElem?_eq_getElem (by omega)⟩
        obtain ⟨u, h1⟩ := h1
        have h2 := ho.frozenAt j
        have hst := ho.stored j (.int .i64 (k + (j : Int)))
        obtain ⟨hst1, hst2⟩ := hst
        clear ho
        go_wp2
        go_roundw
        case rel =>
          refine ⟨j + 1, ys.set j (.int .i64 (k + (j : Int))), by omega, by go_num, by go_num, hst1, by simpa using hyl, ?_, grown_trans hgr hst2⟩
          intro t ht
          by_cases e : t = j
          · subst e; simp [hyl, hlt]
          · rw [List.getElem?_set_ne (by omega)]; exact hys t (by omega)
        case measure => simp [intOf]; omega
      · have hjn : j = n := by omega
        subst hjn
        go_wp2
        go_ret
        exact ⟨rfl, by rw [← marked_all k j ys hyl hys]; exact ho, hgr⟩

end Go.Proofs.Ytpmaibkakkfaeaa
namespace Go.Proofs.Ytpmaibkakkfaeaa
open Go.ChangeShapes Go.WideShapes Go.ChangeAt Go.RowKit
theorem drewN_bel (w : World) (n : Nat) : Below w.heap.size w (w.drewN n) := by
  induction n with
  | zero => exact Below.refl _ _
  | succ n ih => exact ih.trans ((bdr _).mono ih.size)
set_option maxHeartbeats 2000000 in
theorem eqParser_same (p : Pa) (pv tv pv2 tv2 : Value) (w : World) (hp : SlI w pv p.params) (ht : SlI w tv p.text) (hp2 : SlI w pv2 p.params) (ht2 : SlI w tv2 p.text) (hpl : p.params.length ≤ 1073741824) (htl : p.text.length ≤ 1073741824) :
    Calls Try.prog 15 #[paV p pv tv, paV p pv2 tv2] w fun e w' => e = .returned (.bool true) ∧ Below w.heap.size w w' := by
  obtain ⟨s, ps, m, ts⟩ := p
  have hb1 := bal' w (Obj.cells #[.int .i64 s, pv, .int .i64 m, tv] 29)
  have hb2 := bal' (w.alloc (Obj.cells #[.int .i64 s, pv, .int .i64 m, tv] 29)) (Obj.cells #[.int .i64 s, pv2, .int .i64 m, tv2] 29)
  have hbb := hb1.trans (hb2.mono hb1.size)
  have hP := (PaC.new w s m pv tv 29).below hb2
  have hR := PaC.new (w.alloc (Obj.cells #[.int .i64 s, pv, .int .i64 m, tv] 29)) s m pv2 tv2 29
  rw [show (w.alloc (Obj.cells #[.int .i64 s, pv, .int .i64 m, tv] 29)).heap.size = w.heap.size + 1 by simp] at hR
  have e1 := eqI_same pv pv2 ps _ (hp.below hbb) (hp2.below hbb) hpl
  have e2 := fun W h1 h2 => eqI_same tv tv2 ts W h1 h2 htl
  have ht3 := ht.below hbb
  have ht4 := ht2.below hbb
  unfold paV at *
  simp only at *
  obtain ⟨pa, pc, hpv⟩ := hp.shp
  obtain ⟨ta, tc, htv⟩ := ht.shp
  obtain ⟨pa2, pc2, hpv2⟩ := hp2.shp
  obtain ⟨ta2, tc2, htv2⟩ := ht2.shp
  subst hpv; subst htv; subst hpv2; subst htv2
  obtain ⟨_, ⟨c0, c1, c2, c3⟩, _⟩ := id hP
  obtain ⟨_, ⟨d0, d1, d2, d3⟩, _⟩ := id hR
  clear hp ht hp2 ht2 hb1 hb2
  go_enter Try.func15, Try.ntmps15
  go_wp2_with fail
  refine e1.mono ?_
  rintro e w3 ⟨rfl, n, hw⟩
  have hbn : Below _ _ w3 := hw ▸ drewN_bel _ n
  have hP3 := hP.below hbn
  have hR3 := hR.below hbn
  have e3 := e2 w3 (ht3.below hbn) (ht4.below hbn)
  have hb3 := hbb.trans (hbn.mono hbb.size)
  clear hw hbn hP hR e1 e2 ht3 ht4 hbb c0 c1 c2 c3 d0 d1 d2 d3
  obtain ⟨_, ⟨c0, c1, c2, c3⟩, _⟩ := hP3
  obtain ⟨_, ⟨d0, d1, d2, d3⟩, _⟩ := hR3
  go_wp2_with fail
  refine e3.mono ?_
  rintro e w4 ⟨rfl, n2, hw⟩
  have hbn : Below w3.heap.size w3 w4 := hw ▸ drewN_bel _ n2
  have hb4 := hb3.trans (hbn.mono hb3.size)
  clear hw hbn e3 hb3 c0 c1 c2 c3 d0 d1 d2 d3
  go_wp2
  go_ret
  exact ⟨rfl, hb4⟩
end Go.Proofs.Ytpmaibkakkfaeaa
namespace Go.Proofs.Ytpmaibkakkfaeaa
open Go.ChangeShapes Go.WideShapes Go.ChangeAt Go.RowKit
/-- A screen's block by its cells. -/
def TB (w : World) (B : Nat) (cs : List Value) : Prop := BlkC w B 33 cs
theorem TB.lt {w : World} {B : Nat} {cs : List Value} (h : TB w B cs) : B < w.heap.size := (Array.getElem?_eq_some_iff.1 h).1
theorem TB.kept {w w' : World} {B : Nat} {cs : List Value} {row : Option Nat} (h : TB w B cs) (hg : w.grownBy w' row) (hne : row ≠ some B) : TB w' B cs := by
  unfold TB BlkC
  rw [hg.block B h.lt (Ne.symm hne)]
  exact h
theorem TB.below {w w' : World} {B : Nat} {cs : List Value} (h : TB w B cs) (hb : Below w.heap.size w w') : TB w' B cs := h.kept (gbl hb none) (by simp)
theorem TB.new (w : World) (cs : List Value) : TB (w.alloc (.cells cs.toArray 33)) w.heap.size cs := heap_alloc_new w _
theorem OwnR.low {w : World} {lo lo' hi : Nat} {v : Value} {rows : List (List Ce)} (h : OwnR w lo hi v rows) (hb : lo' ≤ lo) : OwnR w lo' hi v rows := ⟨h.1.low hb, h.2.1, h.2.2⟩
/-- A screen's memory, all of one call's own: grids in ranges of their own. -/
def OwnT (w : World) (base : Nat) (t : Te) (v : Tv) : Prop := ∃ b1 b2 b3, OwnR w base b1 v.g t.g ∧ OwnR w b1 b2 v.o t.o ∧ LiOk w b3 [(v.ti, t.ti), (v.pp, t.pa.params), (v.pt, t.pa.text)] ∧ base ≤ b1 ∧ b1 ≤ b2 ∧ b2 ≤ b3 ∧ b3 ≤ w.heap.size
theorem OwnT.below {w w' : World} {base : Nat} {t : Te} {v : Tv} (h : OwnT w base t v) (hb : Below w.heap.size w w') : OwnT w' base t v := by
  obtain ⟨b1, b2, b3, h1, h2, h3, h4, h5, h6, h7⟩ := h
  exact ⟨b1, b2, b3, h1.below hb, h2.below hb, h3.below hb, h4, h5, h6, Nat.le_trans h7 hb.size⟩
theorem OwnT.sl {w : World} {base : Nat} {t : Te} {v : Tv} (h : OwnT w base t v) : SlT w t v := by
  obtain ⟨b1, b2, b3, h1, h2, h3, _⟩ := h
  exact ⟨h1.sl, h2.sl, SlN.of_own h3.head, SlN.of_own h3.tail.head, SlN.of_own h3.tail.tail.head⟩
theorem OwnR.grown {w w' : World} {lo hi B : Nat} {v : Value} {rows : List (List Ce)} (h : OwnR w lo hi v rows) (hg : w.grownBy w' (some B)) (hB : B < lo) : OwnR w' lo hi v rows :=
  ⟨h.1.kept hg (fun g e => by cases e; exact hB), h.2.1, Nat.le_trans h.2.2 hg.size⟩
end Go.Proofs.Ytpmaibkakkfaeaa
namespace Go.Proofs.Ytpmaibkakkfaeaa
open Go.ChangeShapes Go.WideShapes Go.ChangeAt Go.RowKit
theorem one_te (t : Te) (v : Tv) (hg : ∃ a n c, v.g = .slice a n c) (ho : ∃ a n c, v.o = .slice a n c) (hti : ∃ a n c, v.ti = .slice a n c) (hpp : ∃ a n c, v.pp = .slice a n c) (hpt : ∃ a n c, v.pt = .slice a n c) : (teCs t v).toList.all (·.oneCell') = true := by
  obtain ⟨vg, vo, vti, vpp, vpt⟩ := v
  obtain ⟨_, _, _, h1⟩ := hg
  obtain ⟨_, _, _, h2⟩ := ho
  obtain ⟨_, _, _, h3⟩ := hti
  obtain ⟨_, _, _, h4⟩ := hpp
  obtain ⟨_, _, _, h5⟩ := hpt
  simp only at h1 h2 h3 h4 h5
  subst h1; subst h2; subst h3; subst h4; subst h5
  rfl
theorem SlT.one {w : World} {t : Te} {v : Tv} (h : SlT w t v) : (teCs t v).toList.all (·.oneCell') = true := by
  obtain ⟨h1, h2, h3, h4, h5⟩ := h
  obtain ⟨_, _, e1⟩ := slG_shp h1
  obtain ⟨_, _, e2⟩ := slG_shp h2
  obtain ⟨_, _, e3⟩ := h3.shp
  obtain ⟨_, _, e4⟩ := h4.shp
  obtain ⟨_, _, e5⟩ := h5.shp
  exact one_te t v ⟨_, _, _, e1⟩ ⟨_, _, _, e2⟩ ⟨_, _, _, e3⟩ ⟨_, _, _, e4⟩ ⟨_, _, _, e5⟩
end Go.Proofs.Ytpmaibkakkfaeaa
namespace Go.Proofs.Ytpmaibkakkfaeaa
open Go.ChangeShapes Go.WideShapes Go.ChangeAt Go.RowKit
/-- Only the blocks of two values change; new ones may come. -/
def GrV (u v : Value) (w w' : World) : Prop := w'.os = w.os ∧ w'.tape = w.tape ∧ w'.output = w.output ∧ w.heap.size ≤ w'.heap.size ∧ ∀ k, k < w.heap.size → u.ownBlock ≠ some k → v.ownBlock ≠ some k → w'.heap[k]? = w.heap[k]?
theorem GrV.of_below {u v : Value} {w w' : World} (h : Below w.heap.size w w') : GrV u v w w' := ⟨h.os, h.tape, h.output, h.size, fun k hk _ _ => h.block k hk⟩
theorem GrV.trans {u v : Value} {a b c : World} (h : GrV u v a b) (k : GrV u v b c) : GrV u v a c :=
  ⟨k.1.trans h.1, k.2.1.trans h.2.1, k.2.2.1.trans h.2.2.1, Nat.le_trans h.2.2.2.1 k.2.2.2.1, fun i hi h1 h2 => (k.2.2.2.2 i (Nat.lt_of_lt_of_le hi h.2.2.2.1) h1 h2).trans (h.2.2.2.2 i hi h1 h2)⟩
/-- What was new to the first world may change. -/
theorem GrV.grown {u v : Value} {a b c : World} {row : Option Nat} (h : GrV u v a b) (k : b.grownBy c row) (hr : ∀ g, row = some g → u.ownBlock = some g ∨ v.ownBlock = some g ∨ a.heap.size ≤ g) : GrV u v a c :=
  ⟨k.os.trans h.1, k.tape.trans h.2.1, k.output.trans h.2.2.1, Nat.le_trans h.2.2.2.1 k.size, fun i hi h1 h2 => (k.block i (Nat.lt_of_lt_of_le hi h.2.2.2.1) (fun e => by
    rcases hr i e.symm with h3 | h3 | h3
    · exact h1 h3
    · exact h2 h3
    · omega)).trans (h.2.2.2.2 i hi h1 h2)⟩
theorem GrV.below {u v : Value} {a b c : World} (h : GrV u v a b) (k : Below b.heap.size b c) : GrV u v a c := h.grown (gbl k none) (fun _ e => by cases e)
theorem GrV.to_below {u v : Value} {w w' : World} {B : Nat} (h : GrV u v w w') (hB : B ≤ w.heap.size) (hu : ∀ g, u.ownBlock = some g → B ≤ g) (hv : ∀ g, v.ownBlock = some g → B ≤ g) : Below B w w' :=
  ⟨h.1, h.2.1, h.2.2.1, h.2.2.2.1, fun k hk => h.2.2.2.2 k (by omega) (fun e => by have := hu k e; omega) (fun e => by have := hv k e; omega)⟩
theorem PbB.grv {u v : Value} {w w' : World} {B : Nat} {s m : Int} {pv tv : Value} (h : PbB w B s pv m tv) (hg : GrV u v w w') (h1 : u.ownBlock ≠ some B) (h2 : v.ownBlock ≠ some B) : PbB w' B s pv m tv := by
  unfold PbB
  rw [hg.2.2.2.2 B h.lt h1 h2]
  exact h
theorem l6State_any (s : Int) (w : World) :
    Calls Try.prog 25 #[.int .i64 s] w fun e w' => e = .returned (.agg #[.int .i64 s, .slice none 0 0, .int .i64 0, .slice none 0 0]) ∧ Below w.heap.size w w' := by
  have hb := bal' w (Obj.cells #[.int .i64 s, .slice none 0 0, .int .i64 0, .slice none 0 0] 29)
  obtain ⟨f0, f1, f2, f3⟩ := (PbB.new w s 0 (.slice none 0 0) (.slice none 0 0)).cells
  go_enter Try.func25, Try.ntmps25
  go_wp2
  exact bodyPost_ret (v := .agg #[.int .i64 s, .slice none 0 0, .int .i64 0, .slice none 0 0]) (by simp [results, Try.results25, go_sem]) rfl ⟨rfl, hb⟩
end Go.Proofs.Ytpmaibkakkfaeaa
namespace Go.Proofs.Ytpmaibkakkfaeaa
open Go.ChangeShapes Go.WideShapes Go.ChangeAt Go.RowKit
def newT (cols n : Int) (rows : List (List Ce)) : Te := ⟨cols, rows, cols, rows, 0, 0, St.zero, 0, n - 1, false, true, false, false, 0, 0, St.zero, [], ⟨1, [], 0, []⟩, ⟨#[]⟩⟩
def teZ : Te := ⟨0, [], 0, [], 0, 0, St.zero, 0, 0, false, false, false, false, 0, 0, St.zero, [], ⟨0, [], 0, []⟩, ⟨#[]⟩⟩
def tvN (u1 u2 : Value) : Tv := ⟨u1, u2, .slice none 0 0, .slice none 0 0, .slice none 0 0⟩
/-- What a new screen is. -/
def newTm (cols n : Int) : Te := if newOk cols n then newT cols n (newR cols.toNat n.toNat) else teZ
theorem ownR_none (w : World) (b : Nat) (hb : b ≤ w.heap.size) : OwnR w b b (.slice none 0 0) [] := ⟨ownG_none _ _ _, fun g e => by simp [Value.ownBlock] at e, hb⟩
theorem ownT_zero (w : World) (b : Nat) (hb : b ≤ w.heap.size) : OwnT w b teZ (tvN (.slice none 0 0) (.slice none 0 0)) :=
  ⟨b, b, b, ownR_none w b hb, ownR_none w b hb, (LiOk.nil _ _).nilc.nilc.nilc, Nat.le_refl _, Nat.le_refl _, Nat.le_refl _, hb⟩
theorem grown_ownT {w w' : World} {base B : Nat} {t : Te} {v : Tv} {cs : List Value} (h : OwnT w base t v) (hg : w.grownBy w' (some B)) (hB : B < base) (hT : TB w B cs) : OwnT w' base t v := by
  obtain ⟨b1, b2, b3, h1, h2, h3, h4, h5, h6, h7⟩ := h
  exact ⟨b1, b2, b3, h1.grown hg hB, h2.grown hg (by omega), h3.kept hg (fun p hp => .inr ((h3.1 p hp).not_block hT (by decide))), h4, h5, h6, Nat.le_trans h7 hg.size⟩
theorem OwnT.low {w : World} {base base' : Nat} {t : Te} {v : Tv} (h : OwnT w base t v) (hb : base' ≤ base) : OwnT w base' t v := by
  obtain ⟨b1, b2, b3, h1, h2, h3, h4, h5, h6, h7⟩ := h
  exact ⟨b1, b2, b3, OwnR.low h1 hb, h2, h3, by omega, h5, h6, h7⟩
set_option maxHeartbeats 4000000 in
set_option maxRecDepth 20000 in
theorem l7New_any (cols n : Nat) (w : World) (hc : cols ≤ 1000) (hn1 : 1 ≤ n) (hn : n ≤ 1000) :
    Calls Try.prog 10 #[.int .i64 (cols : Int), .int .i64 (n : Int)] w fun e w' => ∃ u1 u2, e = .returned (.agg (teCs (newT cols n (newR cols n)) (tvN u1 u2))) ∧ OwnT w' w.heap.size (newT cols n (newR cols n)) (tvN u1 u2) ∧ Below w.heap.size w w' := by
  have hR := TB.new w [.int .i64 0, .slice none 0 0, .int .i64 0, .slice none 0 0, .int .i64 0, .int .i64 0, .int .i64 0, .int .i64 0, .bool false, .bool false, .bool false, .int .i64 0, .int .i64 0, .bool false, .bool false, .bool false, .bool false, .int .i64 0, .int .i64 0, .int .i64 0, .int .i64 0, .bool false, .bool false, .bool false, .slice none 0 0, .int .i64 0, .slice none 0 0, .int .i64 0, .slice none 0 0, .string ⟨#[]⟩]
  have hb0 := bal' w (Obj.cells #[.int .i64 0, .slice none 0 0, .int .i64 0, .slice none 0 0, .int .i64 0, .int .i64 0, .int .i64 0, .int .i64 0, .bool false, .bool false, .bool false, .int .i64 0, .int .i64 0, .bool false, .bool false, .bool false, .bool false, .int .i64 0, .int .i64 0, .int .i64 0, .int .i64 0, .bool false, .bool false, .bool false, .slice none 0 0, .int .i64 0, .slice none 0 0, .int .i64 0, .slice none 0 0, .string ⟨#[]⟩] 33)
  have hz0 : (w.alloc (Obj.cells #[.int .i64 0, .slice none 0 0, .int .i64 0, .slice none 0 0, .int .i64 0, .int .i64 0, .int .i64 0, .int .i64 0, .bool false, .bool false, .bool false, .int .i64 0, .int .i64 0, .bool false, .bool false, .bool false, .bool false, .int .i64 0, .int .i64 0, .int .i64 0, .int .i64 0, .bool false, .bool false, .bool false, .slice none 0 0, .int .i64 0, .slice none 0 0, .int .i64 0, .slice none 0 0, .string ⟨#[]⟩] 33)).heap.size = w.heap.size + 1 := by simp
  have hN := fun W => l5New_any cols n W hc hn
  have hP := fun W => l6State_any 1 W
  have hni : (1 : Int) ≤ (n : Int) := by omega
  have hni2 : (n : Int) ≤ 1000 := by omega
  unfold gridV at hN
  go_enter Try.func10, Try.ntmps10
  go_wp2_with fail
  refine (hN _).mono ?_
  rintro e w1 ⟨u1, rfl, ho1, hb⟩
  obtain ⟨xa, xn, xc, hx⟩ := slShp (SlG.of_own ho1)
  subst hx
  have og : OwnR w1 (w.heap.size + 1) w1.heap.size (.slice xa xn xc) (newR cols n) := by rw [← hz0]; exact OwnR.of ho1
  replace hR := hR.below hb
  have kb := hb0.trans (hb.mono hb0.size)
  have s1 : w.heap.size + 1 ≤ w1.heap.size := by rw [← hz0]; exact hb.size
  clear hb hb0 ho1 hz0
  go_wp2_with fail
  refine (hN _).mono ?_
  rintro e w2 ⟨u2, rfl, ho2, hb⟩
  obtain ⟨ya, yn, yc, hy⟩ := slShp (SlG.of_own ho2)
  subst hy
  have oo : OwnR w2 w1.heap.size w2.heap.size (.slice ya yn yc) (newR cols n) := OwnR.of ho2
  replace hR := hR.below hb
  replace og := og.below hb
  replace kb := kb.trans (hb.mono kb.size)
  have s2 := hb.size
  clear hb ho2
  go_wp2_with fail
  refine (hP _).mono ?_
  rintro e w3 ⟨rfl, hb⟩
  replace hR := hR.below hb
  replace og := og.below hb
  replace oo := oo.below hb
  replace kb := kb.trans (hb.mono kb.size)
  have s3 := hb.size
  clear hb hN hP
  go_wp2_with (refine store_T (cs := teCs (newT cols n (newR cols n)) (tvN (.slice xa xn xc) (.slice ya yn yc))) (by rfl) 33 _ _ (by rfl) info_te (by rfl) (by rfl) hR (by rfl) (by rfl) ?_; intro w4 hg hR4 hz4)
  have hO : OwnT w4 w.heap.size (newT cols n (newR cols n)) (tvN (.slice xa xn xc) (.slice ya yn yc)) :=
    ⟨w1.heap.size, w2.heap.size, w2.heap.size, OwnR.low (og.grown hg (by omega)) (by omega), oo.grown hg (by omega), (LiOk.nil _ _).nilc.nilc.nilc, by omega, by omega, Nat.le_refl _, by omega⟩
  exact bodyPost_ret (v := .agg (teCs (newT cols n (newR cols n)) (tvN (.slice xa xn xc) (.slice ya yn yc)))) (results_cell_row Try.results10 _ _ _ _ _ _ _ rfl hR4 Try.underlying33 rfl info_te) rfl ⟨_, _, rfl, hO, kb.grown hg kb.size (fun g e => by cases e; exact Nat.le_refl _)⟩
end Go.Proofs.Ytpmaibkakkfaeaa
namespace Go.Proofs.Ytpmaibkakkfaeaa
open Go.ChangeShapes Go.WideShapes Go.ChangeAt Go.RowKit
/-- A window of k cells, the first j of them blank, the others zero. -/
def zeroUp (L : List Ce) (q k j : Nat) (s : St) : List Ce := genL L.length fun i => if q ≤ i ∧ i < q + j then blankC s else if q ≤ i ∧ i < q + k then Ce.zero else atC L i
theorem zeroUp_len (L : List Ce) (q k j : Nat) (s : St) : (zeroUp L q k j s).length = L.length := genL_len _ _
theorem zeroUp_at (L : List Ce) (q k j : Nat) (s : St) (i : Nat) (h : i < L.length) : atC (zeroUp L q k j s) i = if q ≤ i ∧ i < q + j then blankC s else if q ≤ i ∧ i < q + k then Ce.zero else atC L i := genL_at _ _ _ h
theorem zeroUp_start (L : List Ce) (q k : Nat) (s : St) (h : q + k ≤ L.length) : windL L q (List.replicate k Ce.zero) = zeroUp L q k 0 s := ext_atC _ _ (by rw [windL_len _ _ _ (by simpa using h), zeroUp_len]) fun i hi => by
  rw [windL_len _ _ _ (by simpa using h)] at hi
  rw [windL_at _ _ _ (by simpa using h), zeroUp_at _ _ _ _ _ _ hi, if_neg (show ¬ (q ≤ i ∧ i < q + 0) by omega), List.length_replicate]
  by_cases c : q ≤ i ∧ i < q + k
  · rw [if_pos c, if_pos c, atC_lt (by simp; omega)]; simp
  · rw [if_neg c, if_neg c]
theorem zeroUp_end (L : List Ce) (q k : Nat) (s : St) : zeroUp L q k k s = fillUp L q (q + k) s := ext_atC _ _ (by rw [zeroUp_len, fillUp_len]) fun i hi => by
  rw [zeroUp_len] at hi
  rw [zeroUp_at _ _ _ _ _ _ hi, fillUp_at _ _ _ _ _ hi]
  by_cases c : q ≤ i ∧ i < q + k
  · rw [if_pos c, if_pos c]
  · rw [if_neg c, if_neg c, if_neg c]
theorem zeroUp_step (L : List Ce) (q k j : Nat) (s : St) (hj : j < k) (h : q + k ≤ L.length) : zeroUp L q k (j + 1) s = (zeroUp L q k j s).set (q + j) ⟨32, s, (atC (zeroUp L q k j s) (q + j)).part⟩ := ext_atC _ _ (by simp [zeroUp_len]) fun i hi => by
  rw [zeroUp_len] at hi
  rw [zeroUp_at _ _ _ _ _ _ hi, atC_set, zeroUp_len, zeroUp_at _ _ _ _ _ _ hi, zeroUp_at _ _ _ _ _ (q + j) (by omega), if_neg (show ¬ (q ≤ q + j ∧ q + j < q + j) by omega), if_pos (show q ≤ q + j ∧ q + j < q + k by omega)]
  by_cases e : i = q + j
  · rw [if_pos (show q ≤ i ∧ i < q + (j + 1) by omega), if_pos (show i = q + j ∧ q + j < L.length from ⟨e, by omega⟩)]; rfl
  · rw [if_neg (show ¬ (i = q + j ∧ q + j < L.length) from fun x => e x.1)]
    by_cases c : q ≤ i ∧ i < q + j
    · rw [if_pos c, if_pos (show q ≤ i ∧ i < q + (j + 1) by omega)]
    · rw [if_neg c, if_neg (show ¬ (q ≤ i ∧ i < q + (j + 1)) by omega)]
set_option maxHeartbeats 4000000 in
set_option maxRecDepth 20000 in
theorem blankOut_any (base g n cap q k c off : Nat) (L : List Ce) (s : St) (w : World) (h : OwnC w base (.slice (some ⟨g, 0, none⟩) n cap) L) (hn : L.length = n) (hq : q + k ≤ n) (hk : 0 < k) (hl : n ≤ 1000) (hoff : off = q * 7) :
    Calls Try.prog 32 #[.slice (some ⟨g, off, none⟩) k c, stV s] w fun e w' => e = .returned (.tuple #[]) ∧ OwnC w' base (.slice (some ⟨g, 0, none⟩) n cap) (fillUp L q (q + k) s) ∧ w.grownBy w' (some g) := by
  have h2 := StAt.new w s 26
  have hbA := bal' w (Obj.cells #[.int .i64 s.fore, .int .i64 s.back, .bool s.bold, .bool s.under, .bool s.turned] 26)
  have hlt : g < w.heap.size := (h.lt g rfl).2
  have hA := h.below hbA
  have hgA : w.grownBy (w.alloc (Obj.cells #[.int .i64 s.fore, .int .i64 s.back, .bool s.bold, .bool s.under, .bool s.turned] 26)) (some g) := World.grownBy_alloc w _ _
  have hHo : Hid (off = q * 7) := hoff
  have hfin : Hid (zeroUp L q k k s = fillUp L q (q + k) s) := zeroUp_end L q k s
  have hsta : Hid (windL L q (List.replicate k Ce.zero) = zeroUp L q k 0 s) := zeroUp_start L q k s (by omega)
  have hnG : w.heap.size ≠ g := by omega
  clear hbA hoff h
  unfold stV
  go_enter Try.func32, Try.ntmps32
  go_wp2_with (refine clear_oc rfl _ rfl base g n cap q k c off L hA hn hq hHo.out rfl ?_; intro w1 ho1 hg1)
  have k1 : OwnC w1 base (.slice (some ⟨g, 0, none⟩) n cap) (zeroUp L q k 0 s) := by rw [← hsta.out]; exact ho1
  have hs1 := h2.grown hg1 (by simp; omega)
  have hw1 := grown_tr hgA hg1
  clear ho1 hg1 hA h2 hgA
  go_wp2
  go_loopw [8, 4] (fun i _ wr => ∃ j : Nat, i = .int .i64 j ∧ j ≤ k ∧ OwnC wr base (.slice (some ⟨g, 0, none⟩) n cap) (zeroUp L q k j s) ∧ StAt wr w.heap.size s ∧ w.grownBy wr (some g)) (fun i _ _ => k - (intOf i).toNat)
  case atStart => exact ⟨0, rfl, Nat.zero_le _, k1, hs1, hw1⟩
  case round =>
    clear k1 hs1 hw1
    obtain ⟨j, rfl, hj, ko, hs, hw⟩ := hrel
    by_cases hlt : j < k
    · have hji : (j : Int) < (k : Int) := by omega
      have hj0 : (0 : Int) ≤ (j : Int) := by omega
      have hst : Hid (zeroUp L q k (j + 1) s = (zeroUp L q k j s).set (q + j) ⟨32, s, (atC (zeroUp L q k j s) (q + j)).part⟩) := zeroUp_step L q k j s hlt (by omega)
      have hsz : (zeroUp L q k j s).length = n := by rw [zeroUp_len]; exact hn
      have hp := ko.putRS hsz (q + j) (by omega) 32 s
      have kk : OwnC (putRS wr g ((q + j) * 7) 32 s) base (.slice (some ⟨g, 0, none⟩) n cap) (zeroUp L q k (j + 1) s) := by rw [hst.out]; exact hp.1
      have hsk := hs.grown hp.2 (by simp; omega)
      have hwk := grown_tr hw hp.2
      have hat := ko.at hsz (q + j) (by omega)
      have f0 := ko.frozen hsz ((q + j) * 7)
      have f1 := ko.frozen hsz ((q + j) * 7 + 1)
      have f2 := ko.frozen hsz ((q + j) * 7 + 2)
      have f3 := ko.frozen hsz ((q + j) * 7 + 3)
      have f4 := ko.frozen hsz ((q + j) * 7 + 4)
      have f5 := ko.frozen hsz ((q + j) * 7 + 5)
      have eo : (q + j) * 7 = off + j * 7 := by have := hHo.out; omega
      rw [eo] at f0 f1 f2 f3 f4 f5 kk hsk hwk hat
      obtain ⟨c0, c1, c2, c3, c4, c5, c6⟩ := hat
      obtain ⟨_, ⟨d0, d1, d2, d3, d4⟩, _⟩ := id hs
      clear hp hst ko hs hw eo
      simp only [putRS] at kk hsk hwk
      go_wp2
      go_roundw
      case rel => exact ⟨j + 1, by go_num, by omega, kk, hsk, hwk⟩
      case measure => simp [intOf]; omega
    · have hjn : j = k := by omega
      have hji : ¬ (j : Int) < (k : Int) := by omega
      subst hjn
      go_wp2
      refine bodyPost_end (results_none rfl _ _ _) rfl ?_
      exact ⟨rfl, by rw [← hfin.out]; exact ko, hw⟩
end Go.Proofs.Ytpmaibkakkfaeaa
namespace Go.Proofs.Ytpmaibkakkfaeaa
open Go.ChangeShapes Go.WideShapes Go.ChangeAt Go.RowKit
def blankV (n : Int) (s : St) : List Ce := if 1 ≤ n ∧ n ≤ 60 ∧ s.ok = true then rowL n.toNat s else []
end Go.Proofs.Ytpmaibkakkfaeaa
namespace Go.Proofs.Ytpmaibkakkfaeaa
open Go.ChangeShapes Go.WideShapes Go.ChangeAt Go.RowKit
theorem colorOk_any (x : Int) (w : World) :
    Calls Try.prog 37 #[.int .i64 x] w fun e w' => e = .returned (.bool (decide (0 ≤ x ∧ x ≤ 8))) ∧ w' = w := by
  by_cases h1 : 0 ≤ x
  · go_enter Try.func37, Try.ntmps37
    go_wp2
    go_ret
    exact ⟨ret_bool (by simp [h1]), rfl⟩
  · go_enter Try.func37, Try.ntmps37
    go_wp2
    go_ret
    exact ⟨ret_bool (by simp; omega), rfl⟩
set_option maxHeartbeats 400000 in
theorem implStyleOk_any (s : St) (w : World) :
    Calls Try.prog 31 #[stV s] w fun e w' => e = .returned (.bool s.ok) ∧ Below w.heap.size w w' := by
  obtain ⟨f, b, bo, un, tu⟩ := s
  have hok : Hid ((St.mk f b bo un tu).ok = decide (0 ≤ f ∧ f ≤ 8 ∧ 0 ≤ b ∧ b ≤ 8)) := rfl
  unfold stV
  simp only
  go_enter Try.func31, Try.ntmps31
  go_wp2_with (go_at_call 37; refine (colorOk_any _ _).mono ?_; rintro e w' ⟨rfl, hw⟩; subst hw)
  all_goals
    go_ret
    refine ⟨ret_bool ?_, (Below.refl _ _).alloc (Nat.le_refl _) _⟩
    rw [hok.out]
    clear hok
    by_cases h1 : 0 ≤ f ∧ f ≤ 8
    · by_cases h2 : 0 ≤ b ∧ b ≤ 8
      · have h3 : 0 ≤ f ∧ f ≤ 8 ∧ 0 ≤ b ∧ b ≤ 8 := ⟨h1.1, h1.2, h2⟩
        simp_all
      · have h3 : ¬ (0 ≤ f ∧ f ≤ 8 ∧ 0 ≤ b ∧ b ≤ 8) := fun h => h2 h.2.2
        simp_all
        try omega
    · have h3 : ¬ (0 ≤ f ∧ f ≤ 8 ∧ 0 ≤ b ∧ b ≤ 8) := fun h => h1 ⟨h.1, h.2.1⟩
      simp_all
end Go.Proofs.Ytpmaibkakkfaeaa
namespace Go.Proofs.Ytpmaibkakkfaeaa
open Go.ChangeShapes Go.WideShapes Go.ChangeAt Go.RowKit
theorem fill_row (n : Nat) (s : St) : fillUp (List.replicate n Ce.zero) 0 (0 + n) s = rowL n s := ext_atC _ _ (by rw [fillUp_len]; simp [rowL]) fun i hi => by
  rw [fillUp_len, List.length_replicate] at hi
  rw [fillUp_at _ _ _ _ _ (by simpa using hi), if_pos (by omega), rowL_at _ _ _ hi]
set_option maxHeartbeats 4000000 in
set_option maxRecDepth 20000 in
theorem implBlank_any (n : Int) (s : St) (w : World) :
    Calls Try.prog 26 #[.int .i64 n, stV s] w fun e w' => ∃ v, e = .returned v ∧ OwnC w' w.heap.size v (blankV n s) ∧ Below w.heap.size w w' := by
  have h2 := StAt.new w s 26
  have hbA := bal' w (Obj.cells #[.int .i64 s.fore, .int .i64 s.back, .bool s.bold, .bool s.under, .bool s.turned] 26)
  have hOK := implStyleOk_any s
  have hno : ∀ W : World, OwnC W w.heap.size (.slice none 0 0) [] := fun W => ownC_none W _
  by_cases h1 : 1 ≤ n
  · by_cases h60 : n ≤ 60
    · have h1i : ¬ n < 1 := by omega
      have h60i : ¬ 60 < n := by omega
      obtain ⟨_, ⟨c0, c1, c2, c3, c4⟩, _⟩ := id h2
      have hV : Hid (blankV n s = if s.ok = true then rowL n.toNat s else []) := by
        show _ = _; unfold blankV
        by_cases h : s.ok = true
        · rw [if_pos ⟨h1, h60, h⟩, if_pos h]
        · rw [if_neg (fun x => h x.2.2), if_neg h]
      unfold stV at *
      go_enter Try.func26, Try.ntmps26
      go_wp2_with fail
      generalize w.alloc (Obj.cells #[.int .i64 s.fore, .int .i64 s.back, .bool s.bold, .bool s.under, .bool s.turned] 26) = W0 at *
      refine (hOK _).mono ?_
      rintro e w1 ⟨rfl, hb1⟩
      have kb := hbA.trans (hb1.mono hbA.size)
      have hs1 := h2.below hb1
      clear hbA h2 hb1 c0 c1 c2 c3 c4 hOK
      cases ho : s.ok
      · have hV2 : Hid (blankV n s = []) := by show _ = _; rw [hV.out, if_neg (by rw [ho]; decide)]
        clear ho hs1
        go_wp2
        go_ret
        exact ⟨_, rfl, by rw [hV2.out]; exact hno _, kb⟩
      · obtain ⟨m, rfl⟩ : ∃ m : Nat, n = m := ⟨n.toNat, by omega⟩
        have hV2 : Hid (blankV m s = rowL m s) := by show _ = _; rw [hV.out, if_pos ho]; simp
        have hm2 : m ≤ 1073741824 := by omega
        have hbo := fun W h => blankOut_any w1.heap.size w1.heap.size m m 0 m m 0 (List.replicate m Ce.zero) s W h (by simp) (by omega) (by omega) (by omega) rfl
        have hs0 := hs1.1
        unfold stV at hbo
        clear ho h1 h60 hV
        go_wp2_with (refine make_oc rfl _ _ rfl m rfl rfl hm2 ?_; intro w2 ho2 hb2; have hs2 := hs1.below hb2; have hss := hs2; obtain ⟨_, ⟨c0, c1, c2, c3, c4⟩, _⟩ := hss)
        refine (hbo _ ho2).mono ?_
        rintro e w3 ⟨rfl, ho3, hg3⟩
        rw [fill_row] at ho3
        have kb2 := kb.trans (hb2.mono kb.size)
        go_wp2
        go_ret
        exact ⟨_, rfl, by rw [hV2.out]; exact ho3.low kb.size, kb2.grown hg3 kb2.size (fun k hk => by cases hk; exact kb.size)⟩
    · have h60i : 60 < n := by omega
      have h1i : ¬ n < 1 := by omega
      have hV : Hid (blankV n s = []) := by show _ = _; unfold blankV; rw [if_neg (by omega)]
      clear hOK
      unfold stV
      go_enter Try.func26, Try.ntmps26
      go_wp2
      go_ret
      exact ⟨_, rfl, by rw [hV.out]; exact hno _, hbA⟩
  · have h1i : n < 1 := by omega
    have hV : Hid (blankV n s = []) := by show _ = _; unfold blankV; rw [if_neg (by omega)]
    clear hOK
    unfold stV
    go_enter Try.func26, Try.ntmps26
    go_wp2
    go_ret
    exact ⟨_, rfl, by rw [hV.out]; exact hno _, hbA⟩
end Go.Proofs.Ytpmaibkakkfaeaa
namespace Go.Proofs.Ytpmaibkakkfaeaa
open Go.ChangeShapes Go.WideShapes Go.ChangeAt Go.RowKit
theorem under_stack : Try.prog.underlying 53 = some (.slice 54) := by kernel_rfl
/-- 'make' of rows under another name. -/
theorem make_ogs {w : World} {ops : Array Oper} {rest : List Oper} {o : Oper} {ac : Act} {Q : Exit → Act → World → Prop} (hgd : o.guard = none) (x y : Operand)
    (ho : o.op = Op.makeSlice 53 x y) (n : Nat) (hx : ac.eval x = .int .i64 (n : Int)) (hy : ac.eval y = .int .i64 (n : Int)) (hn : n ≤ 1073741824)
    (h : ∀ w', OwnG w' w.heap.size w'.heap.size (.slice (some ⟨w.heap.size, 0, none⟩) n n) (List.replicate n []) → Below w.heap.size w w' → wpList Try.prog ops Q rest (ac.put o.dst (.slice (some ⟨w.heap.size, 0, none⟩) n n)) w') :
    wpList Try.prog ops Q (o :: rest) ac w := by
  obtain ⟨i0, hi, hz0, hz1, hz2⟩ := info_parts info_row
  refine wpList_make_full _ hgd x y 53 ho w.heap.size 54 i0 (.slice none 0 0) 1 under_stack hi hz0 hz1 .i64 .i64 (n : Int) (n : Int) n hx hy rfl rfl (by rw [hz2]; omega) (by unfold maxLen; omega) (Nat.le_refl _) (fun w' ho' hg => ?_)
  rw [made_none] at ho'
  have hv : ∀ i, rowV (List.replicate n (Value.slice none 0 0)) i = .slice none 0 0 := fun i => by
    unfold rowV; by_cases hi : i < n <;> simp [List.getD, hi]
  have hr : ∀ i, rowX (List.replicate n ([] : List Ce)) i = [] := fun i => by
    unfold rowX; by_cases hi : i < n <;> simp [List.getD, hi]
  have hG : OwnG w' w.heap.size w'.heap.size (.slice (some ⟨w.heap.size, 0, none⟩) n n) (List.replicate n []) :=
    ⟨List.replicate n (.slice none 0 0), by simp, by rw [List.length_replicate]; exact ho', fun i _ => by rw [hv, hr]; exact ownC_none _ _, (fun i _ g e => by rw [hv] at e; cases e), (fun i j _ _ g e => by rw [hv] at e; cases e)⟩
  exact h w' hG ((Below.refl _ _).grown hg (Nat.le_refl _) (fun k hk => by cases hk))
theorem newR_len (cols n : Nat) : (newR cols n).length = n := by simp [newR]
theorem newR_at (cols n i : Nat) (h : i < n) : rowX (newR cols n) i = rowL cols St.zero := by rw [rowX_lt (by rw [newR_len]; exact h)]; simp [newR]
set_option maxHeartbeats 4000000 in
theorem implNewGrid_any (cols n : Int) (w : World) :
    Calls Try.prog 11 #[.int .i64 cols, .int .i64 n] w fun e w' => ∃ u, e = .returned (.tuple #[gridV (if newOk cols n then cols else 0) u, .bool (decide (newOk cols n))]) ∧ OwnG w' w.heap.size w'.heap.size u (if newOk cols n then newR cols.toNat n.toNat else []) ∧ Below w.heap.size w w' := by
  have hG := GrW.new w 0 (.slice none 0 0) 24
  have hb1 := bal' w (Obj.cells #[Value.int IntKind.i64 0, Value.slice none 0 0] 24)
  have e1 : (w.alloc (Obj.cells #[Value.int IntKind.i64 0, Value.slice none 0 0] 24)).heap.size = w.heap.size + 1 := by simp
  by_cases hok : newOk cols n
  · have hd : decide (newOk cols n) = true := decide_eq_true hok
    rw [if_pos hok, if_pos hok, hd]
    obtain ⟨⟨h1, h2⟩, h3, h4⟩ := hok
    obtain ⟨cn, rfl⟩ : ∃ k : Nat, cols = k := ⟨cols.toNat, by omega⟩
    obtain ⟨nn, rfl⟩ : ∃ k : Nat, n = k := ⟨n.toNat, by omega⟩
    rw [Int.toNat_natCast, Int.toNat_natCast]
    have n1 : ¬ (cn : Int) < 1 := by omega
    have n2 : ¬ (60 : Int) < (cn : Int) := by omega
    have n3 : ¬ (nn : Int) < 1 := by omega
    have n4 : ¬ (30 : Int) < (nn : Int) := by omega
    have hnn : nn ≤ 1073741824 := by omega
    have hbl := fun W => implBlank_any (cn : Int) St.zero W
    have hbv : blankV (cn : Int) St.zero = rowL cn St.zero := by
      unfold blankV
      rw [if_pos ⟨by omega, by omega, rfl⟩]
      simp
    rw [hbv] at hbl
    obtain ⟨X, hX⟩ : ∃ X, X = rowL cn St.zero := ⟨_, rfl⟩
    rw [← hX] at hbl
    have HX : Hid (X = rowL cn St.zero) := hX
    unfold stV at hbl
    simp only [St.zero] at hbl
    clear hbv hd hX
    go_enter Try.func11, Try.ntmps11
    go_wp2_with (refine make_ogs rfl _ _ rfl nn rfl rfl hnn ?_; intro w1 ho1 hb2)
    have kG1 := hG.below hb2
    have kb1 := hb1.trans (hb2.mono hb1.size)
    rw [e1] at ho1
    have hR0 : Hid (List.replicate nn ([] : List Ce) = genR nn fun i => if i < 0 then X else []) := by
      show _ = _
      refine ext_rowX _ _ (by simp [genR_len]) fun i hi => ?_
      have hi' : i < nn := by simpa using hi
      rw [genR_at _ _ _ hi', if_neg (Nat.not_lt_zero i), rowX_lt hi]; simp
    rw [hR0.out] at ho1
    clear hG hb1 hb2 hR0 e1
    go_wp2
    go_loopw [7, 27] (fun _ i wr => ∃ j : Nat, i = .int .i64 j ∧ j ≤ nn ∧ OwnG wr (w.heap.size + 1) wr.heap.size (.slice (some ⟨w.heap.size + 1, 0, none⟩) nn nn) (genR nn fun i => if i < j then X else []) ∧ GrW wr w.heap.size 0 (.slice none 0 0) ∧ Below w.heap.size w wr) (fun _ i _ => nn - (intOf i).toNat)
    case atStart => exact ⟨0, rfl, Nat.zero_le _, ho1, kG1, kb1⟩
    case round =>
      clear ho1 kG1 kb1
      obtain ⟨j, rfl, hj, k, kG, kb⟩ := hrel
      have hRl : (genR nn fun i => if i < j then X else []).length = nn := genR_len _ _
      by_cases hlt : j < nn
      · have hji : (j : Int) < (nn : Int) := by omega
        have hj0 : (0 : Int) ≤ (j : Int) := by omega
        have hst : Hid ((genR nn fun i => if i < j + 1 then X else []) = (genR nn fun i => if i < j then X else []).set j (X)) := by
          show _ = _
          refine ext_rowX _ _ (by rw [List.length_set, genR_len, genR_len]) fun i hi => ?_
          rw [genR_len] at hi
          rw [genR_at _ _ _ hi, rowX_set (by rw [genR_len]; exact hlt), genR_at _ _ _ hi]
          by_cases e : i = j
          · rw [if_pos (by omega), if_pos e]
          · rw [if_neg e]
            by_cases c : i < j
            · rw [if_pos c, if_pos (by omega)]
            · rw [if_neg c, if_neg (by omega)]
        generalize (genR nn fun i => if i < j then X else []) = R at *
        go_wp2_with fail
        refine (hbl _).mono ?_
        rintro e w2 ⟨r, rfl, hor, hb2⟩
        have hs2 := hb2.size
        have kG2 := kG.below hb2
        have kb2 := kb.trans (hb2.mono kb.size)
        have k2 := k.below hb2
        have hsz := kG.1
        have hk2 := k2.set hRl j hlt r _ (hor.low (by omega)) (fun q e => (hor.lt q e).1)
        obtain ⟨vs2, hv2⟩ := k2.v
        have hcur := hv2.cell hRl j hlt
        have hfz := hv2.frozen hRl j
        have kb3 := kb2.grown hk2.2 (by omega) (fun g e => by cases e; omega)
        have kG3 := kG2.grown hk2.2 (by simp)
        have kk := hk2.1
        rw [← hst.out] at kk
        obtain ⟨ra, rn, rc, rfl⟩ : ∃ a n c, r = Value.slice a n c := by rcases hor.shape with ⟨h, _⟩ | ⟨_, _, h, _⟩ <;> exact ⟨_, _, _, h⟩
        clear k kG kb hor hb2 hs2 kG2 kb2 k2 hk2 hv2 hst hRl hsz
        go_wp2
        go_roundw
        case rel => exact ⟨j + 1, by go_num, by omega, kk, kG3, kb3⟩
        case measure => simp [intOf]; omega
      · have hjn : j = nn := by omega
        have hji : ¬ (j : Int) < (nn : Int) := by omega
        subst hjn
        have hye : (genR j fun i => if i < j then X else []) = newR cn j := ext_rowX _ _ (by rw [genR_len, newR_len]) fun i hi => by
          rw [genR_len] at hi
          rw [genR_at _ _ _ hi, if_pos hi, newR_at _ _ _ hi, HX.out]
        rw [hye] at k
        clear hRl hye hbl
        have kF := (kG.put2 cn (.slice (some ⟨w.heap.size + 1, 0, none⟩) j j)).2.1
        have hgF := putG2_grown wr w.heap.size cn (.slice (some ⟨w.heap.size + 1, 0, none⟩) j j)
        have hoF := (k.kept hgF (fun g e => by cases e; omega)).up hgF.size
        have hsz := kG.1
        have hbF := kb.grown hgF (by omega) (fun g e => by cases e; omega)
        obtain ⟨_, ⟨d0, d1⟩, ⟨y0, y1⟩⟩ := kG
        obtain ⟨f0, f1⟩ := kF
        simp only [putG2] at f0 f1 hoF hbF
        clear hgF k kb
        go_wp2
        exact bodyPost_ret (v := .tuple #[.agg #[.int .i64 cn, .slice (some ⟨w.heap.size + 1, 0, none⟩) j j], .bool true]) (by simp [results, Try.results11, go_sem, f0, f1]) rfl ⟨_, rfl, hoF.low (by omega), hbF⟩
  · rw [if_neg hok, if_neg hok, decide_eq_false hok]
    by_cases c1 : cols < 1
    · clear hok
      go_enter Try.func11, Try.ntmps11
      go_wp2
      exact bodyPost_ret (v := .tuple #[.agg #[.int .i64 0, .slice none 0 0], .bool false]) (by simp [results, Try.results11, go_sem]) rfl ⟨_, rfl, ownG_none _ _ _, hb1⟩
    · by_cases c2 : 60 < cols
      · clear hok
        go_enter Try.func11, Try.ntmps11
        go_wp2
        exact bodyPost_ret (v := .tuple #[.agg #[.int .i64 0, .slice none 0 0], .bool false]) (by simp [results, Try.results11, go_sem]) rfl ⟨_, rfl, ownG_none _ _ _, hb1⟩
      · by_cases c3 : n < 1
        · clear hok
          go_enter Try.func11, Try.ntmps11
          go_wp2
          exact bodyPost_ret (v := .tuple #[.agg #[.int .i64 0, .slice none 0 0], .bool false]) (by simp [results, Try.results11, go_sem]) rfl ⟨_, rfl, ownG_none _ _ _, hb1⟩
        · have c4 : 30 < n := by
            apply Int.not_le.1; intro h; exact hok ⟨⟨by omega, by omega⟩, by omega, h⟩
          clear hok
          go_enter Try.func11, Try.ntmps11
          go_wp2
          exact bodyPost_ret (v := .tuple #[.agg #[.int .i64 0, .slice none 0 0], .bool false]) (by simp [results, Try.results11, go_sem]) rfl ⟨_, rfl, ownG_none _ _ _, hb1⟩
end Go.Proofs.Ytpmaibkakkfaeaa
namespace Go.Proofs.Ytpmaibkakkfaeaa
open Go.ChangeShapes Go.WideShapes Go.ChangeAt Go.RowKit
theorem results_cell_tmp {P : Program} {fn : Func} {p q : Tmp} {ty : TypeId} (h : fn.results = #[.cell p ty, .tmp q]) (tmps : Array Value) (w : World) (g : Nat) (t : TypeId) (cs : Array Value) (fr : Nat × Nat) (d : TypeDesc) (v : Value)
    (hp : tmps.getD p undef = .pointer (some ⟨g, 0, none⟩)) (hq : tmps.getD q undef = v) (hg : w.heap[g]? = some (.cells cs t fr))
    (hu : P.underlying ty = some d) (hd : (match d with | .struct _ | .array _ _ => true | _ => false) = true) (hi : (P.info? ty).map (·.size) = some cs.size) :
    (results fn tmps).run P w = .ok (.tuple #[.agg cs, v]) w := by
  have hp' : tmps[p]?.getD undef = .pointer (some ⟨g, 0, none⟩) := by simpa using hp
  have hq' : tmps[q]?.getD undef = v := by simpa using hq
  simp [results, h, hp', hq', asAddr, run_loadVar_row w g t ty cs fr d hg hu hd hi]
theorem newTm_no {cols n : Int} (h : ¬ newOk cols n) : newTm cols n = teZ := by unfold newTm; rw [if_neg h]
theorem newTm_yes {cols n : Int} (h : newOk cols n) : newTm cols n = newT cols n (newR cols.toNat n.toNat) := by unfold newTm; rw [if_pos h]
/-- What both leave. -/
def NtA (w w' : World) (cols n : Int) (e : Ending) : Prop := ∃ u1 u2, e = .returned (.tuple #[.agg (teCs (newTm cols n) (tvN u1 u2)), .bool (decide (newOk cols n))]) ∧ OwnT w' w.heap.size (newTm cols n) (tvN u1 u2) ∧ Below w.heap.size w w'
set_option maxHeartbeats 4000000 in
set_option maxRecDepth 20000 in
theorem specNewTerm_any (cols n : Int) (w : World) :
    Calls Try.prog 4 #[.int .i64 cols, .int .i64 n] w fun e w' => NtA w w' cols n e := by
  have hR := TB.new w [.int .i64 0, .slice none 0 0, .int .i64 0, .slice none 0 0, .int .i64 0, .int .i64 0, .int .i64 0, .int .i64 0, .bool false, .bool false, .bool false, .int .i64 0, .int .i64 0, .bool false, .bool false, .bool false, .bool false, .int .i64 0, .int .i64 0, .int .i64 0, .int .i64 0, .bool false, .bool false, .bool false, .slice none 0 0, .int .i64 0, .slice none 0 0, .int .i64 0, .slice none 0 0, .string ⟨#[]⟩]
  have hb0 := bal' w (Obj.cells #[.int .i64 0, .slice none 0 0, .int .i64 0, .slice none 0 0, .int .i64 0, .int .i64 0, .int .i64 0, .int .i64 0, .bool false, .bool false, .bool false, .int .i64 0, .int .i64 0, .bool false, .bool false, .bool false, .bool false, .int .i64 0, .int .i64 0, .int .i64 0, .int .i64 0, .bool false, .bool false, .bool false, .slice none 0 0, .int .i64 0, .slice none 0 0, .int .i64 0, .slice none 0 0, .string ⟨#[]⟩] 33)
  have hz0 : (w.alloc (Obj.cells #[.int .i64 0, .slice none 0 0, .int .i64 0, .slice none 0 0, .int .i64 0, .int .i64 0, .int .i64 0, .int .i64 0, .bool false, .bool false, .bool false, .int .i64 0, .int .i64 0, .bool false, .bool false, .bool false, .bool false, .int .i64 0, .int .i64 0, .int .i64 0, .int .i64 0, .bool false, .bool false, .bool false, .slice none 0 0, .int .i64 0, .slice none 0 0, .int .i64 0, .slice none 0 0, .string ⟨#[]⟩] 33)).heap.size = w.heap.size + 1 := by simp
  have hG := fun W => specNewGrid_any cols n W
  by_cases h : newOk cols n
  · have hV := newTm_yes h
    have hd := decide_eq_true h
    simp only [if_pos h, hd] at hG
    have hh := h
    unfold newOk at hh
    obtain ⟨cn, rfl⟩ : ∃ k : Nat, cols = k := ⟨cols.toNat, by omega⟩
    obtain ⟨nn, rfl⟩ : ∃ k : Nat, n = k := ⟨n.toNat, by omega⟩
    simp only [Int.toNat_natCast] at hV hG
    have hN := fun W => l7New_any cn nn W (by omega) (by omega) (by omega)
    unfold NtA
    rw [hV, hd]
    unfold gridV at hG
    clear h hV hd hh
    go_enter Try.func4, Try.ntmps4
    go_wp2_with fail
    refine (hG _).mono ?_
    rintro e w1 ⟨u1, rfl, ho1, hb⟩
    obtain ⟨xa, xn, xc, hx⟩ := slShp (SlG.of_own ho1)
    subst hx
    have hal := bal' w1 (Obj.cells #[.int .i64 cn, .slice xa xn xc] 24)
    have hb2 := hb.trans (hal.mono hb.size)
    replace hR := hR.below hb2
    have kb := hb0.trans (hb2.mono hb0.size)
    have s1 : w.heap.size + 1 ≤ w1.heap.size := by rw [← hz0]; exact hb.size
    clear hb hb0 ho1 hz0 hal hb2 hG
    go_wp2_with fail
    refine (hN _).mono ?_
    rintro e w3 ⟨u3, u4, rfl, ho3, hb⟩
    have s3 : w1.heap.size + 1 ≤ w3.heap.size := by have := hb.size; simp at this; omega
    have hon := ho3.sl.one
    replace hR := hR.below hb
    replace kb := kb.trans (hb.mono kb.size)
    have ho4 : OwnT w3 (w.heap.size + 1) _ _ := ho3.low (by simp; omega)
    clear hb hN ho3
    go_wp2_with (refine store_T (cs := teCs (newT cn nn (newR cn nn)) (tvN u3 u4)) (by rfl) 33 _ _ (by rfl) info_te (by rfl) hon hR (by rfl) (by rfl) ?_; intro w4 hg hR4 hz4)
    have hO := (grown_ownT ho4 hg (by omega) hR).low (show w.heap.size ≤ w.heap.size + 1 by omega)
    exact bodyPost_ret (v := .tuple #[.agg (teCs (newT cn nn (newR cn nn)) (tvN u3 u4)), .bool true]) (results_cell_tmp Try.results4 _ _ _ _ _ _ _ _ rfl rfl hR4 Try.underlying33 rfl info_te) rfl ⟨_, _, rfl, hO, kb.grown hg kb.size (fun g e => by cases e; exact Nat.le_refl _)⟩
  · have hV := newTm_no h
    have hd := decide_eq_false h
    simp only [if_neg h, hd] at hG
    unfold NtA
    rw [hV, hd]
    unfold gridV at hG
    clear h hV hd
    go_enter Try.func4, Try.ntmps4
    go_wp2_with fail
    refine (hG _).mono ?_
    rintro e w1 ⟨u1, rfl, ho1, hb⟩
    obtain ⟨xa, xn, xc, hx⟩ := slShp (SlG.of_own ho1)
    subst hx
    have hal := bal' w1 (Obj.cells #[.int .i64 0, .slice xa xn xc] 24)
    have hb2 := hb.trans (hal.mono hb.size)
    replace hR := hR.below hb2
    have kb := hb0.trans (hb2.mono hb0.size)
    have s1 : w.heap.size + 1 ≤ w1.heap.size := by rw [← hz0]; exact hb.size
    clear hb hb0 ho1 hz0 hal hb2 hG
    go_wp2_with (refine store_T (cs := teCs teZ (tvN (.slice none 0 0) (.slice none 0 0))) (by rfl) 33 _ _ (by rfl) info_te (by rfl) (by rfl) hR (by rfl) (by rfl) ?_; intro w4 hg hR4 hz4)
    have s4 : w.heap.size ≤ w4.heap.size := by rw [hz4]; simp; omega
    exact bodyPost_ret (v := .tuple #[.agg (teCs teZ (tvN (.slice none 0 0) (.slice none 0 0))), .bool false]) (results_cell_tmp Try.results4 _ _ _ _ _ _ _ _ rfl rfl hR4 Try.underlying33 rfl info_te) rfl ⟨_, _, rfl, ownT_zero w4 _ s4, kb.grown hg kb.size (fun g e => by cases e; exact Nat.le_refl _)⟩
set_option maxHeartbeats 4000000 in
set_option maxRecDepth 20000 in
theorem implNewTerm_any (cols n : Int) (w : World) :
    Calls Try.prog 5 #[.int .i64 cols, .int .i64 n] w fun e w' => NtA w w' cols n e := by
  have hR := TB.new w [.int .i64 0, .slice none 0 0, .int .i64 0, .slice none 0 0, .int .i64 0, .int .i64 0, .int .i64 0, .int .i64 0, .bool false, .bool false, .bool false, .int .i64 0, .int .i64 0, .bool false, .bool false, .bool false, .bool false, .int .i64 0, .int .i64 0, .int .i64 0, .int .i64 0, .bool false, .bool false, .bool false, .slice none 0 0, .int .i64 0, .slice none 0 0, .int .i64 0, .slice none 0 0, .string ⟨#[]⟩]
  have hb0 := bal' w (Obj.cells #[.int .i64 0, .slice none 0 0, .int .i64 0, .slice none 0 0, .int .i64 0, .int .i64 0, .int .i64 0, .int .i64 0, .bool false, .bool false, .bool false, .int .i64 0, .int .i64 0, .bool false, .bool false, .bool false, .bool false, .int .i64 0, .int .i64 0, .int .i64 0, .int .i64 0, .bool false, .bool false, .bool false, .slice none 0 0, .int .i64 0, .slice none 0 0, .int .i64 0, .slice none 0 0, .string ⟨#[]⟩] 33)
  have hz0 : (w.alloc (Obj.cells #[.int .i64 0, .slice none 0 0, .int .i64 0, .slice none 0 0, .int .i64 0, .int .i64 0, .int .i64 0, .int .i64 0, .bool false, .bool false, .bool false, .int .i64 0, .int .i64 0, .bool false, .bool false, .bool false, .bool false, .int .i64 0, .int .i64 0, .int .i64 0, .int .i64 0, .bool false, .bool false, .bool false, .slice none 0 0, .int .i64 0, .slice none 0 0, .int .i64 0, .slice none 0 0, .string ⟨#[]⟩] 33)).heap.size = w.heap.size + 1 := by simp
  have hG := fun W => implNewGrid_any cols n W
  by_cases h : newOk cols n
  · have hV := newTm_yes h
    have hd := decide_eq_true h
    simp only [if_pos h, hd] at hG
    have hh := h
    unfold newOk at hh
    obtain ⟨cn, rfl⟩ : ∃ k : Nat, cols = k := ⟨cols.toNat, by omega⟩
    obtain ⟨nn, rfl⟩ : ∃ k : Nat, n = k := ⟨n.toNat, by omega⟩
    simp only [Int.toNat_natCast] at hV hG
    have hni : (1 : Int) ≤ (nn : Int) := by omega
    have hni2 : (nn : Int) ≤ 1000 := by omega
    unfold NtA
    rw [hV, hd]
    unfold gridV at hG
    clear h hV hd hh
    go_enter Try.func5, Try.ntmps5
    go_wp2_with fail
    refine (hG _).mono ?_
    rintro e w1 ⟨u1, rfl, ho1, hb⟩
    obtain ⟨xa, xn, xc, hx⟩ := slShp (SlG.of_own ho1)
    subst hx
    have og : OwnR w1 (w.heap.size + 1) w1.heap.size (.slice xa xn xc) (newR cn nn) := by rw [← hz0]; exact OwnR.of ho1
    have hal := bal' w1 (Obj.cells #[.int .i64 cn, .slice xa xn xc] 24)
    have hG1 := GrN.new w1 cn (.slice xa xn xc) 24
    have hb2 := hb.trans (hal.mono hb.size)
    replace hR := hR.below hb2
    have kb := hb0.trans (hb2.mono hb0.size)
    replace og := og.below hal
    have s1 : w.heap.size + 1 ≤ w1.heap.size := by rw [← hz0]; exact hb.size
    have sa : (w1.alloc (Obj.cells #[.int .i64 cn, .slice xa xn xc] 24)).heap.size = w1.heap.size + 1 := by simp
    clear hb hb0 ho1 hz0 hal hb2
    go_wp2_with fail
    refine (hG _).mono ?_
    rintro e w2 ⟨u2, rfl, ho2, hb⟩
    obtain ⟨ya, yn, yc, hy⟩ := slShp (SlG.of_own ho2)
    subst hy
    have oo : OwnR w2 (w1.heap.size + 1) w2.heap.size (.slice ya yn yc) (newR cn nn) := by rw [← sa]; exact OwnR.of ho2
    have s2 : w1.heap.size + 1 ≤ w2.heap.size := by rw [← sa]; exact hb.size
    have hal := bal' w2 (Obj.cells #[.int .i64 cn, .slice ya yn yc] 24)
    have hG2 := GrN.new w2 cn (.slice ya yn yc) 24
    have hb2 := hb.trans (hal.mono hb.size)
    replace hR := hR.below hb2
    replace kb := kb.trans (hb2.mono kb.size)
    replace og := og.below hb2
    replace oo := oo.below hal
    replace hG1 := hG1.below hb2
    have s3 : (w2.alloc (Obj.cells #[.int .i64 cn, .slice ya yn yc] 24)).heap.size = w2.heap.size + 1 := by simp
    obtain ⟨_, c0, c1⟩ := hG1
    obtain ⟨_, d0, d1⟩ := hG2
    clear hb ho2 hal hb2 hG sa
    go_wp2_with (refine store_T (cs := teCs (newT cn nn (newR cn nn)) (tvN (.slice xa xn xc) (.slice ya yn yc))) (by rfl) 33 _ _ (by rfl) info_te (by rfl) (by rfl) hR (by rfl) (by rfl) ?_; intro w4 hg hR4 hz4)
    have hO : OwnT w4 w.heap.size (newT cn nn (newR cn nn)) (tvN (.slice xa xn xc) (.slice ya yn yc)) :=
      ⟨w1.heap.size + 1, w2.heap.size, w2.heap.size, ⟨((OwnR.low (og.grown hg (by omega)) (by omega)).1).up (by omega), fun g e => by have := og.2.1 g e; omega, by rw [hz4, s3]; omega⟩, oo.grown hg (by omega), (LiOk.nil _ _).nilc.nilc.nilc, by omega, by omega, Nat.le_refl _, by rw [hz4, s3]; omega⟩
    exact bodyPost_ret (v := .tuple #[.agg (teCs (newT cn nn (newR cn nn)) (tvN (.slice xa xn xc) (.slice ya yn yc))), .bool true]) (results_cell_tmp Try.results5 _ _ _ _ _ _ _ _ rfl rfl hR4 Try.underlying33 rfl info_te) rfl ⟨_, _, rfl, hO, kb.grown hg kb.size (fun g e => by cases e; exact Nat.le_refl _)⟩
  · have hV := newTm_no h
    have hd := decide_eq_false h
    simp only [if_neg h, hd] at hG
    unfold NtA
    rw [hV, hd]
    unfold gridV at hG
    clear h hV hd
    go_enter Try.func5, Try.ntmps5
    go_wp2_with fail
    refine (hG _).mono ?_
    rintro e w1 ⟨u1, rfl, ho1, hb⟩
    obtain ⟨xa, xn, xc, hx⟩ := slShp (SlG.of_own ho1)
    subst hx
    have hal := bal' w1 (Obj.cells #[.int .i64 0, .slice xa xn xc] 24)
    have hb2 := hb.trans (hal.mono hb.size)
    replace hR := hR.below hb2
    have kb := hb0.trans (hb2.mono hb0.size)
    have s1 : w.heap.size + 1 ≤ w1.heap.size := by rw [← hz0]; exact hb.size
    clear hb hb0 ho1 hz0 hal hb2 hG
    go_wp2_with (refine store_T (cs := teCs teZ (tvN (.slice none 0 0) (.slice none 0 0))) (by rfl) 33 _ _ (by rfl) info_te (by rfl) (by rfl) hR (by rfl) (by rfl) ?_; intro w4 hg hR4 hz4)
    have s4 : w.heap.size ≤ w4.heap.size := by rw [hz4]; simp; omega
    exact bodyPost_ret (v := .tuple #[.agg (teCs teZ (tvN (.slice none 0 0) (.slice none 0 0))), .bool false]) (results_cell_tmp Try.results5 _ _ _ _ _ _ _ _ rfl rfl hR4 Try.underlying33 rfl info_te) rfl ⟨_, _, rfl, ownT_zero w4 _ s4, kb.grown hg kb.size (fun g e => by cases e; exact Nat.le_refl _)⟩
end Go.Proofs.Ytpmaibkakkfaeaa
namespace Go.Proofs.Ytpmaibkakkfaeaa
open Go.ChangeShapes Go.WideShapes Go.ChangeAt Go.RowKit
set_option maxHeartbeats 4000000 in
theorem eqCSS_same (va vb : Value) (rows : List (List Ce)) (w : World) (ha : SlG w va rows) (hb : SlG w vb rows) (hl : rows.length ≤ 1073741824) (hx : ∀ i, i < rows.length → (rowX rows i).length ≤ 1073741824) :
    Calls Try.prog 27 #[va, vb] w fun e w' => e = .returned (.bool true) ∧ Below w.heap.size w w' := by
  obtain ⟨a, c, vs, rfl, _, _, hr, hs⟩ := id ha
  obtain ⟨a2, c2, vs2, rfl, _, _, hr2, hs2⟩ := id hb
  clear ha hb
  go_enter Try.func27, Try.ntmps27
  go_wp2
  go_loopw [5] (fun i wr => ∃ j : Nat, i = .int .i64 j ∧ j ≤ rows.length ∧ Below w.heap.size w wr) (fun i _ => rows.length - (intOf i).toNat)
  case atStart => exact ⟨0, rfl, Nat.zero_le _, Below.refl _ _⟩
  case round =>
    obtain ⟨j, rfl, hj, kb⟩ := hrel
    by_cases hlt : j < rows.length
    · have hji : (j : Int) < (rows.length : Int) := by omega
      have hj0 : (0 : Int) ≤ (j : Int) := by omega
      rcases hr with h | ⟨b, off, rfl, hbb, hrc⟩
      · rw [h] at hlt; simp at hlt
      rcases hr2 with h | ⟨b2, off2, rfl, hbb2, hrc2⟩
      · rw [h] at hlt; simp at hlt
      have hsj := (hs j hlt).below kb
      have hsj2 := (hs2 j hlt).below kb
      have hcj := (kb.cell (p := ⟨b, off + j, none⟩) hbb).trans (hrc j hlt)
      have hcj2 := (kb.cell (p := ⟨b2, off2 + j, none⟩) hbb2).trans (hrc2 j hlt)
      obtain ⟨aj, cj, ev, _⟩ := id hsj
      obtain ⟨aj2, cj2, ev2, _⟩ := id hsj2
      rw [ev] at hcj hsj
      rw [ev2] at hcj2 hsj2
      have heq := fun W (hW : Below wr.heap.size wr W) => eqC_same _ _ _ W (hsj.below hW) (hsj2.below hW) (hx j hlt)
      clear hs hs2 hrc hrc2 ev ev2 hsj hsj2
      go_wp2
      go_region_with (go_at_call 33; refine (heq _ (bdr _)).mono ?_; rintro e w2 ⟨rfl, hb2⟩)
      all_goals
        have kb2 := (kb.trans ((bdr wr).mono kb.size)).trans (hb2.mono kb.size)
        clear kb hb2 heq
        go_wp2
        go_roundw
        case rel => exact ⟨j + 1, by go_num, by omega, by first | exact kb2 | exact kb2.drew⟩
        case measure => simp [intOf]; omega
    · have hjn : j = rows.length := by omega
      have hji : ¬ (j : Int) < (rows.length : Int) := by omega
      subst hjn
      clear hs hs2 hr hr2
      go_wp2
      go_ret
      exact ⟨rfl, kb⟩
set_option maxHeartbeats 2000000 in
theorem eqGrid_same (cols : Int) (va vb : Value) (rows : List (List Ce)) (w : World) (ha : SlG w va rows) (hb : SlG w vb rows) (hl : rows.length ≤ 1073741824) (hx : ∀ i, i < rows.length → (rowX rows i).length ≤ 1073741824) :
    Calls Try.prog 12 #[gridV cols va, gridV cols vb] w fun e w' => e = .returned (.bool true) ∧ Below w.heap.size w w' := by
  have hb0 := bal' w (Obj.cells #[.int .i64 cols, va] 24)
  have hb1 := bal' (w.alloc (Obj.cells #[.int .i64 cols, va] 24)) (Obj.cells #[.int .i64 cols, vb] 24)
  have hG0 := (GrN.new w cols va 24).below hb1
  have hG1 := GrN.new (w.alloc (Obj.cells #[.int .i64 cols, va] 24)) cols vb 24
  have e0 : (w.alloc (Obj.cells #[.int .i64 cols, va] 24)).heap.size = w.heap.size + 1 := by simp
  rw [e0] at hG1
  have heq := fun W h1 h2 => eqCSS_same va vb rows W h1 h2 hl hx
  have hbb := hb0.trans (hb1.mono hb0.size)
  have ha1 := ha.below hbb
  have hb2 := hb.below hbb
  obtain ⟨a, c, vs, rfl, _⟩ := id ha
  obtain ⟨a2, c2, vs2, rfl, _⟩ := id hb
  unfold gridV
  obtain ⟨_, g0, g1⟩ := id hG0
  obtain ⟨_, f0, f1⟩ := id hG1
  go_enter Try.func12, Try.ntmps12
  go_wp2_with fail
  refine (heq _ ha1 hb2).mono ?_
  rintro e w2 ⟨rfl, hw⟩
  go_wp2
  go_ret
  exact ⟨rfl, hbb.trans (hw.mono hbb.size)⟩
end Go.Proofs.Ytpmaibkakkfaeaa
namespace Go.Proofs.Ytpmaibkakkfaeaa
open Go.ChangeShapes Go.WideShapes Go.ChangeAt Go.RowKit
theorem eqFeeder_same (h : ByteArray) (w : World) :
    Calls Try.prog 16 #[.agg #[.string h], .agg #[.string h]] w fun e w' => e = .returned (.bool true) ∧ Below w.heap.size w w' := by
  go_enter Try.func16, Try.ntmps16
  go_wp2
  go_ret
  exact ⟨rfl, ((Below.refl _ _).alloc (Nat.le_refl _) _).alloc (by simp) _⟩

end Go.Proofs.Ytpmaibkakkfaeaa
namespace Go.Proofs.Ytpmaibkakkfaeaa
open Go.ChangeShapes Go.WideShapes Go.ChangeAt Go.RowKit
set_option maxHeartbeats 8000000 in
set_option maxRecDepth 20000 in
theorem eqTerm_same (t : Te) (v v2 : Tv) (w : World) (h : SlT w t v) (h2 : SlT w t v2) (hz : SzT 1048576 t) :
    Calls Try.prog 6 #[teV t v, teV t v2] w fun e w' => e = .returned (.bool true) ∧ Below w.heap.size w w' := by
  obtain ⟨vg, vo, vti, vpp, vpt⟩ := v
  obtain ⟨hg, ho, hti, hpp, hpt⟩ := h
  obtain ⟨vg2, vo2, vti2, vpp2, vpt2⟩ := v2
  obtain ⟨hg2, ho2, hti2, hpp2, hpt2⟩ := h2
  simp only at hg ho hti hpp hpt hg2 ho2 hti2 hpp2 hpt2
  obtain ⟨z1, z2, z3, z4, z5, z6, z7⟩ := hz
  have cG := fun W h1 h2 => eqGrid_same t.gc vg vg2 t.g W h1 h2 (by omega) (fun i hi => by have := z2 i hi; omega)
  have cO := fun W h1 h2 => eqGrid_same t.oc vo vo2 t.o W h1 h2 (by omega) (fun i hi => by have := z4 i hi; omega)
  have cS := fun W => eqStyle_same t.st W
  have cSs := fun W => eqStyle_same t.ss W
  have cT := fun W h1 h2 => eqI_same vti vti2 t.ti W h1 h2 (by omega)
  have cP := fun W h1 h2 h3 h4 => eqParser_same t.pa vpp vpt vpp2 vpt2 W h1 h2 h3 h4 (by omega) (by omega)
  have cF := fun W => eqFeeder_same t.fe W
  obtain ⟨ga, gp, hq1⟩ := slG_shp hg
  obtain ⟨oa, op, hq2⟩ := slG_shp ho
  obtain ⟨tia, tip, hq3⟩ := hti.shp
  obtain ⟨ppa, ppp, hq4⟩ := hpp.shp
  obtain ⟨pta, ptp, hq5⟩ := hpt.shp
  obtain ⟨ga2, gp2, hq6⟩ := slG_shp hg2
  obtain ⟨oa2, op2, hq7⟩ := slG_shp ho2
  obtain ⟨tia2, tip2, hq8⟩ := hti2.shp
  obtain ⟨ppa2, ppp2, hq9⟩ := hpp2.shp
  obtain ⟨pta2, ptp2, hq10⟩ := hpt2.shp
  subst hq1; subst hq2; subst hq3; subst hq4; subst hq5; subst hq6; subst hq7; subst hq8; subst hq9; subst hq10
  have hb1 := bal' w (Obj.cells (teCs t ⟨.slice ga t.g.length gp, .slice oa t.o.length op, .slice tia t.ti.length tip, .slice ppa t.pa.params.length ppp, .slice pta t.pa.text.length ptp⟩) 33)
  have hb2 := bal' (w.alloc (Obj.cells (teCs t ⟨.slice ga t.g.length gp, .slice oa t.o.length op, .slice tia t.ti.length tip, .slice ppa t.pa.params.length ppp, .slice pta t.pa.text.length ptp⟩) 33)) (Obj.cells (teCs t ⟨.slice ga2 t.g.length gp2, .slice oa2 t.o.length op2, .slice tia2 t.ti.length tip2, .slice ppa2 t.pa.params.length ppp2, .slice pta2 t.pa.text.length ptp2⟩) 33)
  have hX0 := (TeB.new w 33 t ⟨.slice ga t.g.length gp, .slice oa t.o.length op, .slice tia t.ti.length tip, .slice ppa t.pa.params.length ppp, .slice pta t.pa.text.length ptp⟩).below hb2
  have hY0 := TeB.new (w.alloc (Obj.cells (teCs t ⟨.slice ga t.g.length gp, .slice oa t.o.length op, .slice tia t.ti.length tip, .slice ppa t.pa.params.length ppp, .slice pta t.pa.text.length ptp⟩) 33)) 33 t ⟨.slice ga2 t.g.length gp2, .slice oa2 t.o.length op2, .slice tia2 t.ti.length tip2, .slice ppa2 t.pa.params.length ppp2, .slice pta2 t.pa.text.length ptp2⟩
  have kb := hb1.trans (hb2.mono hb1.size)
  rw [show (w.alloc (Obj.cells (teCs t ⟨.slice ga t.g.length gp, .slice oa t.o.length op, .slice tia t.ti.length tip, .slice ppa t.pa.params.length ppp, .slice pta t.pa.text.length ptp⟩) 33)).heap.size = w.heap.size + 1 by simp] at hY0
  obtain ⟨w2, hw2⟩ : ∃ w2, w2 = (w.alloc (Obj.cells (teCs t ⟨.slice ga t.g.length gp, .slice oa t.o.length op, .slice tia t.ti.length tip, .slice ppa t.pa.params.length ppp, .slice pta t.pa.text.length ptp⟩) 33)).alloc (Obj.cells (teCs t ⟨.slice ga2 t.g.length gp2, .slice oa2 t.o.length op2, .slice tia2 t.ti.length tip2, .slice ppa2 t.pa.params.length ppp2, .slice pta2 t.pa.text.length ptp2⟩) 33) := ⟨_, rfl⟩
  rw [← hw2] at hX0 hY0 kb
  replace hw2 := (show Hid _ from hw2)
  have hX := hX0
  have hY := hY0
  clear z1 z2 z3 z4 z5 z6 z7 hb1 hb2 hX0 hY0
  unfold teV gridV stV paV at *
  go_enter Try.func6, Try.ntmps6
  refine wp_seq_k (fun K hK => ?_)
  have hH := (show Hid _ from hK)
  clear hK
  go_wp2
  refine hH.out _ _ ?_
  rw [← hw2.out]
  clear hH hw2
  obtain ⟨c0, c1, c2, c3, c4, c5, c6, c7, c8, c9, c10, c11, c12, c13, c14, c15, c16, c17, c18, c19, c20, c21, c22, c23, c24, c25, c26, c27, c28, c29⟩ := hX.cells
  obtain ⟨d0, d1, d2, d3, d4, d5, d6, d7, d8, d9, d10, d11, d12, d13, d14, d15, d16, d17, d18, d19, d20, d21, d22, d23, d24, d25, d26, d27, d28, d29⟩ := hY.cells
  go_wp2_with fail
  refine (cG _ (hg.below kb) (hg2.below kb)).mono ?_
  rintro e w3 ⟨rfl, hb⟩
  replace kb := kb.trans (hb.mono kb.size)
  replace hX := hX.below hb
  replace hY := hY.below hb
  clear c0 c1 c2 c3 c4 c5 c6 c7 c8 c9 c10 c11 c12 c13 c14 c15 c16 c17 c18 c19 c20 c21 c22 c23 c24 c25 c26 c27 c28 c29
  clear d0 d1 d2 d3 d4 d5 d6 d7 d8 d9 d10 d11 d12 d13 d14 d15 d16 d17 d18 d19 d20 d21 d22 d23 d24 d25 d26 d27 d28 d29
  clear hb
  obtain ⟨c0, c1, c2, c3, c4, c5, c6, c7, c8, c9, c10, c11, c12, c13, c14, c15, c16, c17, c18, c19, c20, c21, c22, c23, c24, c25, c26, c27, c28, c29⟩ := hX.cells
  obtain ⟨d0, d1, d2, d3, d4, d5, d6, d7, d8, d9, d10, d11, d12, d13, d14, d15, d16, d17, d18, d19, d20, d21, d22, d23, d24, d25, d26, d27, d28, d29⟩ := hY.cells
  go_wp2_with fail
  refine (cO _ (ho.below kb) (ho2.below kb)).mono ?_
  rintro e w4 ⟨rfl, hb⟩
  replace kb := kb.trans (hb.mono kb.size)
  replace hX := hX.below hb
  replace hY := hY.below hb
  clear c0 c1 c2 c3 c4 c5 c6 c7 c8 c9 c10 c11 c12 c13 c14 c15 c16 c17 c18 c19 c20 c21 c22 c23 c24 c25 c26 c27 c28 c29
  clear d0 d1 d2 d3 d4 d5 d6 d7 d8 d9 d10 d11 d12 d13 d14 d15 d16 d17 d18 d19 d20 d21 d22 d23 d24 d25 d26 d27 d28 d29
  clear hb
  obtain ⟨c0, c1, c2, c3, c4, c5, c6, c7, c8, c9, c10, c11, c12, c13, c14, c15, c16, c17, c18, c19, c20, c21, c22, c23, c24, c25, c26, c27, c28, c29⟩ := hX.cells
  obtain ⟨d0, d1, d2, d3, d4, d5, d6, d7, d8, d9, d10, d11, d12, d13, d14, d15, d16, d17, d18, d19, d20, d21, d22, d23, d24, d25, d26, d27, d28, d29⟩ := hY.cells
  go_wp2_with fail
  refine (cS _).mono ?_
  rintro e w5 ⟨rfl, hb⟩
  replace kb := kb.trans (hb.mono kb.size)
  replace hX := hX.below hb
  replace hY := hY.below hb
  clear c0 c1 c2 c3 c4 c5 c6 c7 c8 c9 c10 c11 c12 c13 c14 c15 c16 c17 c18 c19 c20 c21 c22 c23 c24 c25 c26 c27 c28 c29
  clear d0 d1 d2 d3 d4 d5 d6 d7 d8 d9 d10 d11 d12 d13 d14 d15 d16 d17 d18 d19 d20 d21 d22 d23 d24 d25 d26 d27 d28 d29
  clear hb
  obtain ⟨c0, c1, c2, c3, c4, c5, c6, c7, c8, c9, c10, c11, c12, c13, c14, c15, c16, c17, c18, c19, c20, c21, c22, c23, c24, c25, c26, c27, c28, c29⟩ := hX.cells
  obtain ⟨d0, d1, d2, d3, d4, d5, d6, d7, d8, d9, d10, d11, d12, d13, d14, d15, d16, d17, d18, d19, d20, d21, d22, d23, d24, d25, d26, d27, d28, d29⟩ := hY.cells
  go_wp2_with fail
  refine (cSs _).mono ?_
  rintro e w6 ⟨rfl, hb⟩
  replace kb := kb.trans (hb.mono kb.size)
  replace hX := hX.below hb
  replace hY := hY.below hb
  clear c0 c1 c2 c3 c4 c5 c6 c7 c8 c9 c10 c11 c12 c13 c14 c15 c16 c17 c18 c19 c20 c21 c22 c23 c24 c25 c26 c27 c28 c29
  clear d0 d1 d2 d3 d4 d5 d6 d7 d8 d9 d10 d11 d12 d13 d14 d15 d16 d17 d18 d19 d20 d21 d22 d23 d24 d25 d26 d27 d28 d29
  clear hb
  obtain ⟨c0, c1, c2, c3, c4, c5, c6, c7, c8, c9, c10, c11, c12, c13, c14, c15, c16, c17, c18, c19, c20, c21, c22, c23, c24, c25, c26, c27, c28, c29⟩ := hX.cells
  obtain ⟨d0, d1, d2, d3, d4, d5, d6, d7, d8, d9, d10, d11, d12, d13, d14, d15, d16, d17, d18, d19, d20, d21, d22, d23, d24, d25, d26, d27, d28, d29⟩ := hY.cells
  go_wp2_with fail
  refine (cT _ (hti.below kb).l.sl (hti2.below kb).l.sl).mono ?_
  rintro e w7 ⟨rfl, nd, hwd⟩
  have hb : Below _ _ w7 := hwd ▸ drewN_bel _ nd
  clear hwd
  replace kb := kb.trans (hb.mono kb.size)
  replace hX := hX.below hb
  replace hY := hY.below hb
  clear c0 c1 c2 c3 c4 c5 c6 c7 c8 c9 c10 c11 c12 c13 c14 c15 c16 c17 c18 c19 c20 c21 c22 c23 c24 c25 c26 c27 c28 c29
  clear d0 d1 d2 d3 d4 d5 d6 d7 d8 d9 d10 d11 d12 d13 d14 d15 d16 d17 d18 d19 d20 d21 d22 d23 d24 d25 d26 d27 d28 d29
  clear hb
  obtain ⟨c0, c1, c2, c3, c4, c5, c6, c7, c8, c9, c10, c11, c12, c13, c14, c15, c16, c17, c18, c19, c20, c21, c22, c23, c24, c25, c26, c27, c28, c29⟩ := hX.cells
  obtain ⟨d0, d1, d2, d3, d4, d5, d6, d7, d8, d9, d10, d11, d12, d13, d14, d15, d16, d17, d18, d19, d20, d21, d22, d23, d24, d25, d26, d27, d28, d29⟩ := hY.cells
  go_wp2_with fail
  refine (cP _ (hpp.below kb).l.sl (hpt.below kb).l.sl (hpp2.below kb).l.sl (hpt2.below kb).l.sl).mono ?_
  rintro e w8 ⟨rfl, hb⟩
  replace kb := kb.trans (hb.mono kb.size)
  replace hX := hX.below hb
  replace hY := hY.below hb
  clear c0 c1 c2 c3 c4 c5 c6 c7 c8 c9 c10 c11 c12 c13 c14 c15 c16 c17 c18 c19 c20 c21 c22 c23 c24 c25 c26 c27 c28 c29
  clear d0 d1 d2 d3 d4 d5 d6 d7 d8 d9 d10 d11 d12 d13 d14 d15 d16 d17 d18 d19 d20 d21 d22 d23 d24 d25 d26 d27 d28 d29
  clear hb
  obtain ⟨c0, c1, c2, c3, c4, c5, c6, c7, c8, c9, c10, c11, c12, c13, c14, c15, c16, c17, c18, c19, c20, c21, c22, c23, c24, c25, c26, c27, c28, c29⟩ := hX.cells
  obtain ⟨d0, d1, d2, d3, d4, d5, d6, d7, d8, d9, d10, d11, d12, d13, d14, d15, d16, d17, d18, d19, d20, d21, d22, d23, d24, d25, d26, d27, d28, d29⟩ := hY.cells
  go_wp2_with fail
  refine (cF _).mono ?_
  rintro e w9 ⟨rfl, hb⟩
  replace kb := kb.trans (hb.mono kb.size)
  clear c0 c1 c2 c3 c4 c5 c6 c7 c8 c9 c10 c11 c12 c13 c14 c15 c16 c17 c18 c19 c20 c21 c22 c23 c24 c25 c26 c27 c28 c29
  clear d0 d1 d2 d3 d4 d5 d6 d7 d8 d9 d10 d11 d12 d13 d14 d15 d16 d17 d18 d19 d20 d21 d22 d23 d24 d25 d26 d27 d28 d29
  clear hb
  go_wp2
  go_ret
  exact ⟨rfl, kb⟩
end Go.Proofs.Ytpmaibkakkfaeaa
namespace Go.Proofs.Ytpmaibkakkfaeaa
open Go.ChangeShapes Go.WideShapes Go.ChangeAt Go.RowKit
set_option maxHeartbeats 4000000 in
/-- A parser's lists are marked, others of this call's are as they were. -/
theorem markParser_own (p : Pa) (pv tv : Value) (k : Nat) (base : Nat) (R : List (Value × List Int)) (w : World) (h : LiOk w base ((pv, p.params) :: (tv, p.text) :: R)) (_hb : base ≤ w.heap.size) (hk : k ≤ 1048576) (hpl : p.params.length ≤ 1048576) (htl : p.text.length ≤ 1048576) :
    Calls Try.prog 19 #[paV p pv tv, .int .i64 k] w fun e w' => e = .returned (.int .i64 ((k + p.params.length + p.text.length : Nat) : Int)) ∧ LiOk w' base ((pv, marksI k p.params.length) :: (tv, marksI ((k + p.params.length : Nat) : Int) p.text.length) :: R) ∧ GrV pv tv w w' := by
  obtain ⟨s, ps, m, ts⟩ := p
  have hb0 := bal' w (Obj.cells #[.int .i64 s, pv, .int .i64 m, tv] 29)
  have hP := PbB.new w s m pv tv
  have h0 := h.below hb0
  have m1 := markI_own base pv k ps.length (ps.map (Value.int .i64)) _ h0.head ⟨by omega, by omega⟩ (by simp only at hpl; omega)
  have m2 := fun W (hW : OwnI W base tv ts) => markI_own base tv ((k + ps.length : Nat) : Int) ts.length (ts.map (Value.int .i64)) W hW ⟨by omega, by simp only at hpl; omega⟩ (by simp only at htl; omega)
  have n1 : Hid ((k : Int) + (ps.length : Int) = ((k + ps.length : Nat) : Int)) := by show _ = _; omega
  have n2 : Hid (((k + ps.length : Nat) : Int) + (ts.length : Int) = ((k + ps.length + ts.length : Nat) : Int)) := by show _ = _; omega
  rw [n1.out] at m1
  unfold paV at *
  simp only at *
  obtain ⟨pa, pn, pc, hpv⟩ := h.head.shape
  obtain ⟨ta, tn, tc, htv⟩ := h.tail.head.shape
  simp only at hpv htv
  subst hpv; subst htv
  have hGr : GrV (.slice pa pn pc) (.slice ta tn tc) w (w.alloc (Obj.cells #[.int .i64 s, .slice pa pn pc, .int .i64 m, .slice ta tn tc] 29)) := GrV.of_below hb0
  obtain ⟨c0, c1, c2, c3⟩ := hP.cells
  have hs : ∀ W, (w.alloc (Obj.cells #[.int .i64 s, .slice pa pn pc, .int .i64 m, .slice ta tn tc] 29)).grownBy W (Value.slice pa pn pc).ownBlock → PbB W w.heap.size s (.slice pa pn pc) m (.slice ta tn tc) := fun W hg => hP.kept hg (h0.head.not_block hP (by decide))
  clear h
  go_enter Try.func19, Try.ntmps19
  go_wp2_with fail
  refine m1.mono ?_
  rintro e w3 ⟨rfl, ho3, hg3⟩
  have hP3 := hs w3 hg3
  have hL3 : LiOk w3 base ((.slice pa pn pc, marksI k ps.length) :: (.slice ta tn tc, ts) :: R) := h0.grow hg3 (by unfold OwnI; rw [marksI_len]; exact ho3) (fun g e => .inl e)
  have hG3 := hGr.grown hg3 (fun g e => .inl e)
  have m3 := m2 w3 hL3.tail.head
  rw [n2.out] at m3
  clear m1 m2 hs hGr hP h0 hg3 ho3 c0 c1 c2 c3
  obtain ⟨c0, c1, c2, c3⟩ := hP3.cells
  go_wp2_with fail
  refine m3.mono ?_
  rintro e w4 ⟨rfl, ho4, hg4⟩
  have hL4 : LiOk w4 base ((.slice pa pn pc, marksI k ps.length) :: (.slice ta tn tc, marksI ((k + ps.length : Nat) : Int) ts.length) :: R) :=
    ((hL3.perm (List.Perm.swap _ _ _)).grow hg4 (show OwnI w4 base _ _ from by unfold OwnI; rw [marksI_len]; exact ho4) (fun g e => .inl e)).perm (List.Perm.swap _ _ _)
  have hG4 := hG3.grown hg4 (fun g e => .inr (.inl e))
  clear m3 hP3 hL3 hG3 hg4 ho4 c0 c1 c2 c3
  go_wp2
  go_ret
  exact ⟨rfl, hL4, hG4⟩
set_option maxHeartbeats 4000000 in
theorem heldParser_marks (p : Pa) (pv tv : Value) (k n m2 : Nat) (w : World) (hp : SlI w pv (marksI k n)) (ht : SlI w tv (marksI ((k + n : Nat) : Int) m2)) (hpp : p.params = marksI k n) (htt : p.text = marksI ((k + n : Nat) : Int) m2) (hk : k ≤ 1048576) (hn : n ≤ 1048576) (hm : m2 ≤ 1048576) :
    Calls Try.prog 22 #[paV p pv tv, .int .i64 k] w fun e w' => e = .returned (.int .i64 ((k + n + m2 : Nat) : Int)) ∧ Below w.heap.size w w' := by
  obtain ⟨s, ps, m, ts⟩ := p
  have hb0 := bal' w (Obj.cells #[.int .i64 s, pv, .int .i64 m, tv] 29)
  have hP := PbB.new w s m pv tv
  have q1 := heldI_marks pv k n _ (hp.below hb0) ⟨by omega, by omega⟩ (by omega)
  have q2 := heldI_marks tv ((k + n : Nat) : Int) m2 _ (ht.below hb0) ⟨by omega, by omega⟩ (by omega)
  have n1 : Hid ((k : Int) + (n : Int) = ((k + n : Nat) : Int)) := by show _ = _; omega
  have n2 : Hid (((k + n : Nat) : Int) + (m2 : Int) = ((k + n + m2 : Nat) : Int)) := by show _ = _; omega
  rw [n1.out] at q1
  rw [n2.out] at q2
  have g1 : ¬ (((k + n : Nat) : Int) < 0) := by omega
  have g2 : ¬ (((k + n + m2 : Nat) : Int) < 0) := by omega
  unfold paV at *
  simp only at *
  obtain ⟨pa, pc, hpv⟩ := hp.shp
  obtain ⟨ta, tc, htv⟩ := ht.shp
  rw [marksI_len] at hpv htv
  subst hpv; subst htv
  obtain ⟨c0, c1, c2, c3⟩ := hP.cells
  clear hp ht hP hpp htt
  go_enter Try.func22, Try.ntmps22
  go_wp2_with fail
  refine q1.mono ?_
  rintro e w3 ⟨rfl, hw⟩
  subst hw
  clear q1
  go_wp2_with fail
  refine q2.mono ?_
  rintro e w4 ⟨rfl, hw⟩
  subst hw
  clear q2
  go_wp2
  go_ret
  exact ⟨rfl, hb0⟩
end Go.Proofs.Ytpmaibkakkfaeaa
namespace Go.Proofs.Ytpmaibkakkfaeaa
open Go.ChangeShapes Go.WideShapes Go.ChangeAt Go.RowKit
theorem TeB.gr {lo hi B : Nat} {w w' : World} {T : TypeId} {t : Te} {v : Tv} (h : TeB w B T t v) (hg : GrB lo hi w w') (hne : B < lo ∨ hi ≤ B) : TeB w' B T t v := by
  unfold TeB
  rw [hg.2.2.2.2 B h.lt hne]
  exact h
theorem TB.gr {lo hi B : Nat} {w w' : World} {cs : List Value} (h : TB w B cs) (hg : GrB lo hi w w') (hne : B < lo ∨ hi ≤ B) : TB w' B cs := by
  unfold TB BlkC
  rw [hg.2.2.2.2 B h.lt hne]
  exact h
theorem LiOk.gr {lo hi base : Nat} {w w' : World} {L : List (Value × List Int)} (h : LiOk w base L) (hg : GrB lo hi w w') (hne : hi ≤ base) : LiOk w' base L :=
  ⟨fun p hp => World.ownsRow.gr (h.1 p hp) hg (fun g e => .inr (by have := ((h.1 p hp).lt g e).1; omega)), h.2⟩
theorem TB.grv {u v : Value} {w w' : World} {B : Nat} {cs : List Value} (h : TB w B cs) (hg : GrV u v w w') (h1 : u.ownBlock ≠ some B) (h2 : v.ownBlock ≠ some B) : TB w' B cs := by
  unfold TB BlkC
  rw [hg.2.2.2.2 B h.lt h1 h2]
  exact h
theorem GrV.grB {u v : Value} {w w' : World} {b : Nat} (h : GrV u v w w') (hu : ∀ g, u.ownBlock = some g → b ≤ g) (hv : ∀ g, v.ownBlock = some g → b ≤ g) : GrB b w.heap.size w w' :=
  ⟨h.1, h.2.1, h.2.2.1, h.2.2.2.1, fun k hk ho => h.2.2.2.2 k hk (fun e => by have := hu k e; omega) (fun e => by have := hv k e; omega)⟩
theorem GrV.of_gr {u : Value} {w w' : World} (h : w.grownBy w' u.ownBlock) : GrV u u w w' := ⟨h.os, h.tape, h.output, h.size, fun k hk h1 _ => h.block k hk (fun e => h1 e.symm)⟩
/-- A screen's lists, by their ranges. -/
def RgT (w : World) (base b1 b2 b3 : Nat) (t : Te) (v : Tv) : Prop := OwnR w base b1 v.g t.g ∧ OwnR w b1 b2 v.o t.o ∧ LiOk w b3 [(v.ti, t.ti), (v.pp, t.pa.params), (v.pt, t.pa.text)] ∧ base ≤ b1 ∧ b1 ≤ b2 ∧ b2 ≤ b3 ∧ b3 ≤ w.heap.size
theorem RgT.below {w w' : World} {base b1 b2 b3 : Nat} {t : Te} {v : Tv} (h : RgT w base b1 b2 b3 t v) (hb : Below w.heap.size w w') : RgT w' base b1 b2 b3 t v := by
  obtain ⟨h1, h2, h3, h4, h5, h6, h7⟩ := h
  exact ⟨h1.below hb, h2.below hb, h3.below hb, h4, h5, h6, Nat.le_trans h7 hb.size⟩
theorem RgT.sl {w : World} {base b1 b2 b3 : Nat} {t : Te} {v : Tv} (h : RgT w base b1 b2 b3 t v) : SlT w t v := ⟨h.1.sl, h.2.1.sl, SlN.of_own h.2.2.1.head, SlN.of_own h.2.2.1.tail.head, SlN.of_own h.2.2.1.tail.tail.head⟩
/-- How far the marks go. -/
def mkN (t : Te) : Nat := 7 * sumG t.g t.g.length + 7 * sumG t.o t.o.length + t.ti.length + t.pa.params.length + t.pa.text.length
/-- A screen marked from 1 on. -/
def mkT (t : Te) : Te := { t with
  g := marksG 1 t.g
  o := marksG (1 + 7 * sumG t.g t.g.length) t.o
  ti := marksI ((1 + 7 * sumG t.g t.g.length + 7 * sumG t.o t.o.length : Nat) : Int) t.ti.length
  pa := ⟨t.pa.state, marksI ((1 + 7 * sumG t.g t.g.length + 7 * sumG t.o t.o.length + t.ti.length : Nat) : Int) t.pa.params.length, t.pa.mark, marksI ((1 + 7 * sumG t.g t.g.length + 7 * sumG t.o t.o.length + t.ti.length + t.pa.params.length : Nat) : Int) t.pa.text.length⟩ }
set_option maxHeartbeats 8000000 in
set_option maxRecDepth 20000 in
theorem markTerm_r (t : Te) (v : Tv) (base b1 b2 b3 : Nat) (w : World) (h : RgT w base b1 b2 b3 t v) (hs1 : sumG t.g t.g.length ≤ 60000) (hs2 : sumG t.o t.o.length ≤ 60000) (hl1 : t.g.length ≤ 100000) (hl2 : t.o.length ≤ 100000) (hti : t.ti.length ≤ 10000) (hpp : t.pa.params.length ≤ 10000) (hpt : t.pa.text.length ≤ 10000) :
    Calls Try.prog 7 #[teV t v, .int .i64 1] w fun e w' => e = .returned (.int .i64 ((1 + mkN t : Nat) : Int)) ∧ RgT w' base b1 b2 b3 (mkT t) v ∧ Below base w w' ∧ ∀ B cs, b2 ≤ B → TB w B cs → TB w' B cs := by
  obtain ⟨vg, vo, vti, vpp, vpt⟩ := v
  obtain ⟨hg, ho, hL, hle1, hle2, hle3, hle4⟩ := h
  simp only at hg ho hL
  have cG := fun W (hW : OwnR W base b1 vg t.g) => markGrid_own base b1 t.gc vg 1 t.g W hW (by decide) (by omega) (by omega)
  have cO := fun W (hW : OwnR W b1 b2 vo t.o) => markGrid_own b1 b2 t.oc vo (1 + 7 * sumG t.g t.g.length) t.o W hW (by omega) (by omega) (by omega)
  have cT := fun W (hW : OwnI W b3 vti t.ti) => markI_own b3 vti ((1 + 7 * sumG t.g t.g.length + 7 * sumG t.o t.o.length : Nat) : Int) t.ti.length _ W hW ⟨by omega, by omega⟩ (by omega)
  have cP := fun W xs hW => markParser_own t.pa vpp vpt (1 + 7 * sumG t.g t.g.length + 7 * sumG t.o t.o.length + t.ti.length) b3 [(vti, xs)] W hW
  obtain ⟨ga, gn, gp, hq1⟩ := slShp hg.sl
  obtain ⟨oa, on, op, hq2⟩ := slShp ho.sl
  obtain ⟨ta, tn, tp, hq3⟩ := hL.head.shape
  obtain ⟨pa, pn, pp, hq4⟩ := hL.tail.head.shape
  obtain ⟨qa, qn, qp, hq5⟩ := hL.tail.tail.head.shape
  simp only at hq1 hq2 hq3 hq4 hq5
  subst hq1; subst hq2; subst hq3; subst hq4; subst hq5
  have hb0 := bal' w (Obj.cells (teCs t ⟨.slice ga gn gp, .slice oa on op, .slice ta tn tp, .slice pa pn pp, .slice qa qn qp⟩) 33)
  have hX := TeB.new w 33 t ⟨.slice ga gn gp, .slice oa on op, .slice ta tn tp, .slice pa pn pp, .slice qa qn qp⟩
  obtain ⟨w1, hw1⟩ : ∃ w1, w1 = w.alloc (Obj.cells (teCs t ⟨.slice ga gn gp, .slice oa on op, .slice ta tn tp, .slice pa pn pp, .slice qa qn qp⟩) 33) := ⟨_, rfl⟩
  rw [← hw1] at hb0 hX
  replace hw1 := (show Hid _ from hw1)
  unfold teV gridV paV at *
  have e1 : Hid (1 + 7 * sumG t.g t.g.length + 7 * sumG t.o t.o.length + t.ti.length + t.pa.params.length + t.pa.text.length = 1 + mkN t) := by show _ = _; unfold mkN; omega
  have e2 : Hid (((1 + 7 * sumG t.g t.g.length + 7 * sumG t.o t.o.length : Nat) : Int) + (t.ti.length : Int) = ((1 + 7 * sumG t.g t.g.length + 7 * sumG t.o t.o.length + t.ti.length : Nat) : Int)) := by show _ = _; omega
  simp only [e2.out] at cT
  have kT : ∀ B cs, b2 ≤ B → TB w B cs → TB w1 B cs := fun B cs _ hT => hT.below hb0
  replace hg := hg.below hb0
  replace ho := ho.below hb0
  replace hL := hL.below hb0
  have kb : Below base w w1 := hb0.mono (by omega)
  go_enter Try.func7, Try.ntmps7
  refine wp_seq_k (fun K hK => ?_)
  have hH := (show Hid _ from hK)
  clear hK
  go_wp2
  refine hH.out _ _ ?_
  rw [← hw1.out]
  clear hH hw1
  obtain ⟨c0, c1, c2, c3, c4, c5, c6, c7, c8, c9, c10, c11, c12, c13, c14, c15, c16, c17, c18, c19, c20, c21, c22, c23, c24, c25, c26, c27, c28, c29⟩ := hX.cells
  go_wp2_with fail
  refine (cG _ hg).mono ?_
  rintro e w2 ⟨rfl, hg2, hgr⟩
  replace ho := ho.gr hgr (.inr (Nat.le_refl _))
  replace hL := hL.gr hgr (by omega)
  replace hX := hX.gr hgr (.inr (by omega))
  have kT2 : ∀ B cs, b2 ≤ B → TB w B cs → TB w2 B cs := fun B cs hB hT => (kT B cs hB hT).gr hgr (.inr (by omega))
  replace kb := kb.trans (hgr.to_below (Nat.le_refl _) (by have := kb.size; omega))
  clear c0 c1 c2 c3 c4 c5 c6 c7 c8 c9 c10 c11 c12 c13 c14 c15 c16 c17 c18 c19 c20 c21 c22 c23 c24 c25 c26 c27 c28 c29
  clear hgr kT cG hg
  obtain ⟨c0, c1, c2, c3, c4, c5, c6, c7, c8, c9, c10, c11, c12, c13, c14, c15, c16, c17, c18, c19, c20, c21, c22, c23, c24, c25, c26, c27, c28, c29⟩ := hX.cells
  go_wp2_with fail
  refine (cO _ ho).mono ?_
  rintro e w3 ⟨rfl, ho2, hgr⟩
  replace hg2 := hg2.gr hgr (.inl (Nat.le_refl _))
  replace hL := hL.gr hgr (by omega)
  replace hX := hX.gr hgr (.inr (by omega))
  have kT3 : ∀ B cs, b2 ≤ B → TB w B cs → TB w3 B cs := fun B cs hB hT => (kT2 B cs hB hT).gr hgr (.inr (by omega))
  replace kb := kb.trans (hgr.to_below (by omega) (by have := kb.size; omega))
  clear c0 c1 c2 c3 c4 c5 c6 c7 c8 c9 c10 c11 c12 c13 c14 c15 c16 c17 c18 c19 c20 c21 c22 c23 c24 c25 c26 c27 c28 c29
  clear hgr kT2 cO ho
  obtain ⟨c0, c1, c2, c3, c4, c5, c6, c7, c8, c9, c10, c11, c12, c13, c14, c15, c16, c17, c18, c19, c20, c21, c22, c23, c24, c25, c26, c27, c28, c29⟩ := hX.cells
  go_wp2_with fail
  refine (cT _ hL.head).mono ?_
  rintro e w4 ⟨rfl, hti4, hgr⟩
  have hL4 : LiOk w4 b3 _ := hL.grow hgr (show OwnI w4 b3 (.slice ta tn tp) (marksI ((1 + 7 * sumG t.g t.g.length + 7 * sumG t.o t.o.length : Nat) : Int) t.ti.length) from by unfold OwnI; rw [marksI_len]; exact hti4) (fun g e => .inl e)
  have hgB := (GrV.of_gr hgr).grB (fun g e => (hL.head.lt g e).1) (fun g e => (hL.head.lt g e).1)
  have kT4 : ∀ B cs, b2 ≤ B → TB w B cs → TB w4 B cs := fun B cs hB hT => (kT3 B cs hB hT).grv (GrV.of_gr hgr) (hL.head.not_block (kT3 B cs hB hT) (by decide)) (hL.head.not_block (kT3 B cs hB hT) (by decide))
  replace hg2 := hg2.gr hgB (.inl (by omega))
  replace ho2 := ho2.gr hgB (.inl (by omega))
  replace hX : TeB w4 _ _ t _ := hX.kept hgr (hL.head.not_block hX (by decide))
  replace kb := kb.trans (hgB.to_below (by omega) (by have := kb.size; omega))
  clear c0 c1 c2 c3 c4 c5 c6 c7 c8 c9 c10 c11 c12 c13 c14 c15 c16 c17 c18 c19 c20 c21 c22 c23 c24 c25 c26 c27 c28 c29
  clear hgr hgB kT3 cT hL hti4
  obtain ⟨c0, c1, c2, c3, c4, c5, c6, c7, c8, c9, c10, c11, c12, c13, c14, c15, c16, c17, c18, c19, c20, c21, c22, c23, c24, c25, c26, c27, c28, c29⟩ := hX.cells
  have hP := cP w4 _ (hL4.perm (by exact (List.perm_append_comm (l₁ := [_]) (l₂ := [_, _])))) (by have := kb.size; have := hX.lt; omega) (by omega) (by omega) (by omega)
  rw [e1.out] at hP
  go_wp2_with fail
  refine hP.mono ?_
  rintro e w5 ⟨rfl, hL5, hgv⟩
  have hgB := hgv.grB (fun g e => (hL4.tail.head.lt g e).1) (fun g e => (hL4.tail.tail.head.lt g e).1)
  have kT5 : ∀ B cs, b2 ≤ B → TB w B cs → TB w5 B cs := fun B cs hB hT => (kT4 B cs hB hT).grv hgv (hL4.tail.head.not_block (kT4 B cs hB hT) (by decide)) (hL4.tail.tail.head.not_block (kT4 B cs hB hT) (by decide))
  replace hg2 := hg2.gr hgB (.inl (by omega))
  replace ho2 := ho2.gr hgB (.inl (by omega))
  replace kb := kb.trans (hgB.to_below (by omega) (by have := kb.size; omega))
  have hfin : RgT w5 base b1 b2 b3 (mkT t) ⟨.slice ga gn gp, .slice oa on op, .slice ta tn tp, .slice pa pn pp, .slice qa qn qp⟩ := ⟨hg2, ho2, hL5.perm (by exact (List.perm_append_comm (l₁ := [_, _]) (l₂ := [_]))), hle1, hle2, hle3, by have := kb.size; have := hgB.size; have := hX.lt; omega⟩
  clear c0 c1 c2 c3 c4 c5 c6 c7 c8 c9 c10 c11 c12 c13 c14 c15 c16 c17 c18 c19 c20 c21 c22 c23 c24 c25 c26 c27 c28 c29
  clear hgv hgB hL4 hL5 hP kT4 hg2 ho2 hX
  go_wp2
  go_ret
  exact ⟨rfl, hfin, kb, kT5⟩
set_option maxHeartbeats 8000000 in
set_option maxRecDepth 20000 in
theorem heldTerm_r (t : Te) (v : Tv) (w : World) (h : SlT w (mkT t) v) (hs1 : sumG t.g t.g.length ≤ 60000) (hs2 : sumG t.o t.o.length ≤ 60000) (hl1 : t.g.length ≤ 100000) (hl2 : t.o.length ≤ 100000) (hti : t.ti.length ≤ 10000) (hpp : t.pa.params.length ≤ 10000) (hpt : t.pa.text.length ≤ 10000) :
    Calls Try.prog 8 #[teV t v, .int .i64 1] w fun e w' => e = .returned (.int .i64 ((1 + mkN t : Nat) : Int)) ∧ Below w.heap.size w w' := by
  obtain ⟨vg, vo, vti, vpp, vpt⟩ := v
  obtain ⟨hg, ho, hT, hP, hQ⟩ := h
  simp only [mkT] at hg ho hT hP hQ
  have cG := fun W (hW : SlG W vg (marksG 1 t.g)) => heldGrid_marks t.gc vg 1 t.g W hW (by decide) (by omega) (by omega)
  have cO := fun W (hW : SlG W vo (marksG (1 + 7 * sumG t.g t.g.length) t.o)) => heldGrid_marks t.oc vo (1 + 7 * sumG t.g t.g.length) t.o W hW (by omega) (by omega) (by omega)
  have cT := fun W hW => heldI_marks vti ((1 + 7 * sumG t.g t.g.length + 7 * sumG t.o t.o.length : Nat) : Int) t.ti.length W hW ⟨by omega, by omega⟩ (by omega)
  have cP := fun W h1 h2 => heldParser_marks ⟨t.pa.state, marksI ((1 + 7 * sumG t.g t.g.length + 7 * sumG t.o t.o.length + t.ti.length : Nat) : Int) t.pa.params.length, t.pa.mark, marksI ((1 + 7 * sumG t.g t.g.length + 7 * sumG t.o t.o.length + t.ti.length + t.pa.params.length : Nat) : Int) t.pa.text.length⟩ vpp vpt (1 + 7 * sumG t.g t.g.length + 7 * sumG t.o t.o.length + t.ti.length) t.pa.params.length t.pa.text.length W h1 h2 rfl rfl (by omega) (by omega) (by omega)
  obtain ⟨ga, gn, gp, hq1⟩ := slShp hg
  obtain ⟨oa, on, op, hq2⟩ := slShp ho
  obtain ⟨ta, tp, hq3⟩ := hT.shp
  obtain ⟨pa, pp, hq4⟩ := hP.shp
  obtain ⟨qa, qp, hq5⟩ := hQ.shp
  rw [marksI_len] at hq3 hq4 hq5
  obtain ⟨tn, htn⟩ : ∃ tn, Hid (t.ti.length = tn) := ⟨_, rfl⟩
  obtain ⟨pn, hpn⟩ : ∃ pn, Hid (t.pa.params.length = pn) := ⟨_, rfl⟩
  obtain ⟨qn, hqn⟩ : ∃ qn, Hid (t.pa.text.length = qn) := ⟨_, rfl⟩
  rw [htn.out] at hq3
  rw [hpn.out] at hq4
  rw [hqn.out] at hq5
  subst hq1; subst hq2; subst hq3; subst hq4; subst hq5
  have hb0 := bal' w (Obj.cells (teCs t ⟨.slice ga gn gp, .slice oa on op, .slice ta tn tp, .slice pa pn pp, .slice qa qn qp⟩) 33)
  have hX := TeB.new w 33 t ⟨.slice ga gn gp, .slice oa on op, .slice ta tn tp, .slice pa pn pp, .slice qa qn qp⟩
  obtain ⟨w1, hw1⟩ : ∃ w1, w1 = w.alloc (Obj.cells (teCs t ⟨.slice ga gn gp, .slice oa on op, .slice ta tn tp, .slice pa pn pp, .slice qa qn qp⟩) 33) := ⟨_, rfl⟩
  rw [← hw1] at hb0 hX
  replace hw1 := (show Hid _ from hw1)
  unfold teV gridV paV at *
  have e1 : Hid (1 + 7 * sumG t.g t.g.length + 7 * sumG t.o t.o.length + t.ti.length + t.pa.params.length + t.pa.text.length = 1 + mkN t) := by show _ = _; unfold mkN; omega
  have e2 : Hid (((1 + 7 * sumG t.g t.g.length + 7 * sumG t.o t.o.length : Nat) : Int) + (t.ti.length : Int) = ((1 + 7 * sumG t.g t.g.length + 7 * sumG t.o t.o.length + t.ti.length : Nat) : Int)) := by show _ = _; omega
  simp only [e2.out] at cT
  simp only [e1.out] at cP
  have n1 : ¬ (((1 + 7 * sumG t.g t.g.length : Nat) : Int) < 0) := by omega
  have n2 : ¬ (((1 + 7 * sumG t.g t.g.length + 7 * sumG t.o t.o.length : Nat) : Int) < 0) := by omega
  have n3 : ¬ (((1 + 7 * sumG t.g t.g.length + 7 * sumG t.o t.o.length + t.ti.length : Nat) : Int) < 0) := by omega
  have n4 : ¬ (((1 + mkN t : Nat) : Int) < 0) := by omega
  generalize 1 + mkN t = m4 at *
  generalize ((1 + 7 * sumG t.g t.g.length + 7 * sumG t.o t.o.length + t.ti.length : Nat) : Int) = m3 at *
  have hb := hb0
  have kb := hb0
  clear e1 e2 hb hs1 hs2 hl1 hl2 hti hpp hpt htn hpn hqn
  go_enter Try.func8, Try.ntmps8
  refine wp_seq_k (fun K hK => ?_)
  have hH := (show Hid _ from hK)
  clear hK
  go_wp2
  refine hH.out _ _ ?_
  rw [← hw1.out]
  clear hH hw1
  obtain ⟨c0, c1, c2, c3, c4, c5, c6, c7, c8, c9, c10, c11, c12, c13, c14, c15, c16, c17, c18, c19, c20, c21, c22, c23, c24, c25, c26, c27, c28, c29⟩ := hX.cells
  go_wp2_with fail
  refine (cG _ (hg.below kb)).mono ?_
  rintro e w2 ⟨rfl, hb⟩
  replace kb := kb.trans (hb.mono kb.size)
  replace hX := hX.below hb
  clear c0 c1 c2 c3 c4 c5 c6 c7 c8 c9 c10 c11 c12 c13 c14 c15 c16 c17 c18 c19 c20 c21 c22 c23 c24 c25 c26 c27 c28 c29
  clear hb
  obtain ⟨c0, c1, c2, c3, c4, c5, c6, c7, c8, c9, c10, c11, c12, c13, c14, c15, c16, c17, c18, c19, c20, c21, c22, c23, c24, c25, c26, c27, c28, c29⟩ := hX.cells
  go_wp2_with fail
  refine (cO _ (ho.below kb)).mono ?_
  rintro e w3 ⟨rfl, hb⟩
  replace kb := kb.trans (hb.mono kb.size)
  replace hX := hX.below hb
  clear c0 c1 c2 c3 c4 c5 c6 c7 c8 c9 c10 c11 c12 c13 c14 c15 c16 c17 c18 c19 c20 c21 c22 c23 c24 c25 c26 c27 c28 c29
  clear hb
  obtain ⟨c0, c1, c2, c3, c4, c5, c6, c7, c8, c9, c10, c11, c12, c13, c14, c15, c16, c17, c18, c19, c20, c21, c22, c23, c24, c25, c26, c27, c28, c29⟩ := hX.cells
  go_wp2_with fail
  refine (cT _ (hT.below kb).l.sl).mono ?_
  rintro e w4 ⟨rfl, hw⟩
  subst hw
  go_wp2_with fail
  refine (cP _ (hP.below kb).l.sl (hQ.below kb).l.sl).mono ?_
  rintro e w5 ⟨rfl, hb⟩
  replace kb := kb.trans (hb.mono kb.size)
  replace hX := hX.below hb
  clear c0 c1 c2 c3 c4 c5 c6 c7 c8 c9 c10 c11 c12 c13 c14 c15 c16 c17 c18 c19 c20 c21 c22 c23 c24 c25 c26 c27 c28 c29
  clear hb
  obtain ⟨c0, c1, c2, c3, c4, c5, c6, c7, c8, c9, c10, c11, c12, c13, c14, c15, c16, c17, c18, c19, c20, c21, c22, c23, c24, c25, c26, c27, c28, c29⟩ := hX.cells
  clear c0 c1 c2 c3 c4 c5 c6 c7 c8 c9 c10 c11 c12 c13 c14 c15 c16 c17 c18 c19 c20 c21 c22 c23 c24 c25 c26 c27 c28 c29
  go_wp2
  go_ret
  exact ⟨rfl, kb⟩
end Go.Proofs.Ytpmaibkakkfaeaa
namespace Go.Proofs.Ytpmaibkakkfaeaa
open Go.ChangeShapes Go.WideShapes Go.ChangeAt Go.RowKit
theorem OwnT.rg {w : World} {base : Nat} {t : Te} {v : Tv} (h : OwnT w base t v) : ∃ b1 b2 b3, RgT w base b1 b2 b3 t v := h
/-- Sizes of a new screen. -/
theorem newTm_bd (cols n : Int) : (newTm cols n).g.length ≤ 30 ∧ (∀ i, i < (newTm cols n).g.length → (rowX (newTm cols n).g i).length ≤ 60) ∧ (newTm cols n).o.length ≤ 30 ∧ (∀ i, i < (newTm cols n).o.length → (rowX (newTm cols n).o i).length ≤ 60) ∧ (newTm cols n).ti = [] ∧ (newTm cols n).pa.params = [] ∧ (newTm cols n).pa.text = [] := by
  by_cases h : newOk cols n
  · rw [newTm_yes h]
    have hh := h
    unfold newOk at hh
    have hb : (newR cols.toNat n.toNat).length ≤ 30 ∧ ∀ i, i < (newR cols.toNat n.toNat).length → (rowX (newR cols.toNat n.toNat) i).length ≤ 60 := by
      refine ⟨by rw [newR_len]; omega, fun i hi => ?_⟩
      rw [newR_len] at hi
      rw [newR_at _ _ _ hi, rowL_len]
      omega
    exact ⟨hb.1, hb.2, hb.1, hb.2, rfl, rfl, rfl⟩
  · rw [newTm_no h]
    exact ⟨by simp [teZ], fun i hi => by simp [teZ] at hi, by simp [teZ], fun i hi => by simp [teZ] at hi, rfl, rfl, rfl⟩
set_option maxHeartbeats 8000000 in
set_option maxRecDepth 20000 in
theorem walk_FnExactNewTerm (w : World) (a0 : Int) (_h0 : (Lit.int .i64 a0).wf = true) (a1 : Int) (_h1 : (Lit.int .i64 a1).wf = true) :
    Calls Try.prog 3 #[.int .i64 a0, .int .i64 a1] w fun e w' => e = .returned (.bool true) ∧ Below w.heap.size w w' := by
  have hbd := newTm_bd a0 a1
  have hsp := fun W => specNewTerm_any a0 a1 W
  have him := fun W => implNewTerm_any a0 a1 W
  unfold NtA at hsp him
  obtain ⟨T, hT⟩ : ∃ T, Hid (newTm a0 a1 = T) := ⟨_, rfl⟩
  obtain ⟨ok, hok⟩ : ∃ ok, Hid (decide (newOk a0 a1) = ok) := ⟨_, rfl⟩
  simp only [hT.out, hok.out] at hbd hsp him
  obtain ⟨d1, d2, d3, d4, d5, d6, d7⟩ := hbd
  have hs1 := sumG_bd T.g 60 d2 T.g.length (Nat.le_refl _)
  have hs2 := sumG_bd T.o 60 d4 T.o.length (Nat.le_refl _)
  have hs1' : sumG T.g T.g.length ≤ 60000 := by have := Nat.mul_le_mul_right 60 d1; omega
  have hs2' : sumG T.o T.o.length ≤ 60000 := by have := Nat.mul_le_mul_right 60 d3; omega
  have l5 : T.ti.length = 0 := by rw [d5]; rfl
  have l6 : T.pa.params.length = 0 := by rw [d6]; rfl
  have l7 : T.pa.text.length = 0 := by rw [d7]; rfl
  have hsz : SzT 1048576 T := ⟨by omega, fun i hi => by have := d2 i hi; omega, by omega, fun i hi => by have := d4 i hi; omega, by omega, by omega, by omega⟩
  have hmk := fun v base b1 b2 b3 W h => markTerm_r T v base b1 b2 b3 W h hs1' hs2' (by omega) (by omega) (by omega) (by omega) (by omega)
  have hhd := fun v W h => heldTerm_r T v W h hs1' hs2' (by omega) (by omega) (by omega) (by omega) (by omega)
  have heq := fun u u2 W h h2 => eqTerm_same T u u2 W h h2 hsz
  have hn : ¬ (((1 + mkN T : Nat) : Int) < 0) := by omega
  have hne : (ok != ok) = false := by simp
  generalize ((1 + mkN T : Nat) : Int) = mN at *
  unfold teV at *
  clear hT hok d1 d2 d3 d4 d5 d6 d7 hs1 hs2 hs1' hs2' l5 l6 l7 hsz
  go_enter Try.func3, Try.ntmps3
  go_wp2_with fail
  refine (hsp _).mono ?_
  rintro e w1 ⟨u1, u2, rfl, ho1, hb1⟩
  have hon := ho1.sl.one
  have hal := bal' w1 (Obj.cells #[.int .i64 0, .slice none 0 0, .int .i64 0, .slice none 0 0, .int .i64 0, .int .i64 0, .int .i64 0, .int .i64 0, .bool false, .bool false, .bool false, .int .i64 0, .int .i64 0, .bool false, .bool false, .bool false, .bool false, .int .i64 0, .int .i64 0, .int .i64 0, .int .i64 0, .bool false, .bool false, .bool false, .slice none 0 0, .int .i64 0, .slice none 0 0, .int .i64 0, .slice none 0 0, .string ⟨#[]⟩] 33)
  have hZ := TB.new w1 [.int .i64 0, .slice none 0 0, .int .i64 0, .slice none 0 0, .int .i64 0, .int .i64 0, .int .i64 0, .int .i64 0, .bool false, .bool false, .bool false, .int .i64 0, .int .i64 0, .bool false, .bool false, .bool false, .bool false, .int .i64 0, .int .i64 0, .int .i64 0, .int .i64 0, .bool false, .bool false, .bool false, .slice none 0 0, .int .i64 0, .slice none 0 0, .int .i64 0, .slice none 0 0, .string ⟨#[]⟩]
  go_wp2_with (first
    | (refine store_T (cs := teCs T (tvN u1 u2)) (by rfl) 33 _ _ (by rfl) info_te (by rfl) hon hZ (by rfl) (by rfl) ?_; intro W1 hg hA hzs; have hbW : Below w1.heap.size w1 W1 := hal.grown hg hal.size (fun k e => by cases e; exact Nat.le_refl _); have A1 : TeB W1 w1.heap.size 33 T (tvN u1 u2) := hA; clear hA hg hzs hal hZ hon))
  have sl1 := ho1.sl.below hbW
  have kb := hb1.trans (hbW.mono hb1.size)
  have hs1 : w1.heap.size < W1.heap.size := A1.lt
  clear ho1 hb1 hbW hsp
  refine (him _).mono ?_
  rintro e w2 ⟨v1, v2, rfl, ho2, hb2⟩
  have hon := ho2.sl.one
  have hal := bal' w2 (Obj.cells #[.int .i64 0, .slice none 0 0, .int .i64 0, .slice none 0 0, .int .i64 0, .int .i64 0, .int .i64 0, .int .i64 0, .bool false, .bool false, .bool false, .int .i64 0, .int .i64 0, .bool false, .bool false, .bool false, .bool false, .int .i64 0, .int .i64 0, .int .i64 0, .int .i64 0, .bool false, .bool false, .bool false, .slice none 0 0, .int .i64 0, .slice none 0 0, .int .i64 0, .slice none 0 0, .string ⟨#[]⟩] 33)
  have hZ := TB.new w2 [.int .i64 0, .slice none 0 0, .int .i64 0, .slice none 0 0, .int .i64 0, .int .i64 0, .int .i64 0, .int .i64 0, .bool false, .bool false, .bool false, .int .i64 0, .int .i64 0, .bool false, .bool false, .bool false, .bool false, .int .i64 0, .int .i64 0, .int .i64 0, .int .i64 0, .bool false, .bool false, .bool false, .slice none 0 0, .int .i64 0, .slice none 0 0, .int .i64 0, .slice none 0 0, .string ⟨#[]⟩]
  go_wp2_with (first
    | (refine store_T (cs := teCs T (tvN v1 v2)) (by rfl) 33 _ _ (by rfl) info_te (by rfl) hon hZ (by rfl) (by rfl) ?_; intro W2 hg hA hzs; have hbW : Below w2.heap.size w2 W2 := hal.grown hg hal.size (fun k e => by cases e; exact Nat.le_refl _); have A2 : TeB W2 w2.heap.size 33 T (tvN v1 v2) := hA; clear hA hg hzs hal hZ hon) | (refine load_te A2 (by rfl) _ (by rfl) (by rfl) ?_) | (refine load_te (A1.below (hb2.trans (hbW.mono hb2.size))) (by rfl) _ (by rfl) (by rfl) ?_))
  obtain ⟨b1, b2, b3, hr⟩ := ho2.rg
  have hb32 : b2 ≤ w2.heap.size := Nat.le_trans hr.2.2.2.2.2.1 hr.2.2.2.2.2.2
  replace hr := hr.below hbW
  have k2 := hb2.trans (hbW.mono hb2.size)
  clear ho2 hb2 hbW
  refine (heq _ _ _ hr.sl (sl1.below k2)).mono ?_
  rintro e w3 ⟨rfl, hb⟩
  replace hr := hr.below hb
  replace A2 := A2.below hb
  have k3 := k2.trans (hb.mono k2.size)
  clear hb k2
  go_wp2_with (refine load_te A2 (by rfl) _ (by rfl) (by rfl) ?_)
  refine (hmk _ _ _ _ _ _ hr).mono ?_
  rintro e w4 ⟨rfl, hr4, hbm, hTB⟩
  have A4 : TeB w4 w2.heap.size 33 T (tvN v1 v2) := hTB w2.heap.size (teCs T (tvN v1 v2)).toList hb32 A2
  have k4 := k3.trans hbm
  clear hbm hTB hr A2 k3 hmk
  go_wp2_with (refine load_te A4 (by rfl) _ (by rfl) (by rfl) ?_)
  refine (hhd _ _ hr4.sl).mono ?_
  rintro e w5 ⟨rfl, hb⟩
  replace A4 := A4.below hb
  replace hr4 := hr4.below hb
  have k5 := k4.trans (hb.mono k4.size)
  clear hb k4
  go_wp2_with fail
  refine (him _).mono ?_
  rintro e w6 ⟨x1, x2, rfl, ho6, hb6⟩
  have hon := ho6.sl.one
  have hal := bal' w6 (Obj.cells #[.int .i64 0, .slice none 0 0, .int .i64 0, .slice none 0 0, .int .i64 0, .int .i64 0, .int .i64 0, .int .i64 0, .bool false, .bool false, .bool false, .int .i64 0, .int .i64 0, .bool false, .bool false, .bool false, .bool false, .int .i64 0, .int .i64 0, .int .i64 0, .int .i64 0, .bool false, .bool false, .bool false, .slice none 0 0, .int .i64 0, .slice none 0 0, .int .i64 0, .slice none 0 0, .string ⟨#[]⟩] 33)
  have hZ := TB.new w6 [.int .i64 0, .slice none 0 0, .int .i64 0, .slice none 0 0, .int .i64 0, .int .i64 0, .int .i64 0, .int .i64 0, .bool false, .bool false, .bool false, .int .i64 0, .int .i64 0, .bool false, .bool false, .bool false, .bool false, .int .i64 0, .int .i64 0, .int .i64 0, .int .i64 0, .bool false, .bool false, .bool false, .slice none 0 0, .int .i64 0, .slice none 0 0, .int .i64 0, .slice none 0 0, .string ⟨#[]⟩]
  go_wp2_with (first
    | (refine store_T (cs := teCs T (tvN x1 x2)) (by rfl) 33 _ _ (by rfl) info_te (by rfl) hon hZ (by rfl) (by rfl) ?_; intro W6 hg hA hzs; have hbW : Below w6.heap.size w6 W6 := hal.grown hg hal.size (fun k e => by cases e; exact Nat.le_refl _); have A6 : TeB W6 w6.heap.size 33 T (tvN x1 x2) := hA; clear hA hg hzs hal hZ hon) | (refine load_te A6 (by rfl) _ (by rfl) (by rfl) ?_) | (refine load_te (A1.below (k5.trans ((hb6.trans (hbW.mono hb6.size)).mono k5.size))) (by rfl) _ (by rfl) (by rfl) ?_))
  have k66 := hb6.trans (hbW.mono hb6.size)
  have sl6 := ho6.sl.below hbW
  replace A4 := A4.below k66
  replace hr4 := hr4.below k66
  have k6 := k5.trans (k66.mono k5.size)
  clear ho6 hb6 hbW k66 k5
  refine (heq _ _ _ sl6 (sl1.below k6)).mono ?_
  rintro e w7 ⟨rfl, hb⟩
  replace A4 := A4.below hb
  replace hr4 := hr4.below hb
  have k7 := k6.trans (hb.mono k6.size)
  clear hb k6
  go_wp2_with (refine load_te A4 (by rfl) _ (by rfl) (by rfl) ?_)
  refine (hhd _ _ hr4.sl).mono ?_
  rintro e w8 ⟨rfl, hb⟩
  have k8 := k7.trans (hb.mono k7.size)
  clear hb k7 A4 hr4
  go_wp2
  go_ret
  exact ⟨rfl, kb.trans (k8.mono kb.size)⟩
end Go.Proofs.Ytpmaibkakkfaeaa
