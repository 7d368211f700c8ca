/- Contract of the specification's one step. Contract of the program's Parsed. What a list's parser keeps: no text. The laws' own helpers on lists of int64: like, marked, held. The laws' own helpers on parsers: size, copy, likeness. The laws' own helpers on parsers and actions: likeness, marks. Rows of actions in memory; the laws' own likeness on them. The laws' own marks on actions. The laws' own marks on actions: the walk. The laws' own held marks on actions. What a mark on another's lists leaves. Contract of the specification's Parsed. Contract of the program's Parsed where the parser is right and the list is. Contracts of the program's Parsed and Step. -/
import Derived.Test.YtkcekacnebhcgaaDoorP2
import Derived.Maps.AppendAt
import Derived.Deep.RegionHeld3
import Derived.Deep.RegionWith
namespace Go.Proofs.YtkcekacnebhcgaaDoor
open Go.ChangeShapes Go.WideShapes Go.ChangeAt Go.RowKit
/-- The title grows. -/
theorem InvL.appT {w V W : World} {base : Nat} {u v tv av pv : Value} {s m : Int} {ts qs ts' : List Int} {R : List (Value × List Int)} {g cap n : Nat} (h : InvL w V base u v s m tv ts R av pv qs) (hown : ∀ g, tv.ownBlock = some g → v.ownBlock = some g ∨ w.heap.size ≤ g) (k : LiOk W base ((.slice (some ⟨g, 0, none⟩) n cap, ts') :: (pv, qs) :: R)) (hg : V.grownBy W tv.ownBlock) :
    ((W.cell? ⟨w.heap.size, 0, none⟩ = some (.int .i64 s) ∧ W.cell? ⟨w.heap.size, 1, none⟩ = some pv ∧ W.cell? ⟨w.heap.size, 2, none⟩ = some (.int .i64 m) ∧ W.cell? ⟨w.heap.size, 3, none⟩ = some tv) ∧ (W.frozen? ⟨w.heap.size, 0, none⟩ = false ∧ W.frozen? ⟨w.heap.size, 1, none⟩ = false ∧ W.frozen? ⟨w.heap.size, 2, none⟩ = false ∧ W.frozen? ⟨w.heap.size, 3, none⟩ = false)) ∧
    InvL w (W.setCell ⟨w.heap.size, 3, none⟩ (.slice (some ⟨g, 0, none⟩) n cap)) base u v s m (.slice (some ⟨g, 0, none⟩) n cap) ts' R av pv qs := by
  obtain ⟨h0, h1, hX, hL, hG, hb, ho⟩ := h
  have h0' := h0.kept hg (hL.tail.head.not_block h0 (by decide))
  have hG' := hG.grown hg (fun g' e => by rcases hown g' e with h | h; exact .inr (.inl h); exact .inr (.inr h))
  have hX' := hX.kept hg (hX.ap hL.tail.head).symm.ne
  have h1' := h1.kept hg (hL.tail.head.not_block h1 (by decide))
  have hg2 := setCell_gr W w.heap.size 3 (.slice (some ⟨g, 0, none⟩) n cap)
  have k' := k.perm (List.Perm.swap _ _ _)
  exact ⟨cells4 h0', h0'.set 3 _, h1'.kept hg2 (by simp), hX'.kept hg2 (.inr (hX'.not_block h0' (by decide))), k'.kept hg2 (fun p hp => .inr ((k'.1 p hp).not_block h0' (by decide))), hG'.grown hg2 (fun g e => by cases e; exact .inr (.inr (Nat.le_refl _))), by have := hg.size; simp; omega, ho⟩
/-- The parser itself is the answer, and one plain action is told. -/
theorem InvL.plain {w V : World} {base : Nat} {u v tv av pv : Value} {s m : Int} {ts qs : List Int} {R : List (Value × List Int)} (h : InvL w V base u v s m tv ts R av pv qs) (k r : Int) :
    ((V.cell? ⟨w.heap.size, 0, none⟩ = some (.int .i64 s) ∧ V.cell? ⟨w.heap.size, 1, none⟩ = some pv ∧ V.cell? ⟨w.heap.size, 2, none⟩ = some (.int .i64 m) ∧ V.cell? ⟨w.heap.size, 3, none⟩ = some tv) ∧ (V.frozen? ⟨w.heap.size, 0, none⟩ = false ∧ V.frozen? ⟨w.heap.size, 1, none⟩ = false ∧ V.frozen? ⟨w.heap.size, 2, none⟩ = false ∧ V.frozen? ⟨w.heap.size, 3, none⟩ = false)) ∧
    (((V.alloc (.cells (axC (axP k r)).toArray 63)).cell? ⟨w.heap.size + 1, 0, none⟩ = some (.int .i64 0) ∧ (V.alloc (.cells (axC (axP k r)).toArray 63)).cell? ⟨w.heap.size + 1, 1, none⟩ = some (.slice none 0 0) ∧ (V.alloc (.cells (axC (axP k r)).toArray 63)).cell? ⟨w.heap.size + 1, 2, none⟩ = some (.int .i64 0) ∧ (V.alloc (.cells (axC (axP k r)).toArray 63)).cell? ⟨w.heap.size + 1, 3, none⟩ = some (.slice none 0 0)) ∧
      ((V.alloc (.cells (axC (axP k r)).toArray 63)).frozen? ⟨w.heap.size + 1, 0, none⟩ = false ∧ (V.alloc (.cells (axC (axP k r)).toArray 63)).frozen? ⟨w.heap.size + 1, 1, none⟩ = false ∧ (V.alloc (.cells (axC (axP k r)).toArray 63)).frozen? ⟨w.heap.size + 1, 2, none⟩ = false ∧ (V.alloc (.cells (axC (axP k r)).toArray 63)).frozen? ⟨w.heap.size + 1, 3, none⟩ = false)) ∧
    ((putP (V.alloc (.cells (axC (axP k r)).toArray 63)) (w.heap.size + 1) s pv m tv).cell? ⟨w.heap.size + 1, 0, none⟩ = some (.int .i64 s) ∧ (putP (V.alloc (.cells (axC (axP k r)).toArray 63)) (w.heap.size + 1) s pv m tv).cell? ⟨w.heap.size + 1, 1, none⟩ = some pv ∧ (putP (V.alloc (.cells (axC (axP k r)).toArray 63)) (w.heap.size + 1) s pv m tv).cell? ⟨w.heap.size + 1, 2, none⟩ = some (.int .i64 m) ∧ (putP (V.alloc (.cells (axC (axP k r)).toArray 63)) (w.heap.size + 1) s pv m tv).cell? ⟨w.heap.size + 1, 3, none⟩ = some tv) ∧
    Hid (StepS w (putP (V.alloc (.cells (axC (axP k r)).toArray 63)) (w.heap.size + 1) s pv m tv) base u v R (.returned (.tuple #[.agg #[.int .i64 s, pv, .int .i64 m, tv], .slice (some ⟨V.heap.size, 0, none⟩) 1 1])) (⟨s, qs, m, ts⟩, [acR k r])) := by
  obtain ⟨h0, h1, hX, hL, hG, hb, ho⟩ := h
  have hb2 := bal' V (Obj.cells (axC (axP k r)).toArray 63)
  have hL2 : LiOk V base ((pv, qs) :: (tv, ts) :: (axLs [axP k r] ++ R)) := by
    refine hL.nilc.nilc.perm ?_
    exact (List.perm_append_comm (l₁ := [((.slice none 0 0 : Value), ([] : List Int)), (.slice none 0 0, [])]) (l₂ := [(pv, qs), (tv, ts)])).append_right R
  obtain ⟨f, hf⟩ := close_step (s' := s) (m' := m) (ps' := qs) (ts' := ts) (hG.below hb2) (h1.below hb2) (ownX_one V base (axP k r) hb) (hL2.below hb2) (by omega) [acR k r] rfl
  exact ⟨cells4 h0, cells4 (h1.below hb2), f, hf⟩
/-- What a callee's step leaves is written to the answer. -/
theorem InvL.callee {w V wb : World} {base : Nat} {tv av pv : Value} {s m : Int} {ts qs : List Int} {R : List (Value × List Int)} {e : Ending} {T : Pa × List Ac} (h : InvL w V base pv tv s m tv ts R av pv qs) (k : StepS V wb base pv tv R e T) :
    ∃ a b c a2 b2 c2 a3 b3 c3, e = .returned (.tuple #[.agg #[.int .i64 T.1.state, .slice a b c, .int .i64 T.1.mark, .slice a2 b2 c2], .slice a3 b3 c3]) ∧
    ((wb.cell? ⟨w.heap.size + 1, 0, none⟩ = some (.int .i64 0) ∧ wb.cell? ⟨w.heap.size + 1, 1, none⟩ = some (.slice none 0 0) ∧ wb.cell? ⟨w.heap.size + 1, 2, none⟩ = some (.int .i64 0) ∧ wb.cell? ⟨w.heap.size + 1, 3, none⟩ = some (.slice none 0 0)) ∧ (wb.frozen? ⟨w.heap.size + 1, 0, none⟩ = false ∧ wb.frozen? ⟨w.heap.size + 1, 1, none⟩ = false ∧ wb.frozen? ⟨w.heap.size + 1, 2, none⟩ = false ∧ wb.frozen? ⟨w.heap.size + 1, 3, none⟩ = false)) ∧
    ((putP wb (w.heap.size + 1) T.1.state (.slice a b c) T.1.mark (.slice a2 b2 c2)).cell? ⟨w.heap.size + 1, 0, none⟩ = some (.int .i64 T.1.state) ∧ (putP wb (w.heap.size + 1) T.1.state (.slice a b c) T.1.mark (.slice a2 b2 c2)).cell? ⟨w.heap.size + 1, 1, none⟩ = some (.slice a b c) ∧ (putP wb (w.heap.size + 1) T.1.state (.slice a b c) T.1.mark (.slice a2 b2 c2)).cell? ⟨w.heap.size + 1, 2, none⟩ = some (.int .i64 T.1.mark) ∧ (putP wb (w.heap.size + 1) T.1.state (.slice a b c) T.1.mark (.slice a2 b2 c2)).cell? ⟨w.heap.size + 1, 3, none⟩ = some (.slice a2 b2 c2)) ∧
    Hid (StepS w (putP wb (w.heap.size + 1) T.1.state (.slice a b c) T.1.mark (.slice a2 b2 c2)) base pv tv R (.returned (.tuple #[.agg #[.int .i64 T.1.state, .slice a b c, .int .i64 T.1.mark, .slice a2 b2 c2], .slice a3 b3 c3])) T) := by
  obtain ⟨h0, h1, hX, hL, hG, hb, ho⟩ := h
  obtain ⟨pv2, tv2, av2, X, rfl, hA, hX2, hL2, hG2⟩ := k
  have h1' := h1.grv hG2 (hL.head.not_block h1 (by decide)) (hL.tail.head.not_block h1 (by decide))
  obtain ⟨a, b, c, e1⟩ := hL2.head.shape
  obtain ⟨a2, b2, c2, e2⟩ := hL2.tail.head.shape
  obtain ⟨a3, c3, e3⟩ := hX2.shape
  simp only at e1 e2
  subst e1; subst e2; subst e3
  obtain ⟨f, hf⟩ := close_step (s' := T.1.state) (m' := T.1.mark) (ps' := T.1.params) (ts' := T.1.text) (hG.trans hG2) h1' hX2 hL2 (by omega) T.2 hA
  exact ⟨a, b, c, a2, b2, c2, a3, X.length, c3, rfl, cells4 h1', f, hf⟩
set_option maxHeartbeats 40000000 in
set_option maxRecDepth 20000 in
theorem l6Step_any (s : Int) (ps : List Int) (m : Int) (ts : List Int) (pv tv : Value) (r : Int) (base : Nat) (R : List (Value × List Int)) (w : World) (k : LiOk w base ((pv, ps) :: (tv, ts) :: R)) (hb : base ≤ w.heap.size) (hp : ps.length ≤ 16) (hpb : ∀ x ∈ ps, 0 ≤ x ∧ x ≤ 9999) (ht3 : s = 3 → ts = []) (htl : ts.length ≤ 40) (_hr : runeOk r = true) :
    Calls Tryd.prog 40 #[paV ⟨s, ps, m, ts⟩ pv tv, .int .i64 r] w fun e w' => StepS w w' base pv tv R e (stepM ⟨s, ps, m, ts⟩ r) := by
  obtain ⟨T, hT⟩ : ∃ T, Hid (stepM ⟨s, ps, m, ts⟩ r = T) := ⟨_, rfl⟩
  rw [hT.out]
  obtain ⟨pa, pn, pc, hpv⟩ := k.head.shape
  obtain ⟨ta, tn, tc, htv⟩ := k.tail.head.shape
  have htn : Hid (tn = ts.length) := by
    obtain ⟨a', c', h'⟩ := k.tail.head.sl.shp
    simp only at htv h'
    rw [htv] at h'
    simp only [Value.slice.injEq] at h'
    exact h'.2.1
  simp only at hpv htv
  subst hpv; subst htv
  unfold paV
  have hG := GrV.new2 (u := .slice pa pn pc) (v := .slice ta tn tc) (w := w) (Obj.cells #[.int .i64 s, .slice pa pn pc, .int .i64 m, .slice ta tn tc] 26) (Obj.cells #[.int .i64 0, .slice none 0 0, .int .i64 0, .slice none 0 0] 26) (Obj.cells #[] 63)
  have hb1 := bal' w (Obj.cells #[.int .i64 s, .slice pa pn pc, .int .i64 m, .slice ta tn tc] 26)
  have hb2 := bal' (w.alloc (Obj.cells #[.int .i64 s, .slice pa pn pc, .int .i64 m, .slice ta tn tc] 26)) (Obj.cells #[.int .i64 0, .slice none 0 0, .int .i64 0, .slice none 0 0] 26)
  have hb3 := bal' ((w.alloc (Obj.cells #[.int .i64 s, .slice pa pn pc, .int .i64 m, .slice ta tn tc] 26)).alloc (Obj.cells #[.int .i64 0, .slice none 0 0, .int .i64 0, .slice none 0 0] 26)) (Obj.cells #[] 63)
  have e1 : (w.alloc (Obj.cells #[.int .i64 s, .slice pa pn pc, .int .i64 m, .slice ta tn tc] 26)).heap.size = w.heap.size + 1 := by simp
  have e2 : ((w.alloc (Obj.cells #[.int .i64 s, .slice pa pn pc, .int .i64 m, .slice ta tn tc] 26)).alloc (Obj.cells #[.int .i64 0, .slice none 0 0, .int .i64 0, .slice none 0 0] 26)).heap.size = w.heap.size + 2 := by simp
  have h0 := ((PbB.new w s m (.slice pa pn pc) (.slice ta tn tc)).below hb2).below hb3
  have h1 := (PbB.new (w.alloc (Obj.cells #[.int .i64 s, .slice pa pn pc, .int .i64 m, .slice ta tn tc] 26)) 0 0 (.slice none 0 0) (.slice none 0 0)).below hb3
  rw [e1] at h1
  have hX := ownX_lit ((w.alloc (Obj.cells #[.int .i64 s, .slice pa pn pc, .int .i64 m, .slice ta tn tc] 26)).alloc (Obj.cells #[.int .i64 0, .slice none 0 0, .int .i64 0, .slice none 0 0] 26)) base (by rw [e2]; omega)
  rw [e2] at hX
  have hL := ((k.below hb1).below hb2).below hb3
  obtain ⟨wA, hwA⟩ : ∃ wA, wA = ((w.alloc (Obj.cells #[.int .i64 s, .slice pa pn pc, .int .i64 m, .slice ta tn tc] 26)).alloc (Obj.cells #[.int .i64 0, .slice none 0 0, .int .i64 0, .slice none 0 0] 26)).alloc (Obj.cells #[] 63) := ⟨_, rfl⟩
  have eA : wA.heap.size = w.heap.size + 3 := by rw [hwA]; simp
  rw [← hwA] at hG h0 h1 hX hL
  have hbase : base ≤ wA.heap.size := by rw [eA]; omega
  have hn1 : w.heap.size ≤ w.heap.size + 1 := by omega
  clear hb1 hb2 hb3 e1 e2 k
  have hI : InvL w wA base (.slice pa pn pc) (.slice ta tn tc) s m (.slice ta tn tc) ts R (.slice (some ⟨w.heap.size + 2, 0, none⟩) 0 0) (.slice pa pn pc) ps := ⟨h0, h1, hX, hL, hG, hbase, fun g e => .inl e⟩
  clear h0 h1 hX hL hG hbase eA
  subst hwA
  go_enter Tryd.func40, Tryd.ntmps40
  refine wp_seq_k (fun K0 hK0 => ?_)
  have hH0 := (show Hid _ from hK0)
  clear hK0
  go_wp2
  refine hH0.out _ _ ?_
  clear hH0 K0
  refine wp_seq_k (fun K hK => ?_)
  have hH := (show Hid _ from hK)
  clear hK
  have hcut : Hid (∀ W, InvL w W base (.slice pa pn pc) (.slice ta tn tc) s m (.slice ta tn tc) ts R (.slice (some ⟨w.heap.size + 2, 0, none⟩) 0 0) (.slice pa pn pc) ps → K { tmps := #[.agg #[.int .i64 s, .slice pa pn pc, .int .i64 m, .slice ta tn tc], .int .i64 r, .pointer (some ⟨w.heap.size, 0, none⟩), undef, .pointer (some ⟨w.heap.size + 1, 0, none⟩), .slice none 0 0, .slice (some ⟨w.heap.size + 2, 0, none⟩) 0 0, .slice (some ⟨w.heap.size + 2, 0, none⟩) 0 0, undef, undef, undef, undef, undef, undef, undef, undef, undef, undef, undef, undef, undef, undef, undef, undef, undef, undef, undef, undef, undef, undef, undef, undef, undef, undef, undef, undef, undef, undef, undef, undef, undef, undef, undef, undef, undef, undef, undef, undef, undef, undef, undef, undef, undef, undef, undef, undef, undef, undef, undef, undef, undef, undef, undef, undef, undef, undef, undef, undef, undef, undef, undef, undef, undef, undef, undef, undef, undef, undef, undef, undef, undef, undef, undef, undef, undef, undef, undef, undef, undef, undef, undef, undef, undef, undef, undef, undef, undef, undef, undef, undef, undef, undef], defers := [] } W) := by
    show ∀ W, _ → _
    clear hI
    intro W hI
    refine hH.out _ _ ?_
    clear hH
    by_cases h4 : s = 4
    · have i4 : (s == 4) = true := by simp [h4]
      by_cases h7 : r = 7
      · have hv : Hid (T = (st0 1, [⟨5, 0, [], 0, ts⟩])) := by
          show _ = _
          rw [← hT.out]; unfold stepM titleM; rw [if_pos h4, if_pos h7]
        have i7 : (r == 7) = true := by simp [h7]
        have hL' : LiOk W base (axL ⟨⟨5, 0, [], 0, ts⟩, .slice none 0 0, .slice ta tn tc⟩ ++ R) := hI.2.2.2.1.tail.nilc
        have hwa := fun wb h => (show Hid _ from way_a2 (wb := wb) hI.2.2.2.2.1 hI.1 hI.2.1 hL' hI.2.2.2.2.2.1 hn1 1 h)
        have hwb := fun wb h => (show Hid _ from way_b (wb := wb) hI.2.2.2.2.1 hI.2.1 hL' hI.2.2.2.2.2.1 hn1 1 h)
        have hSS : ∀ V, Below W.heap.size W V → V.cell? ⟨w.heap.size, 3, none⟩ = some (.slice ta tn tc) ∧ True := fun V h => ⟨(hI.1.below h).cells.2.2.2, trivial⟩
        have hN1 : ∀ V, Below W.heap.size W V → ((V.cell? ⟨w.heap.size + 1, 0, none⟩ = some (.int .i64 0) ∧ V.cell? ⟨w.heap.size + 1, 1, none⟩ = some (.slice none 0 0) ∧ V.cell? ⟨w.heap.size + 1, 2, none⟩ = some (.int .i64 0) ∧ V.cell? ⟨w.heap.size + 1, 3, none⟩ = some (.slice none 0 0)) ∧ (V.frozen? ⟨w.heap.size + 1, 0, none⟩ = false ∧ V.frozen? ⟨w.heap.size + 1, 1, none⟩ = false ∧ V.frozen? ⟨w.heap.size + 1, 2, none⟩ = false ∧ V.frozen? ⟨w.heap.size + 1, 3, none⟩ = false)) ∧ w.heap.size + 1 < V.heap.size ∧ True := fun V h => by
          have hq := hI.2.1.below h
          exact ⟨cells4 hq, hq.lt, trivial⟩
        obtain ⟨k0, k1, k2, k3⟩ := hI.1.cells
        have hst := fun W => l6State_any 1 W
        have hst2 := hst (W.alloc (.cells #[.int .i64 5, .int .i64 0, .slice none 0 0, .int .i64 0, .slice ta tn tc] 63)).drew
        clear hT h4 h7 ht3 hI hL'
        go_wp2
        go_region_with (first
          | (go_at_call 64; refine (hst W.drew).mono ?_; rintro e wb ⟨rfl, hb'⟩; have hF := (hwa wb ((bdr W).trans hb')).out; have hbz := (bdr W).trans hb'; obtain ⟨k5, _⟩ := hSS wb hbz; obtain ⟨⟨⟨v0, v1, v2, v3⟩, ⟨t0, t1, t2, t3⟩⟩, hlt1, _⟩ := hN1 wb hbz; have hF2 := (show Hid _ from hF); clear hF)
          | (go_at_call 64; refine hst2.mono ?_; rintro e wb ⟨rfl, hb'⟩; have hZ := (hwb wb ((bdr _).trans hb')).out; obtain ⟨⟨⟨d0, d1, d2, d3⟩, ⟨y0, y1, y2, y3⟩⟩, hF⟩ := hZ; have hF2 := (show Hid _ from hF); clear hF))
        all_goals
          obtain ⟨⟨f0, f1, f2, f3⟩, hfin⟩ := hF2.out
          simp only [putP, axC] at f0 f1 f2 f3 hfin
          clear hF2
          go_wp2
          first
            | exact bodyPost_ret (v := .tuple #[.agg #[.int .i64 1, .slice none 0 0, .int .i64 0, .slice none 0 0], .slice (some ⟨wb.heap.size, 0, none⟩) 1 1]) (by simp [results, Tryd.results40, go_sem, f0, f1, f2, f3]) rfl (by rw [hv.out]; exact hfin.out)
            | exact bodyPost_ret (v := .tuple #[.agg #[.int .i64 1, .slice none 0 0, .int .i64 0, .slice none 0 0], .slice (some ⟨W.heap.size, 0, none⟩) 1 1]) (by simp [results, Tryd.results40, go_sem, f0, f1, f2, f3]) rfl (by rw [hv.out]; exact hfin.out)
      · have i7 : (r == 7) = false := by simp [h7]
        obtain ⟨k0, k1, k2, k3⟩ := hI.1.cells
        obtain ⟨z0, z1, z2, z3⟩ := hI.1.frozen
        by_cases h27 : r = 27
        · have hv : Hid (T = (⟨5, ps, m, ts⟩, [])) := by
            show _ = _
            rw [← hT.out]; unfold stepM titleM; rw [if_pos h4, if_neg h7, if_pos h27]
          have i27 : (r == 27) = true := by simp [h27]
          have hI2 : InvL w (W.setCell ⟨w.heap.size, 0, none⟩ (.int .i64 5)) base (.slice pa pn pc) (.slice ta tn tc) 5 m (.slice ta tn tc) ts R (.slice (some ⟨w.heap.size + 2, 0, none⟩) 0 0) (.slice pa pn pc) ps := hI.box (setCell_gr _ _ 0 _) (hI.1.set 0 _) hI.2.2.2.1 (fun g e => .inl e)
          clear h27
          obtain ⟨⟨⟨c0, c1, c2, c3⟩, _⟩, ⟨⟨d0, d1, d2, d3⟩, ⟨y0, y1, y2, y3⟩⟩, ⟨f0, f1, f2, f3⟩, hfin⟩ := hI2.fin
          simp only [putP] at f0 f1 f2 f3 hfin
          clear hT hI hI2 h4 h7 ht3
          go_wp2
          exact bodyPost_ret (v := .tuple #[.agg #[.int .i64 5, .slice pa pn pc, .int .i64 m, .slice ta tn tc], .slice (some ⟨w.heap.size + 2, 0, none⟩) 0 0]) (by simp [results, Tryd.results40, go_sem, f0, f1, f2, f3]) rfl (by rw [hv.out]; exact hfin.out)
        · have i27 : (r == 27) = false := by simp [h27]
          by_cases h40 : ts.length < 40
          · have h40i : (tn : Int) < 40 := by rw [htn.out]; omega
            have hv : Hid (T = (⟨s, ps, m, ts ++ [r]⟩, [])) := by
              show _ = _
              rw [← hT.out]; unfold stepM titleM; rw [if_pos h4, if_neg h7, if_neg h27, if_pos h40]
            have kL := hI.2.2.2.1.perm (List.Perm.swap _ _ _)
            have kb := hI.2.2.2.2.2.1
            have hlen : ts.length < 2000000 := by omega
            clear hT h4 h7 ht3 h27 h40
            go_wp2_with (refine append_i (by rfl) _ _ (by rfl) base _ _ _ r (by rfl) kL kb hlen (by rfl) ?_)
            intro g cap w3 kk hg3 _
            obtain ⟨⟨⟨x0, x1, x2, x3⟩, ⟨q0, q1, q2, q3⟩⟩, hI3⟩ := hI.appT (fun g e => .inl e) kk hg3
            obtain ⟨n, hn⟩ : ∃ n, Hid (n = ts.length + 1) := ⟨_, rfl⟩
            rw [← hn.out] at hI3 ⊢
            obtain ⟨⟨⟨c0, c1, c2, c3⟩, _⟩, ⟨⟨d0, d1, d2, d3⟩, ⟨y0, y1, y2, y3⟩⟩, ⟨f0, f1, f2, f3⟩, hfin⟩ := hI3.fin
            simp only [putP] at f0 f1 f2 f3 hfin
            clear hI hI3 kk hg3 kL kb k0 k1 k2 k3 z0 z1 z2 z3
            go_wp2
            exact bodyPost_ret (v := .tuple #[.agg #[.int .i64 s, .slice pa pn pc, .int .i64 m, .slice (some ⟨g, 0, none⟩) n cap], .slice (some ⟨w.heap.size + 2, 0, none⟩) 0 0]) (by simp [results, Tryd.results40, go_sem, f0, f1, f2, f3]) rfl (by rw [hv.out]; exact hfin.out)
          · have h40i : ¬ (tn : Int) < 40 := by rw [htn.out]; omega
            have hv : Hid (T = (⟨s, ps, m, ts⟩, [])) := by
              show _ = _
              rw [← hT.out]; unfold stepM titleM; rw [if_pos h4, if_neg h7, if_neg h27, if_neg h40]
            clear k0 k1 k2 k3 z0 z1 z2 z3
            obtain ⟨⟨⟨c0, c1, c2, c3⟩, _⟩, ⟨⟨d0, d1, d2, d3⟩, ⟨y0, y1, y2, y3⟩⟩, ⟨f0, f1, f2, f3⟩, hfin⟩ := hI.fin
            simp only [putP] at f0 f1 f2 f3 hfin
            clear hT hI h4 h7 ht3 h27 h40
            go_wp2
            exact bodyPost_ret (v := .tuple #[.agg #[.int .i64 s, .slice pa pn pc, .int .i64 m, .slice ta tn tc], .slice (some ⟨w.heap.size + 2, 0, none⟩) 0 0]) (by simp [results, Tryd.results40, go_sem, f0, f1, f2, f3]) rfl (by rw [hv.out]; exact hfin.out)
    · have i4 : (s == 4) = false := by simp [h4]
      by_cases h5 : s = 5
      · have i5 : (s == 5) = true := by simp [h5]
        by_cases h92 : r = 92
        · have hv : Hid (T = (st0 1, [⟨5, 0, [], 0, ts⟩])) := by
            show _ = _
            rw [← hT.out]; unfold stepM endM; rw [if_neg h4, if_pos h5, if_pos h92]
          have i92 : (r == 92) = true := by simp [h92]
          have hL' : LiOk W base (axL ⟨⟨5, 0, [], 0, ts⟩, .slice none 0 0, .slice ta tn tc⟩ ++ R) := hI.2.2.2.1.tail.nilc
          have hwa := fun wb h => (show Hid _ from way_a2 (wb := wb) hI.2.2.2.2.1 hI.1 hI.2.1 hL' hI.2.2.2.2.2.1 hn1 1 h)
          have hwb := fun wb h => (show Hid _ from way_b (wb := wb) hI.2.2.2.2.1 hI.2.1 hL' hI.2.2.2.2.2.1 hn1 1 h)
          have hSS : ∀ V, Below W.heap.size W V → V.cell? ⟨w.heap.size, 3, none⟩ = some (.slice ta tn tc) ∧ True := fun V h => ⟨(hI.1.below h).cells.2.2.2, trivial⟩
          have hN1 : ∀ V, Below W.heap.size W V → ((V.cell? ⟨w.heap.size + 1, 0, none⟩ = some (.int .i64 0) ∧ V.cell? ⟨w.heap.size + 1, 1, none⟩ = some (.slice none 0 0) ∧ V.cell? ⟨w.heap.size + 1, 2, none⟩ = some (.int .i64 0) ∧ V.cell? ⟨w.heap.size + 1, 3, none⟩ = some (.slice none 0 0)) ∧ (V.frozen? ⟨w.heap.size + 1, 0, none⟩ = false ∧ V.frozen? ⟨w.heap.size + 1, 1, none⟩ = false ∧ V.frozen? ⟨w.heap.size + 1, 2, none⟩ = false ∧ V.frozen? ⟨w.heap.size + 1, 3, none⟩ = false)) ∧ w.heap.size + 1 < V.heap.size ∧ True := fun V h => by
            have hq := hI.2.1.below h
            exact ⟨cells4 hq, hq.lt, trivial⟩
          obtain ⟨k0, k1, k2, k3⟩ := hI.1.cells
          have hst := fun W => l6State_any 1 W
          have hst2 := hst (W.alloc (.cells #[.int .i64 5, .int .i64 0, .slice none 0 0, .int .i64 0, .slice ta tn tc] 63)).drew
          clear hT h4 h5 h92 ht3 hI hL'
          go_wp2
          go_region_with (first
            | (go_at_call 64; refine (hst W.drew).mono ?_; rintro e wb ⟨rfl, hb'⟩; have hF := (hwa wb ((bdr W).trans hb')).out; have hbz := (bdr W).trans hb'; obtain ⟨k5, _⟩ := hSS wb hbz; obtain ⟨⟨⟨v0, v1, v2, v3⟩, ⟨t0, t1, t2, t3⟩⟩, hlt1, _⟩ := hN1 wb hbz; have hF2 := (show Hid _ from hF); clear hF)
            | (go_at_call 64; refine hst2.mono ?_; rintro e wb ⟨rfl, hb'⟩; have hZ := (hwb wb ((bdr _).trans hb')).out; obtain ⟨⟨⟨d0, d1, d2, d3⟩, ⟨y0, y1, y2, y3⟩⟩, hF⟩ := hZ; have hF2 := (show Hid _ from hF); clear hF))
          all_goals
            obtain ⟨⟨f0, f1, f2, f3⟩, hfin⟩ := hF2.out
            simp only [putP, axC] at f0 f1 f2 f3 hfin
            clear hF2
            go_wp2
            first
              | exact bodyPost_ret (v := .tuple #[.agg #[.int .i64 1, .slice none 0 0, .int .i64 0, .slice none 0 0], .slice (some ⟨wb.heap.size, 0, none⟩) 1 1]) (by simp [results, Tryd.results40, go_sem, f0, f1, f2, f3]) rfl (by rw [hv.out]; exact hfin.out)
              | exact bodyPost_ret (v := .tuple #[.agg #[.int .i64 1, .slice none 0 0, .int .i64 0, .slice none 0 0], .slice (some ⟨W.heap.size, 0, none⟩) 1 1]) (by simp [results, Tryd.results40, go_sem, f0, f1, f2, f3]) rfl (by rw [hv.out]; exact hfin.out)
        · have i92 : (r == 92) = false := by simp [h92]
          have hv : Hid (T = (st0 1, [])) := by
            show _ = _
            rw [← hT.out]; unfold stepM endM; rw [if_neg h4, if_pos h5, if_neg h92]
          have hst := fun st W => l6State_any st W
          have hws := fun wb (h : Below W.heap.size W wb) st => (show Hid _ from And.intro (cells4 (hI.2.1.below h)) (way_s (hI.2.2.2.2.1.below h) (hI.2.1.below h) (hI.2.2.1.below h) (hI.2.2.2.1.tail.tail.below h) hn1 st))
          obtain ⟨k0, k1, k2, k3⟩ := hI.1.cells
          clear hT hI h4 h5 h92 ht3
          go_wp2_with (go_at_call 64; refine (hst 1 _).mono ?_; rintro e wb ⟨rfl, hb'⟩; obtain ⟨⟨⟨d0, d1, d2, d3⟩, ⟨y0, y1, y2, y3⟩⟩, ⟨f0, f1, f2, f3⟩, hfin⟩ := (hws wb hb' 1).out; simp only [putP] at f0 f1 f2 f3 hfin)
          exact bodyPost_ret (v := .tuple #[.agg #[.int .i64 1, .slice none 0 0, .int .i64 0, .slice none 0 0], .slice (some ⟨w.heap.size + 2, 0, none⟩) 0 0]) (by simp [results, Tryd.results40, go_sem, f0, f1, f2, f3]) rfl (by rw [hv.out]; exact hfin.out)
      · have i5 : (s == 5) = false := by simp [h5]
        have hst := fun st W => l6State_any st W
        have hws := fun wb (h : Below W.heap.size W wb) st => (show Hid _ from And.intro (cells4 (hI.2.1.below h)) (way_s (hI.2.2.2.2.1.below h) (hI.2.1.below h) (hI.2.2.1.below h) (hI.2.2.2.1.tail.tail.below h) hn1 st))
        obtain ⟨k0, k1, k2, k3⟩ := hI.1.cells
        by_cases h27 : r = 27
        · have hv : Hid (T = (st0 2, [])) := by
            show _ = _
            rw [← hT.out]; unfold stepM; rw [if_neg h4, if_neg h5, if_pos h27]
          have i27 : (r == 27) = true := by simp [h27]
          clear hT hI h4 h5 h27 ht3
          go_wp2_with (go_at_call 64; refine (hst 2 _).mono ?_; rintro e wb ⟨rfl, hb'⟩; obtain ⟨⟨⟨d0, d1, d2, d3⟩, ⟨y0, y1, y2, y3⟩⟩, ⟨f0, f1, f2, f3⟩, hfin⟩ := (hws wb hb' 2).out; simp only [putP] at f0 f1 f2 f3 hfin)
          exact bodyPost_ret (v := .tuple #[.agg #[.int .i64 2, .slice none 0 0, .int .i64 0, .slice none 0 0], .slice (some ⟨w.heap.size + 2, 0, none⟩) 0 0]) (by simp [results, Tryd.results40, go_sem, f0, f1, f2, f3]) rfl (by rw [hv.out]; exact hfin.out)
        · have i27 : (r == 27) = false := by simp [h27]
          by_cases h24 : r = 24 ∨ r = 26
          · have hv : Hid (T = (st0 1, [])) := by
              show _ = _
              rw [← hT.out]; unfold stepM; rw [if_neg h4, if_neg h5, if_neg h27, if_pos h24]
            clear hT hI h4 h5 h27 ht3
            rcases h24 with h24 | h24
            · have i24 : (r == 24) = true := by simp [h24]
              clear h24
              go_wp2_with (go_at_call 64; refine (hst 1 _).mono ?_; rintro e wb ⟨rfl, hb'⟩; obtain ⟨⟨⟨d0, d1, d2, d3⟩, ⟨y0, y1, y2, y3⟩⟩, ⟨f0, f1, f2, f3⟩, hfin⟩ := (hws wb hb' 1).out; simp only [putP] at f0 f1 f2 f3 hfin)
              exact bodyPost_ret (v := .tuple #[.agg #[.int .i64 1, .slice none 0 0, .int .i64 0, .slice none 0 0], .slice (some ⟨w.heap.size + 2, 0, none⟩) 0 0]) (by simp [results, Tryd.results40, go_sem, f0, f1, f2, f3]) rfl (by rw [hv.out]; exact hfin.out)
            · have i24 : (r == 24) = false := by simp; omega
              have i26 : (r == 26) = true := by simp [h24]
              clear h24
              go_wp2_with (go_at_call 64; refine (hst 1 _).mono ?_; rintro e wb ⟨rfl, hb'⟩; obtain ⟨⟨⟨d0, d1, d2, d3⟩, ⟨y0, y1, y2, y3⟩⟩, ⟨f0, f1, f2, f3⟩, hfin⟩ := (hws wb hb' 1).out; simp only [putP] at f0 f1 f2 f3 hfin)
              exact bodyPost_ret (v := .tuple #[.agg #[.int .i64 1, .slice none 0 0, .int .i64 0, .slice none 0 0], .slice (some ⟨w.heap.size + 2, 0, none⟩) 0 0]) (by simp [results, Tryd.results40, go_sem, f0, f1, f2, f3]) rfl (by rw [hv.out]; exact hfin.out)
          · have i24 : (r == 24) = false := by simp; omega
            have i26 : (r == 26) = false := by simp; omega
            clear hws hst
            by_cases h32 : r < 32 ∨ r = 127
            · have hv : Hid (T = (⟨s, ps, m, ts⟩, [acR 2 r])) := by
                show _ = _
                rw [← hT.out]; unfold stepM; rw [if_neg h4, if_neg h5, if_neg h27, if_neg h24, if_pos h32]
              obtain ⟨_, ⟨⟨d0, d1, d2, d3⟩, ⟨y0, y1, y2, y3⟩⟩, ⟨f0, f1, f2, f3⟩, hfin⟩ := hI.plain 2 r
              simp only [putP, axC, axP, acR] at d0 d1 d2 d3 y0 y1 y2 y3 f0 f1 f2 f3 hfin
              clear hT hI h4 h5 h27 h24 ht3
              by_cases h32a : r < 32
              · clear h32
                go_wp2
                exact bodyPost_ret (v := .tuple #[.agg #[.int .i64 s, .slice pa pn pc, .int .i64 m, .slice ta tn tc], .slice (some ⟨W.heap.size, 0, none⟩) 1 1]) (by simp [results, Tryd.results40, go_sem, f0, f1, f2, f3]) rfl (by rw [hv.out]; exact hfin.out)
              · have i127 : (r == 127) = true := by simp; omega
                clear h32
                go_wp2
                exact bodyPost_ret (v := .tuple #[.agg #[.int .i64 s, .slice pa pn pc, .int .i64 m, .slice ta tn tc], .slice (some ⟨W.heap.size, 0, none⟩) 1 1]) (by simp [results, Tryd.results40, go_sem, f0, f1, f2, f3]) rfl (by rw [hv.out]; exact hfin.out)
            · have h32a : ¬ r < 32 := by omega
              have i127 : (r == 127) = false := by simp; omega
              by_cases h2 : s = 2
              · have hv : Hid (T = escM r) := by
                  show _ = _
                  rw [← hT.out]; unfold stepM; rw [if_neg h4, if_neg h5, if_neg h27, if_neg h24, if_neg h32, if_pos h2]
                have i2 : (s == 2) = true := by simp [h2]
                have hes := l6Escape_any r base (.slice pa pn pc) (.slice ta tn tc) R W hI.2.2.2.1.tail.tail hI.2.2.2.2.2.1
                have hcal := fun e wb k => (show Hid _ from hI.callee (wb := wb) (e := e) (T := escM r) k)
                clear hT hI h4 h5 h27 h24 h32 h2 ht3
                go_wp2_with fail
                refine hes.mono ?_
                intro e wb kS
                obtain ⟨a, b, c, a2, b2, c2, a3, b3', c3, rfl, ⟨⟨d0, d1, d2, d3⟩, ⟨y0, y1, y2, y3⟩⟩, ⟨f0, f1, f2, f3⟩, hfin⟩ := (hcal e wb kS).out
                simp only [putP] at f0 f1 f2 f3 hfin
                clear hcal kS hes k0 k1 k2 k3
                generalize escM r = T2 at *
                go_wp2
                exact bodyPost_ret (v := .tuple #[.agg #[.int .i64 T2.1.state, .slice a b c, .int .i64 T2.1.mark, .slice a2 b2 c2], .slice a3 b3' c3]) (by simp [results, Tryd.results40, go_sem, f0, f1, f2, f3]) rfl (by rw [hv.out]; exact hfin.out)
              · have i2 : (s == 2) = false := by simp [h2]
                by_cases h3 : s = 3
                · have hts : ts = [] := ht3 h3
                  have hv : Hid (T = listM ⟨s, ps, m, ts⟩ r) := by
                    show _ = _
                    rw [← hT.out]; unfold stepM; rw [if_neg h4, if_neg h5, if_neg h27, if_neg h24, if_neg h32, if_neg h2, if_pos h3]
                  have i3 : (s == 3) = true := by simp [h3]
                  have hes := l6List_any s ps m ts (.slice pa pn pc) (.slice ta tn tc) r base R W hI.2.2.2.1 hI.2.2.2.2.2.1 hp hpb h3 hts
                  have hcal := fun e wb k => (show Hid _ from hI.callee (wb := wb) (e := e) (T := listM ⟨s, ps, m, ts⟩ r) k)
                  unfold paV at hes
                  clear hT hI h4 h5 h27 h24 h32 h2 h3 ht3 hts
                  go_wp2_with fail
                  refine hes.mono ?_
                  intro e wb kS
                  obtain ⟨a, b, c, a2, b2, c2, a3, b3', c3, rfl, ⟨⟨d0, d1, d2, d3⟩, ⟨y0, y1, y2, y3⟩⟩, ⟨f0, f1, f2, f3⟩, hfin⟩ := (hcal e wb kS).out
                  simp only [putP] at f0 f1 f2 f3 hfin
                  clear hcal kS hes k0 k1 k2 k3
                  generalize listM ⟨s, ps, m, ts⟩ r = T2 at *
                  go_wp2
                  exact bodyPost_ret (v := .tuple #[.agg #[.int .i64 T2.1.state, .slice a b c, .int .i64 T2.1.mark, .slice a2 b2 c2], .slice a3 b3' c3]) (by simp [results, Tryd.results40, go_sem, f0, f1, f2, f3]) rfl (by rw [hv.out]; exact hfin.out)
                · have i3 : (s == 3) = false := by simp [h3]
                  have hwd := specWidth_any r W
                  by_cases hw : 0 < widthV r
                  · have hv : Hid (T = (⟨s, ps, m, ts⟩, [acR 1 r])) := by
                      show _ = _
                      rw [← hT.out]; unfold stepM; rw [if_neg h4, if_neg h5, if_neg h27, if_neg h24, if_neg h32, if_neg h2, if_neg h3, if_pos hw]
                    obtain ⟨_, ⟨⟨d0, d1, d2, d3⟩, ⟨y0, y1, y2, y3⟩⟩, ⟨f0, f1, f2, f3⟩, hfin⟩ := hI.plain 1 r
                    simp only [putP, axC, axP, acR] at d0 d1 d2 d3 y0 y1 y2 y3 f0 f1 f2 f3 hfin
                    clear hT hI h4 h5 h27 h24 h32 h2 h3 ht3
                    generalize widthV r = wdt at *
                    go_wp2_with (go_at_call 67; refine hwd.mono ?_; rintro e wb ⟨rfl, rfl⟩)
                    exact bodyPost_ret (v := .tuple #[.agg #[.int .i64 s, .slice pa pn pc, .int .i64 m, .slice ta tn tc], .slice (some ⟨wb.heap.size, 0, none⟩) 1 1]) (by simp [results, Tryd.results40, go_sem, f0, f1, f2, f3]) rfl (by rw [hv.out]; exact hfin.out)
                  · have hv : Hid (T = (⟨s, ps, m, ts⟩, [])) := by
                      show _ = _
                      rw [← hT.out]; unfold stepM; rw [if_neg h4, if_neg h5, if_neg h27, if_neg h24, if_neg h32, if_neg h2, if_neg h3, if_neg hw]
                    obtain ⟨⟨⟨c0, c1, c2, c3⟩, _⟩, ⟨⟨d0, d1, d2, d3⟩, ⟨y0, y1, y2, y3⟩⟩, ⟨f0, f1, f2, f3⟩, hfin⟩ := hI.fin
                    simp only [putP] at f0 f1 f2 f3 hfin
                    clear hT hI h4 h5 h27 h24 h32 h2 h3 ht3 k0 k1 k2 k3
                    generalize widthV r = wdt at *
                    go_wp2_with (go_at_call 67; refine hwd.mono ?_; rintro e wb ⟨rfl, rfl⟩)
                    exact bodyPost_ret (v := .tuple #[.agg #[.int .i64 s, .slice pa pn pc, .int .i64 m, .slice ta tn tc], .slice (some ⟨w.heap.size + 2, 0, none⟩) 0 0]) (by simp [results, Tryd.results40, go_sem, f0, f1, f2, f3]) rfl (by rw [hv.out]; exact hfin.out)
  clear hH
  go_wp2
  exact hcut.out _ hI
end Go.Proofs.YtkcekacnebhcgaaDoor
namespace Go.Proofs.YtkcekacnebhcgaaDoor
open Go.ChangeShapes Go.WideShapes Go.ChangeAt Go.RowKit
/-- What Parsed and Step leave behind. -/
def Ans (w w' : World) (e : Ending) (T : Pa × List Ac) : Prop :=
  ∃ pv tv av, e = .returned (.tuple #[paV T.1 pv tv, av]) ∧ AnsOk w' w.heap.size pv tv T.1 av T.2 ∧ Below w.heap.size w w'
theorem parsedA_no {p : Pa} {l : List Int} (h : (okV p && decide (l.length ≤ 2000) && runesB l) = false) : parsedA p l = (paZ, []) := by unfold parsedA; rw [h]; rfl
theorem parsedA_yes {p : Pa} {l : List Int} (h : (okV p && decide (l.length ≤ 2000) && runesB l) = true) : parsedA p l = parsedM p l := by unfold parsedA; rw [h]; rfl
set_option maxHeartbeats 4000000 in
set_option maxRecDepth 20000 in
theorem implParsed_no (p : Pa) (pv tv lv : Value) (l : List Int) (w : World) (hp : SlN w pv p.params) (ht : SlN w tv p.text) (hv : SlN w lv l) (hpl : p.params.length ≤ 1073741824) (htl : p.text.length ≤ 1073741824) (hll : l.length ≤ 1073741824)
    (hno : (okV p && decide (l.length ≤ 2000) && runesB l) = false) :
    Calls Tryd.prog 10 #[paV p pv tv, lv] w fun e w' => Ans w w' e (paZ, []) := by
  obtain ⟨s, ps, m, ts⟩ := p
  have hb0 := bal' w (Obj.cells #[.int .i64 s, pv, .int .i64 m, tv] 26)
  have hb1 := bal' (w.alloc (Obj.cells #[.int .i64 s, pv, .int .i64 m, tv] 26)) (Obj.cells #[.int .i64 0, .slice none 0 0, .int .i64 0, .slice none 0 0] 26)
  have hR := PaC.new (w.alloc (Obj.cells #[.int .i64 s, pv, .int .i64 m, tv] 26)) 0 0 (.slice none 0 0) (.slice none 0 0) 26
  have e0 : (w.alloc (Obj.cells #[.int .i64 s, pv, .int .i64 m, tv] 26)).heap.size = w.heap.size + 1 := by simp
  have hP := (PaC.new w s m pv tv 26).below hb1
  have hbb := hb0.trans (hb1.mono hb0.size)
  have hp2 := hp.below hbb
  have ht2 := ht.below hbb
  have hv2 := hv.below hbb
  rw [e0] at hR
  clear hb0 hb1 e0 hp ht hv
  have hs2 : ((w.alloc (Obj.cells #[.int .i64 s, pv, .int .i64 m, tv] 26)).alloc (Obj.cells #[.int .i64 0, .slice none 0 0, .int .i64 0, .slice none 0 0] 26)).heap.size = w.heap.size + 2 := by simp
  have hO := fun W h1 h2 => implParserOk_any ⟨s, ps, m, ts⟩ pv tv W h1 h2 hpl htl
  have hA := fun W h => allRunes_any lv l W h hll
  unfold paV at *
  obtain ⟨la, lc, hlv⟩ := hv2.shp
  subst hlv
  simp only at *
  obtain ⟨pa, pc, hpv⟩ := hp2.shp
  obtain ⟨ta, tc, htv⟩ := ht2.shp
  subst hpv; subst htv
  obtain ⟨_, ⟨c0, c1, c2, c3⟩, _⟩ := id hP
  have hend : ∀ W, Below w.heap.size w W → PaC W (w.heap.size + 1) 0 (.slice none 0 0) 0 (.slice none 0 0) → w.heap.size + 2 ≤ W.heap.size →
      Hid ((W.frozen? ⟨w.heap.size + 1, 0, none⟩ = false ∧ W.frozen? ⟨w.heap.size + 1, 1, none⟩ = false ∧ W.frozen? ⟨w.heap.size + 1, 2, none⟩ = false ∧ W.frozen? ⟨w.heap.size + 1, 3, none⟩ = false) ∧
      PaC (putP (W.alloc (.cells #[] 63)) (w.heap.size + 1) 0 (.slice none 0 0) 0 (.slice none 0 0)) (w.heap.size + 1) 0 (.slice none 0 0) 0 (.slice none 0 0) ∧
      AnsOk (putP (W.alloc (.cells #[] 63)) (w.heap.size + 1) 0 (.slice none 0 0) 0 (.slice none 0 0)) w.heap.size (.slice none 0 0) (.slice none 0 0) paZ (.slice (some ⟨W.heap.size, 0, none⟩) 0 0) [] ∧
      Below w.heap.size w (putP (W.alloc (.cells #[] 63)) (w.heap.size + 1) 0 (.slice none 0 0) 0 (.slice none 0 0))) := fun W hb hc hs => by
    have hx := ownX_lit W (w.heap.size + 2) hs
    have hg := putP_grown (W.alloc (.cells #[] 63)) (w.heap.size + 1) 0 (.slice none 0 0) 0 (.slice none 0 0)
    refine ⟨hc.2.2, (hc.below (bal' _ _)).put _ _ _ _, ?_, ?_⟩
    · exact ((show AnsOk (W.alloc (.cells #[] 63)) (w.heap.size + 2) (.slice none 0 0) (.slice none 0 0) paZ (.slice (some ⟨W.heap.size, 0, none⟩) 0 0) [] from ⟨[], rfl, hx, (LiOk.nil _ _).nilc.nilc⟩).grown hg (by omega)).low (by omega)
    · exact (hb.alloc (by omega) _).grown hg (by simp; omega) (fun k e => by cases e; omega)
  have hfin : ∀ w3, Below (w.heap.size + 2) ((w.alloc (Obj.cells #[.int .i64 s, .slice pa ps.length pc, .int .i64 m, .slice ta ts.length tc] 26)).alloc (Obj.cells #[.int .i64 0, .slice none 0 0, .int .i64 0, .slice none 0 0] 26)) w3 → Hid (((w3.alloc (Obj.cells #[] 63)).cell? ⟨w.heap.size + 1, 0, none⟩ = some (.int .i64 0) ∧ (w3.alloc (Obj.cells #[] 63)).cell? ⟨w.heap.size + 1, 1, none⟩ = some (.slice none 0 0) ∧ (w3.alloc (Obj.cells #[] 63)).cell? ⟨w.heap.size + 1, 2, none⟩ = some (.int .i64 0) ∧ (w3.alloc (Obj.cells #[] 63)).cell? ⟨w.heap.size + 1, 3, none⟩ = some (.slice none 0 0)) ∧ ((w3.alloc (Obj.cells #[] 63)).frozen? ⟨w.heap.size + 1, 0, none⟩ = false ∧ (w3.alloc (Obj.cells #[] 63)).frozen? ⟨w.heap.size + 1, 1, none⟩ = false ∧ (w3.alloc (Obj.cells #[] 63)).frozen? ⟨w.heap.size + 1, 2, none⟩ = false ∧ (w3.alloc (Obj.cells #[] 63)).frozen? ⟨w.heap.size + 1, 3, none⟩ = false) ∧
      PaC (putP (w3.alloc (.cells #[] 63)) (w.heap.size + 1) 0 (.slice none 0 0) 0 (.slice none 0 0)) (w.heap.size + 1) 0 (.slice none 0 0) 0 (.slice none 0 0) ∧
      Ans w (putP (w3.alloc (.cells #[] 63)) (w.heap.size + 1) 0 (.slice none 0 0) 0 (.slice none 0 0)) (.returned (.tuple #[.agg #[.int .i64 0, .slice none 0 0, .int .i64 0, .slice none 0 0], .slice (some ⟨w3.heap.size, 0, none⟩) 0 0])) (paZ, [])) := fun w3 hb => by
    rw [← hs2] at hb
    have hR3 := hR.below hb
    have hE := (hend w3 (hbb.trans (hb.mono hbb.size)) hR3 (by have := hb.size; omega)).out
    have hR4 := hR3.below (bal' w3 (Obj.cells #[] 63))
    exact ⟨hR4.2.1, hR4.2.2, hE.2.1, _, _, _, rfl, hE.2.2.1, hE.2.2.2⟩
  clear hend hbb hR hP
  cases hok : okV ⟨s, ps, m, ts⟩
  · have hO2 := hO _ hp2.l.sl ht2.l.sl
    rw [hok, hs2] at hO2
    clear hp2 ht2 hv2 hno hA hO
    go_enter Tryd.func10, Tryd.ntmps10
    go_wp2_with fail
    refine hO2.mono ?_
    rintro e w3 ⟨rfl, hb⟩
    obtain ⟨⟨d0, d1, d2, d3⟩, ⟨z0, z1, z2, z3⟩, hF, hAns⟩ := (hfin w3 hb).out
    have hAn := (show Hid _ from hAns)
    obtain ⟨f0, f1, f2, f3⟩ := hF.2.1
    clear hfin hO2 hb hF hAns c0 c1 c2 c3
    simp only [putP] at f0 f1 f2 f3 hAn
    go_wp2
    exact bodyPost_ret (v := .tuple #[.agg #[.int .i64 0, .slice none 0 0, .int .i64 0, .slice none 0 0], .slice (some ⟨w3.heap.size, 0, none⟩) 0 0]) (by simp [results, Tryd.results10, go_sem, f0, f1, f2, f3]) rfl hAn.out
  · have hO2 := hO _ hp2.l.sl ht2.l.sl
    rw [hok, hs2] at hO2
    by_cases h2 : l.length ≤ 2000
    · have h2i : ¬ (2000 : Int) < (l.length : Int) := by omega
      have hru : runesB l = false := by
        rw [hok, decide_eq_true h2] at hno
        simpa using hno
      have hA2 := fun W h => hA W h
      rw [hru] at hA2
      have hv3 := fun W (hb : Below (w.heap.size + 2) ((w.alloc (Obj.cells #[.int .i64 s, .slice pa ps.length pc, .int .i64 m, .slice ta ts.length tc] 26)).alloc (Obj.cells #[.int .i64 0, .slice none 0 0, .int .i64 0, .slice none 0 0] 26)) W) => (hv2.below (show Below _ _ W by rw [hs2]; exact hb)).l.sl
      clear hp2 ht2 hv2 hno hA hO
      go_enter Tryd.func10, Tryd.ntmps10
      go_wp2_with fail
      refine hO2.mono ?_
      rintro e w3 ⟨rfl, hb⟩
      obtain ⟨⟨d0, d1, d2, d3⟩, ⟨z0, z1, z2, z3⟩, hF, hAns⟩ := (hfin w3 hb).out
      have hAn := (show Hid _ from hAns)
      have hA3 := hA2 w3 (hv3 w3 hb)
      obtain ⟨f0, f1, f2, f3⟩ := hF.2.1
      clear hfin hO2 hb hF hAns c0 c1 c2 c3 hA2 hv3
      simp only [putP] at f0 f1 f2 f3 hAn
      go_wp2_with fail
      refine hA3.mono ?_
      rintro e w4 ⟨rfl, hw⟩
      subst hw
      go_wp2
      exact bodyPost_ret (v := .tuple #[.agg #[.int .i64 0, .slice none 0 0, .int .i64 0, .slice none 0 0], .slice (some ⟨w4.heap.size, 0, none⟩) 0 0]) (by simp [results, Tryd.results10, go_sem, f0, f1, f2, f3]) rfl hAn.out
    · have h2i : (2000 : Int) < (l.length : Int) := by omega
      clear hp2 ht2 hv2 hno hA hO
      go_enter Tryd.func10, Tryd.ntmps10
      go_wp2_with fail
      refine hO2.mono ?_
      rintro e w3 ⟨rfl, hb⟩
      obtain ⟨⟨d0, d1, d2, d3⟩, ⟨z0, z1, z2, z3⟩, hF, hAns⟩ := (hfin w3 hb).out
      have hAn := (show Hid _ from hAns)
      obtain ⟨f0, f1, f2, f3⟩ := hF.2.1
      clear hfin hO2 hb hF hAns c0 c1 c2 c3
      simp only [putP] at f0 f1 f2 f3 hAn
      go_wp2
      exact bodyPost_ret (v := .tuple #[.agg #[.int .i64 0, .slice none 0 0, .int .i64 0, .slice none 0 0], .slice (some ⟨w3.heap.size, 0, none⟩) 0 0]) (by simp [results, Tryd.results10, go_sem, f0, f1, f2, f3]) rfl hAn.out
end Go.Proofs.YtkcekacnebhcgaaDoor
namespace Go.Proofs.YtkcekacnebhcgaaDoor
def T3 (p : Pa) : Prop := p.state = 3 → p.text = []
theorem st0_t3 (s : Int) : T3 (st0 s) := fun _ => rfl
theorem step_t3 (p : Pa) (r : Int) (h : T3 p) : T3 (stepM p r).1 := by
  unfold stepM
  split
  · rename_i h4
    unfold titleM
    split
    · exact st0_t3 _
    split
    · intro h3; exact absurd h3 (by simp)
    split
    · intro h3; exact absurd (show p.state = 3 from h3) (by omega)
    · exact h
  split
  · unfold endM; split <;> exact st0_t3 _
  split
  · exact st0_t3 _
  split
  · exact st0_t3 _
  split
  · exact h
  split
  · unfold escM
    split
    · exact st0_t3 _
    split
    · exact st0_t3 _
    split <;> exact st0_t3 _
  split
  · unfold listM
    split
    · unfold takenP
      split
      · exact h
      split <;> exact h
    · split <;> exact st0_t3 _
  split <;> exact h
theorem parsed_t3 (p : Pa) (l : List Int) (h : T3 p) : T3 (parsedM p l).1 := by
  induction l generalizing p with
  | nil => exact h
  | cons r l ih => exact ih _ (step_t3 p r h)
theorem okV_t3 {p : Pa} (h : okV p = true) : T3 p := by
  unfold okV at h
  rw [Bool.and_eq_true, Bool.and_eq_true, decide_eq_true_eq] at h
  intro h3
  rcases h.1.1.2.2.2.2.2.2 with h2 | h2
  · omega
  · exact List.eq_nil_of_length_eq_zero h2
/-- What is told by a list's first runes, one more told. -/
theorem parsedM_take (p : Pa) (l : List Int) (i : Nat) (hi : i < l.length) : parsedM p (l.take (i + 1)) = ((stepM (parsedM p (l.take i)).1 (l.getD i 0)).1, (parsedM p (l.take i)).2 ++ (stepM (parsedM p (l.take i)).1 (l.getD i 0)).2) := by
  rw [← parsedM_snoc]
  congr 1
  rw [List.take_add_one]
  simp [List.getD, hi]
end Go.Proofs.YtkcekacnebhcgaaDoor
namespace Go.Proofs.YtkcekacnebhcgaaDoor
open Go.ChangeShapes Go.WideShapes Go.ChangeAt Go.RowKit
set_option maxHeartbeats 400000 in
theorem eqI_same (va vb : Value) (xs : List Int) (w : World) (ha : SlI w va xs) (hb : SlI w vb xs) (hl : xs.length ≤ 1073741824) :
    Calls Tryd.prog 28 #[va, vb] w fun e w' => e = .returned (.bool true) ∧ ∃ n, w' = w.drewN n := by
  by_cases h0 : xs = []
  · subst h0
    obtain ⟨a, c, rfl, _⟩ := ha
    obtain ⟨a', c', rfl, _⟩ := hb
    go_enter Tryd.func28, Tryd.ntmps28
    go_wp2
    refine wp_loop_rounds 1 ?_
    rw [rounds_succ]
    go_wp2
    go_ret
    exact ⟨rfl, 0, rfl⟩
  · obtain ⟨_, c, rfl, e | ⟨b, off, rfl, _, hca⟩⟩ := ha
    · exact absurd e h0
    · obtain ⟨_, c', rfl, e | ⟨b', off', rfl, _, hcb⟩⟩ := hb
      · exact absurd e h0
      · generalize hn : xs.length = n at *
        clear h0 hn
        go_enter Tryd.func28, Tryd.ntmps28
        go_wp2
        go_loopw [5] (fun i wr => ∃ k : Nat, k ≤ n ∧ i = .int .i64 k ∧ ∃ m, wr = w.drewN m) (fun i _ => n - (intOf i).toNat)
        case atStart => exact ⟨0, Nat.zero_le _, rfl, 0, rfl⟩
        case round =>
          obtain ⟨k, hk, rfl, m, rfl⟩ := hrel
          by_cases hlt : k < n
          · have h1 : w.cell? ⟨b, off + k, none⟩ = some (.int .i64 (xs.getD k 0)) := hca k hlt
            have h2 : w.cell? ⟨b', off' + k, none⟩ = some (.int .i64 (xs.getD k 0)) := hcb k hlt
            have hi : (k : Int) < (n : Int) := by omega
            generalize xs.getD k 0 = x at *
            clear hca hcb
            go_wp2
            go_quiet (fail)
            go_wp2
            go_roundw
            case rel => exact ⟨k + 1, by omega, by go_num, m + nq, by simp⟩
            case measure => simp [intOf]; omega
          · go_wp2
            go_ret
            exact ⟨rfl, m, rfl⟩

theorem grown_trans {a b c : World} {row : Option Nat} (h : a.grownBy b row) (k : b.grownBy c row) : a.grownBy c row :=
  ⟨k.os.trans h.os, k.tape.trans h.tape, k.output.trans h.output, Nat.le_trans h.size k.size, fun i hi hr => (k.block i (Nat.lt_of_lt_of_le hi h.size) hr).trans (h.block i hi hr)⟩
def marksI (k : Int) (n : Nat) : List Int := (List.range n).map fun (i : Nat) => k + (i : Int)
theorem marksI_len (k : Int) (n : Nat) : (marksI k n).length = n := by simp [marksI]
theorem marksI_at (k : Int) (n i : Nat) (h : i < n) : (marksI k n).getD i 0 = k + (i : Int) := by simp [marksI, h]

set_option maxHeartbeats 400000 in
theorem heldI_marks (v : Value) (k : Int) (n : Nat) (w : World) (hv : SlI w v (marksI k n)) (hk : 0 ≤ k ∧ k ≤ 1073741824) (hl : n ≤ 1073741824) :
    Calls Tryd.prog 50 #[v, .int .i64 k] w fun e w' => e = .returned (.int .i64 (k + n)) ∧ w' = w := by
  obtain ⟨a, c, rfl, e | ⟨b, off, rfl, _, hc⟩⟩ := hv
  · have h0 : n = 0 := by have := marksI_len k n; rw [e] at this; simpa using this.symm
    subst h0
    rw [marksI_len]
    go_enter Tryd.func50, Tryd.ntmps50
    go_wp2
    refine wp_loop_rounds 1 ?_
    rw [rounds_succ]
    go_wp2
    go_ret
    exact ⟨by simp, rfl⟩
  · rw [marksI_len] at hc ⊢
    have hc2 : ∀ i, i < n → w.cell? ⟨b, off + i, none⟩ = some (.int .i64 (k + (i : Int))) := fun i hi => by rw [hc i hi, marksI_at k n i hi]
    clear hc
    go_enter Tryd.func50, Tryd.ntmps50
    go_wp2
    go_loop [1, 5] (fun q i => ∃ j : Nat, j ≤ n ∧ i = .int .i64 j ∧ q = .int .i64 (k + (j : Int))) (fun _ i => n - (intOf i).toNat)
    case atStart => exact ⟨0, Nat.zero_le _, rfl, by simp⟩
    case round =>
      obtain ⟨j, hj, rfl, rfl⟩ := hrel
      by_cases hlt : j < n
      · have h1 := hc2 j hlt
        clear hc2
        go_wp2
        go_round
        case rel => exact ⟨j + 1, by omega, by go_num, by go_num⟩
        case measure => simp [intOf]; omega
      · have hjn : j = n := by omega
        subst hjn
        go_wp2
        go_ret
        exact ⟨rfl, rfl⟩

/-- Two lists' prefixes marked: what stands there while it is marked. -/
theorem marked_all (k : Int) (n : Nat) (ys : List Value) (hl : ys.length = n) (h : ∀ i, i < n → ys[i]? = some (.int .i64 (k + (i : Int)))) : ys = (marksI k n).map (Value.int .i64) := by
  apply List.ext_getElem?
  intro i
  by_cases hi : i < n
  · rw [h i hi]; simp [marksI, hi]
  · rw [List.getElem?_eq_none (by omega), List.getElem?_eq_none (by simp [marksI]; omega)]

set_option maxHeartbeats 400000 in
theorem markI_own (base : Nat) (v : Value) (k : Int) (n : Nat) (xs : List Value) (w : World) (hown : w.ownsRow base 2 1 v n xs) (hk : 0 ≤ k ∧ k ≤ 1073741824) (hl : n ≤ 1073741824) :
    Calls Tryd.prog 29 #[v, .int .i64 k] w fun e w' => e = .returned (.int .i64 (k + n)) ∧ w'.ownsRow base 2 1 v n ((marksI k n).map (Value.int .i64)) ∧ w.grownBy w' v.ownBlock := by
  have hlen := hown.1
  rcases hown.2 with ⟨rfl, rfl⟩ | ⟨g, cap, cur, rfl, hb, hg, _⟩
  · go_enter Tryd.func29, Tryd.ntmps29
    go_wp2
    refine wp_loop_rounds 1 ?_
    rw [rounds_succ]
    go_wp2
    go_ret
    exact ⟨by simp, World.ownsRow_nil _ _ _ _, World.grownBy.refl _ _⟩
  · clear hg
    go_enter Tryd.func29, Tryd.ntmps29
    go_wp2
    go_loopw [1, 5] (fun q i wr => ∃ (j : Nat) (ys : List Value), j ≤ n ∧ i = .int .i64 j ∧ q = .int .i64 (k + (j : Int)) ∧ wr.ownsRow base 2 1 (.slice (some ⟨g, 0, none⟩) n cap) n ys ∧ ys.length = n ∧ (∀ t, t < j → ys[t]? = some (.int .i64 (k + (t : Int)))) ∧ w.grownBy wr (some g)) (fun _ i _ => n - (intOf i).toNat)
    case atStart => exact ⟨0, xs, Nat.zero_le _, rfl, by simp, hown, by simpa using hlen, by simp, World.grownBy.refl _ _⟩
    case round =>
      obtain ⟨j, ys, hj, rfl, rfl, ho, hyl, hys, hgr⟩ := hrel
      by_cases hlt : j < n
      · have h1 : ∃ u, wr.cell? ⟨g, j, none⟩ = some u := by
          rw [ho.cellAt j (by omega)]; exact ⟨_, List.getElem?_eq_getElem (by omega)⟩
        obtain ⟨u, h1⟩ := h1
        have h2 := ho.frozenAt j
        have hst := ho.stored j (.int .i64 (k + (j : Int)))
        obtain ⟨hst1, hst2⟩ := hst
        clear ho
        go_wp2
        go_roundw
        case rel =>
          refine ⟨j + 1, ys.set j (.int .i64 (k + (j : Int))), by omega, by go_num, by go_num, hst1, by simpa using hyl, ?_, grown_trans hgr hst2⟩
          intro t ht
          by_cases e : t = j
          · subst e; simp [hyl, hlt]
          · rw [List.getElem?_set_ne (by omega)]; exact hys t (by omega)
        case measure => simp [intOf]; omega
      · have hjn : j = n := by omega
        subst hjn
        go_wp2
        go_ret
        exact ⟨rfl, by rw [← marked_all k j ys hyl hys]; exact ho, hgr⟩

end Go.Proofs.YtkcekacnebhcgaaDoor
namespace Go.Proofs.YtkcekacnebhcgaaDoor
open Go.ChangeShapes Go.WideShapes Go.ChangeAt Go.RowKit
theorem szI_any (v : Value) (xs : List Int) (left : Nat) (w : World) (hv : SlI w v xs) (hl : xs.length ≤ maxLen) (hf : left ≤ 4611686018427387904) :
    Calls Tryd.prog 48 #[v, .int .i64 left] w fun e w' => e = .returned (.int .i64 (if left < xs.length then -1 else ((left - xs.length : Nat) : Int))) ∧ w' = w := by
  unfold maxLen at hl
  obtain ⟨a, c, rfl⟩ := hv.shp
  clear hv
  generalize xs.length = n at *
  by_cases h : left < n
  · have h2 : (left : Int) - (n : Int) < 0 := by omega
    rw [if_pos h]
    go_enter Tryd.func48, Tryd.ntmps48
    go_wp2
    go_ret
    exact ⟨rfl, rfl⟩
  · have h2 : ¬ (left : Int) - (n : Int) < 0 := by omega
    have h3 : Hid (((left - n : Nat) : Int) = (left : Int) - (n : Int)) := by show _ = _; omega
    rw [if_neg h]
    go_enter Tryd.func48, Tryd.ntmps48
    go_wp2
    go_ret
    exact ⟨by rw [h3.out]; rfl, rfl⟩
def szP (n m left : Nat) : Int := if left < n then -1 else if left - n < m then -1 else ((left - n - m : Nat) : Int)
set_option maxHeartbeats 1000000 in
theorem szParser_any (p : Pa) (pv tv : Value) (left : Nat) (w : World) (hp : SlI w pv p.params) (ht : SlI w tv p.text) (hpl : p.params.length ≤ maxLen) (htl : p.text.length ≤ maxLen) (hf : left ≤ 4611686018427387904) :
    Calls Tryd.prog 19 #[paV p pv tv, .int .i64 left] w fun e w' => e = .returned (.int .i64 (szP p.params.length p.text.length left)) ∧ Below w.heap.size w w' := by
  obtain ⟨s, ps, m, ts⟩ := p
  have hb := bal' w (Obj.cells #[.int .i64 s, pv, .int .i64 m, tv] 40)
  have hP := PaC.new w s m pv tv 40
  have h1 := szI_any pv ps left _ (hp.below hb) hpl hf
  have h2 := fun l h => szI_any tv ts l _ (ht.below hb) htl h
  unfold paV at *
  simp only at *
  obtain ⟨pa, pc, hpv⟩ := hp.shp
  obtain ⟨ta, tc, htv⟩ := ht.shp
  subst hpv; subst htv
  obtain ⟨_, ⟨c0, c1, c2, c3⟩, _⟩ := id hP
  obtain ⟨rv, hrv⟩ : ∃ rv, Hid (rv = szP ps.length ts.length left) := ⟨_, rfl⟩
  rw [← hrv.out]
  by_cases q1 : left < ps.length
  · have hv : Hid (rv = -1) := by show _ = _; rw [hrv.out]; unfold szP; rw [if_pos q1]
    rw [if_pos q1] at h1
    clear h2 hp ht hP hrv
    go_enter Tryd.func19, Tryd.ntmps19
    go_wp2_with (go_at_call 48; refine h1.mono ?_; rintro e w' ⟨rfl, rfl⟩)
    go_ret
    exact ⟨by rw [hv.out]; rfl, hb⟩
  · rw [if_neg q1] at h1
    have h3 := h2 (left - ps.length) (by omega)
    have hn : ¬ (((left - ps.length : Nat) : Int) < 0) := by omega
    obtain ⟨l2, hl2⟩ : ∃ l2, Hid (l2 = left - ps.length) := ⟨_, rfl⟩
    rw [← hl2.out] at h1 h3 hn
    by_cases q2 : l2 < ts.length
    · have hv : Hid (rv = -1) := by show _ = _; rw [hrv.out]; unfold szP; rw [if_neg q1, if_pos (by rw [← hl2.out]; exact q2)]
      rw [if_pos q2] at h3
      clear h2 hp ht hP hrv hl2
      go_enter Tryd.func19, Tryd.ntmps19
      go_wp2_with fail
      refine h1.mono ?_
      rintro e w3 ⟨rfl, hw⟩
      subst hw
      clear h1
      go_wp2_with fail
      refine h3.mono ?_
      rintro e w4 ⟨rfl, hw⟩
      subst hw
      clear h3
      go_wp2
      go_ret
      exact ⟨by rw [hv.out]; rfl, hb⟩
    · obtain ⟨l3, hl3⟩ : ∃ l3, Hid (l3 = l2 - ts.length) := ⟨_, rfl⟩
      have hv : Hid (rv = (l3 : Int)) := by show _ = _; rw [hrv.out, hl3.out, hl2.out]; unfold szP; rw [if_neg q1, if_neg (by rw [← hl2.out]; exact q2)]
      rw [if_neg q2, ← hl3.out] at h3
      have hn3 : ¬ ((l3 : Int) < 0) := by omega
      clear h2 hp ht hP hrv hl2 hl3
      go_enter Tryd.func19, Tryd.ntmps19
      go_wp2_with fail
      refine h1.mono ?_
      rintro e w3 ⟨rfl, hw⟩
      subst hw
      clear h1
      go_wp2_with fail
      refine h3.mono ?_
      rintro e w4 ⟨rfl, hw⟩
      subst hw
      clear h3
      go_wp2
      go_ret
      exact ⟨by rw [hv.out]; rfl, hb⟩
theorem drewN_bel (w : World) (n : Nat) : Below w.heap.size w (w.drewN n) := by
  induction n with
  | zero => exact Below.refl _ _
  | succ n ih => exact ih.trans ((bdr _).mono ih.size)
set_option maxHeartbeats 2000000 in
theorem eqParser_same (p : Pa) (pv tv pv2 tv2 : Value) (w : World) (hp : SlI w pv p.params) (ht : SlI w tv p.text) (hp2 : SlI w pv2 p.params) (ht2 : SlI w tv2 p.text) (hpl : p.params.length ≤ 1073741824) (htl : p.text.length ≤ 1073741824) :
    Calls Tryd.prog 21 #[paV p pv tv, paV p pv2 tv2] w fun e w' => e = .returned (.bool true) ∧ Below w.heap.size w w' := by
  obtain ⟨s, ps, m, ts⟩ := p
  have hb1 := bal' w (Obj.cells #[.int .i64 s, pv, .int .i64 m, tv] 26)
  have hb2 := bal' (w.alloc (Obj.cells #[.int .i64 s, pv, .int .i64 m, tv] 26)) (Obj.cells #[.int .i64 s, pv2, .int .i64 m, tv2] 26)
  have hbb := hb1.trans (hb2.mono hb1.size)
  have hP := (PaC.new w s m pv tv 26).below hb2
  have hR := PaC.new (w.alloc (Obj.cells #[.int .i64 s, pv, .int .i64 m, tv] 26)) s m pv2 tv2 26
  rw [show (w.alloc (Obj.cells #[.int .i64 s, pv, .int .i64 m, tv] 26)).heap.size = w.heap.size + 1 by simp] at hR
  have e1 := eqI_same pv pv2 ps _ (hp.below hbb) (hp2.below hbb) hpl
  have e2 := fun W h1 h2 => eqI_same tv tv2 ts W h1 h2 htl
  have ht3 := ht.below hbb
  have ht4 := ht2.below hbb
  unfold paV at *
  simp only at *
  obtain ⟨pa, pc, hpv⟩ := hp.shp
  obtain ⟨ta, tc, htv⟩ := ht.shp
  obtain ⟨pa2, pc2, hpv2⟩ := hp2.shp
  obtain ⟨ta2, tc2, htv2⟩ := ht2.shp
  subst hpv; subst htv; subst hpv2; subst htv2
  obtain ⟨_, ⟨c0, c1, c2, c3⟩, _⟩ := id hP
  obtain ⟨_, ⟨d0, d1, d2, d3⟩, _⟩ := id hR
  clear hp ht hp2 ht2 hb1 hb2
  go_enter Tryd.func21, Tryd.ntmps21
  go_wp2_with fail
  refine e1.mono ?_
  rintro e w3 ⟨rfl, n, hw⟩
  have hbn : Below _ _ w3 := hw ▸ drewN_bel _ n
  have hP3 := hP.below hbn
  have hR3 := hR.below hbn
  have e3 := e2 w3 (ht3.below hbn) (ht4.below hbn)
  have hb3 := hbb.trans (hbn.mono hbb.size)
  clear hw hbn hP hR e1 e2 ht3 ht4 hbb c0 c1 c2 c3 d0 d1 d2 d3
  obtain ⟨_, ⟨c0, c1, c2, c3⟩, _⟩ := hP3
  obtain ⟨_, ⟨d0, d1, d2, d3⟩, _⟩ := hR3
  go_wp2_with fail
  refine e3.mono ?_
  rintro e w4 ⟨rfl, n2, hw⟩
  have hbn : Below w3.heap.size w3 w4 := hw ▸ drewN_bel _ n2
  have hb4 := hb3.trans (hbn.mono hb3.size)
  clear hw hbn e3 hb3 c0 c1 c2 c3 d0 d1 d2 d3
  go_wp2
  go_ret
  exact ⟨rfl, hb4⟩
set_option maxHeartbeats 4000000 in
set_option maxRecDepth 20000 in
theorem toParser_copy (p : Pa) (pv tv : Value) (w : World) (hp : SlI w pv p.params) (ht : SlI w tv p.text) (hpl : p.params.length ≤ 1073741824) (htl : p.text.length ≤ 1073741824) :
    Calls Tryd.prog 20 #[paV p pv tv] w fun e w' => ∃ pv' tv', e = .returned (paV p pv' tv') ∧ LiOk w' w.heap.size [(pv', p.params), (tv', p.text)] ∧ Below w.heap.size w w' := by
  obtain ⟨s, ps, m, ts⟩ := p
  have hto1 := fun W h => toI_copy pv ps W h hpl
  have hto2 := fun W h => toI_copy tv ts W h htl
  unfold paV at *
  simp only at *
  obtain ⟨pa, pc, hpv⟩ := hp.shp
  obtain ⟨ta, tc, htv⟩ := ht.shp
  subst hpv; subst htv
  have hb0 := bal' w (Obj.cells #[.int .i64 s, .slice pa ps.length pc, .int .i64 m, .slice ta ts.length tc] 40)
  have hA := PaC.new w s m (.slice pa ps.length pc) (.slice ta ts.length tc) 40
  have z0 : (w.alloc (Obj.cells #[.int .i64 s, .slice pa ps.length pc, .int .i64 m, .slice ta ts.length tc] 40)).heap.size = w.heap.size + 1 := by simp
  have hp1 := hp.below hb0
  have ht1 := ht.below hb0
  generalize hw1 : w.alloc (Obj.cells #[.int .i64 s, .slice pa ps.length pc, .int .i64 m, .slice ta ts.length tc] 40) = w1 at *
  have hb1 := bal' w1 (Obj.cells #[.int .i64 0, .slice none 0 0, .int .i64 0, .slice none 0 0] 26)
  have hb2 := bal' (w1.alloc (Obj.cells #[.int .i64 0, .slice none 0 0, .int .i64 0, .slice none 0 0] 26)) (Obj.cells #[.int .i64 s, .slice none 0 0, .int .i64 0, .slice none 0 0] 26)
  have hbb := hb1.trans (hb2.mono hb1.size)
  have hR := (PbB.new w1 0 0 (.slice none 0 0) (.slice none 0 0)).below hb2
  have hO := PbB.new (w1.alloc (Obj.cells #[.int .i64 0, .slice none 0 0, .int .i64 0, .slice none 0 0] 26)) s 0 (.slice none 0 0) (.slice none 0 0)
  rw [show (w1.alloc (Obj.cells #[.int .i64 0, .slice none 0 0, .int .i64 0, .slice none 0 0] 26)).heap.size = w.heap.size + 2 by simp [z0]] at hO
  rw [z0] at hR
  have hA2 := hA.below hbb
  have hp2 := hp1.below hbb
  have ht2 := ht1.below hbb
  have z3 : ((w1.alloc (Obj.cells #[.int .i64 0, .slice none 0 0, .int .i64 0, .slice none 0 0] 26)).alloc (Obj.cells #[.int .i64 s, .slice none 0 0, .int .i64 0, .slice none 0 0] 26)).heap.size = w.heap.size + 3 := by simp [z0]
  have hbw := hb0.trans (hbb.mono hb0.size)
  obtain ⟨_, ⟨c0, c1, c2, c3⟩, _⟩ := id hA2
  have hT := hto1 _ hp2
  subst hw1
  have htw := ht
  clear hA hp hp1 ht ht1 hb0 hb1 hb2 hto1 hp2
  go_enter Tryd.func20, Tryd.ntmps20
  go_wp2_with fail
  refine hT.mono ?_
  rintro e w4 ⟨u, rfl, hou, hb4⟩
  have hR4 := hR.below hb4
  have hO4 := hO.below hb4
  have hA4 := hA2.below hb4
  have ht4 := ht2.below hb4
  have hou : OwnI w4 (w.heap.size + 3) u ps := by rw [← z3]; exact hou
  obtain ⟨ua, un, uc, hu⟩ := hou.shape
  subst hu
  have hs4 : w.heap.size + 3 ≤ w4.heap.size := by rw [← z3]; exact hb4.size
  have hb4w := hbw.trans (hb4.mono hbw.size)
  -- the first list and the mark are stored
  have g1 := setCell_gr w4 (w.heap.size + 2) 1 (.slice ua un uc)
  have k1 : PbB (w4.setCell ⟨w.heap.size + 2, 1, none⟩ (.slice ua un uc)) (w.heap.size + 2) s (.slice ua un uc) 0 (.slice none 0 0) := hO4.set 1 _
  have g2 := setCell_gr (w4.setCell ⟨w.heap.size + 2, 1, none⟩ (.slice ua un uc)) (w.heap.size + 2) 2 (.int .i64 m)
  have k2 : PbB ((w4.setCell ⟨w.heap.size + 2, 1, none⟩ (.slice ua un uc)).setCell ⟨w.heap.size + 2, 2, none⟩ (.int .i64 m)) (w.heap.size + 2) s (.slice ua un uc) m (.slice none 0 0) := k1.set 2 _
  have gg := grown_tr g1 g2
  have hb5 : Below (w.heap.size + 2) w4 ((w4.setCell ⟨w.heap.size + 2, 1, none⟩ (.slice ua un uc)).setCell ⟨w.heap.size + 2, 2, none⟩ (.int .i64 m)) := (Below.refl _ _).grown gg (by omega) (fun k e => by cases e; exact Nat.le_refl _)
  have hou5 := hou.kept gg (.inr (fun e => by have := (hou.lt _ e).1; omega))
  have hA5 := hA4.grown gg (by simp)
  have hR5 := hR4.kept gg (by simp)
  have ht0 : SlI ((w4.setCell ⟨w.heap.size + 2, 1, none⟩ (.slice ua un uc)).setCell ⟨w.heap.size + 2, 2, none⟩ (.int .i64 m)) (.slice ta ts.length tc) ts := htw.below (hb4w.grown gg (by omega) (fun k e => by cases e; omega))
  have z5 : ((w4.setCell ⟨w.heap.size + 2, 1, none⟩ (.slice ua un uc)).setCell ⟨w.heap.size + 2, 2, none⟩ (.int .i64 m)).heap.size = w4.heap.size := by simp
  have hT2 := hto2 _ ht0
  obtain ⟨_, ⟨e0, e1, e2, e3⟩, _⟩ := id hA4
  obtain ⟨r0, r1, r2, r3⟩ := hO4.cells
  obtain ⟨y0, y1, y2, y3⟩ := hO4.frozen
  have hb5w := hb4w.grown gg (by omega) (fun k e => by cases e; omega)
  clear hT hb4 hR hO hA2 c0 c1 c2 c3 ht2 ht4 hbb hR4 hO4 hA4 hou k1 g1 g2 gg hb5 ht0 htw hto2 hb4w
  obtain ⟨W5, hW5⟩ : ∃ W5, W5 = (w4.setCell ⟨w.heap.size + 2, 1, none⟩ (.slice ua un uc)).setCell ⟨w.heap.size + 2, 2, none⟩ (.int .i64 m) := ⟨_, rfl⟩
  rw [← hW5] at k2 hou5 hA5 hR5 z5 hb5w
  have hW6 := (show Hid _ from hW5)
  clear hW5
  go_wp2_with fail
  refine hT2.mono ?_
  rintro e w6 ⟨t, rfl, hot, hb6⟩
  rw [← hW6.out] at hot hb6
  clear hT2 e0 e1 e2 e3 r0 r1 r2 r3 y0 y1 y2 y3 hW6
  have k6 := k2.below hb6
  have hR6 := hR5.below hb6
  have hou6 := hou5.below hb6
  have hot : OwnI w6 w4.heap.size t ts := by rw [← z5]; exact hot
  obtain ⟨sa, sn, sc, hu⟩ := hot.shape
  subst hu
  have g7 := setCell_gr w6 (w.heap.size + 2) 3 (.slice sa sn sc)
  have k7 : PbB (w6.setCell ⟨w.heap.size + 2, 3, none⟩ (.slice sa sn sc)) (w.heap.size + 2) s (.slice ua un uc) m (.slice sa sn sc) := k6.set 3 _
  have hR7 := hR6.kept g7 (by simp)
  have hL6 : LiOk w6 w.heap.size [(.slice ua un uc, ps), (.slice sa sn sc, ts)] :=
    ((show LiOk W5 w.heap.size [(.slice ua un uc, ps)] from ⟨fun p hp => by rw [List.mem_singleton] at hp; subst hp; exact hou5.low (by omega), List.pairwise_singleton _ _⟩).new hb6 (hot.low (by omega)) (fun g e => by rw [z5]; exact (hot.lt g e).1)).perm (List.Perm.swap _ _ _)
  have hne : ∀ p ∈ [((.slice ua un uc : Value), ps), (.slice sa sn sc, ts)], ∀ k, p.1.ownBlock = some k → w.heap.size + 3 ≤ k := fun p hp k e => by
    simp only [List.mem_cons, List.mem_nil_iff, or_false] at hp
    rcases hp with rfl | rfl
    · exact (hou6.lt k e).1
    · have := (hot.lt k e).1; omega
  have hb6w := hb5w.trans (hb6.mono hb5w.size)
  have hs6 : w4.heap.size ≤ w6.heap.size := by rw [← z5]; exact hb6.size
  have hb7 := hb6w.grown g7 (by omega) (fun k e => by cases e; omega)
  have hL7 := hL6.kept g7 (fun p hp => .inr fun e => by have := hne p hp _ e; omega)
  have g8 := putP_grown (w6.setCell ⟨w.heap.size + 2, 3, none⟩ (.slice sa sn sc)) (w.heap.size + 1) s (.slice ua un uc) m (.slice sa sn sc)
  have hF := (hR7.put s m (.slice ua un uc) (.slice sa sn sc)).cells
  have hL8 := hL7.kept g8 (fun p hp => .inr fun e => by have := hne p hp _ e; omega)
  have hb8 := hb7.grown g8 (by simp; omega) (fun k e => by cases e; omega)
  obtain ⟨e0, e1, e2, e3⟩ := k6.cells
  obtain ⟨y0, y1, y2, y3⟩ := k6.frozen
  obtain ⟨r0, r1, r2, r3⟩ := hR7.cells
  obtain ⟨q0, q1, q2, q3⟩ := hR7.frozen
  obtain ⟨f0, f1, f2, f3⟩ := hF
  obtain ⟨j0, j1, j2, j3⟩ := k7.cells
  simp only [putP] at f0 f1 f2 f3 hL8 hb8
  have hfin := (show Hid _ from And.intro hL8 hb8)
  clear hL8 hb8 hL7 hb7 hL6 hne hb6w hs6 g7 g8 k6 k7 hR6 hR7 hou6 hot hb6 hou5 k2 hA5 hR5 hb5w z5
  go_wp2
  exact bodyPost_ret (v := .agg #[.int .i64 s, .slice ua un uc, .int .i64 m, .slice sa sn sc]) (by simp [results, Tryd.results20, go_sem, f0, f1, f2, f3]) rfl ⟨_, _, rfl, hfin.out⟩
end Go.Proofs.YtkcekacnebhcgaaDoor
namespace Go.Proofs.YtkcekacnebhcgaaDoor
open Go.ChangeShapes Go.WideShapes Go.ChangeAt Go.RowKit
def AxC (w : World) (B : Nat) (k r : Int) (pv : Value) (m : Int) (tv : Value) : Prop := w.heap[B]? = some (.cells #[.int .i64 k, .int .i64 r, pv, .int .i64 m, tv] 63 (0, 0))
theorem AxC.lt {w : World} {B : Nat} {k r m : Int} {pv tv : Value} (h : AxC w B k r pv m tv) : B < w.heap.size := (Array.getElem?_eq_some_iff.1 h).1
theorem AxC.below {w w' : World} {B : Nat} {k r m : Int} {pv tv : Value} (h : AxC w B k r pv m tv) (hb : Below w.heap.size w w') : AxC w' B k r pv m tv := by
  unfold AxC
  rw [hb.block B h.lt]
  exact h
theorem AxC.new (w : World) (k r m : Int) (pv tv : Value) : AxC (w.alloc (.cells #[.int .i64 k, .int .i64 r, pv, .int .i64 m, tv] 63)) w.heap.size k r pv m tv := heap_alloc_new w _
theorem AxC.cells {w : World} {B : Nat} {k r m : Int} {pv tv : Value} (h : AxC w B k r pv m tv) :
    w.cell? ⟨B, 0, none⟩ = some (.int .i64 k) ∧ w.cell? ⟨B, 1, none⟩ = some (.int .i64 r) ∧ w.cell? ⟨B, 2, none⟩ = some pv ∧ w.cell? ⟨B, 3, none⟩ = some (.int .i64 m) ∧ w.cell? ⟨B, 4, none⟩ = some tv := by
  refine ⟨?_, ?_, ?_, ?_, ?_⟩ <;> (rw [cell_of_row w B _ _ _ (0, 0) h]; rfl)
set_option maxHeartbeats 4000000 in
theorem eqAction_same (a : Ac) (pv tv pv2 tv2 : Value) (w : World) (hp : SlI w pv a.params) (ht : SlI w tv a.text) (hp2 : SlI w pv2 a.params) (ht2 : SlI w tv2 a.text) (hpl : a.params.length ≤ 1073741824) (htl : a.text.length ≤ 1073741824) :
    Calls Tryd.prog 49 #[axV ⟨a, pv, tv⟩, axV ⟨a, pv2, tv2⟩] w fun e w' => e = .returned (.bool true) ∧ Below w.heap.size w w' := by
  obtain ⟨k, r, ps, m, ts⟩ := a
  have hb1 := bal' w (Obj.cells #[.int .i64 k, .int .i64 r, pv, .int .i64 m, tv] 63)
  have hb2 := bal' (w.alloc (Obj.cells #[.int .i64 k, .int .i64 r, pv, .int .i64 m, tv] 63)) (Obj.cells #[.int .i64 k, .int .i64 r, pv2, .int .i64 m, tv2] 63)
  have hbb := hb1.trans (hb2.mono hb1.size)
  have hP := (AxC.new w k r m pv tv).below hb2
  have hR := AxC.new (w.alloc (Obj.cells #[.int .i64 k, .int .i64 r, pv, .int .i64 m, tv] 63)) k r m pv2 tv2
  rw [show (w.alloc (Obj.cells #[.int .i64 k, .int .i64 r, pv, .int .i64 m, tv] 63)).heap.size = w.heap.size + 1 by simp] at hR
  have e1 := eqI_same pv pv2 ps _ (hp.below hbb) (hp2.below hbb) hpl
  have e2 := fun W h1 h2 => eqI_same tv tv2 ts W h1 h2 htl
  have ht3 := ht.below hbb
  have ht4 := ht2.below hbb
  unfold axV at *
  simp only at *
  obtain ⟨pa, pc, hpv⟩ := hp.shp
  obtain ⟨ta, tc, htv⟩ := ht.shp
  obtain ⟨pa2, pc2, hpv2⟩ := hp2.shp
  obtain ⟨ta2, tc2, htv2⟩ := ht2.shp
  subst hpv; subst htv; subst hpv2; subst htv2
  obtain ⟨c0, c1, c2, c3, c4⟩ := hP.cells
  obtain ⟨d0, d1, d2, d3, d4⟩ := hR.cells
  clear hp ht hp2 ht2 hb1 hb2
  go_enter Tryd.func49, Tryd.ntmps49
  go_wp2_with fail
  refine e1.mono ?_
  rintro e w3 ⟨rfl, n, hw⟩
  have hbn : Below _ _ w3 := hw ▸ drewN_bel _ n
  have hP3 := hP.below hbn
  have hR3 := hR.below hbn
  have e3 := e2 w3 (ht3.below hbn) (ht4.below hbn)
  have hb3 := hbb.trans (hbn.mono hbb.size)
  clear hw hbn hP hR e1 e2 ht3 ht4 hbb c0 c1 c2 c3 c4 d0 d1 d2 d3 d4
  obtain ⟨c0, c1, c2, c3, c4⟩ := hP3.cells
  obtain ⟨d0, d1, d2, d3, d4⟩ := hR3.cells
  go_wp2_with fail
  refine e3.mono ?_
  rintro e w4 ⟨rfl, n2, hw⟩
  have hbn : Below w3.heap.size w3 w4 := hw ▸ drewN_bel _ n2
  have hb4 := hb3.trans (hbn.mono hb3.size)
  clear hw hbn e3 hb3 c0 c1 c2 c3 c4 d0 d1 d2 d3 d4
  go_wp2
  go_ret
  exact ⟨rfl, hb4⟩
set_option maxHeartbeats 4000000 in
/-- A parser's lists are marked, others of this call's are as they were. -/
theorem markParser_own (p : Pa) (pv tv : Value) (k : Nat) (base : Nat) (R : List (Value × List Int)) (w : World) (h : LiOk w base ((pv, p.params) :: (tv, p.text) :: R)) (_hb : base ≤ w.heap.size) (hk : k ≤ 1048576) (hpl : p.params.length ≤ 1048576) (htl : p.text.length ≤ 1048576) :
    Calls Tryd.prog 23 #[paV p pv tv, .int .i64 k] w fun e w' => e = .returned (.int .i64 ((k + p.params.length + p.text.length : Nat) : Int)) ∧ LiOk w' base ((pv, marksI k p.params.length) :: (tv, marksI ((k + p.params.length : Nat) : Int) p.text.length) :: R) ∧ GrV pv tv w w' := by
  obtain ⟨s, ps, m, ts⟩ := p
  have hb0 := bal' w (Obj.cells #[.int .i64 s, pv, .int .i64 m, tv] 26)
  have hP := PbB.new w s m pv tv
  have h0 := h.below hb0
  have m1 := markI_own base pv k ps.length (ps.map (Value.int .i64)) _ h0.head ⟨by omega, by omega⟩ (by simp only at hpl; omega)
  have m2 := fun W (hW : OwnI W base tv ts) => markI_own base tv ((k + ps.length : Nat) : Int) ts.length (ts.map (Value.int .i64)) W hW ⟨by omega, by simp only at hpl; omega⟩ (by simp only at htl; omega)
  have n1 : Hid ((k : Int) + (ps.length : Int) = ((k + ps.length : Nat) : Int)) := by show _ = _; omega
  have n2 : Hid (((k + ps.length : Nat) : Int) + (ts.length : Int) = ((k + ps.length + ts.length : Nat) : Int)) := by show _ = _; omega
  rw [n1.out] at m1
  unfold paV at *
  simp only at *
  obtain ⟨pa, pn, pc, hpv⟩ := h.head.shape
  obtain ⟨ta, tn, tc, htv⟩ := h.tail.head.shape
  simp only at hpv htv
  subst hpv; subst htv
  have hGr : GrV (.slice pa pn pc) (.slice ta tn tc) w (w.alloc (Obj.cells #[.int .i64 s, .slice pa pn pc, .int .i64 m, .slice ta tn tc] 26)) := GrV.of_below hb0
  obtain ⟨c0, c1, c2, c3⟩ := hP.cells
  have hs : ∀ W, (w.alloc (Obj.cells #[.int .i64 s, .slice pa pn pc, .int .i64 m, .slice ta tn tc] 26)).grownBy W (Value.slice pa pn pc).ownBlock → PbB W w.heap.size s (.slice pa pn pc) m (.slice ta tn tc) := fun W hg => hP.kept hg (h0.head.not_block hP (by decide))
  clear h
  go_enter Tryd.func23, Tryd.ntmps23
  go_wp2_with fail
  refine m1.mono ?_
  rintro e w3 ⟨rfl, ho3, hg3⟩
  have hP3 := hs w3 hg3
  have hL3 : LiOk w3 base ((.slice pa pn pc, marksI k ps.length) :: (.slice ta tn tc, ts) :: R) := h0.grow hg3 (by unfold OwnI; rw [marksI_len]; exact ho3) (fun g e => .inl e)
  have hG3 := hGr.grown hg3 (fun g e => .inl e)
  have m3 := m2 w3 hL3.tail.head
  rw [n2.out] at m3
  clear m1 m2 hs hGr hP h0 hg3 ho3 c0 c1 c2 c3
  obtain ⟨c0, c1, c2, c3⟩ := hP3.cells
  go_wp2_with fail
  refine m3.mono ?_
  rintro e w4 ⟨rfl, ho4, hg4⟩
  have hL4 : LiOk w4 base ((.slice pa pn pc, marksI k ps.length) :: (.slice ta tn tc, marksI ((k + ps.length : Nat) : Int) ts.length) :: R) :=
    ((hL3.perm (List.Perm.swap _ _ _)).grow hg4 (show OwnI w4 base _ _ from by unfold OwnI; rw [marksI_len]; exact ho4) (fun g e => .inl e)).perm (List.Perm.swap _ _ _)
  have hG4 := hG3.grown hg4 (fun g e => .inr (.inl e))
  clear m3 hP3 hL3 hG3 hg4 ho4 c0 c1 c2 c3
  go_wp2
  go_ret
  exact ⟨rfl, hL4, hG4⟩
set_option maxHeartbeats 4000000 in
theorem heldParser_marks (p : Pa) (pv tv : Value) (k n m2 : Nat) (w : World) (hp : SlI w pv (marksI k n)) (ht : SlI w tv (marksI ((k + n : Nat) : Int) m2)) (hpp : p.params = marksI k n) (htt : p.text = marksI ((k + n : Nat) : Int) m2) (hk : k ≤ 1048576) (hn : n ≤ 1048576) (hm : m2 ≤ 1048576) :
    Calls Tryd.prog 25 #[paV p pv tv, .int .i64 k] w fun e w' => e = .returned (.int .i64 ((k + n + m2 : Nat) : Int)) ∧ Below w.heap.size w w' := by
  obtain ⟨s, ps, m, ts⟩ := p
  have hb0 := bal' w (Obj.cells #[.int .i64 s, pv, .int .i64 m, tv] 26)
  have hP := PbB.new w s m pv tv
  have q1 := heldI_marks pv k n _ (hp.below hb0) ⟨by omega, by omega⟩ (by omega)
  have q2 := heldI_marks tv ((k + n : Nat) : Int) m2 _ (ht.below hb0) ⟨by omega, by omega⟩ (by omega)
  have n1 : Hid ((k : Int) + (n : Int) = ((k + n : Nat) : Int)) := by show _ = _; omega
  have n2 : Hid (((k + n : Nat) : Int) + (m2 : Int) = ((k + n + m2 : Nat) : Int)) := by show _ = _; omega
  rw [n1.out] at q1
  rw [n2.out] at q2
  have g1 : ¬ (((k + n : Nat) : Int) < 0) := by omega
  have g2 : ¬ (((k + n + m2 : Nat) : Int) < 0) := by omega
  unfold paV at *
  simp only at *
  obtain ⟨pa, pc, hpv⟩ := hp.shp
  obtain ⟨ta, tc, htv⟩ := ht.shp
  rw [marksI_len] at hpv htv
  subst hpv; subst htv
  obtain ⟨c0, c1, c2, c3⟩ := hP.cells
  clear hp ht hP hpp htt
  go_enter Tryd.func25, Tryd.ntmps25
  go_wp2_with fail
  refine q1.mono ?_
  rintro e w3 ⟨rfl, hw⟩
  subst hw
  clear q1
  go_wp2_with fail
  refine q2.mono ?_
  rintro e w4 ⟨rfl, hw⟩
  subst hw
  clear q2
  go_wp2
  go_ret
  exact ⟨rfl, hb0⟩
end Go.Proofs.YtkcekacnebhcgaaDoor
namespace Go.Proofs.YtkcekacnebhcgaaDoor
open Go.ChangeShapes Go.WideShapes Go.ChangeAt Go.RowKit
def atX (X : List Ax) (i : Nat) : Ax := X.getD i axZ
theorem atX_lt {X : List Ax} {i : Nat} (h : i < X.length) : atX X i = X[i] := by simp [atX, List.getD, h]
theorem atX_mem {X : List Ax} {i : Nat} (h : i < X.length) : atX X i ∈ X := by rw [atX_lt h]; exact List.getElem_mem h
theorem flatX_len (X : List Ax) : (X.flatMap axC).length = X.length * 5 := by
  induction X with
  | nil => rfl
  | cons c X ih => rw [List.flatMap_cons, List.length_append, ih, List.length_cons]; simp [axC]; omega
theorem flatX_get (X : List Ax) : ∀ (i k : Nat), i < X.length → k < 5 → (X.flatMap axC)[i * 5 + k]? = (axC (atX X i))[k]? := by
  induction X with
  | nil => intro i k h; simp at h
  | cons c X ih =>
    intro i k h hk
    rw [List.flatMap_cons]
    cases i with
    | zero =>
      rw [List.getElem?_append_left (by simp [axC]; omega)]
      simp [atX]
    | succ i =>
      have hl : (axC c).length = 5 := rfl
      rw [List.getElem?_append_right (by rw [hl]; omega), hl]
      have e : (i + 1) * 5 + k - 5 = i * 5 + k := by omega
      rw [e, ih i k (by simpa using h) hk]
      simp [atX]
def AxAt (w : World) (b o : Nat) (x : Ax) : Prop :=
  w.cell? ⟨b, o, none⟩ = some (.int .i64 x.a.kind) ∧ w.cell? ⟨b, o + 1, none⟩ = some (.int .i64 x.a.rune) ∧ w.cell? ⟨b, o + 2, none⟩ = some x.pv ∧ w.cell? ⟨b, o + 3, none⟩ = some (.int .i64 x.a.mark) ∧ w.cell? ⟨b, o + 4, none⟩ = some x.tv
theorem AxAt.below {w w' : World} {b o : Nat} {x : Ax} (h : AxAt w b o x) (hb : Below w.heap.size w w') (hlt : b < w.heap.size) : AxAt w' b o x := by
  have e : ∀ k, w'.cell? ⟨b, k, none⟩ = w.cell? ⟨b, k, none⟩ := fun k => hb.cell (p := ⟨b, k, none⟩) hlt
  unfold AxAt
  rw [e, e, e, e, e]
  exact h
theorem OwnX.at {w : World} {base g n cap : Nat} {X : List Ax} (h : OwnX w base (.slice (some ⟨g, 0, none⟩) n cap) X) (hn : X.length = n) (i : Nat) (hi : i < n) : AxAt w g (i * 5) (atX X i) := by
  subst hn
  have hc : ∀ k, k < 5 → w.cell? ⟨g, i * 5 + k, none⟩ = (axC (atX X i))[k]? := fun k hk => by
    rw [World.ownsRow.cellAt h (i * 5 + k) (by omega), flatX_get X i k hi hk]
  exact ⟨hc 0 (by omega), hc 1 (by omega), hc 2 (by omega), hc 3 (by omega), hc 4 (by omega)⟩
theorem OwnX.shape2 {w : World} {base : Nat} {v : Value} {X : List Ax} (h : OwnX w base v X) : (v = .slice none 0 0 ∧ X = []) ∨ ∃ g cap, v = .slice (some ⟨g, 0, none⟩) X.length cap ∧ base ≤ g ∧ g < w.heap.size ∧ X.length ≤ cap := by
  rcases h.2 with ⟨h1, h2⟩ | ⟨g, cap, cur, hv, hb, hg, hn, _⟩
  · exact .inl ⟨h1, List.eq_nil_of_length_eq_zero h2⟩
  · exact .inr ⟨g, cap, hv, hb, (Array.getElem?_eq_some_iff.1 hg).1, hn⟩
theorem OwnX.frozen {w : World} {base g n cap : Nat} {X : List Ax} (h : OwnX w base (.slice (some ⟨g, 0, none⟩) n cap) X) (hn : X.length = n) (j : Nat) : w.frozen? ⟨g, j, none⟩ = false := by
  subst hn
  exact World.ownsRow.frozenAt h j
theorem LiOk.ax {w : World} {base : Nat} {X : List Ax} {R : List (Value × List Int)} (h : LiOk w base (axLs X ++ R)) {x : Ax} (hx : x ∈ X) : OwnI w base x.pv x.a.params ∧ OwnI w base x.tv x.a.text :=
  ⟨h.1 (x.pv, x.a.params) (List.mem_append_left _ (List.mem_flatMap.2 ⟨x, hx, by simp [axL]⟩)), h.1 (x.tv, x.a.text) (List.mem_append_left _ (List.mem_flatMap.2 ⟨x, hx, by simp [axL]⟩))⟩
theorem atX_same {X Y : List Ax} (h : X.map (·.a) = Y.map (·.a)) (i : Nat) (hi : i < X.length) : (atX X i).a = (atX Y i).a := by
  have hl : X.length = Y.length := by simpa using congrArg List.length h
  have h1 : (X.map (·.a))[i]? = (Y.map (·.a))[i]? := by rw [h]
  rw [atX_lt hi, atX_lt (hl ▸ hi)]
  rw [List.getElem?_map, List.getElem?_map, List.getElem?_eq_getElem hi, List.getElem?_eq_getElem (hl ▸ hi)] at h1
  simpa using h1
set_option maxHeartbeats 4000000 in
theorem eqActionS_same (b1 b2 : Nat) (v1 v2 : Value) (X Y : List Ax) (R1 R2 : List (Value × List Int)) (w : World) (h1 : OwnX w b1 v1 X) (h2 : OwnX w b2 v2 Y) (l1 : LiOk w b1 (axLs X ++ R1)) (l2 : LiOk w b2 (axLs Y ++ R2)) (he : X.map (·.a) = Y.map (·.a)) (hl : X.length ≤ 1073741824) (hb : ∀ x ∈ X, x.a.params.length ≤ 1073741824 ∧ x.a.text.length ≤ 1073741824) :
    Calls Tryd.prog 22 #[v1, v2] w fun e w' => e = .returned (.bool true) ∧ Below w.heap.size w w' := by
  have hlen : Y.length = X.length := by simpa using (congrArg List.length he).symm
  rcases h1.shape2 with ⟨rfl, rfl⟩ | ⟨g, cap, rfl, hbg, hg, hcap⟩
  · have hY : Y = [] := List.eq_nil_of_length_eq_zero hlen
    subst hY
    obtain ⟨a2, c2, rfl⟩ := h2.shape
    go_enter Tryd.func22, Tryd.ntmps22
    go_wp2
    refine wp_loop_rounds 1 ?_
    rw [rounds_succ]
    go_wp2
    go_ret
    exact ⟨rfl, Below.refl _ _⟩
  · rcases h2.shape2 with ⟨rfl, hY⟩ | ⟨g2, cap2, rfl, hbg2, hg2, hcap2⟩
    · have hX0 : X.length = 0 := by rw [← hlen, hY]; rfl
      rw [hX0]
      clear hcap h1
      go_enter Tryd.func22, Tryd.ntmps22
      go_wp2
      refine wp_loop_rounds 1 ?_
      rw [rounds_succ]
      go_wp2
      go_ret
      exact ⟨rfl, Below.refl _ _⟩
    · rw [hlen] at h2 hcap2 ⊢
      have hs1 := fun j hj => h1.at rfl j hj
      have hs2 := fun j hj => h2.at hlen j hj
      have heq : ∀ j, j < X.length → ∀ W, Below w.heap.size w W → Calls Tryd.prog 49 #[axV (atX X j), axV (atX Y j)] W fun e w' => e = .returned (.bool true) ∧ Below W.heap.size W w' := by
        intro j hj W hW
        have hm := l1.ax (atX_mem hj)
        have hn := l2.ax (atX_mem (X := Y) (i := j) (by omega))
        have hbd := hb _ (atX_mem hj)
        have ha := atX_same he j hj
        rw [← ha] at hn
        have := eqAction_same (atX X j).a (atX X j).pv (atX X j).tv (atX Y j).pv (atX Y j).tv W (hm.1.below hW).sl (hm.2.below hW).sl (hn.1.below hW).sl (hn.2.below hW).sl hbd.1 hbd.2
        have e2 : axV ⟨(atX X j).a, (atX Y j).pv, (atX Y j).tv⟩ = axV (atX Y j) := by rw [ha]
        rw [e2] at this
        exact this
      have hsh : ∀ j, j < X.length → (∃ a n c, (atX X j).pv = .slice a n c) ∧ (∃ a n c, (atX X j).tv = .slice a n c) ∧ (∃ a n c, (atX Y j).pv = .slice a n c) ∧ (∃ a n c, (atX Y j).tv = .slice a n c) := fun j hj => by
        have hm := l1.ax (atX_mem hj)
        have hn := l2.ax (atX_mem (X := Y) (i := j) (by omega))
        exact ⟨hm.1.shape, hm.2.shape, hn.1.shape, hn.2.shape⟩
      generalize X.length = n at *
      clear h1 h2 l1 l2 hb he
      go_enter Tryd.func22, Tryd.ntmps22
      go_wp2
      go_loopw [5] (fun i wr => ∃ j : Nat, i = .int .i64 j ∧ j ≤ n ∧ Below w.heap.size w wr) (fun i _ => n - (intOf i).toNat)
      case atStart => exact ⟨0, rfl, Nat.zero_le _, Below.refl _ _⟩
      case round =>
        obtain ⟨j, rfl, hj, kb⟩ := hrel
        by_cases hlt : j < n
        · have hji : (j : Int) < (n : Int) := by omega
          have hj0 : (0 : Int) ≤ (j : Int) := by omega
          have kd : Below w.heap.size w wr.drew := kb.trans ((bdr _).mono kb.size)
          have hat1 := (hs1 j hlt).below kd hg
          have hat2 := (hs2 j hlt).below kd hg2
          have hq := heq j hlt _ kd
          obtain ⟨⟨pa, pn, pc, e1⟩, ⟨ta, tn, tc, e2⟩, ⟨pa2, pn2, pc2, e3⟩, ⟨ta2, tn2, tc2, e4⟩⟩ := hsh j hlt
          clear hs1 hs2 hsh heq
          generalize atX X j = x at *
          generalize atX Y j = y at *
          obtain ⟨⟨k, r, ps, m, ts⟩, xp, xt⟩ := x
          obtain ⟨⟨k2, r2, ps2, m2, ts2⟩, yp, yt⟩ := y
          simp only at e1 e2 e3 e4
          subst e1; subst e2; subst e3; subst e4
          obtain ⟨c0, c1, c2, c3, c4⟩ := hat1
          obtain ⟨d0, d1, d2, d3, d4⟩ := hat2
          unfold axV at hq
          simp only at c0 c1 c2 c3 c4 d0 d1 d2 d3 d4 hq
          go_wp2
          go_region_with (go_at_call 49; refine hq.mono ?_; rintro e w1 ⟨rfl, hb1⟩)
          all_goals
            have kb1 := kd.trans (hb1.mono kd.size)
            clear c0 c1 c2 c3 c4 d0 d1 d2 d3 d4 kd kb hb1 hq
            go_wp2
            go_roundw
            case rel => exact ⟨j + 1, by go_num, by omega, kb1⟩
            case measure => simp [intOf]; omega
        · have hji : ¬ (j : Int) < (n : Int) := by omega
          go_wp2
          go_ret
          exact ⟨rfl, kb⟩
end Go.Proofs.YtkcekacnebhcgaaDoor
namespace Go.Proofs.YtkcekacnebhcgaaDoor
open Go.ChangeShapes Go.WideShapes Go.ChangeAt Go.RowKit
def nX (x : Ax) : Nat := 3 + x.a.params.length + x.a.text.length
/-- An action marked from a number on. -/
def mkX (k : Nat) (x : Ax) : Ax := ⟨⟨(k : Int), (k : Int) + 1, marksI ((k + 2 : Nat) : Int) x.a.params.length, ((k + 2 + x.a.params.length : Nat) : Int), marksI ((k + 2 + x.a.params.length + 1 : Nat) : Int) x.a.text.length⟩, x.pv, x.tv⟩
def markX : Nat → List Ax → List Ax
  | _, [] => []
  | k, x :: X => mkX k x :: markX (k + nX x) X
def sumX : List Ax → Nat
  | [] => 0
  | x :: X => nX x + sumX X
theorem markX_len (k : Nat) (X : List Ax) : (markX k X).length = X.length := by
  induction X generalizing k with
  | nil => rfl
  | cons x X ih => simp [markX, ih]
theorem flatX_set (X : List Ax) (a b c : Int) (ps ts : List Int) : ∀ i, i < X.length → ((((X.flatMap axC).set (i * 5) (.int .i64 a)).set (i * 5 + 1) (.int .i64 b)).set (i * 5 + 3) (.int .i64 c)) = (X.set i ⟨⟨a, b, ps, c, ts⟩, (atX X i).pv, (atX X i).tv⟩).flatMap axC := by
  induction X with
  | nil => intro i h; simp at h
  | cons d X ih =>
    intro i h
    cases i with
    | zero => simp [axC, atX]
    | succ i =>
      have e : ∀ k, (i + 1) * 5 + k = (i * 5 + k) + 5 := fun k => by omega
      have e0 : (i + 1) * 5 = (i * 5) + 5 := by omega
      rw [e 1, e 3, e0]
      have hs : ∀ (m : Nat) (u : Value) (l : List Value), ((axC d ++ l).set (m + 5) u) = axC d ++ l.set m u := fun m u l => by
        rw [List.set_append, if_neg (by simp [axC])]
        simp [axC]
      rw [List.flatMap_cons, hs, hs, hs, ih i (by simpa using h), List.set_cons_succ, List.flatMap_cons]
      rfl
theorem split_at {X : List Ax} {j : Nat} (h : j < X.length) : X = X.take j ++ atX X j :: X.drop (j + 1) := by
  rw [atX_lt h, ← List.drop_eq_getElem_cons h, List.take_append_drop]
theorem set_at {X : List Ax} {j : Nat} (h : j < X.length) (y : Ax) : X.set j y = X.take j ++ y :: X.drop (j + 1) := by
  rw [List.set_eq_take_append_cons_drop, if_pos h]
theorem axLs_app (A B : List Ax) : axLs (A ++ B) = axLs A ++ axLs B := by simp [axLs]
theorem axLs_perm (A B : List Ax) (x : Ax) (R : List (Value × List Int)) : (axLs (A ++ x :: B) ++ R).Perm ((x.pv, x.a.params) :: (x.tv, x.a.text) :: (axLs (A ++ B) ++ R)) := by
  rw [axLs_app, axLs_app]
  have : axLs (x :: B) = (x.pv, x.a.params) :: (x.tv, x.a.text) :: axLs B := rfl
  rw [this]
  simp only [List.append_assoc, List.cons_append]
  exact (List.perm_middle).trans (List.Perm.cons _ List.perm_middle)
end Go.Proofs.YtkcekacnebhcgaaDoor
namespace Go.Proofs.YtkcekacnebhcgaaDoor
open Go.ChangeShapes Go.WideShapes Go.ChangeAt Go.RowKit
theorem markX_app (k : Nat) (A B : List Ax) : markX k (A ++ B) = markX k A ++ markX (k + sumX A) B := by
  induction A generalizing k with
  | nil => simp [markX, sumX]
  | cons x A ih => simp [markX, sumX, ih, Nat.add_assoc]
theorem sumX_app (A B : List Ax) : sumX (A ++ B) = sumX A + sumX B := by
  induction A with
  | nil => simp [sumX]
  | cons x A ih => simp [sumX, ih, Nat.add_assoc]
/-- The first j of them marked. -/
def mUp (k : Nat) (X : List Ax) (j : Nat) : List Ax := markX k (X.take j) ++ X.drop j
theorem mUp_len (k : Nat) (X : List Ax) (j : Nat) : (mUp k X j).length = X.length := by
  unfold mUp
  rw [List.length_append, markX_len, List.length_take, List.length_drop]; omega
theorem take_s {X : List Ax} {j : Nat} (h : j < X.length) : X.take (j + 1) = X.take j ++ [atX X j] := by
  rw [List.take_add_one, atX_lt h, List.getElem?_eq_getElem h]; rfl
theorem mUp_at (k : Nat) (X : List Ax) (j : Nat) (h : j < X.length) : atX (mUp k X j) j = atX X j := by
  have hl : (markX k (X.take j)).length = j := by rw [markX_len, List.length_take]; omega
  rw [atX_lt (by rw [mUp_len]; exact h), atX_lt h]
  unfold mUp
  rw [List.getElem_append_right (by omega)]
  simp [hl]
theorem mUp_step (k : Nat) (X : List Ax) (j : Nat) (h : j < X.length) : mUp k X (j + 1) = (mUp k X j).set j (mkX (k + sumX (X.take j)) (atX X j)) := by
  have hl : (markX k (X.take j)).length = j := by rw [markX_len, List.length_take]; omega
  unfold mUp
  have hd : X.drop j = X[j] :: X.drop (j + 1) := List.drop_eq_getElem_cons h
  rw [List.set_append_right _ _ (by omega), hl, Nat.sub_self, take_s h, markX_app, hd, List.set_cons_zero, List.append_assoc]
  rfl
theorem sum_step (X : List Ax) (j : Nat) (h : j < X.length) : sumX (X.take (j + 1)) = sumX (X.take j) + nX (atX X j) := by
  rw [take_s h, sumX_app]; simp [sumX]
theorem sum_le (X : List Ax) (j : Nat) : sumX (X.take j) ≤ sumX X := by
  have := sumX_app (X.take j) (X.drop j)
  rw [List.take_append_drop] at this
  omega
theorem markStep {wr : World} {base g n cap : Nat} {Xs : List Ax} {R : List (Value × List Int)} (ho : OwnX wr base (.slice (some ⟨g, 0, none⟩) n cap) Xs) (hL : LiOk wr base (axLs Xs ++ R)) (hn : Xs.length = n) (j : Nat) (hj : j < n) (a b c : Int) (ps' ts' : List Int) (_hpl : ps'.length = (atX Xs j).a.params.length) (_htl : ts'.length = (atX Xs j).a.text.length) :
    (wr.frozen? ⟨g, j * 5, none⟩ = false ∧ wr.frozen? ⟨g, j * 5 + 1, none⟩ = false) ∧
    OwnI ((wr.setCell ⟨g, j * 5, none⟩ (.int .i64 a)).setCell ⟨g, j * 5 + 1, none⟩ (.int .i64 b)) base (atX Xs j).pv (atX Xs j).a.params ∧
    ∀ W2, OwnI W2 base (atX Xs j).pv ps' → ((wr.setCell ⟨g, j * 5, none⟩ (.int .i64 a)).setCell ⟨g, j * 5 + 1, none⟩ (.int .i64 b)).grownBy W2 (atX Xs j).pv.ownBlock →
      W2.frozen? ⟨g, j * 5 + 3, none⟩ = false ∧ W2.cell? ⟨g, j * 5 + 3, none⟩ = some (.int .i64 (atX Xs j).a.mark) ∧ W2.cell? ⟨g, j * 5 + 4, none⟩ = some (atX Xs j).tv ∧
      OwnI (W2.setCell ⟨g, j * 5 + 3, none⟩ (.int .i64 c)) base (atX Xs j).tv (atX Xs j).a.text ∧
      ∀ W4, OwnI W4 base (atX Xs j).tv ts' → (W2.setCell ⟨g, j * 5 + 3, none⟩ (.int .i64 c)).grownBy W4 (atX Xs j).tv.ownBlock →
        OwnX W4 base (.slice (some ⟨g, 0, none⟩) n cap) (Xs.set j ⟨⟨a, b, ps', c, ts'⟩, (atX Xs j).pv, (atX Xs j).tv⟩) ∧ LiOk W4 base (axLs (Xs.set j ⟨⟨a, b, ps', c, ts'⟩, (atX Xs j).pv, (atX Xs j).tv⟩) ++ R) ∧ Below base wr W4 ∧ ∀ B s m pv tv, PbB wr B s pv m tv → PbB W4 B s pv m tv := by
  subst hn
  have hsz : base ≤ g ∧ g < wr.heap.size := ho.lt g rfl
  have hx := hL.ax (atX_mem hj)
  have ap1 : (Value.slice (some ⟨g, 0, none⟩) Xs.length cap).ownBlock = none ∨ (Value.slice (some ⟨g, 0, none⟩) Xs.length cap).ownBlock ≠ (atX Xs j).pv.ownBlock := (ho.ap hx.1).symm.ne
  have ap2 : (Value.slice (some ⟨g, 0, none⟩) Xs.length cap).ownBlock = none ∨ (Value.slice (some ⟨g, 0, none⟩) Xs.length cap).ownBlock ≠ (atX Xs j).tv.ownBlock := (ho.ap hx.2).symm.ne
  have apL : ∀ p ∈ axLs Xs ++ R, p.1.ownBlock = none ∨ p.1.ownBlock ≠ some g := fun p hp => (ho.ap (hL.1 p hp)).ne
  have s0 := World.ownsRow.stored ho (j * 5) (.int .i64 a)
  have s1 := World.ownsRow.stored s0.1 (j * 5 + 1) (.int .i64 b)
  have L1 := (hL.kept s0.2 apL).kept s1.2 apL
  refine ⟨⟨ho.frozen rfl _, ho.frozen rfl _⟩, (L1.ax (atX_mem hj)).1, fun W2 h2 g2 => ?_⟩
  have s2 := World.ownsRow.kept s1.1 g2 ap1
  have s3 := World.ownsRow.stored s2 (j * 5 + 3) (.int .i64 c)
  have hp := axLs_perm (Xs.take j) (Xs.drop (j + 1)) (atX Xs j) R
  rw [← split_at hj] at hp
  have P1 := L1.perm hp
  have P2 := P1.grow g2 h2 (fun g e => .inl e)
  have apP : ∀ p ∈ ((atX Xs j).pv, ps') :: ((atX Xs j).tv, (atX Xs j).a.text) :: (axLs (Xs.take j ++ Xs.drop (j + 1)) ++ R), p.1.ownBlock = none ∨ p.1.ownBlock ≠ some g := fun p hp' => by
    rcases List.mem_cons.1 hp' with rfl | hp'
    · exact apL ((atX Xs j).pv, (atX Xs j).a.params) (hp.mem_iff.2 (List.mem_cons_self))
    · exact apL _ (hp.mem_iff.2 (List.mem_cons_of_mem _ hp'))
  have P3 := P2.kept s3.2 apP
  have hcell : W2.cell? ⟨g, j * 5 + 4, none⟩ = some (atX Xs j).tv := by
    rw [World.ownsRow.cellAt s2 (j * 5 + 4) (by omega)]
    rw [List.getElem?_set_ne (by omega), List.getElem?_set_ne (by omega), flatX_get Xs j 4 hj (by omega)]
    rfl
  have hcell3 : W2.cell? ⟨g, j * 5 + 3, none⟩ = some (.int .i64 (atX Xs j).a.mark) := by
    rw [World.ownsRow.cellAt s2 (j * 5 + 3) (by omega)]
    rw [List.getElem?_set_ne (by omega), List.getElem?_set_ne (by omega), flatX_get Xs j 3 hj (by omega)]
    rfl
  refine ⟨World.ownsRow.frozenAt s2 _, hcell3, hcell, P3.tail.head, fun W4 h4 g4 => ?_⟩
  have s4 := World.ownsRow.kept s3.1 g4 ap2
  rw [flatX_set Xs a b c ps' ts' j hj] at s4
  have P4 := ((P3.perm (List.Perm.swap _ _ _)).grow g4 h4 (fun g e => .inl e)).perm (List.Perm.swap _ _ _)
  have hb0 : Below base wr wr := Below.refl _ _
  have hb1 := hb0.grown s0.2 (by omega) (fun k e => by cases e; exact hsz.1)
  have z1 : base ≤ (wr.setCell ⟨g, j * 5, none⟩ (.int .i64 a)).heap.size := by simp; omega
  have hb2 := hb1.grown s1.2 z1 (fun k e => by cases e; exact hsz.1)
  have z2 : base ≤ ((wr.setCell ⟨g, j * 5, none⟩ (.int .i64 a)).setCell ⟨g, j * 5 + 1, none⟩ (.int .i64 b)).heap.size := by simp; omega
  have hb3 := hb2.grown g2 z2 (fun k e => (hx.1.lt k e).1)
  have z3 : base ≤ W2.heap.size := Nat.le_trans z2 g2.size
  have hb4 := hb3.grown s3.2 z3 (fun k e => by cases e; exact hsz.1)
  have hb5 := hb4.grown g4 (by simp; omega) (fun k e => (hx.2.lt k e).1)
  have hq := (axLs_perm (Xs.take j) (Xs.drop (j + 1)) ⟨⟨a, b, ps', c, ts'⟩, (atX Xs j).pv, (atX Xs j).tv⟩ R).symm
  rw [← set_at hj] at hq
  refine ⟨?_, P4.perm hq, hb5, fun B s m pv tv hB => ?_⟩
  rotate_left
  · have k0 := hB.kept s0.2 (ho.not_block hB (by decide))
    have k1 := k0.kept s1.2 (ho.not_block hB (by decide))
    have k2 := k1.kept g2 (hx.1.not_block hB (by decide))
    have k3 := k2.kept s3.2 (ho.not_block hB (by decide))
    exact k3.kept g4 (hx.2.not_block hB (by decide))
  unfold OwnX
  rw [List.length_set]
  exact s4
set_option maxHeartbeats 8000000 in
set_option maxRecDepth 20000 in
/-- Actions and their lists are marked, others of this call's are as they were. -/
theorem markActionS_own (base : Nat) (v : Value) (X : List Ax) (R : List (Value × List Int)) (k : Nat) (w : World) (ho : OwnX w base v X) (hL : LiOk w base (axLs X ++ R)) (hk : k + sumX X ≤ 1048576) (hl : X.length ≤ 1048576) :
    Calls Tryd.prog 24 #[v, .int .i64 k] w fun e w' => e = .returned (.int .i64 ((k + sumX X : Nat) : Int)) ∧ OwnX w' base v (markX k X) ∧ LiOk w' base (axLs (markX k X) ++ R) ∧ Below base w w' ∧ ∀ B s m pv tv, PbB w B s pv m tv → PbB w' B s pv m tv := by
  rcases ho.shape2 with ⟨rfl, rfl⟩ | ⟨g, cap, rfl, hbg, hlg, hcap⟩
  · go_enter Tryd.func24, Tryd.ntmps24
    go_wp2
    refine wp_loop_rounds 1 ?_
    rw [rounds_succ]
    go_wp2
    go_ret
    exact ⟨by simp [sumX], ho, hL, Below.refl _ _, fun _ _ _ _ _ h => h⟩
  · generalize hn : X.length = n at *
    go_enter Tryd.func24, Tryd.ntmps24
    go_wp2
    go_loopw [1, 5] (fun q i wr => ∃ j : Nat, j ≤ n ∧ i = .int .i64 j ∧ q = .int .i64 ((k + sumX (X.take j) : Nat) : Int) ∧ OwnX wr base (.slice (some ⟨g, 0, none⟩) n cap) (mUp k X j) ∧ LiOk wr base (axLs (mUp k X j) ++ R) ∧ Below base w wr ∧ ∀ B s m pv tv, PbB w B s pv m tv → PbB wr B s pv m tv) (fun _ i _ => n - (intOf i).toNat)
    case atStart => exact ⟨0, Nat.zero_le _, rfl, by simp [sumX], by simpa [mUp, markX] using ho, by simpa [mUp, markX] using hL, Below.refl _ _, fun _ _ _ _ _ h => h⟩
    case round =>
      clear ho hL
      obtain ⟨j, hj, rfl, rfl, ho, hL, hgr, hpp⟩ := hrel
      have hlen : (mUp k X j).length = n := by rw [mUp_len]; exact hn
      by_cases hlt : j < n
      · have hji : (j : Int) < (n : Int) := by omega
        have hj0 : (0 : Int) ≤ (j : Int) := by omega
        have hat := ho.at hlen j hlt
        have hxa := mUp_at k X j (by omega)
        have hxo := hL.ax (atX_mem (X := mUp k X j) (i := j) (by omega))
        have hsz : base ≤ wr.heap.size := by have := ho.lt g rfl; omega
        have hs1 := sum_le X (j + 1)
        have hs2 := sum_step X j (by omega)
        have hst : Hid (mUp k X (j + 1) = (mUp k X j).set j (mkX (k + sumX (X.take j)) (atX X j))) := mUp_step k X j (by omega)
        rw [← hxa] at hs2 hst
        have hms := fun a b c ps' ts' h1 h2 => markStep ho hL hlen j hlt a b c ps' ts' h1 h2
        rw [hs2] at hs1
        have hnx : nX (atX (mUp k X j) j) = 3 + (atX (mUp k X j) j).a.params.length + (atX (mUp k X j) j).a.text.length := rfl
        have hqq : Hid (k + sumX (X.take (j + 1)) = k + sumX (X.take j) + 2 + (atX (mUp k X j) j).a.params.length + 1 + (atX (mUp k X j) j).a.text.length) := by show _ = _; omega
        clear hs2 ho hL hxa
        generalize hq : k + sumX (X.take j) = q at *
        generalize hx : atX (mUp k X j) j = x at *
        obtain ⟨⟨kk, rr, ps, mm, ts⟩, xp, xt⟩ := x
        simp only at hat hxo hms hnx hqq
        obtain ⟨pa, pn, pc, e1⟩ := hxo.1.shape
        obtain ⟨ta, tn, tc, e2⟩ := hxo.2.shape
        subst e1; subst e2
        replace hms := hms q ((q : Int) + 1) ((q + 2 + ps.length : Nat) : Int) (marksI ((q + 2 : Nat) : Int) ps.length) (marksI ((q + 2 + ps.length + 1 : Nat) : Int) ts.length) (marksI_len _ _) (marksI_len _ _)
        have hset : (mUp k X j).set j ⟨⟨(q : Int), (q : Int) + 1, marksI ((q + 2 : Nat) : Int) ps.length, ((q + 2 + ps.length : Nat) : Int), marksI ((q + 2 + ps.length + 1 : Nat) : Int) ts.length⟩, .slice pa pn pc, .slice ta tn tc⟩ = mUp k X (j + 1) := by rw [hst.out]; rfl
        rw [hset] at hms
        clear hset hst
        obtain ⟨⟨f0, f1⟩, hp1, hms⟩ := hms
        have m1 := markI_own base (.slice pa pn pc) ((q + 2 : Nat) : Int) ps.length (ps.map (Value.int .i64)) _ hp1 ⟨by omega, by omega⟩ (by omega)
        have m2 := fun W (hW : OwnI W base (.slice ta tn tc) ts) => markI_own base (.slice ta tn tc) ((q + 2 + ps.length + 1 : Nat) : Int) ts.length (ts.map (Value.int .i64)) W hW ⟨by omega, by omega⟩ (by omega)
        have n0 : Hid (((q + 2 : Nat) : Int) = (q : Int) + 1 + 1) := by show _ = _; omega
        have n1 : Hid ((q : Int) + 1 + 1 + (ps.length : Int) = ((q + 2 + ps.length : Nat) : Int)) := by show _ = _; omega
        have n2 : Hid (((q + 2 + ps.length + 1 : Nat) : Int) = ((q + 2 + ps.length : Nat) : Int) + 1) := by show _ = _; omega
        have n3 : Hid (((q + 2 + ps.length : Nat) : Int) + 1 + (ts.length : Int) = ((k + sumX (X.take (j + 1)) : Nat) : Int)) := by show _ = _; rw [hqq.out]; omega
        rw [n0.out] at m1 hms
        rw [n1.out] at m1
        have hqb : q + 2 + ps.length + 1 + ts.length ≤ 1048576 := by rw [hnx] at hs1; omega
        simp only [n2.out, n3.out] at m2 hms
        have hqb2 : (q : Int) ≤ 1048576 := by omega
        have hqb3 : ((q + 2 + ps.length : Nat) : Int) ≤ 1048576 := by omega
        have hqb4 : (0 : Int) ≤ ((q + 2 + ps.length : Nat) : Int) := by omega
        obtain ⟨c0, c1, c2, c3, c4⟩ := hat
        generalize ((q + 2 + ps.length : Nat) : Int) = y at *
        clear hs1 hnx n0 n1 n2 n3 hxo hp1
        go_wp2_with fail
        refine m1.mono ?_
        rintro e W2 ⟨rfl, h2, g2⟩
        obtain ⟨f3, c3b, c4b, ht, hms⟩ := hms W2 (show OwnI W2 base _ _ from by unfold OwnI; rw [marksI_len]; exact h2) g2
        have m3 := m2 _ ht
        clear m1 m2 c0 c1 c2 c3 c4 h2 g2 f0 f1
        go_wp2_with fail
        refine m3.mono ?_
        rintro e W4 ⟨rfl, h4, g4⟩
        replace hms := (show Hid _ from hms W4 (show OwnI W4 base _ _ from by unfold OwnI; rw [marksI_len]; exact h4) g4)
        clear m3 h4 g4 f3 c3b c4b ht
        go_wp2
        go_roundw
        case rel => exact ⟨j + 1, by omega, by go_num, rfl, hms.out.1, hms.out.2.1, hgr.trans hms.out.2.2.1, fun B s m pv tv h => hms.out.2.2.2 B s m pv tv (hpp B s m pv tv h)⟩
        case measure => simp [intOf]; omega
      · have hjn : j = n := by omega
        have hji : ¬ (j : Int) < (n : Int) := by omega
        subst hjn
        go_wp2
        go_ret
        have e : mUp k X j = markX k X := by unfold mUp; rw [List.take_of_length_le (by omega), List.drop_eq_nil_of_le (by omega), List.append_nil]
        rw [e] at ho hL
        exact ⟨by rw [List.take_of_length_le (by omega)]; rfl, ho, hL, hgr, hpp⟩
end Go.Proofs.YtkcekacnebhcgaaDoor
namespace Go.Proofs.YtkcekacnebhcgaaDoor
open Go.ChangeShapes Go.WideShapes Go.ChangeAt Go.RowKit
theorem markX_at (k : Nat) (Y : List Ax) (j : Nat) (h : j < Y.length) : atX (markX k Y) j = mkX (k + sumX (Y.take j)) (atX Y j) := by
  induction Y generalizing k j with
  | nil => simp at h
  | cons y Y ih =>
    cases j with
    | zero => simp [markX, atX, sumX]
    | succ j =>
      have := ih (k + nX y) j (by simpa using h)
      have e1 : atX (markX k (y :: Y)) (j + 1) = atX (markX (k + nX y) Y) j := by simp [markX, atX]
      have e2 : atX (y :: Y) (j + 1) = atX Y j := by simp [atX]
      rw [e1, e2, this, List.take_succ_cons]
      simp [sumX, Nat.add_assoc]
set_option maxHeartbeats 8000000 in
set_option maxRecDepth 20000 in
theorem heldActionS_marks (base : Nat) (v : Value) (Y : List Ax) (R : List (Value × List Int)) (k : Nat) (w : World) (ho : OwnX w base v (markX k Y)) (hL : LiOk w base (axLs (markX k Y) ++ R)) (hk : k + sumX Y ≤ 1048576) (hl : Y.length ≤ 1048576) :
    Calls Tryd.prog 26 #[v, .int .i64 k] w fun e w' => e = .returned (.int .i64 ((k + sumX Y : Nat) : Int)) ∧ w' = w := by
  rcases ho.shape2 with ⟨rfl, h0⟩ | ⟨g, cap, rfl, hbg, hlg, hcap⟩
  · have hY : Y = [] := List.eq_nil_of_length_eq_zero (by rw [← markX_len k Y, h0]; rfl)
    subst hY
    go_enter Tryd.func26, Tryd.ntmps26
    go_wp2
    refine wp_loop_rounds 1 ?_
    rw [rounds_succ]
    go_wp2
    go_ret
    exact ⟨by simp [sumX], rfl⟩
  · rw [markX_len] at ho hcap ⊢
    have hlen : (markX k Y).length = Y.length := markX_len _ _
    generalize hn : Y.length = n at *
    have hs := fun j hj => ho.at hlen j hj
    clear ho
    go_enter Tryd.func26, Tryd.ntmps26
    go_wp2
    go_loop [1, 5] (fun q i => ∃ j : Nat, j ≤ n ∧ i = .int .i64 j ∧ q = .int .i64 ((k + sumX (Y.take j) : Nat) : Int)) (fun _ i => n - (intOf i).toNat)
    case atStart => exact ⟨0, Nat.zero_le _, rfl, by simp [sumX]⟩
    case round =>
      obtain ⟨j, hj, rfl, rfl⟩ := hrel
      by_cases hlt : j < n
      · have hji : (j : Int) < (n : Int) := by omega
        have hj0 : (0 : Int) ≤ (j : Int) := by omega
        have hat := hs j hlt
        have hxo := hL.ax (atX_mem (X := markX k Y) (i := j) (by omega))
        have hxa := markX_at k Y j (by omega)
        have hs1 := sum_le Y (j + 1)
        have hs2 := sum_step Y j (by omega)
        rw [hxa] at hat hxo
        have hnx : nX (atX Y j) = 3 + (atX Y j).a.params.length + (atX Y j).a.text.length := rfl
        have hqq : Hid (k + sumX (Y.take (j + 1)) = k + sumX (Y.take j) + 2 + (atX Y j).a.params.length + 1 + (atX Y j).a.text.length) := by show _ = _; omega
        rw [hs2] at hs1
        clear hs2 hxa hs hL
        generalize hq : k + sumX (Y.take j) = q at *
        generalize atX Y j = x at *
        obtain ⟨⟨kk, rr, ps, mm, ts⟩, xp, xt⟩ := x
        unfold mkX at hat hxo
        simp only at hat hxo hnx hqq
        obtain ⟨pa, pc, e1⟩ := hxo.1.sl.shp
        obtain ⟨ta, tc, e2⟩ := hxo.2.sl.shp
        rw [marksI_len] at e1 e2
        subst e1; subst e2
        have hqb : q + 2 + ps.length + 1 + ts.length ≤ 1048576 := by rw [hnx] at hs1; omega
        have m1 := heldI_marks (.slice pa ps.length pc) ((q + 2 : Nat) : Int) ps.length w hxo.1.sl ⟨by omega, by omega⟩ (by omega)
        have m2 := heldI_marks (.slice ta ts.length tc) ((q + 2 + ps.length + 1 : Nat) : Int) ts.length w hxo.2.sl ⟨by omega, by omega⟩ (by omega)
        have n0 : Hid (((q + 2 : Nat) : Int) = (q : Int) + 1 + 1) := by show _ = _; omega
        have n1 : Hid ((q : Int) + 1 + 1 + (ps.length : Int) = ((q + 2 + ps.length : Nat) : Int)) := by show _ = _; omega
        have n2 : Hid (((q + 2 + ps.length + 1 : Nat) : Int) = ((q + 2 + ps.length : Nat) : Int) + 1) := by show _ = _; omega
        have n3 : Hid (((q + 2 + ps.length : Nat) : Int) + 1 + (ts.length : Int) = ((k + sumX (Y.take (j + 1)) : Nat) : Int)) := by show _ = _; rw [hqq.out]; omega
        rw [n0.out, n1.out] at m1
        rw [n2.out, n3.out] at m2
        have hqb2 : (q : Int) ≤ 1048576 := by omega
        have hqb3 : ((q + 2 + ps.length : Nat) : Int) ≤ 1048576 := by omega
        have hqb4 : (0 : Int) ≤ ((q + 2 + ps.length : Nat) : Int) := by omega
        have hqb5 : ¬ (((q + 2 + ps.length : Nat) : Int) < 0) := by omega
        have hqb6 : ¬ (((k + sumX (Y.take (j + 1)) : Nat) : Int) < 0) := by omega
        obtain ⟨c0, c1, c2, c3, c4⟩ := hat
        generalize ((q + 2 + ps.length : Nat) : Int) = y at *
        clear hs1 hnx n0 n1 n2 n3 hxo
        go_wp2_with fail
        refine m1.mono ?_
        rintro e W2 ⟨rfl, hw⟩
        subst hw
        clear m1
        go_wp2_with fail
        refine m2.mono ?_
        rintro e W4 ⟨rfl, hw⟩
        subst hw
        clear m2
        go_wp2
        go_round
        case rel => exact ⟨j + 1, by omega, by go_num, rfl⟩
        case measure => simp [intOf]; omega
      · have hjn : j = n := by omega
        have hji : ¬ (j : Int) < (n : Int) := by omega
        subst hjn
        go_wp2
        go_ret
        exact ⟨by rw [List.take_of_length_le (by omega)]; rfl, rfl⟩
end Go.Proofs.YtkcekacnebhcgaaDoor
namespace Go.Proofs.YtkcekacnebhcgaaDoor
open Go.ChangeShapes Go.WideShapes Go.ChangeAt Go.RowKit
theorem LiOk.grv {u v : Value} {w w' : World} {base : Nat} {L : List (Value × List Int)} (h : LiOk w base L) (hg : GrV u v w w') (hu : ∀ g, u.ownBlock = some g → g < base) (hv : ∀ g, v.ownBlock = some g → g < base) : LiOk w' base L :=
  ⟨fun p hp => ownsRow_grv (h.1 p hp) hg (fun g e e' => by have := ((h.1 p hp).lt g e).1; have := hu g e'; omega) (fun g e e' => by have := ((h.1 p hp).lt g e).1; have := hv g e'; omega), h.2⟩
theorem OwnX.grv {u v : Value} {w w' : World} {base : Nat} {x : Value} {X : List Ax} (h : OwnX w base x X) (hg : GrV u v w w') (hu : ∀ g, u.ownBlock = some g → g < base) (hv : ∀ g, v.ownBlock = some g → g < base) : OwnX w' base x X :=
  ownsRow_grv h hg (fun g e e' => by have := (h.lt g e).1; have := hu g e'; omega) (fun g e e' => by have := (h.lt g e).1; have := hv g e'; omega)
/-- A parser's own lists are marked: its actions are as they were. -/
theorem OwnX.grvOwn {u v : Value} {w w' : World} {base b1 b2 : Nat} {x : Value} {X : List Ax} {xs ys : List Int} (h : OwnX w base x X) (hg : GrV u v w w') (hu : OwnI w b1 u xs) (hv : OwnI w b2 v ys) : OwnX w' base x X :=
  ownsRow_grv h hg (fun g e e' => h.ap hu g e' e) (fun g e e' => h.ap hv g e' e)
end Go.Proofs.YtkcekacnebhcgaaDoor
namespace Go.Proofs.YtkcekacnebhcgaaDoor
open Go.ChangeShapes Go.WideShapes Go.ChangeAt Go.RowKit
/-- Actions behind actions. -/
theorem append_x {w : World} {ops : Array Oper} {rest : List Oper} {o : Oper} {ac : Act} {Q : Exit → Act → World → Prop} (hgd : o.guard = none) (s x : Operand)
    (ho : o.op = .call { callee := .builtin .append, args := #[s, x], argTypes := #[29, 29] })
    (b b2 : Nat) (v u : Value) (X XA : List Ax) (hs : ac.eval s = v) (h1 : OwnX w b v X) (hx : ac.eval x = u) (h2 : OwnX w b2 u XA) (hone : ∀ q ∈ XA.flatMap axC, q.oneCell' = true) (hl : X.length + XA.length ≤ 1000000) (hb : b ≤ w.heap.size)
    (h : ∀ v' w', OwnX w' b v' (X ++ XA) → w.grownBy w' v.ownBlock → wpList Tryd.prog ops Q rest (ac.put o.dst v') w') : wpList Tryd.prog ops Q (o :: rest) ac w := by
  obtain ⟨i0, hi, hz0, hz1, hz2⟩ := info_parts info_act
  rcases h2.2 with ⟨hu, hn⟩ | ⟨g, cap, cur, hu, hbg, hg, hn, hr⟩
  · obtain rfl : XA = [] := List.eq_nil_of_length_eq_zero hn
    exact wpList_append_own_none hgd s x _ ho b _ i0 5 under_act hi v X.length _ hs h1 (hx.trans hu) (h v w (by simpa using h1) (World.grownBy.refl _ _))
  · refine wpList_append_own_at _ hgd s x _ ho b _ i0 (.agg #[.int .i64 0, .int .i64 0, .slice none 0 0, .int .i64 0, .slice none 0 0]) 5 72 under_act hi hz0 hz1 hz2 rfl (by decide) v X.length _ hs h1 ⟨g, 0, none⟩ XA.length cap (XA.flatMap axC) (hx.trans hu) (flatX_len XA) (World.ownsRow.cells h2 (by rw [hu]; rfl)) hone (by unfold maxLen; omega) (by omega) hb ?_
    intro v' w' ho' hg' _ _
    refine h v' w' ?_ hg'
    unfold OwnX
    rw [List.length_append, List.flatMap_append]
    exact ho'
theorem flatX_one {X : List Ax} (h : ∀ x ∈ X, (∃ a n c, x.pv = .slice a n c) ∧ ∃ a n c, x.tv = .slice a n c) : ∀ q ∈ X.flatMap axC, q.oneCell' = true := by
  intro q hq
  obtain ⟨x, hx, hq⟩ := List.mem_flatMap.1 hq
  exact axC_one x (h x hx).1 (h x hx).2 q hq
/-- What stands ahead of a list's next rune. -/
def SpI (w0 W : World) (p0 : Pa) (l : List Int) (j : Nat) (ov : Value) : Prop :=
  ∃ pv tv X, PbB W w0.heap.size (parsedM p0 (l.take j)).1.state pv (parsedM p0 (l.take j)).1.mark tv ∧ PbB W (w0.heap.size + 1) 0 (.slice none 0 0) 0 (.slice none 0 0) ∧ OwnX W w0.heap.size ov X ∧ X.map (·.a) = (parsedM p0 (l.take j)).2 ∧
    LiOk W w0.heap.size ((pv, (parsedM p0 (l.take j)).1.params) :: (tv, (parsedM p0 (l.take j)).1.text) :: axLs X) ∧ Below w0.heap.size w0 W ∧ w0.heap.size + 3 ≤ W.heap.size
/-- Behind the step's call: the next parser in a block of its own. -/
def SpM (w0 W : World) (B8 : Nat) (s m s3 m3 : Int) (pv tv ov pv3 tv3 av3 : Value) (ps3 ts3 : List Int) (X XA : List Ax) : Prop :=
  PbB W w0.heap.size s pv m tv ∧ PbB W (w0.heap.size + 1) 0 (.slice none 0 0) 0 (.slice none 0 0) ∧ PbB W B8 s3 pv3 m3 tv3 ∧ OwnX W w0.heap.size ov X ∧ OwnX W w0.heap.size av3 XA ∧
    LiOk W w0.heap.size ((pv3, ps3) :: (tv3, ts3) :: (axLs XA ++ axLs X)) ∧ Below w0.heap.size w0 W ∧ w0.heap.size + 3 ≤ W.heap.size
theorem SpM.kept {w0 W : World} {B : Nat} {s m s3 m3 : Int} {pv tv ov pv3 tv3 av3 : Value} {ps3 ts3 : List Int} {X XA : List Ax} {c0 d0 : Int} {c1 d1 : Value} (hP : PbB W w0.heap.size s pv m tv) (hR : PbB W (w0.heap.size + 1) 0 (.slice none 0 0) 0 (.slice none 0 0)) (hX : OwnX W w0.heap.size ov X) (hA : OwnX W w0.heap.size av3 XA)
    (hL : LiOk W w0.heap.size ((pv3, ps3) :: (tv3, ts3) :: (axLs XA ++ axLs X))) (hb : Below w0.heap.size w0 W) (hs : w0.heap.size + 3 ≤ W.heap.size) (hB : PbB W B c0 c1 d0 d1) (hn : w0.heap.size + 2 ≤ B) :
    SpM w0 (putP W B s3 pv3 m3 tv3) B s m s3 m3 pv tv ov pv3 tv3 av3 ps3 ts3 X XA := by
  have hg := putP_grown W B s3 pv3 m3 tv3
  exact ⟨hP.kept hg (by simp; omega), hR.kept hg (by simp; omega), hB.put s3 m3 pv3 tv3, hX.kept hg (.inr (hX.not_block hB (by decide))), hA.kept hg (.inr (hA.not_block hB (by decide))), hL.kept hg (fun p hp => .inr ((hL.1 p hp).not_block hB (by decide))), hb.grown hg hb.size (fun k e => by cases e; omega), Nat.le_trans hs hg.size⟩
theorem SpM.new {w0 W : World} {s m s3 m3 : Int} {pv tv ov pv3 tv3 av3 : Value} {ps3 ts3 : List Int} {X XA : List Ax} (hP : PbB W w0.heap.size s pv m tv) (hR : PbB W (w0.heap.size + 1) 0 (.slice none 0 0) 0 (.slice none 0 0)) (hX : OwnX W w0.heap.size ov X) (hA : OwnX W w0.heap.size av3 XA)
    (hL : LiOk W w0.heap.size ((pv3, ps3) :: (tv3, ts3) :: (axLs XA ++ axLs X))) (hb : Below w0.heap.size w0 W) (hs : w0.heap.size + 3 ≤ W.heap.size) :
    SpM w0 (W.alloc (.cells #[.int .i64 s3, pv3, .int .i64 m3, tv3] 26)) W.heap.size s m s3 m3 pv tv ov pv3 tv3 av3 ps3 ts3 X XA := by
  have hb2 := bal' W (Obj.cells #[.int .i64 s3, pv3, .int .i64 m3, tv3] 26)
  exact ⟨hP.below hb2, hR.below hb2, PbB.new W s3 m3 pv3 tv3, hX.below hb2, hA.below hb2, hL.below hb2, hb.trans (hb2.mono hb.size), Nat.le_trans hs hb2.size⟩
set_option maxHeartbeats 8000000 in
set_option maxRecDepth 20000 in
theorem specParsed_any (p : Pa) (pv tv lv : Value) (l : List Int) (w : World) (hp : SlN w pv p.params) (ht : SlN w tv p.text) (hv : SlN w lv l) (hpl : p.params.length ≤ 1073741824) (htl : p.text.length ≤ 1073741824) (hll : l.length ≤ 1073741824) :
    Calls Tryd.prog 16 #[paV p pv tv, lv] w fun e w' => Ans w w' e (parsedA p l) := by
  obtain ⟨T, hT⟩ : ∃ T, Hid (parsedA p l = T) := ⟨_, rfl⟩
  rw [hT.out]
  obtain ⟨s, ps, m, ts⟩ := p
  have hb0 := bal' w (Obj.cells #[.int .i64 s, pv, .int .i64 m, tv] 26)
  have hb1 := bal' (w.alloc (Obj.cells #[.int .i64 s, pv, .int .i64 m, tv] 26)) (Obj.cells #[.int .i64 0, .slice none 0 0, .int .i64 0, .slice none 0 0] 26)
  have hb2 := bal' ((w.alloc (Obj.cells #[.int .i64 s, pv, .int .i64 m, tv] 26)).alloc (Obj.cells #[.int .i64 0, .slice none 0 0, .int .i64 0, .slice none 0 0] 26)) (Obj.cells #[] 63)
  have e0 : (w.alloc (Obj.cells #[.int .i64 s, pv, .int .i64 m, tv] 26)).heap.size = w.heap.size + 1 := by simp
  have e1 : ((w.alloc (Obj.cells #[.int .i64 s, pv, .int .i64 m, tv] 26)).alloc (Obj.cells #[.int .i64 0, .slice none 0 0, .int .i64 0, .slice none 0 0] 26)).heap.size = w.heap.size + 2 := by simp
  have hs2 : (((w.alloc (Obj.cells #[.int .i64 s, pv, .int .i64 m, tv] 26)).alloc (Obj.cells #[.int .i64 0, .slice none 0 0, .int .i64 0, .slice none 0 0] 26)).alloc (Obj.cells #[] 63)).heap.size = w.heap.size + 3 := by simp
  have hR := (PbB.new (w.alloc (Obj.cells #[.int .i64 s, pv, .int .i64 m, tv] 26)) 0 0 (.slice none 0 0) (.slice none 0 0)).below hb2
  have hP := ((PbB.new w s m pv tv).below hb1).below hb2
  have hX := ownX_lit ((w.alloc (Obj.cells #[.int .i64 s, pv, .int .i64 m, tv] 26)).alloc (Obj.cells #[.int .i64 0, .slice none 0 0, .int .i64 0, .slice none 0 0] 26)) w.heap.size (by omega)
  have hbb := (hb0.trans (hb1.mono hb0.size)).trans (hb2.mono (by omega))
  rw [e0] at hR
  rw [e1] at hX
  have hp2 := hp.below hbb
  have ht2 := ht.below hbb
  have hv2 := hv.below hbb
  have hO := specParserOk_any ⟨s, ps, m, ts⟩ pv tv _ hp2.l.sl ht2.l.sl hpl htl
  have hRu := fun W h => specRunes6_any lv l 2000 W h hll (by decide)
  have hC := fun W h1 h2 => l6Copy_any ⟨s, ps, m, ts⟩ pv tv W h1 h2 hpl htl
  unfold paV at *
  simp only at *
  obtain ⟨pa, pc, hpv⟩ := hp2.shp
  obtain ⟨ta, tc, htv⟩ := ht2.shp
  obtain ⟨la, lc, hlv⟩ := hv2.shp
  subst hpv; subst htv; subst hlv
  generalize hw2 : ((w.alloc (Obj.cells #[.int .i64 s, .slice pa ps.length pc, .int .i64 m, .slice ta ts.length tc] 26)).alloc (Obj.cells #[.int .i64 0, .slice none 0 0, .int .i64 0, .slice none 0 0] 26)).alloc (Obj.cells #[] 63) = w2 at *
  obtain ⟨c0, c1, c2, c3⟩ := hP.cells
  have hend : ∀ W, Below w2.heap.size w2 W →
      Hid (((W.cell? ⟨w.heap.size + 1, 0, none⟩ = some (.int .i64 0) ∧ W.cell? ⟨w.heap.size + 1, 1, none⟩ = some (.slice none 0 0) ∧ W.cell? ⟨w.heap.size + 1, 2, none⟩ = some (.int .i64 0) ∧ W.cell? ⟨w.heap.size + 1, 3, none⟩ = some (.slice none 0 0)) ∧
        (W.frozen? ⟨w.heap.size + 1, 0, none⟩ = false ∧ W.frozen? ⟨w.heap.size + 1, 1, none⟩ = false ∧ W.frozen? ⟨w.heap.size + 1, 2, none⟩ = false ∧ W.frozen? ⟨w.heap.size + 1, 3, none⟩ = false)) ∧
        ((putP W (w.heap.size + 1) 0 (.slice none 0 0) 0 (.slice none 0 0)).cell? ⟨w.heap.size + 1, 0, none⟩ = some (.int .i64 0) ∧ (putP W (w.heap.size + 1) 0 (.slice none 0 0) 0 (.slice none 0 0)).cell? ⟨w.heap.size + 1, 1, none⟩ = some (.slice none 0 0) ∧ (putP W (w.heap.size + 1) 0 (.slice none 0 0) 0 (.slice none 0 0)).cell? ⟨w.heap.size + 1, 2, none⟩ = some (.int .i64 0) ∧ (putP W (w.heap.size + 1) 0 (.slice none 0 0) 0 (.slice none 0 0)).cell? ⟨w.heap.size + 1, 3, none⟩ = some (.slice none 0 0)) ∧
        Ans w (putP W (w.heap.size + 1) 0 (.slice none 0 0) 0 (.slice none 0 0)) (.returned (.tuple #[.agg #[.int .i64 0, .slice none 0 0, .int .i64 0, .slice none 0 0], .slice (some ⟨w.heap.size + 2, 0, none⟩) 0 0])) (paZ, [])) := fun W hb => by
    have hs := hb.size
    have hbw := hbb.trans (hb.mono hbb.size)
    have hR2 := hR.below hb
    have hX2 := hX.below hb
    have hg := putP_grown W (w.heap.size + 1) 0 (.slice none 0 0) 0 (.slice none 0 0)
    exact ⟨cells4 hR2, (hR2.put 0 0 (.slice none 0 0) (.slice none 0 0)).cells, _, _, _, rfl, ⟨[], rfl, hX2.kept hg (.inr (hX2.not_block hR2 (by decide))), (LiOk.nil _ _).nilc.nilc⟩, hbw.grown hg hbw.size (fun k e => by cases e; omega)⟩
  have hcl := hw2
  cases hok : okV ⟨s, ps, m, ts⟩
  · have hvv : Hid (T = (paZ, [])) := hT.out.symm.trans (parsedA_no (by rw [hok]; rfl))
    rw [hok] at hO
    clear hC hp ht hv hp2 ht2 hv2 hT hR hP hbb hb0 hb1 hb2 hX hRu hcl
    subst hw2
    go_enter Tryd.func16, Tryd.ntmps16
    go_wp2_with fail
    refine hO.mono ?_
    rintro e w3 ⟨rfl, hb⟩
    obtain ⟨⟨⟨d0, d1, d2, d3⟩, ⟨y0, y1, y2, y3⟩⟩, ⟨f0, f1, f2, f3⟩, hfin⟩ := (hend w3 hb).out
    replace hfin := (show Hid _ from hfin)
    simp only [putP] at f0 f1 f2 f3 hfin
    clear hend hO hb c0 c1 c2 c3
    go_wp2
    exact bodyPost_ret (v := .tuple #[.agg #[.int .i64 0, .slice none 0 0, .int .i64 0, .slice none 0 0], .slice (some ⟨w.heap.size + 2, 0, none⟩) 0 0]) (by simp [results, Tryd.results16, go_sem, f0, f1, f2, f3]) rfl (by rw [hvv.out]; exact hfin.out)
  · rw [hok] at hO
    cases hru : (decide (l.length ≤ 2000) && runesB l)
    · have hvv : Hid (T = (paZ, [])) := hT.out.symm.trans (parsedA_no (by rw [Bool.and_assoc, hru, Bool.and_false]))
      have hRu2 := fun W h => hru ▸ hRu W h
      clear hC hp ht hv hp2 ht2 hT hR hP hbb hb0 hb1 hb2 hX hRu hcl
      subst hw2
      go_enter Tryd.func16, Tryd.ntmps16
      go_wp2_with fail
      refine hO.mono ?_
      rintro e w3 ⟨rfl, hb⟩
      obtain ⟨⟨⟨d0, d1, d2, d3⟩, ⟨y0, y1, y2, y3⟩⟩, ⟨f0, f1, f2, f3⟩, hfin⟩ := (hend w3 hb).out
      replace hfin := (show Hid _ from hfin)
      simp only [putP] at f0 f1 f2 f3 hfin
      have hR3 := hRu2 _ (hv2.below hb).l.sl
      clear hend hO hb c0 c1 c2 c3 hRu2 hv2
      go_wp2_with (go_at_call 47; refine hR3.mono ?_; rintro e w4 ⟨rfl, rfl⟩)
      exact bodyPost_ret (v := .tuple #[.agg #[.int .i64 0, .slice none 0 0, .int .i64 0, .slice none 0 0], .slice (some ⟨w.heap.size + 2, 0, none⟩) 0 0]) (by simp [results, Tryd.results16, go_sem, f0, f1, f2, f3]) rfl (by rw [hvv.out]; exact hfin.out)
    · have hvv : Hid (T = parsedM ⟨s, ps, m, ts⟩ l) := hT.out.symm.trans (parsedA_yes (by rw [Bool.and_assoc, hru, hok]; rfl))
      have hRu2 := fun W h => hru ▸ hRu W h
      rw [Bool.and_eq_true, decide_eq_true_eq] at hru
      obtain ⟨hl2, hru⟩ := hru
      have hpb := okV_pb hok
      have hpt := okV_t3 hok
      have hl21 : (l.length : Int) ≤ 2000 := by omega
      clear hend hT hRu
      have hw2' := (show Hid _ from hw2)
      subst hw2
      clear hcl
      go_enter Tryd.func16, Tryd.ntmps16
      go_wp2_with fail
      refine hO.mono ?_
      rintro e w3 ⟨rfl, hb⟩
      have hP3 := hP.below hb
      have hR3 := hR.below hb
      have hX3 := hX.below hb
      have hp3 := hp2.below hb
      have ht3 := ht2.below hb
      have hRu3 := hRu2 _ (hv2.below hb).l.sl
      have hbw3 := hbb.trans (hb.mono hbb.size)
      have hs3 : w.heap.size + 3 ≤ w3.heap.size := by rw [← hs2]; exact hb.size
      clear hO hb hP hR hX hp ht hp2 ht2 hv2 hbb hb0 hb1 hb2 c0 c1 c2 c3 hs2 hw2' hRu2 e0 e1
      go_wp2_with fail
      refine hRu3.mono ?_
      rintro e w4 ⟨rfl, hw⟩
      subst hw
      clear hRu3
      obtain ⟨c0, c1, c2, c3⟩ := hP3.cells
      go_wp2_with fail
      refine (hC _ hp3 ht3).mono ?_
      rintro e w5 ⟨pv5, tv5, rfl, hL5, hb5⟩
      clear c0 c1 c2 c3
      have hP5 := hP3.below hb5
      have hR5 := hR3.below hb5
      have hX5 := hX3.below hb5
      have hbw5 := hbw3.trans (hb5.mono hbw3.size)
      obtain ⟨pa5, pn5, pc5, e5⟩ := hL5.head.shape
      obtain ⟨ta5, tn5, tc5, e5'⟩ := hL5.tail.head.shape
      simp only at e5 e5'
      subst e5; subst e5'
      have hg5 := putP_grown w5 w.heap.size s (.slice pa5 pn5 pc5) m (.slice ta5 tn5 tc5)
      have hP6 := hP5.put s m (.slice pa5 pn5 pc5) (.slice ta5 tn5 tc5)
      have hI0 : SpI w (putP w5 w.heap.size s (.slice pa5 pn5 pc5) m (.slice ta5 tn5 tc5)) ⟨s, ps, m, ts⟩ l 0 (.slice (some ⟨w.heap.size + 2, 0, none⟩) 0 0) :=
        ⟨_, _, [], hP6, hR5.kept hg5 (by simp), hX5.kept hg5 (.inr (hX5.not_block hP5 (by decide))), rfl, (hL5.low (by have := hbw3.size; omega)).kept hg5 (fun p hp => .inr ((hL5.1 p hp).not_block hP5 (by decide))), hbw5.grown hg5 hbw5.size (fun k e => by cases e; exact Nat.le_refl _), by have := hg5.size; have := hb5.size; omega⟩
      obtain ⟨d0, d1, d2, d3⟩ := hP5.cells
      obtain ⟨y0, y1, y2, y3⟩ := hP5.frozen
      replace hI0 := (show Hid _ from hI0)
      simp only [putP] at hI0
      clear hC hp3 ht3 hP3 hR3 hX3 hb5 hL5 hbw3 hP5 hR5 hX5 hbw5 hg5 hP6
      go_wp2
      go_loopw [6, 7] (fun ov i wr => ∃ j : Nat, i = .int .i64 j ∧ j ≤ l.length ∧ Hid (SpI w wr ⟨s, ps, m, ts⟩ l j ov)) (fun _ i _ => l.length - (intOf i).toNat)
      case atStart => exact ⟨0, rfl, Nat.zero_le _, hI0⟩
      case round =>
        clear hI0 d0 d1 d2 d3 y0 y1 y2 y3
        obtain ⟨j, rfl, hj, hI⟩ := hrel
        obtain ⟨pvj, tvj, X, hP, hR, hX, hXa, hL, hbw, hsz⟩ := hI.out
        have hpbj := parsed_pb ⟨s, ps, m, ts⟩ (l.take j) hpb
        have hptj := parsed_t3 ⟨s, ps, m, ts⟩ (l.take j) hpt
        have htk := fun h => parsedM_take ⟨s, ps, m, ts⟩ l j h
        have htold := (parsed_told ⟨s, ps, m, ts⟩ (l.take j) hpb).1
        obtain ⟨M, hM⟩ : ∃ M, Hid (parsedM ⟨s, ps, m, ts⟩ (l.take j) = M) := ⟨_, rfl⟩
        rw [hM.out] at hP hXa hL hpbj hptj htold
        have htk2 : ∀ (h : j < l.length), Hid (parsedM ⟨s, ps, m, ts⟩ (l.take (j + 1)) = ((stepM M.1 (l.getD j 0)).1, M.2 ++ (stepM M.1 (l.getD j 0)).2)) := fun h => by rw [← hM.out]; exact htk h
        replace hXa := (show Hid _ from hXa)
        have hXn : X.length ≤ 2000 := by
          have h1 := congrArg List.length hXa.out
          rw [List.length_map] at h1
          rw [List.length_take] at htold
          omega
        clear htk htold hI
        obtain ⟨⟨s1, ps1, m1, ts1⟩, A1⟩ := M
        simp only at hP hL hpbj hptj htk2
        obtain ⟨pa1, pn1, pc1, hu1⟩ := hL.head.shape
        obtain ⟨ta1, tn1, tc1, hu2⟩ := hL.tail.head.shape
        obtain ⟨oa, oc, hu3⟩ := hX.shape
        simp only at hu1 hu2
        subst hu1; subst hu2; subst hu3
        obtain ⟨c0, c1, c2, c3⟩ := hP.cells
        by_cases hlt : j < l.length
        · have hji : (j : Int) < (l.length : Int) := by omega
          have hj0 : (0 : Int) ≤ (j : Int) := by omega
          obtain ⟨a', c', hva, hcap, hna, hrw⟩ := hv
          cases hva
          rcases hrw with hnil | ⟨b, off, hab, hblt, hcell⟩
          · rw [hnil] at hlt; exact absurd hlt (Nat.not_lt_zero _)
          subst hab
          have hru1 := runesB_at hru j hlt
          have htk3 := htk2 hlt
          have hcj := hcell j hlt
          clear htk2 hcell
          obtain ⟨r, hr⟩ : ∃ r, Hid (l.getD j 0 = r) := ⟨_, rfl⟩
          rw [hr.out] at hru1 htk3 hcj
          obtain ⟨T3, hT3⟩ : ∃ T3, Hid (stepM ⟨s1, ps1, m1, ts1⟩ r = T3) := ⟨_, rfl⟩
          have htd := (step_told ⟨s1, ps1, m1, ts1⟩ r hpbj).1
          rw [hT3.out] at htd htk3
          have hst : ∀ W, LiOk W w.heap.size ((.slice pa1 pn1 pc1, ps1) :: (.slice ta1 tn1 tc1, ts1) :: axLs X) → w.heap.size ≤ W.heap.size → Calls Tryd.prog 40 #[paV ⟨s1, ps1, m1, ts1⟩ (.slice pa1 pn1 pc1) (.slice ta1 tn1 tc1), .int .i64 r] W fun e w' => StepS W w' w.heap.size (.slice pa1 pn1 pc1) (.slice ta1 tn1 tc1) (axLs X) e T3 := fun W h1 h2 => hT3.out ▸ l6Step_any s1 ps1 m1 ts1 (.slice pa1 pn1 pc1) (.slice ta1 tn1 tc1) r w.heap.size (axLs X) W h1 h2 hpbj.2.1 hpbj.1 hptj hpbj.2.2 hru1
          obtain ⟨⟨s3, ps3, m3, ts3⟩, A3⟩ := T3
          unfold StepS paV at hst
          simp only at hst htd htk3
          have hall : ∀ W, GrV (.slice pa1 pn1 pc1) (.slice ta1 tn1 tc1) wr W → (W.cell? ⟨w.heap.size, 0, none⟩ = some (.int .i64 s1) ∧ W.cell? ⟨w.heap.size, 1, none⟩ = some (.slice pa1 pn1 pc1) ∧ W.cell? ⟨w.heap.size, 2, none⟩ = some (.int .i64 m1) ∧ W.cell? ⟨w.heap.size, 3, none⟩ = some (.slice ta1 tn1 tc1) ∧ W.cell? ⟨b, off + j, none⟩ = some (.int .i64 r) ∧ GrV (.slice pa1 pn1 pc1) (.slice ta1 tn1 tc1) wr W) := fun W h => by
            have hq := (hP.grv h (hL.head.not_block hP (by decide)) (hL.tail.head.not_block hP (by decide))).cells
            have hbW : Below w.heap.size w W := hbw.trans (h.to_below hbw.size (fun g e => (hL.head.lt g e).1) (fun g e => (hL.tail.head.lt g e).1))
            exact ⟨hq.1, hq.2.1, hq.2.2.1, hq.2.2.2, (hbW.cell (p := ⟨b, off + j, none⟩) hblt).trans hcj, h⟩
          have halo : ∀ W o, (W.cell? ⟨w.heap.size, 0, none⟩ = some (.int .i64 s1) ∧ W.cell? ⟨w.heap.size, 1, none⟩ = some (.slice pa1 pn1 pc1) ∧ W.cell? ⟨w.heap.size, 2, none⟩ = some (.int .i64 m1) ∧ W.cell? ⟨w.heap.size, 3, none⟩ = some (.slice ta1 tn1 tc1) ∧ W.cell? ⟨b, off + j, none⟩ = some (.int .i64 r) ∧ GrV (.slice pa1 pn1 pc1) (.slice ta1 tn1 tc1) wr W) → ((W.alloc o).cell? ⟨w.heap.size, 0, none⟩ = some (.int .i64 s1) ∧ (W.alloc o).cell? ⟨w.heap.size, 1, none⟩ = some (.slice pa1 pn1 pc1) ∧ (W.alloc o).cell? ⟨w.heap.size, 2, none⟩ = some (.int .i64 m1) ∧ (W.alloc o).cell? ⟨w.heap.size, 3, none⟩ = some (.slice ta1 tn1 tc1) ∧ (W.alloc o).cell? ⟨b, off + j, none⟩ = some (.int .i64 r) ∧ GrV (.slice pa1 pn1 pc1) (.slice ta1 tn1 tc1) wr (W.alloc o)) := fun W o h => hall _ (h.2.2.2.2.2.below (bal' W o))
          have hbA : Below wr.heap.size wr (wr.alloc (Obj.cells #[.int .i64 0, .slice none 0 0, .int .i64 0, .slice none 0 0] 26)).drew := (bal' wr _).trans ((bdr _).mono (bal' wr _).size)
          have hkA := hall _ (GrV.of_below hbA)
          have hkd := hall _ (GrV.of_below (bdr wr))
          go_wp2
          rename_i K hK
          have hcut : Hid (∀ (x23 x24 x25 x26 x27 x28 x29 x30 x31 x32 x33 x34 x35 x36 x37 x38 x39 x40 x41 : Value) (B8 : Nat) (ov : Value) (W : World) (pv3 tv3 : Value) (aa : Option Addr) (ac : Nat) (XA : List Ax), ov = .slice oa X.length oc → (∃ a n c, pv3 = .slice a n c) → (∃ a n c, tv3 = .slice a n c) → XA.map (·.a) = A3 → SpM w W B8 s1 m1 s3 m3 (.slice pa1 pn1 pc1) (.slice ta1 tn1 tc1) ov pv3 tv3 (.slice aa XA.length ac) ps3 ts3 X XA → K { tmps := #[.agg #[.int .i64 s, .slice pa ps.length pc, .int .i64 m, .slice ta ts.length tc], .slice (some ⟨b, off, none⟩) l.length lc, .pointer (some ⟨w.heap.size, 0, none⟩), undef, .pointer (some ⟨w.heap.size + 1, 0, none⟩), .slice none 0 0, ov, .int .i64 (j : Int), .pointer (some ⟨B8, 0, none⟩), .slice aa XA.length ac, .slice (some ⟨w.heap.size + 2, 0, none⟩) 0 0, .agg #[.int .i64 s, .slice pa ps.length pc, .int .i64 m, .slice ta ts.length tc], .bool true, .bool false, .bool false, .slice (some ⟨b, off, none⟩) l.length lc, .bool true, .bool false, .bool false, undef, undef, .agg #[.int .i64 s, .slice pa ps.length pc, .int .i64 m, .slice ta ts.length tc], .agg #[.int .i64 s, .slice pa5 pn5 pc5, .int .i64 m, .slice ta5 tn5 tc5], x23, x24, x25, x26, x27, x28, x29, x30, x31, x32, x33, x34, x35, x36, x37, x38, x39, x40, x41, undef, undef], defers := [] } W) := by
            show ∀ _, _
            intro x23 x24 x25 x26 x27 x28 x29 x30 x31 x32 x33 x34 x35 x36 x37 x38 x39 x40 x41 B8 ov W pv3 tv3 aa ac XA hov hpv3 htv3 hXA hM5
            replace hXA := (show Hid _ from hXA)
            obtain ⟨p3a, p3n, p3c, rfl⟩ := hpv3
            obtain ⟨t3a, t3n, t3c, rfl⟩ := htv3
            subst hov
            have hXAn : XA.length ≤ 1 := by
              have h1 := congrArg List.length hXA.out
              rw [List.length_map] at h1
              omega
            clear hall halo hbA hkA hkd hst
            obtain ⟨hP5, hR5, hB5, hX5, hO5, hL5, hbw5, hs5⟩ := hM5
            apply hK
            clear hK hP hR hX hL hbw hsz c0 c1 c2 c3 hcj
            have hg6 := putP_grown W w.heap.size s3 (.slice p3a p3n p3c) m3 (.slice t3a t3n t3c)
            have hP6 := hP5.put s3 m3 (.slice p3a p3n p3c) (.slice t3a t3n t3c)
            have hR6 := hR5.kept hg6 (by simp)
            have hX6 := hX5.kept hg6 (.inr (hX5.not_block hP5 (by decide)))
            have hO6 := hO5.kept hg6 (.inr (hO5.not_block hP5 (by decide)))
            have hL6 := hL5.kept hg6 (fun p hp => .inr ((hL5.1 p hp).not_block hP5 (by decide)))
            have hbw6 := hbw5.grown hg6 hbw5.size (fun k e => by cases e; exact Nat.le_refl _)
            have hs6 := Nat.le_trans hs5 hg6.size
            have hone : ∀ q ∈ XA.flatMap axC, q.oneCell' = true := flatX_one (fun x hx => by
              have := LiOk.ax (hL5.tail.tail) hx
              exact ⟨this.1.shape, this.2.shape⟩)
            obtain ⟨d0, d1, d2, d3⟩ := hB5.cells
            obtain ⟨e0, e1, e2, e3⟩ := hP5.cells
            obtain ⟨y0, y1, y2, y3⟩ := hP5.frozen
            simp only [putP] at hP6 hR6 hX6 hO6 hL6 hbw6 hs6
            clear hg6 hP5 hR5 hX5 hO5 hL5 hbw5 hs5
            go_wp2_with (refine append_x (by rfl) _ _ (by rfl) w.heap.size w.heap.size _ _ X XA (by rfl) hX6 (by rfl) hO6 hone (by omega) hbw6.size ?_)
            intro v' w' ho' hg'
            have hP7 := hP6.kept hg' (hX6.not_block hP6 (by decide))
            have hR7 := hR6.kept hg' (hX6.not_block hR6 (by decide))
            have hL7 := hL6.kept hg' (fun p hp => (hX6.ap (hL6.1 p hp)).ne)
            have hb7 := hbw6.grown hg' hbw6.size (fun k e => (hX6.lt k e).1)
            have hs7 := Nat.le_trans hs6 hg'.size
            have hI7 : Hid (SpI w w' ⟨s, ps, m, ts⟩ l (j + 1) v') := by
              show SpI _ _ _ _ _ _
              unfold SpI
              rw [htk3.out]
              exact ⟨_, _, X ++ XA, hP7, hR7, ho', by rw [List.map_append, hXa.out, hXA.out], hL7.perm (by rw [show axLs (X ++ XA) = axLs X ++ axLs XA by simp [axLs]]; exact ((List.perm_append_comm).cons _).cons _), hb7, hs7⟩
            clear hP6 hR6 hX6 hO6 hL6 hbw6 hs6 hP7 hR7 hL7 hb7 hs7 ho' hg' hone d0 d1 d2 d3 e0 e1 e2 e3 y0 y1 y2 y3
            go_wp2
            go_roundw
            case rel => exact ⟨j + 1, rfl, by omega, hI7⟩
            case measure => simp [intOf]; omega
          go_region_held3 (fun W => W.cell? ⟨w.heap.size, 0, none⟩ = some (.int .i64 s1) ∧ W.cell? ⟨w.heap.size, 1, none⟩ = some (.slice pa1 pn1 pc1) ∧ W.cell? ⟨w.heap.size, 2, none⟩ = some (.int .i64 m1) ∧ W.cell? ⟨w.heap.size, 3, none⟩ = some (.slice ta1 tn1 tc1) ∧ W.cell? ⟨b, off + j, none⟩ = some (.int .i64 r) ∧ GrV (.slice pa1 pn1 pc1) (.slice ta1 tn1 tc1) wr W) (first | with_reducible assumption | with_reducible exact halo _ _ (by with_reducible assumption))
            (first
              | (go_at_call 40; refine (hst _ (by first | exact hL.below (bdr wr) | exact hL.below hbA) (by first | exact hbw.size | exact Nat.le_trans hbw.size hbA.size)).mono ?_; rintro e w3 ⟨pv3, tv3, av3, XA, rfl, hXA, hO3, hL3, hG3⟩
                 have hG3' : GrV (.slice pa1 pn1 pc1) (.slice ta1 tn1 tc1) wr w3 := (by first | exact (GrV.of_below (bdr wr)).trans hG3 | exact (GrV.of_below hbA).trans hG3)
                 have hk3 := hall _ hG3'
                 have hpv3 := hL3.head.shape
                 have htv3 := hL3.tail.head.shape
                 obtain ⟨aa, ac, hav⟩ := hO3.shape
                 simp only at hpv3 htv3
                 obtain ⟨p3a, p3n, p3c, hq1⟩ := hpv3
                 obtain ⟨t3a, t3n, t3c, hq2⟩ := htv3
                 subst hq1
                 subst hq2
                 subst hav
                 replace hXA := (show Hid _ from hXA)
                 have hP3 := hP.grv hG3' (hL.head.not_block hP (by decide)) (hL.tail.head.not_block hP (by decide))
                 have hR3 := hR.grv hG3' (hL.head.not_block hR (by decide)) (hL.tail.head.not_block hR (by decide))
                 have hX3 := hX.grvOwn hG3' hL.head hL.tail.head
                 have hbw3 : Below w.heap.size w w3 := hbw.trans (hG3'.to_below hbw.size (fun g e => (hL.head.lt g e).1) (fun g e => (hL.tail.head.lt g e).1))
                 have hs3 := Nat.le_trans hsz hG3'.2.2.2.1
                 (first
                   | (have hB3 : PbB w3 wr.heap.size 0 (.slice none 0 0) 0 (.slice none 0 0) := ((PbB.new wr 0 0 (.slice none 0 0) (.slice none 0 0)).below (bdr _)).grv hG3 (fun e => absurd (hL.head.lt _ e).2 (Nat.lt_irrefl _)) (fun e => absurd (hL.tail.head.lt _ e).2 (Nat.lt_irrefl _)); have hM5 := SpM.kept (s3 := s3) (m3 := m3) hP3 hR3 hX3 hO3 hL3 hbw3 hs3 hB3 (by omega); have hk5 := hall _ (hG3'.grown (putP_grown w3 wr.heap.size s3 (.slice p3a p3n p3c) m3 (.slice t3a t3n t3c)) (fun g e => by cases e; exact .inr (.inr (Nat.le_refl _)))); obtain ⟨d0, d1, d2, d3⟩ := hB3.cells; obtain ⟨y0, y1, y2, y3⟩ := hB3.frozen; simp only [putP] at hk5 hM5)
                   | (have hM5 := SpM.new (s3 := s3) (m3 := m3) hP3 hR3 hX3 hO3 hL3 hbw3 hs3; have hk5 := hall _ (hG3'.below (bal' w3 (Obj.cells #[.int .i64 s3, .slice p3a p3n p3c, .int .i64 m3, .slice t3a t3n t3c] 26)))))))
          all_goals exact hcut.out _ _ _ _ _ _ _ _ _ _ _ _ _ _ _ _ _ _ _ _ _ _ _ _ _ _ _ rfl ⟨_, _, _, rfl⟩ ⟨_, _, _, rfl⟩ hXA.out hM5
        · have hjn : j = l.length := by omega
          have hji : ¬ (j : Int) < (l.length : Int) := by omega
          subst hjn
          rw [List.take_length] at hM
          have hg6 := putP_grown wr (w.heap.size + 1) s1 (.slice pa1 pn1 pc1) m1 (.slice ta1 tn1 tc1)
          have hF := (hR.put s1 m1 (.slice pa1 pn1 pc1) (.slice ta1 tn1 tc1)).cells
          have hX6 := hX.kept hg6 (.inr (hX.not_block hR (by decide)))
          have hL6 := hL.kept hg6 (fun p hp => .inr ((hL.1 p hp).not_block hR (by decide)))
          have hbw6 := hbw.grown hg6 hbw.size (fun k e => by cases e; omega)
          have hfin : Hid (Ans w (putP wr (w.heap.size + 1) s1 (.slice pa1 pn1 pc1) m1 (.slice ta1 tn1 tc1)) (.returned (.tuple #[.agg #[.int .i64 s1, .slice pa1 pn1 pc1, .int .i64 m1, .slice ta1 tn1 tc1], .slice oa X.length oc])) (⟨s1, ps1, m1, ts1⟩, A1)) :=
            (show Ans _ _ _ _ from ⟨_, _, _, rfl, ⟨X, hXa.out, hX6, hL6⟩, hbw6⟩)
          obtain ⟨d0, d1, d2, d3⟩ := hR.cells
          obtain ⟨y0, y1, y2, y3⟩ := hR.frozen
          obtain ⟨f0, f1, f2, f3⟩ := hF
          simp only [putP] at f0 f1 f2 f3 hfin
          clear hg6 hX6 hL6 hbw6 hP hR hX hL hbw hsz htk2
          go_wp2
          exact bodyPost_ret (v := .tuple #[.agg #[.int .i64 s1, .slice pa1 pn1 pc1, .int .i64 m1, .slice ta1 tn1 tc1], .slice oa X.length oc]) (by simp [results, Tryd.results16, go_sem, f0, f1, f2, f3]) rfl (by rw [hvv.out, hM.out]; exact hfin.out)
end Go.Proofs.YtkcekacnebhcgaaDoor
namespace Go.Proofs.YtkcekacnebhcgaaDoor
open Go.ChangeShapes Go.WideShapes Go.ChangeAt Go.RowKit
theorem below_both {B : Nat} {w w' : World} (h : Below B w w') (a : Addr) (u : Value) : Below B (w.setCell a u) (w'.setCell a u) :=
  ⟨h.os, h.tape, h.output, by simpa using h.size, fun k hk => by
    have := h.block k hk
    simp only [World.setCell, Array.getElem?_modify, this]⟩
/-- What holds behind the two copies. -/
def Cnd (w : World) (s : Int) (ps : List Int) (m : Int) (ts : List Int) (W : World) (u t : Value) : Prop :=
  ∃ w0, Below w.heap.size w w0 ∧ w.heap.size + 2 ≤ w0.heap.size ∧ Below w0.heap.size w0 W ∧ LiOk W w0.heap.size [(u, ps), (t, ts)] ∧ PaC w0 w.heap.size s u m t ∧ PaC w0 (w.heap.size + 1) 0 (.slice none 0 0) 0 (.slice none 0 0)
theorem cnd_of {w w4 wb : World} {s m : Int} {pv tv u t : Value} {ps ts : List Int} (h4 : w.heap.size + 2 ≤ w4.heap.size) (hbw : Below w.heap.size w w4) (hP : PaC w4 w.heap.size s pv m tv) (hR : PaC w4 (w.heap.size + 1) 0 (.slice none 0 0) 0 (.slice none 0 0))
    (hL : LiOk wb w4.heap.size [(u, ps), (t, ts)]) (hb : Below w4.heap.size w4 wb) : Cnd w s ps m ts ((wb.setCell ⟨w.heap.size, 1, none⟩ u).setCell ⟨w.heap.size, 3, none⟩ t) u t := by
  have g1 := setCell_gr w4 w.heap.size 1 u
  have g2 := setCell_gr (w4.setCell ⟨w.heap.size, 1, none⟩ u) w.heap.size 3 t
  have e0 : ((w4.setCell ⟨w.heap.size, 1, none⟩ u).setCell ⟨w.heap.size, 3, none⟩ t).heap.size = w4.heap.size := by simp
  have hg := grown_tr (setCell_gr wb w.heap.size 1 u) (setCell_gr (wb.setCell ⟨w.heap.size, 1, none⟩ u) w.heap.size 3 t)
  refine ⟨(w4.setCell ⟨w.heap.size, 1, none⟩ u).setCell ⟨w.heap.size, 3, none⟩ t, (hbw.grown g1 (by omega) (fun k e => by cases e; exact Nat.le_refl _)).grown g2 (by simp; omega) (fun k e => by cases e; exact Nat.le_refl _), by rw [e0]; exact h4, ?_, ?_, ?_, hR.grown (grown_tr g1 g2) (by simp)⟩
  · rw [e0]; exact below_both (below_both hb _ u) _ t
  · rw [e0]
    refine hL.kept hg fun p hp => .inr fun e => ?_
    have := ((hL.1 p hp).lt _ e).1; omega
  · obtain ⟨hlt, ⟨c0, c1, c2, c3⟩, ⟨z0, z1, z2, z3⟩⟩ := hP
    refine ⟨by simpa using hlt, ⟨?_, ?_, ?_, ?_⟩, ⟨?_, ?_, ?_, ?_⟩⟩
    all_goals simp [go_sem, c0, c1, c2, c3, z0, z1, z2, z3]
theorem copies_ab {w4 wa wb : World} {u t : Value} {ps ts : List Int} (hou : OwnI wa w4.heap.size u ps) (hba : Below w4.heap.size w4 wa) (hot : OwnI wb wa.heap.size t ts) (hbb : Below wa.heap.size wa wb) : LiOk wb w4.heap.size [(u, ps), (t, ts)] := by
  have h1 : LiOk wa w4.heap.size [(u, ps)] := ⟨fun p hp => by rw [List.mem_singleton] at hp; subst hp; exact hou, List.pairwise_singleton _ _⟩
  exact (h1.new hbb (hot.low hba.size) (fun g e => (hot.lt g e).1)).perm (List.Perm.swap _ _ _)
set_option maxHeartbeats 8000000 in
set_option maxRecDepth 20000 in
theorem implParsed_yes (p : Pa) (pv tv lv : Value) (l : List Int) (w : World) (hp : SlN w pv p.params) (ht : SlN w tv p.text) (hv : SlN w lv l) (hpl : p.params.length ≤ 1073741824) (htl : p.text.length ≤ 1073741824) (hll : l.length ≤ 1073741824) (hS : SpansAt w)
    (hok : okV p = true) (h2 : l.length ≤ 2000) (hru : runesB l = true) :
    Calls Tryd.prog 10 #[paV p pv tv, lv] w fun e w' => Ans w w' e (parsedM p l) := by
  obtain ⟨s, ps, m, ts⟩ := p
  have hb0 := bal' w (Obj.cells #[.int .i64 s, pv, .int .i64 m, tv] 26)
  have hb1 := bal' (w.alloc (Obj.cells #[.int .i64 s, pv, .int .i64 m, tv] 26)) (Obj.cells #[.int .i64 0, .slice none 0 0, .int .i64 0, .slice none 0 0] 26)
  have hR := PaC.new (w.alloc (Obj.cells #[.int .i64 s, pv, .int .i64 m, tv] 26)) 0 0 (.slice none 0 0) (.slice none 0 0) 26
  have e0 : (w.alloc (Obj.cells #[.int .i64 s, pv, .int .i64 m, tv] 26)).heap.size = w.heap.size + 1 := by simp
  have hP := (PaC.new w s m pv tv 26).below hb1
  have hbb := hb0.trans (hb1.mono hb0.size)
  have hp2 := hp.below hbb
  have ht2 := ht.below hbb
  have hv2 := hv.below hbb
  have hS2 := hS.below hbb hS.lt
  rw [e0] at hR
  clear hb0 hb1 e0 hp ht
  have hs2 : ((w.alloc (Obj.cells #[.int .i64 s, pv, .int .i64 m, tv] 26)).alloc (Obj.cells #[.int .i64 0, .slice none 0 0, .int .i64 0, .slice none 0 0] 26)).heap.size = w.heap.size + 2 := by simp
  have h2i : ¬ (2000 : Int) < (l.length : Int) := by omega
  have hO := implParserOk_any ⟨s, ps, m, ts⟩ pv tv _ hp2.l.sl ht2.l.sl hpl htl
  rw [hok] at hO
  have hA := fun W h => allRunes_any lv l W h hll
  rw [hru] at hA
  have hcp := fun W h => copiedNumbers_any pv ps W h hpl
  have hct := fun W h => copiedNumbers_any tv ts W h htl
  unfold paV at *
  simp only at *
  obtain ⟨la, lc, hlv⟩ := hv2.shp
  subst hlv
  obtain ⟨pa, pc, hpv⟩ := hp2.shp
  obtain ⟨ta, tc, htv⟩ := ht2.shp
  subst hpv; subst htv
  obtain ⟨_, ⟨c0, c1, c2, c3⟩, _⟩ := id hP
  go_enter Tryd.func10, Tryd.ntmps10
  go_wp2_with fail
  refine hO.mono ?_
  rintro e w3 ⟨rfl, hb⟩
  have hP3 := hP.below hb
  have hR3 := hR.below hb
  have hp3 := hp2.below hb
  have ht3 := ht2.below hb
  have hv3 := hv2.below hb
  have hS3 := hS2.below hb hS2.lt
  have hb3 := hbb.trans (hb.mono hbb.size)
  have hs3 : w.heap.size + 2 ≤ w3.heap.size := by rw [← hs2]; exact hb.size
  have hA3 := hA w3 hv3.l.sl
  clear hO c0 c1 c2 c3 hb hP hR hp2 ht2 hv2 hS2 hbb hs2 hA
  obtain ⟨_, ⟨c0, c1, c2, c3⟩, ⟨z0, z1, z2, z3⟩⟩ := id hP3
  go_wp2_with fail
  refine hA3.mono ?_
  rintro e w4 ⟨rfl, hw⟩
  subst hw
  clear hA3
  go_wp2
  rename_i K hK
  have hcut : ∀ (x0 x3 x5 x6 x7 x8 x9 x10 x11 x12 x13 x14 x15 x16 x17 x18 x19 x20 x21 x22 x23 x24 x25 x26 x27 x28 x29 x30 x31 x32 x33 x34 x35 x36 x37 x38 : Value) (W : World) (u t : Value), Cnd w s ps m ts W u t → K { tmps := #[x0, .slice la l.length lc, .pointer (some ⟨w.heap.size, 0, none⟩), x3, .pointer (some ⟨w.heap.size + 1, 0, none⟩), x5, x6, x7, x8, x9, x10, x11, x12, x13, x14, x15, x16, x17, x18, x19, x20, x21, x22, x23, x24, x25, x26, x27, x28, x29, x30, x31, x32, x33, x34, x35, x36, x37, x38], defers := [] } W := by
    clear hcp hct c0 c1 c2 c3 z0 z1 z2 z3 hP3 hR3 hp3 ht3 hv3 hS3 hb3 hs3
    intro x0 x3 x5 x6 x7 x8 x9 x10 x11 x12 x13 x14 x15 x16 x17 x18 x19 x20 x21 x22 x23 x24 x25 x26 x27 x28 x29 x30 x31 x32 x33 x34 x35 x36 x37 x38 W u t hC
    obtain ⟨w0, hbw, hw0, hb, hL, hP, hR⟩ := hC
    have hPW := hP.below hb
    have hRW := hR.below hb
    obtain ⟨ua, un, uc, hu⟩ := hL.head.shape
    obtain ⟨sa, sn, sc, hsv⟩ := hL.tail.head.shape
    simp only at hu hsv
    subst hu; subst hsv
    obtain ⟨_, ⟨c0, c1, c2, c3⟩, _⟩ := id hPW
    refine hK _ _ ?_
    have hba := bal' W (Obj.cells #[] 63)
    have hbb := hba.trans ((bal' (W.alloc (Obj.cells #[] 63)) (Obj.cells #[.int .i64 s, .slice ua un uc, .int .i64 m, .slice sa sn sc, .slice la l.length lc, .slice (some ⟨W.heap.size, 0, none⟩) 0 0] 60)).mono hba.size)
    have hWk : WkB ((W.alloc (Obj.cells #[] 63)).alloc (Obj.cells #[.int .i64 s, .slice ua un uc, .int .i64 m, .slice sa sn sc, .slice la l.length lc, .slice (some ⟨W.heap.size, 0, none⟩) 0 0] 60)) (W.heap.size + 1) s (.slice ua un uc) m (.slice sa sn sc) (.slice la l.length lc) (.slice (some ⟨W.heap.size, 0, none⟩) 0 0) := by
      have := heap_alloc_new (W.alloc (Obj.cells #[] 63)) (Obj.cells #[.int .i64 s, .slice ua un uc, .int .i64 m, .slice sa sn sc, .slice la l.length lc, .slice (some ⟨W.heap.size, 0, none⟩) 0 0] 60)
      rwa [show (W.alloc (Obj.cells #[] 63)).heap.size = W.heap.size + 1 by simp] at this
    have hWp : Wp w0 ((W.alloc (Obj.cells #[] 63)).alloc (Obj.cells #[.int .i64 s, .slice ua un uc, .int .i64 m, .slice sa sn sc, .slice la l.length lc, .slice (some ⟨W.heap.size, 0, none⟩) 0 0] 60)) (W.heap.size + 1) s ps m ts [] l :=
      ⟨_, _, _, _, hWk, (ownX_lit W _ hb.size).below (bal' _ _), hL.below hbb, (hv.below hbw).l, hb.trans (hbb.mono hb.size), by have := hb.size; omega⟩
    have hrun := run_any w0 _ (W.heap.size + 1) ⟨s, ps, m, ts⟩ [] l hWp hok (fun x hx => List.all_eq_true.1 hru x hx) (by simp; omega) (fun W' hb' => hS.below (hbw.trans (hb'.mono hbw.size)) hS.lt)
    have hT : Fin ⟨s, ps, m, ts⟩ l (acs []) = parsedM ⟨s, ps, m, ts⟩ l := by simp [Fin, acs]
    rw [hT] at hrun
    clear hba hbb hWk hWp hb hL hP hPW hRW hT hK
    go_wp2_with fail
    refine hrun.mono ?_
    rintro e W3 ⟨rfl, X, k, hX⟩
    obtain ⟨T, hTT⟩ : ∃ T, Hid (parsedM ⟨s, ps, m, ts⟩ l = T) := ⟨_, rfl⟩
    rw [hTT.out] at k hX
    obtain ⟨⟨s2, ps2, m2, ts2⟩, A⟩ := T
    simp only at k hX
    obtain ⟨pv2, tv2, lv2, av2, h⟩ := k
    have hAn : AnsOk W3 w0.heap.size pv2 tv2 ⟨s2, ps2, m2, ts2⟩ av2 A := ⟨X, hX, h.2.1, h.2.2.1⟩
    have hg := putP_grown W3 (w.heap.size + 1) s2 pv2 m2 tv2
    have hR3 := hR.below h.2.2.2.2.1
    have hF := hR3.put s2 m2 pv2 tv2
    have hBl : Below w.heap.size w W3 := hbw.trans (h.2.2.2.2.1.mono hbw.size)
    have hfin : Hid (Ans w (putP W3 (w.heap.size + 1) s2 pv2 m2 tv2).drew (.returned (.tuple #[.agg #[.int .i64 s2, pv2, .int .i64 m2, tv2], av2])) (⟨s2, ps2, m2, ts2⟩, A)) :=
      (show Ans _ _ _ _ from ⟨pv2, tv2, av2, rfl, ((hAn.grown hg (by omega)).low (by omega)).below (bdr _), (hBl.grown hg (by have := hBl.size; omega) (fun k e => by cases e; omega)).drew⟩)
    obtain ⟨c0, c1, c2, c3, _, c5⟩ := h.1.cells
    obtain ⟨pa2, pn2, pc2, hpv2⟩ := h.2.2.1.head.shape
    obtain ⟨ta2, tn2, tc2, htv2⟩ := h.2.2.1.tail.head.shape
    obtain ⟨aa2, ac2, hav2⟩ := h.2.1.shape
    simp only at hpv2 htv2
    subst hpv2; subst htv2; subst hav2
    obtain ⟨_, ⟨d0, d1, d2, d3⟩, ⟨y0, y1, y2, y3⟩⟩ := id hR3
    obtain ⟨f0, f1, f2, f3⟩ := hF.2.1
    simp only [putP] at f0 f1 f2 f3 hfin
    clear h hAn hg hR3 hF hBl hR hbw hw0 hv hS hrun hX
    go_wp2
    go_region
    all_goals
      go_wp2
      exact bodyPost_ret (v := .tuple #[.agg #[.int .i64 s2, .slice pa2 pn2 pc2, .int .i64 m2, .slice ta2 tn2 tc2], .slice aa2 X.length ac2]) (by simp [results, Tryd.results10, go_sem, f0, f1, f2, f3]) rfl (by rw [hTT.out]; exact hfin.out)
  clear hK hv hS
  have hP4 := hP3.below (bdr w4)
  have hR4 := hR3.below (bdr w4)
  have hp4 := hp3.below (bdr w4)
  have ht4 := ht3.below (bdr w4)
  obtain ⟨_, ⟨d0, d1, d2, d3⟩, ⟨y0, y1, y2, y3⟩⟩ := id hP4
  go_region_with (first
    | (go_at_call 38; refine (hcp _ hp4).mono ?_; rintro e wa ⟨u, rfl, hou, hba⟩; obtain ⟨ua, un, uc, hu⟩ := hou.shape; subst hu; have hPa := hP4.below hba; have ht5 := ht4.below hba; have hFa := (show Hid _ from And.intro hou hba); obtain ⟨_, ⟨d0, d1, d2, d3⟩, ⟨y0, y1, y2, y3⟩⟩ := id hPa)
    | (go_at_call 38; refine (hct _ ht5).mono ?_; rintro e wb ⟨t, rfl, hot, hbb⟩; obtain ⟨sa, sn, sc, hu⟩ := hot.shape; subst hu; have hPb := hPa.below hbb; have hFb := (show Hid _ from And.intro hot hbb); obtain ⟨_, ⟨d0, d1, d2, d3⟩, ⟨y0, y1, y2, y3⟩⟩ := id hPb)
    | (go_at_call 38; refine (hct _ ht4).mono ?_; rintro e wa ⟨t, rfl, hot, hba⟩; obtain ⟨sa, sn, sc, hu⟩ := hot.shape; subst hu; have hPa := hP4.below hba; have hp5 := hp4.below hba; have hFa := (show Hid _ from And.intro hot hba); obtain ⟨_, ⟨d0, d1, d2, d3⟩, ⟨y0, y1, y2, y3⟩⟩ := id hPa)
    | (go_at_call 38; refine (hcp _ hp5).mono ?_; rintro e wb ⟨u, rfl, hou, hbb⟩; obtain ⟨ua, un, uc, hu⟩ := hou.shape; subst hu; have hPb := hPa.below hbb; have hFb := (show Hid _ from And.intro hou hbb); obtain ⟨_, ⟨d0, d1, d2, d3⟩, ⟨y0, y1, y2, y3⟩⟩ := id hPb))
  all_goals
    show K _ _
    first
      | exact hcut _ _ _ _ _ _ _ _ _ _ _ _ _ _ _ _ _ _ _ _ _ _ _ _ _ _ _ _ _ _ _ _ _ _ _ _ _ _ _ (cnd_of (w4 := w4.drew) hs3 hb3.drew hP4 hR4 (copies_ab hFa.out.1 hFa.out.2 hFb.out.1 hFb.out.2) (hFa.out.2.trans (hFb.out.2.mono hFa.out.2.size)))
      | exact hcut _ _ _ _ _ _ _ _ _ _ _ _ _ _ _ _ _ _ _ _ _ _ _ _ _ _ _ _ _ _ _ _ _ _ _ _ _ _ _ (cnd_of (w4 := w4.drew) hs3 hb3.drew hP4 hR4 ((copies_ab hFa.out.1 hFa.out.2 hFb.out.1 hFb.out.2).perm (List.Perm.swap _ _ _)) (hFa.out.2.trans (hFb.out.2.mono hFa.out.2.size)))
end Go.Proofs.YtkcekacnebhcgaaDoor
namespace Go.Proofs.YtkcekacnebhcgaaDoor
open Go.ChangeShapes Go.WideShapes Go.ChangeAt Go.RowKit
theorem implParsed_any (p : Pa) (pv tv lv : Value) (l : List Int) (w : World) (hp : SlN w pv p.params) (ht : SlN w tv p.text) (hv : SlN w lv l) (hpl : p.params.length ≤ 1073741824) (htl : p.text.length ≤ 1073741824) (hll : l.length ≤ 1073741824) (hS : SpansAt w) :
    Calls Tryd.prog 10 #[paV p pv tv, lv] w fun e w' => Ans w w' e (parsedA p l) := by
  cases h : (okV p && decide (l.length ≤ 2000) && runesB l)
  · rw [parsedA_no h]
    exact implParsed_no p pv tv lv l w hp ht hv hpl htl hll h
  · rw [parsedA_yes h]
    simp only [Bool.and_eq_true, decide_eq_true_eq] at h
    exact implParsed_yes p pv tv lv l w hp ht hv hpl htl hll hS h.1.1 h.1.2 h.2
end Go.Proofs.YtkcekacnebhcgaaDoor
