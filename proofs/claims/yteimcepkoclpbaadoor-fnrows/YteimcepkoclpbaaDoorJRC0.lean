/- Rows of cells in memory. Contracts of the specification's blank rows. Contract of the specification's Blank. -/
import Derived.Test.YteimcepkoclpbaaDoorJRM
import Derived.Test.YteimcepkoclpbaaDoorJSlDefs
import Derived.Laws.OwnMore
import Derived.Laws.AppendOwn
import Derived.OwnWalk
import Derived.Laws.AppendOwnNone
import Derived.Deep.MidRow
import Derived.Test.YteimcepkoclpbaaDoorBase0S
namespace Go.Proofs.YteimcepkoclpbaaDoor
open Go.ChangeShapes Go.WideShapes Go.ChangeAt Go.RowKit

def ceL (c : Ce) : List Value := [.int .i64 c.rune, .int .i64 c.st.fore, .int .i64 c.st.back, .bool c.st.bold, .bool c.st.under, .bool c.st.turned, .int .i64 c.part]
def ceV (c : Ce) : Value := .agg #[.int .i64 c.rune, .int .i64 c.st.fore, .int .i64 c.st.back, .bool c.st.bold, .bool c.st.under, .bool c.st.turned, .int .i64 c.part]
def CeAt (w : World) (b o : Nat) (c : Ce) : Prop :=
  w.cell? ⟨b, o, none⟩ = some (.int .i64 c.rune) ∧ w.cell? ⟨b, o + 1, none⟩ = some (.int .i64 c.st.fore) ∧ w.cell? ⟨b, o + 2, none⟩ = some (.int .i64 c.st.back) ∧ w.cell? ⟨b, o + 3, none⟩ = some (.bool c.st.bold) ∧ w.cell? ⟨b, o + 4, none⟩ = some (.bool c.st.under) ∧ w.cell? ⟨b, o + 5, none⟩ = some (.bool c.st.turned) ∧ w.cell? ⟨b, o + 6, none⟩ = some (.int .i64 c.part)
theorem CeAt.below {w w' : World} {b o : Nat} {c : Ce} (h : CeAt w b o c) (hb : Below w.heap.size w w') (hlt : b < w.heap.size) : CeAt w' b o c := by
  have e : ∀ k, w'.cell? ⟨b, k, none⟩ = w.cell? ⟨b, k, none⟩ := fun k => hb.cell (p := ⟨b, k, none⟩) hlt
  unfold CeAt
  rw [e, e, e, e, e, e, e]
  exact h
theorem CeAt.grown {w w' : World} {b o : Nat} {c : Ce} {row : Option Nat} (h : CeAt w b o c) (hg : w.grownBy w' row) (hlt : b < w.heap.size) (hr : row ≠ some b) : CeAt w' b o c := by
  have hb := hg.block b hlt (Ne.symm hr)
  have e : ∀ k, w'.cell? ⟨b, k, none⟩ = w.cell? ⟨b, k, none⟩ := fun k => World.cell?_of_block (w := w) hb
  unfold CeAt
  rw [e, e, e, e, e, e, e]
  exact h
/-- A slice of cells that can be read. -/
def SlC (w : World) (v : Value) (xs : List Ce) : Prop :=
  ∃ a c, v = .slice a xs.length c ∧ xs.length ≤ c ∧ (a = none → c = 0) ∧ (xs = [] ∨ ∃ b off, a = some ⟨b, off, none⟩ ∧ b < w.heap.size ∧ ∀ i, i < xs.length → CeAt w b (off + i * 7) (atC xs i))
theorem SlC.below {w w' : World} {v : Value} {xs : List Ce} (h : SlC w v xs) (hb : Below w.heap.size w w') : SlC w' v xs := by
  obtain ⟨a, c, hv, hc, hn, h | ⟨b, off, ha, hlt, hi⟩⟩ := h
  · exact ⟨a, c, hv, hc, hn, .inl h⟩
  · exact ⟨a, c, hv, hc, hn, .inr ⟨b, off, ha, Nat.lt_of_lt_of_le hlt hb.size, fun i h => (hi i h).below hb hlt⟩⟩
/-- A slice of cells that this call owns. -/
def OwnC (w : World) (base : Nat) (v : Value) (xs : List Ce) : Prop := w.ownsRow base 37 7 v xs.length (xs.flatMap ceL)
theorem flat_len (xs : List Ce) : (xs.flatMap ceL).length = xs.length * 7 := by
  induction xs with
  | nil => rfl
  | cons c xs ih => rw [List.flatMap_cons, List.length_append, ih, List.length_cons]; simp [ceL]; omega
theorem flat_get (xs : List Ce) : ∀ (i k : Nat), i < xs.length → k < 7 → (xs.flatMap ceL)[i * 7 + k]? = (ceL (atC xs i))[k]? := by
  induction xs with
  | nil => intro i k h; simp at h
  | cons c xs ih =>
    intro i k h hk
    rw [List.flatMap_cons]
    cases i with
    | zero =>
      rw [List.getElem?_append_left (by simp [ceL]; omega)]
      simp [atC]
    | succ i =>
      have hl : (ceL c).length = 7 := rfl
      rw [List.getElem?_append_right (by rw [hl]; omega), hl]
      have e : (i + 1) * 7 + k - 7 = i * 7 + k := by omega
      rw [e, ih i k (by simpa using h) hk]
      simp [atC]
theorem OwnC.at {w : World} {base g n cap : Nat} {xs : List Ce} (h : OwnC w base (.slice (some ⟨g, 0, none⟩) n cap) xs) (hn : xs.length = n) (i : Nat) (hi : i < n) : CeAt w g (i * 7) (atC xs i) := by
  subst hn
  have hc : ∀ k, k < 7 → w.cell? ⟨g, i * 7 + k, none⟩ = (ceL (atC xs i))[k]? := fun k hk => by
    rw [h.cellAt (i * 7 + k) (by omega), flat_get xs i k hi hk]
  exact ⟨hc 0 (by omega), hc 1 (by omega), hc 2 (by omega), hc 3 (by omega), hc 4 (by omega), hc 5 (by omega), hc 6 (by omega)⟩
theorem OwnC.shape {w : World} {base : Nat} {v : Value} {xs : List Ce} (h : OwnC w base v xs) : (v = .slice none 0 0 ∧ xs = []) ∨ ∃ g cap, v = .slice (some ⟨g, 0, none⟩) xs.length cap ∧ base ≤ g ∧ g < w.heap.size ∧ xs.length ≤ cap := by
  rcases h.2 with ⟨h1, h2⟩ | ⟨g, cap, cur, hv, hb, hg, hn, _⟩
  · exact .inl ⟨h1, List.eq_nil_of_length_eq_zero h2⟩
  · exact .inr ⟨g, cap, hv, hb, (Array.getElem?_eq_some_iff.1 hg).1, hn⟩
theorem SlC.of_own {w : World} {base : Nat} {v : Value} {xs : List Ce} (h : OwnC w base v xs) : SlC w v xs := by
  rcases h.shape with ⟨rfl, rfl⟩ | ⟨g, cap, rfl, hb, hg, hn⟩
  · exact ⟨none, 0, rfl, Nat.le_refl _, fun _ => rfl, .inl rfl⟩
  · exact ⟨_, cap, rfl, hn, (fun h => by cases h), .inr ⟨g, 0, rfl, hg, fun i hi => by rw [Nat.zero_add]; exact h.at rfl i hi⟩⟩
theorem OwnC.below {w w' : World} {base : Nat} {v : Value} {xs : List Ce} (h : OwnC w base v xs) (hb : Below w.heap.size w w') : OwnC w' base v xs := World.ownsRow.below (show w.ownsRow _ _ _ _ _ _ from h) hb
theorem OwnC.low {w : World} {base base' : Nat} {v : Value} {xs : List Ce} (h : OwnC w base v xs) (hb : base' ≤ base) : OwnC w base' v xs := by
  refine ⟨h.1, ?_⟩
  rcases h.2 with h2 | ⟨g, cap, cur, hv, hbg, r⟩
  · exact .inl h2
  · exact .inr ⟨g, cap, cur, hv, Nat.le_trans hb hbg, r⟩
theorem OwnC.lt {w : World} {base : Nat} {v : Value} {xs : List Ce} (h : OwnC w base v xs) : ∀ g, v.ownBlock = some g → base ≤ g ∧ g < w.heap.size := World.ownsRow.lt (show w.ownsRow _ _ _ _ _ _ from h)
/-- One cell is written whole. -/
def putCe (w : World) (g o : Nat) (c : Ce) : World :=
  ((((((w.setCell ⟨g, o, none⟩ (.int .i64 c.rune)).setCell ⟨g, o + 1, none⟩ (.int .i64 c.st.fore)).setCell ⟨g, o + 2, none⟩ (.int .i64 c.st.back)).setCell ⟨g, o + 3, none⟩ (.bool c.st.bold)).setCell ⟨g, o + 4, none⟩ (.bool c.st.under)).setCell ⟨g, o + 5, none⟩ (.bool c.st.turned)).setCell ⟨g, o + 6, none⟩ (.int .i64 c.part)
theorem flat_set (xs : List Ce) (c : Ce) : ∀ i, i < xs.length → ((((((((xs.flatMap ceL).set (i * 7) (.int .i64 c.rune)).set (i * 7 + 1) (.int .i64 c.st.fore)).set (i * 7 + 2) (.int .i64 c.st.back)).set (i * 7 + 3) (.bool c.st.bold)).set (i * 7 + 4) (.bool c.st.under)).set (i * 7 + 5) (.bool c.st.turned)).set (i * 7 + 6) (.int .i64 c.part)) = (xs.set i c).flatMap ceL := by
  induction xs with
  | nil => intro i h; simp at h
  | cons d xs ih =>
    intro i h
    cases i with
    | zero => simp [ceL]
    | succ i =>
      have e : ∀ k, (i + 1) * 7 + k = (i * 7 + k) + 7 := fun k => by omega
      have e0 : (i + 1) * 7 = (i * 7) + 7 := by omega
      rw [e 1, e 2, e 3, e 4, e 5, e 6, e0]
      have hs : ∀ (m : Nat) (u : Value) (l : List Value), ((ceL d ++ l).set (m + 7) u) = ceL d ++ l.set m u := fun m u l => by
        rw [List.set_append, if_neg (by simp [ceL])]
        simp [ceL]
      rw [List.flatMap_cons, hs, hs, hs, hs, hs, hs, hs, ih i (by simpa using h), List.set_cons_succ, List.flatMap_cons]
theorem OwnC.put {w : World} {base g n cap : Nat} {xs : List Ce} (h : OwnC w base (.slice (some ⟨g, 0, none⟩) n cap) xs) (hn : xs.length = n) (i : Nat) (hi : i < n) (c : Ce) :
    OwnC (putCe w g (i * 7) c) base (.slice (some ⟨g, 0, none⟩) n cap) (xs.set i c) ∧ w.grownBy (putCe w g (i * 7) c) (some g) := by
  subst hn
  have h0 := World.ownsRow.stored h (i * 7) (.int .i64 c.rune)
  have h1 := World.ownsRow.stored h0.1 (i * 7 + 1) (.int .i64 c.st.fore)
  have h2 := World.ownsRow.stored h1.1 (i * 7 + 2) (.int .i64 c.st.back)
  have h3 := World.ownsRow.stored h2.1 (i * 7 + 3) (.bool c.st.bold)
  have h4 := World.ownsRow.stored h3.1 (i * 7 + 4) (.bool c.st.under)
  have h5 := World.ownsRow.stored h4.1 (i * 7 + 5) (.bool c.st.turned)
  have h6 := World.ownsRow.stored h5.1 (i * 7 + 6) (.int .i64 c.part)
  refine ⟨?_, grown_tr (grown_tr (grown_tr (grown_tr (grown_tr (grown_tr h0.2 h1.2) h2.2) h3.2) h4.2) h5.2) h6.2⟩
  have := h6.1
  rw [flat_set xs c i hi] at this
  unfold OwnC putCe
  rw [List.length_set]
  exact this
theorem OwnC.frozen {w : World} {base g n cap : Nat} {xs : List Ce} (h : OwnC w base (.slice (some ⟨g, 0, none⟩) n cap) xs) (hn : xs.length = n) (j : Nat) : w.frozen? ⟨g, j, none⟩ = false := by
  subst hn
  exact World.ownsRow.frozenAt h j
theorem info_cell : (Tryd.prog.info? 37).map (fun i => (i.zero, i.size, i.bytes)) = some (some (ceV Ce.zero), 7, 40) := by kernel_rfl
/-- One cell more. -/
theorem append_oc {w : World} {ops : Array Oper} {rest : List Oper} {o : Oper} {ac : Act} {Q : Exit → Act → World → Prop} (hgd : o.guard = none) (s x : Operand)
    (ho : o.op = .call { callee := .builtin .append, args := #[s, x], argTypes := #[24, 24] })
    (base : Nat) (v : Value) (L : List Ce) (c : Ce) (hs : ac.eval s = v) (k : OwnC w base v L) (hb : base ≤ w.heap.size) (hl : L.length < 2000000)
    (g : Nat) (hg0 : w.heap.size = g) (hx : ac.eval x = .slice (some ⟨g, 0, none⟩) 1 1)
    (h : ∀ v' w', OwnC w' base v' (L ++ [c]) → (w.alloc (.cells #[.int .i64 c.rune, .int .i64 c.st.fore, .int .i64 c.st.back, .bool c.st.bold, .bool c.st.under, .bool c.st.turned, .int .i64 c.part] 37)).grownBy w' v.ownBlock → wpList Tryd.prog ops Q rest (ac.put o.dst v') w') :
    wpList Tryd.prog ops Q (o :: rest) ac (w.alloc (.cells #[.int .i64 c.rune, .int .i64 c.st.fore, .int .i64 c.st.back, .bool c.st.bold, .bool c.st.under, .bool c.st.turned, .int .i64 c.part] 37)) := by
  subst hg0
  obtain ⟨i0, hi, hz0, hz1, hz2⟩ := info_parts info_cell
  refine wpList_append_own _ hgd s x _ ho base 37 i0 (ceV Ce.zero) 7 40 Tryd.underlying24 hi hz0 hz1 hz2 rfl (by decide) v L.length _ hs (k.below (bal' _ _)) ⟨w.heap.size, 0, none⟩ 1 1 (ceL c) hx rfl ?_ (by intro u hu; simp [ceL] at hu; rcases hu with rfl | rfl | rfl | rfl | rfl | rfl | rfl <;> rfl) (by unfold maxLen; omega) (by omega) (by simp; omega) (fun v' w' ho' hg' _ => ?_)
  · intro j u hj
    have e : (⟨w.heap.size, 0, none⟩ : Addr).add j = ⟨w.heap.size, j, none⟩ := by unfold Addr.add; split <;> simp_all
    rw [e, cell_of_row _ w.heap.size j _ _ (0, 0) (heap_alloc_new w _)]
    simpa [ceL] using hj
  · refine h v' w' ?_ hg'
    unfold OwnC
    rw [List.length_append, List.flatMap_append]
    simpa using ho'
theorem flat_cells {w : World} {b off : Nat} {xs : List Ce} (hi : ∀ i, i < xs.length → CeAt w b (off + i * 7) (atC xs i)) : ∀ j u, (xs.flatMap ceL)[j]? = some u → w.cell? ⟨b, off + j, none⟩ = some u := by
  intro j u hj
  have hlt : j < xs.length * 7 := by have := (List.getElem?_eq_some_iff.1 hj).1; rwa [flat_len] at this
  have h1 : j / 7 < xs.length := by omega
  have h2 : j % 7 < 7 := Nat.mod_lt _ (by decide)
  have e : j = j / 7 * 7 + j % 7 := by omega
  rw [e, flat_get xs (j / 7) (j % 7) h1 h2] at hj
  obtain ⟨c0, c1, c2, c3, c4, c5, c6⟩ := hi (j / 7) h1
  generalize hk : j % 7 = k at *
  have eo : off + j = off + j / 7 * 7 + k := by omega
  rw [eo]
  match k, h2, hj with
  | 0, _, hj => simp [ceL] at hj; subst hj; exact c0
  | 1, _, hj => simp [ceL] at hj; subst hj; exact c1
  | 2, _, hj => simp [ceL] at hj; subst hj; exact c2
  | 3, _, hj => simp [ceL] at hj; subst hj; exact c3
  | 4, _, hj => simp [ceL] at hj; subst hj; exact c4
  | 5, _, hj => simp [ceL] at hj; subst hj; exact c5
  | 6, _, hj => simp [ceL] at hj; subst hj; exact c6
theorem flat_one (xs : List Ce) : ∀ u ∈ xs.flatMap ceL, u.oneCell' = true := by
  intro u hu
  obtain ⟨c, _, hu⟩ := List.mem_flatMap.1 hu
  simp [ceL] at hu
  rcases hu with rfl | rfl | rfl | rfl | rfl | rfl | rfl <;> rfl
/-- A whole slice more. -/
theorem append_os {w : World} {ops : Array Oper} {rest : List Oper} {o : Oper} {ac : Act} {Q : Exit → Act → World → Prop} (hgd : o.guard = none) (s x : Operand)
    (ho : o.op = .call { callee := .builtin .append, args := #[s, x], argTypes := #[24, 24] })
    (base : Nat) (v : Value) (L : List Ce) (hs : ac.eval s = v) (k : OwnC w base v L) (hb : base ≤ w.heap.size) (u : Value) (xs : List Ce) (hu : SlC w u xs) (hx : ac.eval x = u) (hl : L.length + xs.length < 2000000)
    (h : ∀ v' w', OwnC w' base v' (L ++ xs) → w.grownBy w' v.ownBlock → wpList Tryd.prog ops Q rest (ac.put o.dst v') w') :
    wpList Tryd.prog ops Q (o :: rest) ac w := by
  obtain ⟨i0, hi, hz0, hz1, hz2⟩ := info_parts info_cell
  obtain ⟨a, c, rfl, hc, hn, hr⟩ := hu
  cases a with
  | none =>
    have hc0 : c = 0 := hn rfl
    subst hc0
    have hx0 : xs = [] := by
      rcases hr with h | ⟨b, off, h, _⟩
      · exact h
      · cases h
    subst hx0
    refine wpList_append_own_none hgd s x _ ho base 37 i0 7 Tryd.underlying24 hi v L.length _ hs k hx ?_
    refine h v w ?_ ⟨rfl, rfl, rfl, Nat.le_refl _, fun _ _ _ => rfl⟩
    rw [List.append_nil]; exact k
  | some ad =>
    refine wpList_append_own _ hgd s x _ ho base 37 i0 (ceV Ce.zero) 7 40 Tryd.underlying24 hi hz0 hz1 hz2 rfl (by decide) v L.length _ hs k ad xs.length c (xs.flatMap ceL) hx (flat_len xs) ?_ (flat_one xs) (by unfold maxLen; omega) (by omega) hb (fun v' w' ho' hg' _ => ?_)
    · rcases hr with rfl | ⟨b, off, e, _, hi⟩
      · intro j u hj; simp at hj
      · cases e
        intro j u hj
        rw [Addr.add_mid]
        exact flat_cells hi j u hj
    · refine h v' w' ?_ hg'
      unfold OwnC
      rw [List.length_append, List.flatMap_append]
      exact ho'
theorem ownC_nil (w : World) (base : Nat) (hb : base ≤ w.heap.size) : OwnC (w.alloc (.cells #[] 37)) base (.slice (some ⟨w.heap.size, 0, none⟩) 0 0) [] := by
  have := World.ownsRow_lit (base := base) (e := 37) (size := 7) w #[] 0 hb (Nat.zero_le _) rfl
  simpa [OwnC] using this
end Go.Proofs.YteimcepkoclpbaaDoor
namespace Go.Proofs.YteimcepkoclpbaaDoor
open Go.ChangeShapes Go.WideShapes Go.ChangeAt Go.RowKit

theorem l4Blank_any (s : St) (w : World) :
    Calls Tryd.prog 72 #[stV s] w fun e w' => e = .returned (ceV (blankC s)) ∧ Below w.heap.size w w' := by
  obtain ⟨f, b, bo, un, tu⟩ := s
  unfold stV
  simp only
  go_enter Tryd.func72, Tryd.ntmps72
  go_wp2
  exact bodyPost_ret (v := .agg #[.int .i64 32, .int .i64 f, .int .i64 b, .bool bo, .bool un, .bool tu, .int .i64 0]) (by simp [results, Tryd.results72, go_sem]) rfl ⟨rfl, ((Below.refl _ _).alloc (Nat.le_refl _) _).alloc (by simp) _⟩
/-- A row of this call's own beside what stays. -/
def OC (base : Nat) (v : Value) (L : List Ce) (w0 W : World) : Prop := OwnC W base v L ∧ Below w0.heap.size w0 W ∧ base ≤ W.heap.size ∧ w0.heap.size ≤ base
theorem OC.below {base : Nat} {v : Value} {L : List Ce} {w0 W W' : World} (k : OC base v L w0 W) (hb : Below W.heap.size W W') : OC base v L w0 W' :=
  ⟨k.1.below hb, k.2.1.trans (hb.mono k.2.1.size), Nat.le_trans k.2.2.1 hb.size, k.2.2.2⟩
theorem OC.own {base : Nat} {v v' : Value} {L L' : List Ce} {w0 W W' : World} (k : OC base v L w0 W) (ho : OwnC W' base v' L') (hg : W.grownBy W' v.ownBlock) : OC base v' L' w0 W' :=
  ⟨ho, k.2.1.grown hg k.2.1.size (fun g e => Nat.le_trans k.2.2.2 (k.1.lt g e).1), Nat.le_trans k.2.2.1 hg.size, k.2.2.2⟩
theorem StAt.own {W W' : World} {B base : Nat} {s : St} {v : Value} {L : List Ce} (h : StAt W B s) (k : OwnC W base v L) (hB : B < base) (hg : W.grownBy W' v.ownBlock) : StAt W' B s :=
  h.grown hg (fun e => by have := (k.lt B e).1; omega)
set_option maxHeartbeats 2000000 in
theorem l4Row_any (n : Nat) (s : St) (w : World) (hn : n ≤ 1000) :
    Calls Tryd.prog 53 #[.int .i64 n, stV s] w fun e w' => ∃ v, e = .returned v ∧ OwnC w' w.heap.size v (rowL n s) ∧ Below w.heap.size w w' := by
  have h2 := StAt.new w s 26
  have hbA := bal' w (Obj.cells #[.int .i64 s.fore, .int .i64 s.back, .bool s.bold, .bool s.under, .bool s.turned] 26)
  have hbl := l4Blank_any s
  unfold stV ceV blankC at *
  simp only at hbl
  go_enter Tryd.func53, Tryd.ntmps53
  go_wp2
  have k0 : OC (w.heap.size + 1) (.slice (some ⟨w.heap.size + 1, 0, none⟩) 0 0) [] w ((w.alloc (Obj.cells #[.int .i64 s.fore, .int .i64 s.back, .bool s.bold, .bool s.under, .bool s.turned] 26)).alloc (Obj.cells #[] 37)) := by
    refine ⟨?_, hbA.trans ((bal' _ _).mono hbA.size), by simp, by omega⟩
    have := ownC_nil (w.alloc (Obj.cells #[.int .i64 s.fore, .int .i64 s.back, .bool s.bold, .bool s.under, .bool s.turned] 26)) (w.heap.size + 1) (by simp)
    simpa using this
  have hs0 := h2.below (bal' _ (Obj.cells #[] 37))
  go_loopw [5, 6] (fun u i wr => ∃ j : Nat, i = .int .i64 j ∧ j ≤ n ∧ OC (w.heap.size + 1) u (rowL j s) w wr ∧ StAt wr w.heap.size s) (fun _ i _ => n - (intOf i).toNat)
  case atStart => exact ⟨0, rfl, Nat.zero_le _, k0, hs0⟩
  case round =>
    clear k0 hs0 h2 hbA
    obtain ⟨j, rfl, hj, k, hs⟩ := hrel
    by_cases hlt : j < n
    · have hji : (j : Int) < (n : Int) := by omega
      have hsn : Hid (rowL (j + 1) s = rowL j s ++ [⟨32, s, 0⟩]) := by show _ = _; rw [rowL, List.replicate_succ']; rfl
      have hl : (rowL j s).length < 2000000 := by simp [rowL]; omega
      obtain ⟨_, ⟨c0, c1, c2, c3, c4⟩, _⟩ := id hs
      generalize rowL j s = L at *
      go_wp2_with fail
      refine (hbl _).mono ?_
      rintro e w1 ⟨rfl, hb1⟩
      have k1 := k.below hb1
      have hs1 := hs.below hb1
      clear k hs c0 c1 c2 c3 c4 hb1 hbl
      go_wp2_with (at_builtin; refine append_oc rfl _ _ rfl (w.heap.size + 1) _ L ⟨32, s, 0⟩ rfl (by exact k1.1) k1.2.2.1 hl _ (by simp) rfl ?_; intro v' w' ho' hg')
      have k2 := (k1.below (bal' _ _)).own ho' hg'
      have hs2 := (hs1.below (bal' _ _)).own (k1.below (bal' _ _)).1 (Nat.lt_succ_self _) hg'
      clear k1 hs1 ho' hg'
      go_wp2
      go_roundw
      case rel => exact ⟨j + 1, by go_num, by omega, by rw [hsn.out]; exact k2, hs2⟩
      case measure => simp [intOf]; omega
    · have hjn : j = n := by omega
      have hji : ¬ (j : Int) < (n : Int) := by omega
      subst hjn
      clear hbl hs
      go_wp2
      go_ret
      exact ⟨_, rfl, k.1.low (by omega), k.2.1⟩
theorem bigRow (n : Nat) (s : St) : (rowL n s).length = n := by simp [rowL]
end Go.Proofs.YteimcepkoclpbaaDoor
namespace Go.Proofs.YteimcepkoclpbaaDoor
open Go.ChangeShapes Go.WideShapes Go.ChangeAt Go.RowKit

def blankV (n : Int) (s : St) : List Ce := if 1 ≤ n ∧ n ≤ 60 ∧ s.ok = true then rowL n.toNat s else []
set_option maxHeartbeats 1000000 in
theorem specBlank_any (n : Int) (s : St) (w : World) :
    Calls Tryd.prog 18 #[.int .i64 n, stV s] w fun e w' => ∃ v, e = .returned v ∧ OwnC w' w.heap.size v (blankV n s) ∧ Below w.heap.size w w' := by
  have h2 := StAt.new w s 26
  have hbA := bal' w (Obj.cells #[.int .i64 s.fore, .int .i64 s.back, .bool s.bold, .bool s.under, .bool s.turned] 26)
  have hOK := specStyleOk_any s
  have hnil : ∀ W : World, w.heap.size ≤ W.heap.size → OwnC (W.alloc (Obj.cells #[] 37)) w.heap.size (.slice (some ⟨W.heap.size, 0, none⟩) 0 0) [] := fun W h => ownC_nil W _ h
  by_cases h1 : 1 ≤ n ∧ n ≤ 60
  · obtain ⟨m, rfl⟩ : ∃ m : Nat, n = m := ⟨n.toNat, by omega⟩
    obtain ⟨h1a, h1b⟩ := h1
    have hrow := fun W => l4Row_any m s W (by omega)
    have hin : decide ((1 : Int) ≤ (m : Int) ∧ (m : Int) ≤ 60) = true := decide_eq_true ⟨h1a, h1b⟩
    have hl1 := fun W => l1In_any (m : Int) 1 60 W
    rw [hin] at hl1
    have hs2 := h2
    obtain ⟨_, ⟨c0, c1, c2, c3, c4⟩, _⟩ := id h2
    unfold stV at *
    cases ho : s.ok
    · have hV : Hid (blankV m s = []) := by show _ = _; unfold blankV; rw [if_neg (fun h => by rw [ho] at h; exact absurd h.2.2 (by decide))]
      rw [ho] at hOK
      go_enter Tryd.func18, Tryd.ntmps18
      go_wp2_with fail
      refine (hl1 _).mono ?_
      rintro e w1 ⟨rfl, hw⟩
      subst hw
      go_wp2_with fail
      refine (hOK _).mono ?_
      rintro e w2 ⟨rfl, hb2⟩
      have kb := hbA.trans (hb2.mono hbA.size)
      clear hb2 h2 hs2 c0 c1 c2 c3 c4 hOK hl1 hrow
      go_wp2
      go_ret
      exact ⟨_, rfl, by rw [hV.out]; exact hnil w2 kb.size, kb.trans ((bal' _ _).mono kb.size)⟩
    · have hV : Hid (blankV m s = rowL m s) := by show _ = _; unfold blankV; rw [if_pos ⟨h1a, h1b, ho⟩]; simp
      rw [ho] at hOK
      go_enter Tryd.func18, Tryd.ntmps18
      go_wp2_with fail
      refine (hl1 _).mono ?_
      rintro e w1 ⟨rfl, hw⟩
      subst hw
      go_wp2_with fail
      refine (hOK _).mono ?_
      rintro e w2 ⟨rfl, hb2⟩
      have kb := hbA.trans (hb2.mono hbA.size)
      have hs3 := hs2.below hb2
      clear hb2 h2 hs2 c0 c1 c2 c3 c4 hOK hl1
      obtain ⟨_, ⟨c0, c1, c2, c3, c4⟩, _⟩ := id hs3
      go_wp2_with fail
      refine (hrow _).mono ?_
      rintro e w3 ⟨v, rfl, ho3, hb3⟩
      go_wp2
      go_ret
      exact ⟨v, rfl, by rw [hV.out]; exact ho3.low kb.size, kb.trans (hb3.mono kb.size)⟩
  · have hV : Hid (blankV n s = []) := by show _ = _; unfold blankV; rw [if_neg (fun h => h1 ⟨h.1, h.2.1⟩)]
    have hin : decide ((1 : Int) ≤ n ∧ n ≤ 60) = false := decide_eq_false h1
    have hl1 := fun W => l1In_any n 1 60 W
    rw [hin] at hl1
    clear hin h1 hOK
    unfold stV at *
    go_enter Tryd.func18, Tryd.ntmps18
    go_wp2_with fail
    refine (hl1 _).mono ?_
    rintro e w1 ⟨rfl, hw⟩
    subst hw
    go_wp2
    go_ret
    refine ⟨_, rfl, ?_, hbA.trans ((bal' _ _).mono hbA.size)⟩
    rw [hV.out]
    have := hnil (w.alloc (Obj.cells #[.int .i64 s.fore, .int .i64 s.back, .bool s.bold, .bool s.under, .bool s.turned] 26)) (by simp)
    simpa using this
end Go.Proofs.YteimcepkoclpbaaDoor
