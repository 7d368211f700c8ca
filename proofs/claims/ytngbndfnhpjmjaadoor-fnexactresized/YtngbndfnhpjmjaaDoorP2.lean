/- A window of a row of this call's own: cleared, copied into, made anew. The laws' own helpers on rows: a row's copy. One row written anew; rows made. The laws' own helpers on grids: a grid's copy. Contract of the specification's new grids. The laws' own helpers on grids: a grid's copy whole. The laws' own helpers on grids: likeness. What stays while an exact law of rows runs. Rows of rows that are moved about. Contract of the specification's copied grid. Contract of the specification's l5Move. Contract of the specification's mended row. Two styles compared. Contract of the specification's RowOk. -/
import Derived.Test.YtngbndfnhpjmjaaDoorP1
import Derived.Laws.CopyOwn
import Derived.OwnWalk
import Derived.Deep.RegionHeld3
import Derived.Laws.StructEq
namespace Go.Proofs.YtngbndfnhpjmjaaDoor
open Go.ChangeShapes Go.WideShapes Go.ChangeAt Go.RowKit
theorem flat_take (xs : List Ce) : ∀ k, (xs.flatMap ceL).take (k * 7) = (xs.take k).flatMap ceL := by
  induction xs with
  | nil => intro k; simp
  | cons c xs ih =>
    intro k
    cases k with
    | zero => simp
    | succ k =>
      rw [List.flatMap_cons, List.take_succ_cons, List.flatMap_cons, List.take_append, ← ih k]
      have hl : (ceL c).length = 7 := rfl
      rw [List.take_of_length_le (by rw [hl]; omega), hl, show (k + 1) * 7 - 7 = k * 7 by omega]
theorem flat_drop (xs : List Ce) : ∀ k, (xs.flatMap ceL).drop (k * 7) = (xs.drop k).flatMap ceL := by
  induction xs with
  | nil => intro k; simp
  | cons c xs ih =>
    intro k
    cases k with
    | zero => simp
    | succ k =>
      have hl : (ceL c).length = 7 := rfl
      rw [List.flatMap_cons, List.drop_succ_cons, ← ih k, List.drop_append, hl, List.drop_of_length_le (by rw [hl]; omega), List.nil_append, show (k + 1) * 7 - 7 = k * 7 by omega]
def windL (L : List Ce) (q : Nat) (M : List Ce) : List Ce := L.take q ++ M ++ L.drop (q + M.length)
theorem windL_len (L : List Ce) (q : Nat) (M : List Ce) (h : q + M.length ≤ L.length) : (windL L q M).length = L.length := by unfold windL; simp; omega
theorem windL_at (L : List Ce) (q : Nat) (M : List Ce) (h : q + M.length ≤ L.length) (i : Nat) : atC (windL L q M) i = if q ≤ i ∧ i < q + M.length then atC M (i - q) else atC L i := by
  have h1 : (L.take q).length = q := by rw [List.length_take]; omega
  unfold windL
  rw [app_at, app_at, List.length_append, h1]
  by_cases c1 : i < q
  · rw [if_pos (by omega), if_pos c1, if_neg (by omega), atC_take L q i c1]
  · by_cases c2 : i < q + M.length
    · rw [if_pos c2, if_neg c1, if_pos (by omega)]
    · rw [if_neg c2, if_neg (by omega), atC_drop, show q + M.length + (i - (q + M.length)) = i by omega]
theorem OwnC.cur {w : World} {base g n cap : Nat} {L : List Ce} (h : OwnC w base (.slice (some ⟨g, 0, none⟩) n cap) L) (hn : L.length = n) :
    ∃ cur : Array Value, w.heap[g]? = some (.cells cur 67 (0, 0)) ∧ base ≤ g ∧ n ≤ cap ∧ cap ≤ maxLen ∧ cur.size = cap * 7 ∧ cur.toList.take (n * 7) = L.flatMap ceL := by
  subst hn
  rcases h.2 with ⟨h1, _⟩ | ⟨g', cap', cur, hv, hb, hg, hc, hm, hs, ht⟩
  · cases h1
  · simp only [Value.slice.injEq, Option.some.injEq, Addr.mk.injEq, and_true, true_and] at hv
    obtain ⟨rfl, rfl⟩ := hv
    exact ⟨cur, hg, hb, hc, hm, hs, ht⟩
theorem OwnC.relaid {w : World} {base g n cap : Nat} {L : List Ce} (h : OwnC w base (.slice (some ⟨g, 0, none⟩) n cap) L) (hn : L.length = n) (cur : Array Value) (hg : w.heap[g]? = some (.cells cur 67 (0, 0)))
    (q : Nat) (M : List Ce) (hq : q + M.length ≤ n) :
    OwnC (w.setRow g (cur.toList.take (q * 7) ++ M.flatMap ceL ++ cur.toList.drop (q * 7 + (M.flatMap ceL).length)).toArray) base (.slice (some ⟨g, 0, none⟩) n cap) (windL L q M) ∧
      w.grownBy (w.setRow g (cur.toList.take (q * 7) ++ M.flatMap ceL ++ cur.toList.drop (q * 7 + (M.flatMap ceL).length)).toArray) (some g) := by
  obtain ⟨cur', hg', hb, hc, hm, hs, ht⟩ := h.cur hn
  rw [hg] at hg'
  simp only [Option.some.injEq, Obj.cells.injEq, and_true] at hg'
  subst hg'
  have hl := windL_len L q M (by omega)
  refine ⟨⟨by rw [flat_len, hl], .inr ⟨g, cap, _, by rw [hl, hn], hb, setRow_heap w g cur _ 67 _ hg, by omega, hm, ?_, ?_⟩⟩, ⟨rfl, rfl, rfl, by simp [World.setRow], fun k _ hk => setRow_other w g k _ (fun e => hk (by simp [e]))⟩⟩
  · have : M.length * 7 ≤ n * 7 - q * 7 := by omega
    have : n * 7 ≤ cap * 7 := by omega
    rw [List.size_toArray, List.length_append, List.length_append, List.length_take, List.length_drop, flat_len, Array.length_toList, hs]; omega
  · rw [hl, hn]
    have e1 : cur.toList.take (q * 7) = (L.take q).flatMap ceL := by
      rw [← flat_take, ← ht, List.take_take, Nat.min_eq_left (by omega)]
    have e2 : (cur.toList.drop (q * 7 + (M.flatMap ceL).length)).take (n * 7 - (q + M.length) * 7) = (L.drop (q + M.length)).flatMap ceL := by
      rw [← flat_drop, ← ht, flat_len, ← Nat.add_mul, List.drop_take]
    unfold windL
    rw [List.flatMap_append, List.flatMap_append, ← e1, ← e2]
    have hl1 : (cur.toList.take (q * 7) ++ M.flatMap ceL).length = (q + M.length) * 7 := by
      rw [List.length_append, List.length_take, flat_len, Array.length_toList, hs]; omega
    rw [List.take_append, List.take_of_length_le (by rw [hl1]; omega), hl1]
theorem replC_flat (z : Ce) (k : Nat) : (Builtin.zeroCells (ceL z).toArray k).toList = (List.replicate k z).flatMap ceL := by
  apply List.ext_getElem?
  intro j
  have hl : (ceL z).length = 7 := rfl
  by_cases hj : j < k * 7
  · have h2 : j % 7 < 7 := Nat.mod_lt _ (by decide)
    have e := flat_get (List.replicate k z) (j / 7) (j % 7) (by simp; omega) h2
    rw [show j / 7 * 7 + j % 7 = j by omega] at e
    rw [e]
    have ea : atC (List.replicate k z) (j / 7) = z := by rw [atC_lt (by simp; omega)]; simp
    rw [ea]
    simp only [Builtin.zeroCells, List.size_toArray, hl]
    rw [Array.getElem?_toList, Array.getElem?_map, Array.getElem?_range]
    rw [if_pos hj]
    simp only [Option.map_some]
    rw [getElem!_pos _ _ (by simpa [hl] using h2)]
    simp
  · have h1 : ((Builtin.zeroCells (ceL z).toArray k).toList)[j]? = none := by
      apply List.getElem?_eq_none; simp [Builtin.zeroCells, hl]; omega
    have h2 : ((List.replicate k z).flatMap ceL)[j]? = none := by
      apply List.getElem?_eq_none; rw [flat_len]; simp; omega
    rw [h1, h2]
theorem under_cells : Tryd.prog.underlying 43 = some (.slice 67) := by kernel_rfl
theorem zero_cell (w : World) : (zeroValue 67).run Tryd.prog w = .ok (ceV Ce.zero) w := by
  obtain ⟨i, hi, hz, _⟩ := info_parts info_cell
  simp [zeroValue, typeInfo, hi, hz]
/-- 'clear' of a window. -/
theorem clear_oc {w : World} {ops : Array Oper} {rest : List Oper} {o : Oper} {ac : Act} {Q : Exit → Act → World → Prop} (hgd : o.guard = none) (s : Operand)
    (ho : o.op = .call { callee := .builtin .clear, args := #[s], argTypes := #[43] })
    (base g n cap q k c off : Nat) (L : List Ce) (h : OwnC w base (.slice (some ⟨g, 0, none⟩) n cap) L) (hn : L.length = n) (hq : q + k ≤ n) (hoff : off = q * 7) (hs : ac.eval s = .slice (some ⟨g, off, none⟩) k c)
    (hK : ∀ w', OwnC w' base (.slice (some ⟨g, 0, none⟩) n cap) (windL L q (List.replicate k Ce.zero)) → w.grownBy w' (some g) → wpList Tryd.prog ops Q rest (ac.put o.dst (.tuple #[])) w') :
    wpList Tryd.prog ops Q (o :: rest) ac w := by
  subst hoff
  refine wpList_plain hgd fun K hK' => ?_
  obtain ⟨cur, hg, hb, hc, hm, hsz, ht⟩ := h.cur hn
  have hwin := h.relaid hn cur hg q (List.replicate k Ce.zero) (by simpa using hq)
  by_cases h0 : k = 0
  · subst h0
    have hrun : ∀ ty, (Builtin.clear_ #[43] ty #[.slice (some ⟨g, q * 7, none⟩) 0 c]).run Tryd.prog w = .ok (.tuple #[]) w := fun ty => by
      simp [Builtin.clear_, run_underlying under_cells]
    unfold Oper.wp
    simp [execOp, ho, resolve, invoke, builtin, hs, hrun, Result.andThen]
    refine hK' _ _ (hK w ?_ ⟨rfl, rfl, rfl, Nat.le_refl _, fun _ _ _ => rfl⟩)
    have e : windL L q (List.replicate 0 Ce.zero) = L := by simp [windL]
    rw [e]; exact h
  · have hfl := flat_len (List.replicate k Ce.zero)
    rw [List.length_replicate] at hfl
    have hz : (ceV Ce.zero).cells = (ceL Ce.zero).toArray := rfl
    have hst := run_storeCells_at Tryd.prog g (q * 7) 67 ((List.replicate k Ce.zero).flatMap ceL) 0 cur w hg (by rw [hfl, hsz]; omega) (flat_one _)
    rw [Nat.add_zero] at hst
    obtain ⟨m, rfl⟩ : ∃ m, k = m + 1 := ⟨k - 1, by omega⟩
    have hrun : ∀ ty, (Builtin.clear_ #[43] ty #[.slice (some ⟨g, q * 7, none⟩) (m + 1) c]).run Tryd.prog w = .ok (.tuple #[]) (w.setRow g (cur.toList.take (q * 7) ++ (List.replicate (m + 1) Ce.zero).flatMap ceL ++ cur.toList.drop (q * 7 + ((List.replicate (m + 1) Ce.zero).flatMap ceL).length)).toArray) := fun ty => by
      simp only [Builtin.clear_]
      simp only [Sem.run_bind, run_underlying under_cells, Result.andThen_ok, zero_cell, hz, replC_flat, hst, List.getElem?_toArray, List.getElem?_cons_zero]
      simp
    unfold Oper.wp
    simp [execOp, ho, resolve, invoke, builtin, hs, hrun, Result.andThen]
    have := hK _ hwin.1 hwin.2
    simp at this
    exact hK' _ _ this
/-- 'make([]Cell, n)'. -/
theorem made_zero (n : Nat) : (madeCells (ceV Ce.zero).cells (n * 7)).toList = (List.replicate n Ce.zero).flatMap ceL := by
  apply List.ext_getElem?
  intro i
  by_cases hi : i < n * 7
  · have h1 : i / 7 < n := by omega
    have h2 : i % 7 < 7 := Nat.mod_lt _ (by decide)
    have e : i = i / 7 * 7 + i % 7 := by omega
    have hr : ((List.replicate n Ce.zero).flatMap ceL)[i]? = (ceL Ce.zero)[i % 7]? := by
      conv => lhs; rw [e]
      rw [flat_get _ (i / 7) (i % 7) (by simpa using h1) h2]
      simp [atC, h1]
    rw [hr]
    simp only [madeCells, Array.toList_map, List.getElem?_map, Array.toList_range]
    rw [List.getElem?_range hi]
    generalize he : i % 7 = k at *
    have hz : (ceV Ce.zero).cells.size = 7 := rfl
    simp only [Option.map_some, hz, he]
    match k, h2 with
    | 0, _ => rfl
    | 1, _ => rfl
    | 2, _ => rfl
    | 3, _ => rfl
    | 4, _ => rfl
    | 5, _ => rfl
    | 6, _ => rfl
  · rw [List.getElem?_eq_none (by simp [size_madeCells]; omega), List.getElem?_eq_none (by rw [flat_len]; simp; omega)]
theorem make_oc {w : World} {ops : Array Oper} {rest : List Oper} {o : Oper} {ac : Act} {Q : Exit → Act → World → Prop} (hgd : o.guard = none) (x y : Operand)
    (ho : o.op = Op.makeSlice 43 x y) (n : Nat) (hx : ac.eval x = .int .i64 (n : Int)) (hy : ac.eval y = .int .i64 (n : Int)) (hn : n ≤ 1073741824)
    (h : ∀ w', OwnC w' w.heap.size (.slice (some ⟨w.heap.size, 0, none⟩) n n) (List.replicate n Ce.zero) → Below w.heap.size w w' → wpList Tryd.prog ops Q rest (ac.put o.dst (.slice (some ⟨w.heap.size, 0, none⟩) n n)) w') :
    wpList Tryd.prog ops Q (o :: rest) ac w := by
  obtain ⟨i0, hi, hz0, hz1, hz2⟩ := info_parts info_cell
  refine wpList_make_full _ hgd x y 43 ho w.heap.size 67 i0 (ceV Ce.zero) 7 Tryd.underlying43 hi hz0 hz1 .i64 .i64 (n : Int) (n : Int) n hx hy rfl rfl (by rw [hz2]; omega) (by unfold maxLen; omega) (Nat.le_refl _) (fun w' ho' hg => ?_)
  refine h w' ?_ ((Below.refl _ _).grown hg (Nat.le_refl _) (fun k hk => by cases hk))
  rw [made_zero] at ho'
  unfold OwnC
  rw [List.length_replicate]
  exact ho'
/-- 'copy' into a window. -/
theorem run_copy_oc {w : World} (ty : TypeId) (base g n cap q : Nat) (L M : List Ce) (h : OwnC w base (.slice (some ⟨g, 0, none⟩) n cap) L) (hn : L.length = n) (dp sp : Option Addr) (dLen dCap sLen sCap : Nat) (hM : M.length = Nat.min sLen dLen) (hq : q + M.length ≤ n)
    (hpos : 0 < M.length → dp = some ⟨g, q * 7, none⟩ ∧ ∃ b off, sp = some ⟨b, off, none⟩ ∧ ∀ i, i < M.length → CeAt w b (off + i * 7) (atC M i)) :
    ∃ w', (Builtin.copy_ #[43, 43] ty #[.slice dp dLen dCap, .slice sp sLen sCap]).run Tryd.prog w = .ok (goInt M.length) w' ∧ OwnC w' base (.slice (some ⟨g, 0, none⟩) n cap) (windL L q M) ∧ w.grownBy w' (some g) := by
  obtain ⟨i0, hi, hz0, hz1, hz2⟩ := info_parts info_cell
  obtain ⟨cur, hg, hb, hc, hm, hsz, ht⟩ := h.cur hn
  have hwin := h.relaid hn cur hg q M hq
  by_cases h0 : M.length = 0
  · have hM0 : M = [] := List.eq_nil_of_length_eq_zero h0
    subst hM0
    have e : windL L q [] = L := by simp [windL]
    refine ⟨w, ?_, by rw [e]; exact h, ⟨rfl, rfl, rfl, Nat.le_refl _, fun _ _ _ => rfl⟩⟩
    have hm0 : Nat.min sLen dLen = 0 := by simpa using hM.symm
    cases sp <;> cases dp <;> simp [Builtin.copy_, run_underlying under_cells, Builtin.lenOf, Builtin.firstCells, sizeOf, typeInfo, hi, hm0, loadCells, loadCellsFrom, storeCells]
  · obtain ⟨rfl, b, off, rfl, hsrc⟩ := hpos (by omega)
    refine ⟨_, ?_, hwin.1, hwin.2⟩
    have hl := run_loadCells_list (P := Tryd.prog) w ⟨b, off, none⟩ (M.flatMap ceL) (fun j v hj => by rw [Addr.add_mid]; exact flat_cells hsrc j v hj)
    rw [flat_len] at hl
    have hst := run_storeCells_at Tryd.prog g (q * 7) 67 (M.flatMap ceL) 0 cur w hg (by rw [flat_len, hsz]; omega) (flat_one _)
    rw [Nat.add_zero] at hst
    simp [Builtin.copy_, run_underlying under_cells, Builtin.lenOf, Builtin.firstCells, sizeOf, typeInfo, hi, hz1, ← hM, hl, hst]
theorem copy_oc {w : World} {ops : Array Oper} {rest : List Oper} {o : Oper} {ac : Act} {Q : Exit → Act → World → Prop} (hgd : o.guard = none) (d s : Operand)
    (ho : o.op = .call { callee := .builtin .copy, args := #[d, s], argTypes := #[43, 43] })
    (base g n cap q : Nat) (L M : List Ce) (h : OwnC w base (.slice (some ⟨g, 0, none⟩) n cap) L) (hn : L.length = n) (dp sp : Option Addr) (dLen dCap sLen sCap : Nat) (hd : ac.eval d = .slice dp dLen dCap) (hs : ac.eval s = .slice sp sLen sCap) (hM : M.length = Nat.min sLen dLen) (hq : q + M.length ≤ n)
    (hpos : 0 < M.length → dp = some ⟨g, q * 7, none⟩ ∧ ∃ b off, sp = some ⟨b, off, none⟩ ∧ ∀ i, i < M.length → CeAt w b (off + i * 7) (atC M i))
    (hK : ∀ w', OwnC w' base (.slice (some ⟨g, 0, none⟩) n cap) (windL L q M) → w.grownBy w' (some g) → wpList Tryd.prog ops Q rest (ac.put o.dst (goInt M.length)) w') :
    wpList Tryd.prog ops Q (o :: rest) ac w := by
  refine wpList_plain hgd fun K hK' => ?_
  obtain ⟨w', hrun, h1, h2⟩ := run_copy_oc (w := w) o.type base g n cap q L M h hn dp sp dLen dCap sLen sCap hM hq hpos
  unfold Oper.wp
  simp [execOp, ho, resolve, invoke, builtin, hd, hs, hrun, Result.andThen]
  exact hK' _ _ (hK w' h1 h2)
/-- Rune and style of one cell are written, its part stays. -/
def putRS (w : World) (g o : Nat) (r : Int) (s : St) : World :=
  (((((w.setCell ⟨g, o, none⟩ (.int .i64 r)).setCell ⟨g, o + 1, none⟩ (.int .i64 s.fore)).setCell ⟨g, o + 2, none⟩ (.int .i64 s.back)).setCell ⟨g, o + 3, none⟩ (.bool s.bold)).setCell ⟨g, o + 4, none⟩ (.bool s.under)).setCell ⟨g, o + 5, none⟩ (.bool s.turned)
theorem flat_set6 (xs : List Ce) (r : Int) (s : St) : ∀ i, i < xs.length → (((((((xs.flatMap ceL).set (i * 7) (.int .i64 r)).set (i * 7 + 1) (.int .i64 s.fore)).set (i * 7 + 2) (.int .i64 s.back)).set (i * 7 + 3) (.bool s.bold)).set (i * 7 + 4) (.bool s.under)).set (i * 7 + 5) (.bool s.turned)) = (xs.set i ⟨r, s, (atC xs i).part⟩).flatMap ceL := by
  induction xs with
  | nil => intro i h; simp at h
  | cons d xs ih =>
    intro i h
    cases i with
    | zero => simp [ceL, atC]
    | succ i =>
      have e : ∀ k, (i + 1) * 7 + k = (i * 7 + k) + 7 := fun k => by omega
      have e0 : (i + 1) * 7 = (i * 7) + 7 := by omega
      rw [e 1, e 2, e 3, e 4, e 5, e0]
      have hs : ∀ (m : Nat) (u : Value) (l : List Value), ((ceL d ++ l).set (m + 7) u) = ceL d ++ l.set m u := fun m u l => by
        rw [List.set_append, if_neg (by simp [ceL])]
        simp [ceL]
      have e1 : atC (d :: xs) (i + 1) = atC xs i := by simp [atC]
      rw [List.flatMap_cons, hs, hs, hs, hs, hs, hs, ih i (by simpa using h), List.set_cons_succ, List.flatMap_cons, e1]
theorem OwnC.putRS {w : World} {base g n cap : Nat} {xs : List Ce} (h : OwnC w base (.slice (some ⟨g, 0, none⟩) n cap) xs) (hn : xs.length = n) (i : Nat) (hi : i < n) (r : Int) (s : St) :
    OwnC (putRS w g (i * 7) r s) base (.slice (some ⟨g, 0, none⟩) n cap) (xs.set i ⟨r, s, (atC xs i).part⟩) ∧ w.grownBy (Proofs.YtngbndfnhpjmjaaDoor.putRS w g (i * 7) r s) (some g) := by
  subst hn
  have h0 := World.ownsRow.stored h (i * 7) (.int .i64 r)
  have h1 := World.ownsRow.stored h0.1 (i * 7 + 1) (.int .i64 s.fore)
  have h2 := World.ownsRow.stored h1.1 (i * 7 + 2) (.int .i64 s.back)
  have h3 := World.ownsRow.stored h2.1 (i * 7 + 3) (.bool s.bold)
  have h4 := World.ownsRow.stored h3.1 (i * 7 + 4) (.bool s.under)
  have h5 := World.ownsRow.stored h4.1 (i * 7 + 5) (.bool s.turned)
  refine ⟨?_, grown_tr (grown_tr (grown_tr (grown_tr (grown_tr h0.2 h1.2) h2.2) h3.2) h4.2) h5.2⟩
  have := h5.1
  rw [flat_set6 xs r s i hi] at this
  unfold OwnC Proofs.YtngbndfnhpjmjaaDoor.putRS
  rw [List.length_set]
  exact this
theorem ownC_none (w : World) (base : Nat) : OwnC w base (.slice none 0 0) [] := ⟨rfl, .inl ⟨rfl, rfl⟩⟩
end Go.Proofs.YtngbndfnhpjmjaaDoor
namespace Go.Proofs.YtngbndfnhpjmjaaDoor
open Go.ChangeShapes Go.WideShapes Go.ChangeAt Go.RowKit
set_option maxHeartbeats 2000000 in
theorem toCS_copy (v : Value) (xs : List Ce) (w : World) (hv : SlC w v xs) (hl : xs.length ≤ 1073741824) :
    Calls Tryd.prog 79 #[v] w fun e w' => ∃ u, e = .returned u ∧ OwnC w' w.heap.size u xs ∧ Below w.heap.size w w' := by
  have hto := fun c W => toCell_any c W
  unfold ceV at hto
  obtain ⟨a, c, rfl, hc0⟩ := id hv
  clear hc0
  go_enter Tryd.func79, Tryd.ntmps79
  go_wp2_with (refine make_oc rfl _ _ rfl xs.length rfl rfl hl ?_; intro w1 ho1 hb1)
  go_wp2
  go_loopw [4] (fun i wr => ∃ (j : Nat) (ys : List Ce), i = .int .i64 j ∧ j ≤ xs.length ∧ ys.length = xs.length ∧ (∀ t, t < j → atC ys t = atC xs t) ∧ OC w.heap.size (.slice (some ⟨w.heap.size, 0, none⟩) xs.length xs.length) ys w wr) (fun i _ => xs.length - (intOf i).toNat)
  case atStart => exact ⟨0, _, rfl, Nat.zero_le _, List.length_replicate, (fun t h => absurd h (Nat.not_lt_zero t)), ho1, hb1, hb1.size, Nat.le_refl _⟩
  case round =>
    clear ho1 hb1
    obtain ⟨j, ys, rfl, hj, hyl, hys, k⟩ := hrel
    by_cases hlt : j < xs.length
    · have hji : (j : Int) < (xs.length : Int) := by omega
      have hj0 : (0 : Int) ≤ (j : Int) := by omega
      obtain ⟨b, off, rfl, hbb, hat⟩ := (hv.below k.2.1).at j hlt
      obtain ⟨c0, c1, c2, c3, c4, c5, c6⟩ := hat
      go_wp2_with fail
      refine (hto (atC xs j) _).mono ?_
      rintro e w2 ⟨rfl, hb2⟩
      have k2 := k.below hb2
      have hp := k2.1.put hyl j hlt (atC xs j)
      have kk : OC w.heap.size (.slice (some ⟨w.heap.size, 0, none⟩) xs.length xs.length) (ys.set j (atC xs j)) w (putCe w2 w.heap.size (j * 7) (atC xs j)) := k2.own hp.1 hp.2
      have hys2 : ∀ t, t < j + 1 → atC (ys.set j (atC xs j)) t = atC xs t := by
        intro t ht
        rw [atC_set]
        by_cases e : t = j
        · subst e; rw [if_pos ⟨rfl, by omega⟩]
        · rw [if_neg (fun h => e h.1)]; exact hys t (by omega)
      have hyl2 : (ys.set j (atC xs j)).length = xs.length := by simpa using hyl
      have hat := k2.1.at hyl j hlt
      have f0 := k2.1.frozen hyl (j * 7)
      have f1 := k2.1.frozen hyl (j * 7 + 1)
      have f2 := k2.1.frozen hyl (j * 7 + 2)
      have f3 := k2.1.frozen hyl (j * 7 + 3)
      have f4 := k2.1.frozen hyl (j * 7 + 4)
      have f5 := k2.1.frozen hyl (j * 7 + 5)
      have f6 := k2.1.frozen hyl (j * 7 + 6)
      clear hp k hb2 hto hys c0 c1 c2 c3 c4 c5 c6 k2 hv hyl
      generalize ys.set j (atC xs j) = ys2 at *
      obtain ⟨c0, c1, c2, c3, c4, c5, c6⟩ := hat
      simp only [putCe] at kk
      go_wp2
      go_roundw
      case rel => exact ⟨j + 1, ys2, by go_num, by omega, hyl2, hys2, kk⟩
      case measure => simp [intOf]; omega
    · have hjn : j = xs.length := by omega
      have hji : ¬ (j : Int) < (xs.length : Int) := by omega
      have hye : ys = xs := ext_atC _ _ hyl (fun i hi => hys i (by omega))
      subst hye
      clear hys hyl hv hto
      go_wp2
      go_ret
      exact ⟨_, rfl, k.1, k.2.1⟩
end Go.Proofs.YtngbndfnhpjmjaaDoor
namespace Go.Proofs.YtngbndfnhpjmjaaDoor
open Go.ChangeShapes Go.WideShapes Go.ChangeAt Go.RowKit
theorem rowV_set {vs : List Value} {i : Nat} (hi : i < vs.length) (r : Value) (k : Nat) : rowV (vs.set i r) k = if k = i then r else rowV vs k := by
  unfold rowV
  by_cases e : k = i
  · subst e; rw [if_pos rfl]; simp [List.getD, hi]
  · rw [if_neg e]; simp [List.getD, Ne.symm e]
theorem rowX_set {rows : List (List Ce)} {i : Nat} (hi : i < rows.length) (x : List Ce) (k : Nat) : rowX (rows.set i x) k = if k = i then x else rowX rows k := by
  unfold rowX
  by_cases e : k = i
  · subst e; rw [if_pos rfl]; simp [List.getD, hi]
  · rw [if_neg e]; simp [List.getD, Ne.symm e]
/-- One row is written anew. -/
theorem OwnG.set {w : World} {base B g n cap : Nat} {rows : List (List Ce)} (h : OwnG w base B (.slice (some ⟨g, 0, none⟩) n cap) rows) (hn : rows.length = n) (i : Nat) (hi : i < n) (r : Value) (xs : List Ce) (hr : OwnC w base r xs) (hB : ∀ q, r.ownBlock = some q → B ≤ q) :
    OwnG (w.setCell ⟨g, i, none⟩ r) base (w.setCell ⟨g, i, none⟩ r).heap.size (.slice (some ⟨g, 0, none⟩) n cap) (rows.set i xs) ∧ w.grownBy (w.setCell ⟨g, i, none⟩ r) (some g) := by
  subst hn
  obtain ⟨vs, hvl, hown, hrs, hlt, hd⟩ := h
  have h0 := World.ownsRow.stored hown i r
  have hap : ∀ {u : Value} {ys : List Ce}, OwnC w base u ys → OwnC (w.setCell ⟨g, i, none⟩ r) base u ys := fun hu => hu.kept h0.2 (outer_apart hown hu)
  have hs2 := h0.2.size
  refine ⟨⟨vs.set i r, by simp [hvl], by rw [List.length_set]; exact h0.1, fun k hk => ?_, fun k hk q e => ?_, fun a b hab hb q e => ?_⟩, h0.2⟩
  · rw [List.length_set] at hk
    rw [rowV_set (by omega), rowX_set hi]
    by_cases e : k = i
    · rw [if_pos e, if_pos e]; exact hap hr
    · rw [if_neg e, if_neg e]; exact hap (hrs k hk)
  · rw [List.length_set] at hk
    rw [rowV_set (by omega)] at e
    by_cases c : k = i
    · rw [if_pos c] at e; have := (hr.lt q e).2; omega
    · rw [if_neg c] at e; have := ((hrs k hk).lt q e).2; omega
  · rw [List.length_set] at hb
    rw [rowV_set (by omega)] at e
    rw [rowV_set (by omega)]
    by_cases c : a = i
    · rw [if_pos c] at e
      rw [if_neg (by omega)]
      intro e2
      have := hlt b hb q e2
      have := hB q e
      omega
    · rw [if_neg c] at e
      by_cases c2 : b = i
      · rw [if_pos c2]
        intro e2
        have := hlt a (by omega) q e
        have := hB q e2
        omega
      · rw [if_neg c2]; exact hd a b hab hb q e
theorem made_none (n : Nat) : (madeCells (Value.slice none 0 0).cells (n * 1)).toList = List.replicate n (Value.slice none 0 0) := by
  apply List.ext_getElem?
  intro i
  by_cases hi : i < n
  · simp [madeCells, Value.cells, hi, Nat.mod_one]
  · simp [madeCells, Value.cells, hi]
theorem make_og {w : World} {ops : Array Oper} {rest : List Oper} {o : Oper} {ac : Act} {Q : Exit → Act → World → Prop} (hgd : o.guard = none) (x y : Operand)
    (ho : o.op = Op.makeSlice 24 x y) (n : Nat) (hx : ac.eval x = .int .i64 (n : Int)) (hy : ac.eval y = .int .i64 (n : Int)) (hn : n ≤ 1073741824)
    (h : ∀ w', OwnG w' w.heap.size w'.heap.size (.slice (some ⟨w.heap.size, 0, none⟩) n n) (List.replicate n []) → Below w.heap.size w w' → wpList Tryd.prog ops Q rest (ac.put o.dst (.slice (some ⟨w.heap.size, 0, none⟩) n n)) w') :
    wpList Tryd.prog ops Q (o :: rest) ac w := by
  obtain ⟨i0, hi, hz0, hz1, hz2⟩ := info_parts info_row
  refine wpList_make_full _ hgd x y 24 ho w.heap.size 43 i0 (.slice none 0 0) 1 under_rows hi hz0 hz1 .i64 .i64 (n : Int) (n : Int) n hx hy rfl rfl (by rw [hz2]; omega) (by unfold maxLen; omega) (Nat.le_refl _) (fun w' ho' hg => ?_)
  rw [made_none] at ho'
  have hv : ∀ i, rowV (List.replicate n (Value.slice none 0 0)) i = .slice none 0 0 := fun i => by
    unfold rowV; by_cases hi : i < n <;> simp [List.getD, hi]
  have hr : ∀ i, rowX (List.replicate n ([] : List Ce)) i = [] := fun i => by
    unfold rowX; by_cases hi : i < n <;> simp [List.getD, hi]
  have hG : OwnG w' w.heap.size w'.heap.size (.slice (some ⟨w.heap.size, 0, none⟩) n n) (List.replicate n []) :=
    ⟨List.replicate n (.slice none 0 0), by simp, by rw [List.length_replicate]; exact ho', fun i _ => by rw [hv, hr]; exact ownC_none _ _, (fun i _ g e => by rw [hv] at e; cases e), (fun i j _ _ g e => by rw [hv] at e; cases e)⟩
  exact h w' hG ((Below.refl _ _).grown hg (Nat.le_refl _) (fun k hk => by cases hk))
end Go.Proofs.YtngbndfnhpjmjaaDoor
namespace Go.Proofs.YtngbndfnhpjmjaaDoor
open Go.ChangeShapes Go.WideShapes Go.ChangeAt Go.RowKit
set_option maxHeartbeats 2000000 in
theorem toCSS_copy (v : Value) (rows : List (List Ce)) (w : World) (hv : SlG w v rows) (hl : rows.length ≤ 1073741824) (hx : ∀ i, i < rows.length → (rowX rows i).length ≤ 1073741824) :
    Calls Tryd.prog 56 #[v] w fun e w' => ∃ u, e = .returned u ∧ OwnG w' w.heap.size w'.heap.size u rows ∧ Below w.heap.size w w' := by
  obtain ⟨a, c, vs, rfl, hcp, _, hr, hs⟩ := id hv
  go_enter Tryd.func56, Tryd.ntmps56
  go_wp2_with (refine make_og rfl _ _ rfl rows.length rfl rfl hl ?_; intro w1 ho1 hb1)
  go_wp2
  go_loopw [4] (fun i wr => ∃ (j : Nat) (R : List (List Ce)), i = .int .i64 j ∧ j ≤ rows.length ∧ R.length = rows.length ∧ (∀ t, t < j → rowX R t = rowX rows t) ∧ OwnG wr w.heap.size wr.heap.size (.slice (some ⟨w.heap.size, 0, none⟩) rows.length rows.length) R ∧ Below w.heap.size w wr) (fun i _ => rows.length - (intOf i).toNat)
  case atStart => exact ⟨0, _, rfl, Nat.zero_le _, List.length_replicate, (fun t h => absurd h (Nat.not_lt_zero t)), ho1, hb1⟩
  case round =>
    clear ho1 hb1
    obtain ⟨j, R, rfl, hj, hRl, hR, k, kb⟩ := hrel
    by_cases hlt : j < rows.length
    · have hji : (j : Int) < (rows.length : Int) := by omega
      have hj0 : (0 : Int) ≤ (j : Int) := by omega
      rcases hr with h | ⟨b, off, rfl, hbb, hrc⟩
      · rw [h] at hlt; simp at hlt
      have hsj := (hs j hlt).below kb
      have hcj := (kb.cell (p := ⟨b, off + j, none⟩) hbb).trans (hrc j hlt)
      obtain ⟨aj, cj, ev, _⟩ := id hsj
      rw [ev] at hcj hsj
      have hto := toCS_copy _ _ wr hsj (hx j hlt)
      clear hs hrc ev hsj hv
      go_wp2_with fail
      refine hto.mono ?_
      rintro e w2 ⟨r, rfl, hor, hb2⟩
      have hk2 := (k.below hb2).set hRl j hlt r _ (hor.low kb.size) (fun q e => (hor.lt q e).1)
      have hw0 : ∃ cur, w2.cell? ⟨w.heap.size, j, none⟩ = some cur := by
        obtain ⟨vs2, hvl2, hown2, _⟩ := k.below hb2
        rw [hRl] at hown2
        exact ⟨_, by rw [World.ownsRow.cellAt hown2 j (by omega), rowV_get (by omega)]⟩
      have hfz : w2.frozen? ⟨w.heap.size, j, none⟩ = false := by
        obtain ⟨vs2, hvl2, hown2, _⟩ := k.below hb2
        rw [hRl] at hown2
        exact World.ownsRow.frozenAt hown2 j
      have kb3 := (kb.trans (hb2.mono kb.size)).grown hk2.2 (by have := kb.size; have := hb2.size; omega) (fun g e => by cases e; exact Nat.le_refl _)
      have hR2 : ∀ t, t < j + 1 → rowX (R.set j (rowX rows j)) t = rowX rows t := fun t ht => by
        rw [rowX_set (by omega)]
        by_cases e : t = j
        · rw [if_pos e, e]
        · rw [if_neg e]; exact hR t (by omega)
      have hRl2 : (R.set j (rowX rows j)).length = rows.length := by simpa using hRl
      have kk := hk2.1
      obtain ⟨cur, hcur⟩ := hw0
      obtain ⟨ra, rn, rc, rfl⟩ : ∃ a n c, r = Value.slice a n c := by rcases hor.shape with ⟨h, _⟩ | ⟨_, _, h, _⟩ <;> exact ⟨_, _, _, h⟩
      clear k kb hor hb2 hto hk2 hR hRl hcj
      generalize R.set j (rowX rows j) = R2 at *
      go_wp2
      go_roundw
      case rel => exact ⟨j + 1, R2, by go_num, by omega, hRl2, hR2, kk, kb3⟩
      case measure => simp [intOf]; omega
    · have hjn : j = rows.length := by omega
      have hji : ¬ (j : Int) < (rows.length : Int) := by omega
      have hye : R = rows := by
        apply List.ext_getElem hRl
        intro i h1 h2
        rw [← rowX_lt h1, ← rowX_lt h2]
        exact hR i (by omega)
      subst hye
      clear hs hr hR hv
      go_wp2
      go_ret
      exact ⟨_, rfl, k, kb⟩
end Go.Proofs.YtngbndfnhpjmjaaDoor
namespace Go.Proofs.YtngbndfnhpjmjaaDoor
open Go.ChangeShapes Go.WideShapes Go.ChangeAt Go.RowKit
/-- A new grid that grows beside the result's block. -/
def NG (M B : Nat) (cols : Int) (u : Value) (rows : List (List Ce)) (w0 W : World) : Prop :=
  GrW W M 0 (.slice none 0 0) ∧ GrW W (M + 1) cols u ∧ OwnG W (M + 2) B u rows ∧ M + 2 ≤ W.heap.size ∧ B ≤ W.heap.size ∧ Below M w0 W
theorem NG.below {M B : Nat} {cols : Int} {u : Value} {rows : List (List Ce)} {w0 W W' : World} (k : NG M B cols u rows w0 W) (hb : Below W.heap.size W W') : NG M B cols u rows w0 W' :=
  ⟨k.1.below hb, k.2.1.below hb, k.2.2.1.below hb, Nat.le_trans k.2.2.2.1 hb.size, Nat.le_trans k.2.2.2.2.1 hb.size, k.2.2.2.2.2.trans (hb.mono (by have := k.2.2.2.1; omega))⟩
theorem NG.drew {M B : Nat} {cols : Int} {u : Value} {rows : List (List Ce)} {w0 W : World} (k : NG M B cols u rows w0 W) : NG M B cols u rows w0 W.drew := k.below (bdr W)
theorem NG.more {M B : Nat} {cols : Int} {u v' : Value} {rows rows' : List (List Ce)} {w0 W W' : World} (k : NG M B cols u rows w0 W) (ho : OwnG W' (M + 2) W'.heap.size v' rows') (hg : W.grownBy W' u.ownBlock) :
    GrW W' M 0 (.slice none 0 0) ∧ GrW W' (M + 1) cols u ∧ OwnG W' (M + 2) W'.heap.size v' rows' ∧ M + 2 ≤ W'.heap.size ∧ W'.heap.size ≤ W'.heap.size ∧ Below M w0 W' := by
  have hne : ∀ g, u.ownBlock = some g → M + 2 ≤ g := fun g e => (k.2.2.1.lt g e).1
  refine ⟨k.1.grown hg (fun e => by have := hne _ e; omega), k.2.1.grown hg (fun e => by have := hne _ e; omega), ho, Nat.le_trans k.2.2.2.1 hg.size, Nat.le_refl _, ?_⟩
  exact k.2.2.2.2.2.grown hg (by have := k.2.2.2.1; omega) (fun g e => by have := hne g e; omega)
theorem ng_put {M : Nat} {cols : Int} {u : Value} {rows : List (List Ce)} {w0 W : World} {v' : Value} (k : GrW W M 0 (.slice none 0 0) ∧ GrW W (M + 1) cols u ∧ OwnG W (M + 2) W.heap.size v' rows ∧ M + 2 ≤ W.heap.size ∧ W.heap.size ≤ W.heap.size ∧ Below M w0 W) :
    NG M (putG W (M + 1) v').heap.size cols v' rows w0 (putG W (M + 1) v') := by
  have hg := putG_grown W (M + 1) v'
  refine ⟨k.1.grown hg (fun e => by cases e), k.2.1.put v', ((k.2.2.1).kept hg (fun g e => by cases e; omega)).up hg.size, Nat.le_trans k.2.2.2.1 hg.size, Nat.le_refl _, ?_⟩
  exact k.2.2.2.2.2.grown hg (by have := k.2.2.2.1; omega) (fun g e => by cases e; omega)
/-- What NewGrid gives. -/
def newOk (cols n : Int) : Prop := (1 ≤ cols ∧ cols ≤ 60) ∧ (1 ≤ n ∧ n ≤ 30)
instance (cols n : Int) : Decidable (newOk cols n) := by unfold newOk; exact inferInstance
end Go.Proofs.YtngbndfnhpjmjaaDoor
namespace Go.Proofs.YtngbndfnhpjmjaaDoor
open Go.ChangeShapes Go.WideShapes Go.ChangeAt Go.RowKit
set_option maxHeartbeats 2000000 in
theorem toGrid_copy (cols : Int) (v : Value) (rows : List (List Ce)) (w : World) (hv : SlG w v rows) (hl : rows.length ≤ 1073741824) (hx : ∀ i, i < rows.length → (rowX rows i).length ≤ 1073741824) :
    Calls Tryd.prog 27 #[gridV cols v] w fun e w' => ∃ u, e = .returned (gridV cols u) ∧ OwnG w' w.heap.size w'.heap.size u rows ∧ Below w.heap.size w w' := by
  have hto := fun W h => toCSS_copy v rows W h hl hx
  have hG0 := GrN.new w cols v 46
  have hb0 := bal' w (Obj.cells #[.int .i64 cols, v] 46)
  have e0 : (w.alloc (Obj.cells #[.int .i64 cols, v] 46)).heap.size = w.heap.size + 1 := by simp
  have hvv := hv
  obtain ⟨a, c, vs, rfl, _⟩ := id hv
  have hv1 := hvv.below hb0
  unfold gridV
  generalize hw1 : w.alloc (Obj.cells #[.int .i64 cols, .slice a rows.length c] 46) = w1 at *
  have hR := GrW.new w1 0 (.slice none 0 0) 26
  have hb1 := bal' w1 (Obj.cells #[Value.int IntKind.i64 0, Value.slice none 0 0] 26)
  have e1 : (w1.alloc (Obj.cells #[Value.int IntKind.i64 0, Value.slice none 0 0] 26)).heap.size = w.heap.size + 2 := by simp; omega
  have hO := GrW.new (w1.alloc (Obj.cells #[Value.int IntKind.i64 0, Value.slice none 0 0] 26)) cols (.slice none 0 0) 26
  have hb2 := bal' (w1.alloc (Obj.cells #[Value.int IntKind.i64 0, Value.slice none 0 0] 26)) (Obj.cells #[Value.int IntKind.i64 cols, Value.slice none 0 0] 26)
  rw [e1] at hO
  rw [e0] at hR
  have hR2 := hR.below hb2
  have hbb := hb1.trans (hb2.mono hb1.size)
  have hv2 := hv1.below hbb
  have e3 : ((w1.alloc (Obj.cells #[Value.int IntKind.i64 0, Value.slice none 0 0] 26)).alloc (Obj.cells #[Value.int IntKind.i64 cols, Value.slice none 0 0] 26)).heap.size = w.heap.size + 3 := by simp; omega
  subst hw1
  obtain ⟨_, g0, g1⟩ := id hG0
  go_enter Tryd.func27, Tryd.ntmps27
  go_wp2_with fail
  refine (hto _ hv2).mono ?_
  rintro e w4 ⟨u, rfl, hou, hb4⟩
  have hR4 := hR2.below hb4
  have hO4 := hO.below hb4
  obtain ⟨ua, un, uc, rfl⟩ : ∃ a n c, u = Value.slice a n c := by rcases hou.shape with ⟨h, _⟩ | ⟨_, _, h, _⟩ <;> exact ⟨_, _, _, h⟩
  have hs4 := hb4.size
  rw [e3] at hou hs4
  have hg5 := putG_grown w4 (w.heap.size + 2) (.slice ua un uc)
  have hO5 := hO4.put (.slice ua un uc)
  have hR5 := hR4.grown hg5 (fun e => by simp at e)
  have ho5 := (hou.kept hg5 (fun g e => by cases e; omega)).up hg5.size
  have hbase := hb0.trans ((hbb.trans (hb4.mono hbb.size)).mono hb0.size)
  have hb5 := hbase.grown hg5 (by omega) (fun g e => by cases e; omega)
  have hs5 := hg5.size
  have hg6 := putG2_grown (putG w4 (w.heap.size + 2) (.slice ua un uc)) (w.heap.size + 1) cols (.slice ua un uc)
  have kF := (hR5.put2 cols (.slice ua un uc)).2.1
  have ho6 := (ho5.kept hg6 (fun g e => by cases e; omega)).up hg6.size
  have hb6 := hb5.grown hg6 (by omega) (fun g e => by cases e; omega)
  clear hG0 hb0 e0 hR hb1 e1 hO hb2 hR2 hbb hv1 hv2 hvv hto e3 hbase hb4 hs4 hs5 hg5 hg6 hb5 ho5 hou g0 g1
  obtain ⟨_, ⟨d0, d1⟩, ⟨y0, y1⟩⟩ := hR4
  obtain ⟨_, ⟨c0, c1⟩, ⟨z0, z1⟩⟩ := hO4
  obtain ⟨_, ⟨p0, p1⟩, ⟨q0, q1⟩⟩ := hO5
  obtain ⟨_, ⟨r0, r1⟩, ⟨s0, s1⟩⟩ := hR5
  obtain ⟨f0, f1⟩ := kF
  simp only [putG, putG2] at f0 f1 ho6 hb6 p0 p1 q0 q1 r0 r1 s0 s1
  go_wp2
  exact bodyPost_ret (v := .agg #[.int .i64 cols, .slice ua un uc]) (by simp [results, Tryd.results27, go_sem, f0, f1]) rfl ⟨_, rfl, ho6.low (by omega), hb6⟩
end Go.Proofs.YtngbndfnhpjmjaaDoor
namespace Go.Proofs.YtngbndfnhpjmjaaDoor
open Go.ChangeShapes Go.WideShapes Go.ChangeAt Go.RowKit
set_option maxHeartbeats 4000000 in
theorem eqCSS_same (va vb : Value) (rows : List (List Ce)) (w : World) (ha : SlG w va rows) (hb : SlG w vb rows) (hl : rows.length ≤ 1073741824) (hx : ∀ i, i < rows.length → (rowX rows i).length ≤ 1073741824) :
    Calls Tryd.prog 57 #[va, vb] w fun e w' => e = .returned (.bool true) ∧ Below w.heap.size w w' := by
  obtain ⟨a, c, vs, rfl, _, _, hr, hs⟩ := id ha
  obtain ⟨a2, c2, vs2, rfl, _, _, hr2, hs2⟩ := id hb
  clear ha hb
  go_enter Tryd.func57, Tryd.ntmps57
  go_wp2
  go_loopw [5] (fun i wr => ∃ j : Nat, i = .int .i64 j ∧ j ≤ rows.length ∧ Below w.heap.size w wr) (fun i _ => rows.length - (intOf i).toNat)
  case atStart => exact ⟨0, rfl, Nat.zero_le _, Below.refl _ _⟩
  case round =>
    obtain ⟨j, rfl, hj, kb⟩ := hrel
    by_cases hlt : j < rows.length
    · have hji : (j : Int) < (rows.length : Int) := by omega
      have hj0 : (0 : Int) ≤ (j : Int) := by omega
      rcases hr with h | ⟨b, off, rfl, hbb, hrc⟩
      · rw [h] at hlt; simp at hlt
      rcases hr2 with h | ⟨b2, off2, rfl, hbb2, hrc2⟩
      · rw [h] at hlt; simp at hlt
      have hsj := (hs j hlt).below kb
      have hsj2 := (hs2 j hlt).below kb
      have hcj := (kb.cell (p := ⟨b, off + j, none⟩) hbb).trans (hrc j hlt)
      have hcj2 := (kb.cell (p := ⟨b2, off2 + j, none⟩) hbb2).trans (hrc2 j hlt)
      obtain ⟨aj, cj, ev, _⟩ := id hsj
      obtain ⟨aj2, cj2, ev2, _⟩ := id hsj2
      rw [ev] at hcj hsj
      rw [ev2] at hcj2 hsj2
      have heq := fun W (hW : Below wr.heap.size wr W) => eqC_same _ _ _ W (hsj.below hW) (hsj2.below hW) (hx j hlt)
      clear hs hs2 hrc hrc2 ev ev2 hsj hsj2
      go_wp2
      go_region_with (go_at_call 80; refine (heq _ (bdr _)).mono ?_; rintro e w2 ⟨rfl, hb2⟩)
      all_goals
        have kb2 := (kb.trans ((bdr wr).mono kb.size)).trans (hb2.mono kb.size)
        clear kb hb2 heq
        go_wp2
        go_roundw
        case rel => exact ⟨j + 1, by go_num, by omega, by first | exact kb2 | exact kb2.drew⟩
        case measure => simp [intOf]; omega
    · have hjn : j = rows.length := by omega
      have hji : ¬ (j : Int) < (rows.length : Int) := by omega
      subst hjn
      clear hs hs2 hr hr2
      go_wp2
      go_ret
      exact ⟨rfl, kb⟩
set_option maxHeartbeats 2000000 in
theorem eqGrid_same (cols : Int) (va vb : Value) (rows : List (List Ce)) (w : World) (ha : SlG w va rows) (hb : SlG w vb rows) (hl : rows.length ≤ 1073741824) (hx : ∀ i, i < rows.length → (rowX rows i).length ≤ 1073741824) :
    Calls Tryd.prog 28 #[gridV cols va, gridV cols vb] w fun e w' => e = .returned (.bool true) ∧ Below w.heap.size w w' := by
  have hb0 := bal' w (Obj.cells #[.int .i64 cols, va] 26)
  have hb1 := bal' (w.alloc (Obj.cells #[.int .i64 cols, va] 26)) (Obj.cells #[.int .i64 cols, vb] 26)
  have hG0 := (GrN.new w cols va 26).below hb1
  have hG1 := GrN.new (w.alloc (Obj.cells #[.int .i64 cols, va] 26)) cols vb 26
  have e0 : (w.alloc (Obj.cells #[.int .i64 cols, va] 26)).heap.size = w.heap.size + 1 := by simp
  rw [e0] at hG1
  have heq := fun W h1 h2 => eqCSS_same va vb rows W h1 h2 hl hx
  have hbb := hb0.trans (hb1.mono hb0.size)
  have ha1 := ha.below hbb
  have hb2 := hb.below hbb
  obtain ⟨a, c, vs, rfl, _⟩ := id ha
  obtain ⟨a2, c2, vs2, rfl, _⟩ := id hb
  unfold gridV
  obtain ⟨_, g0, g1⟩ := id hG0
  obtain ⟨_, f0, f1⟩ := id hG1
  go_enter Tryd.func28, Tryd.ntmps28
  go_wp2_with fail
  refine (heq _ ha1 hb2).mono ?_
  rintro e w2 ⟨rfl, hw⟩
  go_wp2
  go_ret
  exact ⟨rfl, hbb.trans (hw.mono hbb.size)⟩
end Go.Proofs.YtngbndfnhpjmjaaDoor
namespace Go.Proofs.YtngbndfnhpjmjaaDoor
open Go.ChangeShapes Go.WideShapes Go.ChangeAt Go.RowKit
/-- A slice of cells whose block lies below B. -/
def SlU (B : Nat) (w : World) (v : Value) (xs : List Ce) : Prop :=
  ∃ a c, v = .slice a xs.length c ∧ xs.length ≤ c ∧ (a = none → c = 0) ∧ (xs = [] ∨ ∃ b off, a = some ⟨b, off, none⟩ ∧ b < B ∧ b < w.heap.size ∧ ∀ i, i < xs.length → CeAt w b (off + i * 7) (atC xs i))
theorem SlU.sl {B : Nat} {w : World} {v : Value} {xs : List Ce} (h : SlU B w v xs) : SlC w v xs := by
  obtain ⟨a, c, hv, hc, hn, h | ⟨b, off, ha, _, hlt, hi⟩⟩ := h
  · exact ⟨a, c, hv, hc, hn, .inl h⟩
  · exact ⟨a, c, hv, hc, hn, .inr ⟨b, off, ha, hlt, hi⟩⟩
theorem SlU.of {w : World} {v : Value} {xs : List Ce} (h : SlC w v xs) : SlU w.heap.size w v xs := by
  obtain ⟨a, c, hv, hc, hn, h | ⟨b, off, ha, hlt, hi⟩⟩ := h
  · exact ⟨a, c, hv, hc, hn, .inl h⟩
  · exact ⟨a, c, hv, hc, hn, .inr ⟨b, off, ha, hlt, hlt, hi⟩⟩
theorem SlU.up {B B' : Nat} {w : World} {v : Value} {xs : List Ce} (h : SlU B w v xs) (hb : B ≤ B') : SlU B' w v xs := by
  obtain ⟨a, c, hv, hc, hn, h | ⟨b, off, ha, h1, hlt, hi⟩⟩ := h
  · exact ⟨a, c, hv, hc, hn, .inl h⟩
  · exact ⟨a, c, hv, hc, hn, .inr ⟨b, off, ha, Nat.lt_of_lt_of_le h1 hb, hlt, hi⟩⟩
theorem SlU.below {B : Nat} {w w' : World} {v : Value} {xs : List Ce} (h : SlU B w v xs) (hb : Below B w w') : SlU B w' v xs := by
  obtain ⟨a, c, hv, hc, hn, h | ⟨b, off, ha, h1, hlt, hi⟩⟩ := h
  · exact ⟨a, c, hv, hc, hn, .inl h⟩
  · refine ⟨a, c, hv, hc, hn, .inr ⟨b, off, ha, h1, Nat.lt_of_lt_of_le hlt hb.size, fun i h => ?_⟩⟩
    have e : ∀ k, w'.cell? ⟨b, k, none⟩ = w.cell? ⟨b, k, none⟩ := fun k => hb.cell (p := ⟨b, k, none⟩) h1
    have := hi i h
    unfold CeAt at *
    rw [e, e, e, e, e, e, e]
    exact this
/-- An argument's row, and a style in a box of this call's own. -/
def KE (B : Nat) (s : St) (v : Value) (xs : List Ce) (w0 W : World) : Prop := StAt W B s ∧ SlU (B + 1) W v xs ∧ Below w0.heap.size w0 W
theorem KE.below {B : Nat} {s : St} {v : Value} {xs : List Ce} {w0 W W' : World} (k : KE B s v xs w0 W) (hb : Below W.heap.size W W') : KE B s v xs w0 W' :=
  ⟨k.1.below hb, k.2.1.below (hb.mono k.1.1), k.2.2.trans (hb.mono k.2.2.size)⟩
/-- A row of this call's own changes. -/
theorem KE.own {B : Nat} {s : St} {v : Value} {xs : List Ce} {w0 W W' : World} {base : Nat} {u : Value} {L : List Ce} (k : KE B s v xs w0 W) (ho : OwnC W base u L) (hB : B < base) (h0 : w0.heap.size ≤ B) (hg : W.grownBy W' u.ownBlock) : KE B s v xs w0 W' := by
  have hb : Below (B + 1) W W' := (Below.refl _ _).grown hg k.1.1 (fun g e => Nat.lt_of_lt_of_le hB (ho.lt g e).1)
  exact ⟨k.1.own ho hB hg, k.2.1.below hb, k.2.2.trans (hb.mono (by omega))⟩
theorem KE.all {B : Nat} {s : St} {v : Value} {xs : List Ce} {w0 W : World} (k : KE B s v xs w0 W) : W.cell? ⟨B, 0, none⟩ = some (.int .i64 s.fore) ∧ W.cell? ⟨B, 1, none⟩ = some (.int .i64 s.back) ∧ W.cell? ⟨B, 2, none⟩ = some (.bool s.bold) ∧ W.cell? ⟨B, 3, none⟩ = some (.bool s.under) ∧ W.cell? ⟨B, 4, none⟩ = some (.bool s.turned) ∧ KE B s v xs w0 W :=
  ⟨k.1.2.1.1, k.1.2.1.2.1, k.1.2.1.2.2.1, k.1.2.1.2.2.2.1, k.1.2.1.2.2.2.2, k⟩
theorem KE.drew {B : Nat} {s : St} {v : Value} {xs : List Ce} {w0 W : World} (k : KE B s v xs w0 W) : W.drew.cell? ⟨B, 0, none⟩ = some (.int .i64 s.fore) ∧ W.drew.cell? ⟨B, 1, none⟩ = some (.int .i64 s.back) ∧ W.drew.cell? ⟨B, 2, none⟩ = some (.bool s.bold) ∧ W.drew.cell? ⟨B, 3, none⟩ = some (.bool s.under) ∧ W.drew.cell? ⟨B, 4, none⟩ = some (.bool s.turned) ∧ KE B s v xs w0 W.drew := (k.below (bdr W)).all
theorem OwnC.apart {w w' : World} {base base' : Nat} {v u : Value} {xs ys : List Ce} (h : OwnC w base v xs) (_hu : OwnC w base' u ys) (hB : ∀ g, u.ownBlock = some g → g < base) (hg : w.grownBy w' u.ownBlock) : OwnC w' base v xs := by
  refine World.ownsRow.kept h hg ?_
  cases hv : v.ownBlock with
  | none => exact .inl rfl
  | some g =>
    right
    intro e
    have h1 := (h.lt g hv).1
    have h2 := hB g e.symm
    omega
/-- A row that lies below another's base stays while that one changes. -/
theorem SlU.own {B base : Nat} {w w' : World} {v u : Value} {xs L : List Ce} (h : SlU B w v xs) (ho : OwnC w base u L) (hB : B ≤ base) (hs : B ≤ w.heap.size) (hg : w.grownBy w' u.ownBlock) : SlU B w' v xs :=
  h.below ((Below.refl _ _).grown hg hs (fun g e => Nat.le_trans hB (ho.lt g e).1))
end Go.Proofs.YtngbndfnhpjmjaaDoor
namespace Go.Proofs.YtngbndfnhpjmjaaDoor
open Go.ChangeShapes Go.WideShapes Go.ChangeAt Go.RowKit
def genV (n : Nat) (f : Nat → Value) : List Value := (List.range n).map f
theorem genV_len (n : Nat) (f : Nat → Value) : (genV n f).length = n := by simp [genV]
theorem genV_at (n : Nat) (f : Nat → Value) (i : Nat) (h : i < n) : rowV (genV n f) i = f i := by
  rw [rowV_lt (by rw [genV_len]; exact h)]
  simp [genV]
theorem rowV_setV {vs : List Value} {j : Nat} (hj : j < vs.length) (r : Value) (i : Nat) : rowV (vs.set j r) i = if i = j then r else rowV vs i := by
  unfold rowV
  by_cases e : i = j
  · subst e; rw [if_pos rfl]; simp [List.getD, hj]
  · rw [if_neg e]; simp [List.getD, Ne.symm e]
/-- The values are moved about: each is one of before or a new one. -/
theorem OwnV.mixed {w w' : World} {base B : Nat} {v : Value} {vs : List Value} {rows : List (List Ce)} (h : OwnV w base B v vs rows) (σ : Nat → Option Nat) (vs' : List Value) (rows' : List (List Ce))
    (hl : vs'.length = rows'.length) (hn : rows'.length = rows.length) (ho : w'.ownsRow base 43 1 v rows.length vs')
    (hkeep : ∀ p, p < rows.length → OwnC w' base (rowV vs p) (rowX rows p))
    (hold : ∀ i p, i < rows.length → σ i = some p → p < rows.length ∧ rowV vs' i = rowV vs p ∧ rowX rows' i = rowX rows p)
    (hinj : ∀ i j p, i < j → j < rows.length → σ i = some p → σ j = some p → False)
    (hnew : ∀ i, i < rows.length → σ i = none → OwnC w' base (rowV vs' i) (rowX rows' i) ∧ ∀ g, (rowV vs' i).ownBlock = some g → B ≤ g)
    (hnd : ∀ i j, i < j → j < rows.length → σ i = none → σ j = none → ∀ g, (rowV vs' i).ownBlock = some g → (rowV vs' j).ownBlock ≠ some g) :
    OwnV w' base w'.heap.size v vs' rows' := by
  have hrow : ∀ i, i < rows.length → OwnC w' base (rowV vs' i) (rowX rows' i) := fun i hi => by
    cases e : σ i with
    | none => exact (hnew i hi e).1
    | some p => obtain ⟨hp, e1, e2⟩ := hold i p hi e; rw [e1, e2]; exact hkeep p hp
  refine ⟨hl, by rw [hn]; exact ho, fun i hi => hrow i (by omega), fun i hi g e => ((hrow i (by omega)).lt g e).2, fun i j hij hj g e1 e2 => ?_⟩
  rw [hn] at hj
  cases ei : σ i with
  | none =>
    cases ej : σ j with
    | none => exact hnd i j hij hj ei ej g e1 e2
    | some q =>
      obtain ⟨hq, eq1, _⟩ := hold j q hj ej
      rw [eq1] at e2
      have := h.2.2.2.1 q hq g e2
      have := (hnew i (by omega) ei).2 g e1
      omega
  | some p =>
    obtain ⟨hp, ep1, _⟩ := hold i p (by omega) ei
    rw [ep1] at e1
    cases ej : σ j with
    | none =>
      have := h.2.2.2.1 p hp g e1
      have := (hnew j hj ej).2 g e2
      omega
    | some q =>
      obtain ⟨hq, eq1, _⟩ := hold j q hj ej
      rw [eq1] at e2
      rcases Nat.lt_trichotomy p q with c | c | c
      · exact h.2.2.2.2 p q c hq g e1 e2
      · subst c; exact hinj i j p hij hj ei ej
      · exact h.2.2.2.2 q p c hp g e2 e1
/-- Values gathered, each one of before or a new row. -/
def Gat (w : World) (base : Nat) (vs : List Value) (X : List Ce) (σ : Nat → Option Nat) (us : List Value) : Prop :=
  (∀ k p, k < us.length → σ k = some p → rowV us k = rowV vs p) ∧ (∀ k, k < us.length → σ k = none → OwnC w base (rowV us k) X) ∧
  (∀ k l, k < l → l < us.length → σ k = none → σ l = none → ∀ g, (rowV us k).ownBlock = some g → (rowV us l).ownBlock ≠ some g)
theorem Gat.nil (w : World) (base : Nat) (vs : List Value) (X : List Ce) (σ : Nat → Option Nat) : Gat w base vs X σ [] :=
  ⟨fun k _ h => absurd h (Nat.not_lt_zero k), fun k h => absurd h (Nat.not_lt_zero k), fun _ l _ h => absurd h (Nat.not_lt_zero l)⟩
theorem Gat.below {w w' : World} {base : Nat} {vs : List Value} {X : List Ce} {σ : Nat → Option Nat} {us : List Value} (h : Gat w base vs X σ us) (hb : Below w.heap.size w w') : Gat w' base vs X σ us :=
  ⟨h.1, fun k hk e => (h.2.1 k hk e).below hb, h.2.2⟩
theorem Gat.kept {w w' : World} {base base2 n : Nat} {v : Value} {ys vs : List Value} {X : List Ce} {σ : Nat → Option Nat} {us : List Value} (h : Gat w base vs X σ us) (ho : w.ownsRow base2 43 1 v n ys) (hg : w.grownBy w' v.ownBlock) : Gat w' base vs X σ us :=
  ⟨h.1, fun k hk e => (h.2.1 k hk e).kept hg (outer_apart ho (h.2.1 k hk e)), h.2.2⟩
theorem Gat.new {w w' : World} {base : Nat} {vs : List Value} {X : List Ce} {σ : Nat → Option Nat} {us : List Value} (h : Gat w base vs X σ us) (e : σ us.length = none) (hb : Below w.heap.size w w') (r : Value) (hr : OwnC w' w.heap.size r X) (hbase : base ≤ w.heap.size) : Gat w' base vs X σ (us ++ [r]) := by
  have h2 := h.below hb
  refine ⟨fun k q hk e2 => ?_, fun k hk e2 => ?_, fun k l hkl hl e1 e2 => ?_⟩
  · rw [List.length_append, List.length_singleton] at hk
    rw [rowV_snoc]
    by_cases c : k < us.length
    · rw [if_pos c]; exact h.1 k q c e2
    · have : k = us.length := by omega
      subst this
      rw [e] at e2; cases e2
  · rw [List.length_append, List.length_singleton] at hk
    rw [rowV_snoc]
    by_cases c : k < us.length
    · rw [if_pos c]; exact h2.2.1 k c e2
    · rw [if_neg c, if_pos (by omega)]
      exact hr.low hbase
  · rw [List.length_append, List.length_singleton] at hl
    rw [rowV_snoc, rowV_snoc, if_pos (show k < us.length by omega)]
    by_cases c : l < us.length
    · rw [if_pos c]; exact h.2.2 k l hkl c e1 e2
    · rw [if_neg c, if_pos (by omega)]
      intro g g1 g2
      have := ((h.2.1 k (by omega) e1).lt g g1).2
      have := (hr.lt g g2).1
      omega
theorem OwnC.isSl {w : World} {base : Nat} {v : Value} {xs : List Ce} (h : OwnC w base v xs) : ∃ a n c, v = Value.slice a n c := by
  rcases h.shape with ⟨h, _⟩ | ⟨_, _, h, _⟩ <;> exact ⟨_, _, _, h⟩
end Go.Proofs.YtngbndfnhpjmjaaDoor
namespace Go.Proofs.YtngbndfnhpjmjaaDoor
open Go.ChangeShapes Go.WideShapes Go.ChangeAt Go.RowKit
/-- A row of this call's own that stands apart grows. -/
theorem OwnG.kept2 {w w' : World} {base B : Nat} {v : Value} {rows : List (List Ce)} {row : Option Nat} (h : OwnG w base B v rows) (hg : w.grownBy w' row) (hne : ∀ g, row = some g → B ≤ g) (hu : ∀ g, v.ownBlock = some g → g < B) : OwnG w' base B v rows := by
  obtain ⟨vs, hl, ho, hr, hB, hd⟩ := h
  refine ⟨vs, hl, World.ownsRow.kept ho hg ?_, fun i hi => (hr i hi).kept hg ?_, hB, hd⟩
  · cases hv : v.ownBlock with
    | none => exact .inl rfl
    | some q => right; intro e; have := hne q e.symm; have := hu q hv; omega
  · cases hv : (rowV vs i).ownBlock with
    | none => exact .inl rfl
    | some q => right; intro e; have := hne q e.symm; have := hB i hi q hv; omega
theorem NG.kept2 {M B : Nat} {cols : Int} {u : Value} {rows : List (List Ce)} {w0 W W' : World} {row : Option Nat} (k : NG M B cols u rows w0 W) (hg : W.grownBy W' row) (hne : ∀ g, row = some g → B ≤ g ∧ M + 2 ≤ g) (hu : ∀ g, u.ownBlock = some g → g < B) : NG M B cols u rows w0 W' := by
  have h3 := k.2.2.2.1
  refine ⟨k.1.grown hg (fun e => by have := (hne _ e).2; omega), k.2.1.grown hg (fun e => by have := (hne _ e).2; omega), k.2.2.1.kept2 hg (fun g e => (hne g e).1) hu, Nat.le_trans h3 hg.size, Nat.le_trans k.2.2.2.2.1 hg.size, ?_⟩
  exact k.2.2.2.2.2.grown hg (by omega) (fun g e => by have := (hne g e).2; omega)
end Go.Proofs.YtngbndfnhpjmjaaDoor
namespace Go.Proofs.YtngbndfnhpjmjaaDoor
open Go.ChangeShapes Go.WideShapes Go.ChangeAt Go.RowKit
/-- The state of the first loop. -/
def MvK (M : Nat) (u : Value) (vs us : List Value) (X : List Ce) (σ : Nat → Option Nat) (s : St) (w0 W : World) : Prop :=
  StAt W M s ∧ W.ownsRow (M + 1) 43 1 u us.length us ∧ Gat W M vs X σ us ∧ Below M w0 W
theorem MvK.below {M : Nat} {u : Value} {vs us : List Value} {X : List Ce} {σ : Nat → Option Nat} {s : St} {w0 W W' : World} (k : MvK M u vs us X σ s w0 W) (hb : Below W.heap.size W W') : MvK M u vs us X σ s w0 W' :=
  ⟨k.1.below hb, World.ownsRow.below k.2.1 hb, k.2.2.1.below hb, k.2.2.2.trans (hb.mono (by have := k.1.1; omega))⟩
theorem MvK.drew {M : Nat} {u : Value} {vs us : List Value} {X : List Ce} {σ : Nat → Option Nat} {s : St} {w0 W : World} (k : MvK M u vs us X σ s w0 W) : MvK M u vs us X σ s w0 W.drew := k.below (bdr W)
theorem MvK.alloc {M : Nat} {u : Value} {vs us : List Value} {X : List Ce} {σ : Nat → Option Nat} {s : St} {w0 W : World} (k : MvK M u vs us X σ s w0 W) (o : Obj) : MvK M u vs us X σ s w0 (W.alloc o) := k.below (bal' W o)
theorem MvK.more {M : Nat} {u v' : Value} {vs us : List Value} {X : List Ce} {σ : Nat → Option Nat} {s : St} {w0 W W' : World} {r : Value} (k : MvK M u vs us X σ s w0 W) (hG : Gat W M vs X σ (us ++ [r])) (ho : W'.ownsRow (M + 1) 43 1 v' (us.length + 1) (us ++ [r])) (hg : (W.alloc (.cells #[r] 43)).grownBy W' u.ownBlock) : MvK M v' vs (us ++ [r]) X σ s w0 W' := by
  have hba := bal' W (Obj.cells #[r] 43)
  have h1 := hba.size
  have h2 := k.1.1
  have h3 := fun g e => (k.2.1.lt g e).1
  refine ⟨(k.1.below hba).grown hg (fun e => by have := h3 M e; omega), by rw [List.length_append]; exact ho, (hG.below hba).kept (World.ownsRow.below k.2.1 hba) hg, ?_⟩
  exact (k.2.2.2.trans (hba.mono (by omega))).grown hg (by omega) (fun g e => by have := h3 g e; omega)
end Go.Proofs.YtngbndfnhpjmjaaDoor
namespace Go.Proofs.YtngbndfnhpjmjaaDoor
open Go.ChangeShapes Go.WideShapes Go.ChangeAt Go.RowKit
set_option maxHeartbeats 4000000 in
set_option maxRecDepth 20000 in
theorem l4Mended_any (v : Value) (xs : List Ce) (w : World) (hv : SlC w v xs) (hl : xs.length ≤ 1000000) :
    Calls Tryd.prog 70 #[v] w fun e w' => ∃ u, e = .returned u ∧ OwnC w' w.heap.size u (mendV xs) ∧ Below w.heap.size w w' := by
  have hbl := fun s W => l4Blank_any s W
  obtain ⟨a, c, rfl, hr⟩ := id hv
  have k00 := ownC_nil w w.heap.size (Nat.le_refl _)
  have hv0 := hv.below (bal' w (Obj.cells #[] 67))
  go_enter Tryd.func70, Tryd.ntmps70
  go_wp2_with (at_builtin; refine append_os rfl _ _ rfl w.heap.size _ [] rfl (by exact k00) (by simp) _ xs hv0 rfl (by simp; omega) ?_; intro u w1 ho1 hg1)
  have k1 : OC w.heap.size u xs w w1 := by
    have k : OC w.heap.size (.slice (some ⟨w.heap.size, 0, none⟩) 0 0) [] w (w.alloc (Obj.cells #[] 67)) := ⟨k00, bal' _ _, by simp, Nat.le_refl _⟩
    exact k.own (by simpa using ho1) hg1
  clear k00 hv0 ho1 hg1
  rcases k1.1.shape with ⟨rfl, rfl⟩ | ⟨g, cap, rfl, hbg, hlg, hcap⟩
  · clear hr
    go_wp2
    refine wp_loop_rounds 1 ?_
    rw [rounds_succ]
    go_wp2
    go_ret
    exact ⟨_, rfl, k1.1, k1.2.1⟩
  · go_wp2
    go_loopw [4] (fun i wr => ∃ j : Nat, i = .int .i64 j ∧ j ≤ xs.length ∧ OC w.heap.size (.slice (some ⟨g, 0, none⟩) xs.length cap) (mendUp xs j) w wr) (fun i _ => xs.length - (intOf i).toNat)
    case atStart => exact ⟨0, rfl, Nat.zero_le _, by rw [mendUp_zero]; exact k1⟩
    case round =>
      clear k1
      obtain ⟨j, rfl, hj, k⟩ := hrel
      by_cases hlt : j < xs.length
      · have hji : (j : Int) < (xs.length : Int) := by omega
        have hj0 : (0 : Int) ≤ (j : Int) := by omega
        have hat := k.1.at (mendUp_len xs j) j hlt
        rw [mendUp_at xs j j hlt, if_neg (Nat.lt_irrefl j)] at hat
        have hsz : (mendUp xs j).length = xs.length := mendUp_len xs j
        have hsrc : ∀ i, i < xs.length → ∃ b off, a = some ⟨b, off, none⟩ ∧ CeAt wr b (off + i * 7) (atC xs i) := by
          intro i hi
          rcases hr.2.2 with h | ⟨b, off, ha, hlt, hc⟩
          · rw [h] at hi; simp at hi
          · exact ⟨b, off, ha, (hc i hi).below k.2.1 hlt⟩
        have hkeep : aloneB xs j = false → OC w.heap.size (.slice (some ⟨g, 0, none⟩) xs.length cap) (mendUp xs (j + 1)) w wr := fun h => by rw [mendUp_keep xs j hlt h]; exact k
        have hstep : aloneB xs j = true → mendUp xs (j + 1) = (mendUp xs j).set j (blankC (atC xs j).st) := fun h => by rw [mendUp_step xs j hlt, mendC, if_pos h]
        have hal : aloneB xs j = (((atC xs j).part == 1 && (decide (j + 1 = xs.length) || (atC xs (j + 1)).part != 2)) || ((atC xs j).part == 2 && (decide (j = 0) || (atC xs (j - 1)).part != 1))) := rfl
        have hnext : j + 1 < xs.length → CeAt wr g ((j + 1) * 7) (atC xs (j + 1)) := fun h => by
          have := k.1.at (mendUp_len xs j) (j + 1) h
          rwa [mendUp_at xs j (j + 1) h, if_neg (by omega)] at this
        obtain ⟨p0, p1, p2, p3, p4, p5, p6⟩ := id hat
        by_cases e1 : (atC xs j).part = 1
        · have b1 : ((atC xs j).part == 1) = true := by simp [e1]
          by_cases e2 : j + 1 = xs.length
          · have e2i : ((j : Int) + 1 == (xs.length : Int)) = true := by simp; omega
            have ha : aloneB xs j = true := by rw [hal]; simp [e1, e2]
            have hst := hstep ha
            clear hkeep hstep hal ha hsrc hnext hv hr
            obtain ⟨c0, c1, c2, c3, c4, c5, c6⟩ := id hat
            have hb1 := hbl (atC xs j).st
            unfold stV ceV blankC at hb1
            simp only at hb1
            go_wp2_with fail
            refine (hb1 _).mono ?_
            rintro e w2 ⟨rfl, hb2⟩
            have k2 := k.below hb2
            have hat2 := hat.below hb2 (by have := k.1.lt g rfl; exact this.2)
            have hp := k2.1.put hsz j hlt ⟨32, (atC xs j).st, 0⟩
            have kk : OC w.heap.size (.slice (some ⟨g, 0, none⟩) xs.length cap) (mendUp xs (j + 1)) w (putCe w2 g (j * 7) ⟨32, (atC xs j).st, 0⟩) := by rw [hst]; exact k2.own hp.1 hp.2
            have f0 := k2.1.frozen hsz (j * 7)
            have f1 := k2.1.frozen hsz (j * 7 + 1)
            have f2 := k2.1.frozen hsz (j * 7 + 2)
            have f3 := k2.1.frozen hsz (j * 7 + 3)
            have f4 := k2.1.frozen hsz (j * 7 + 4)
            have f5 := k2.1.frozen hsz (j * 7 + 5)
            have f6 := k2.1.frozen hsz (j * 7 + 6)
            clear hp hat k hb1 hb2 hbl hst c0 c1 c2 c3 c4 c5 c6
            obtain ⟨c0, c1, c2, c3, c4, c5, c6⟩ := hat2
            clear k2
            simp only [putCe] at kk
            go_wp2
            go_roundw
            case rel => exact ⟨j + 1, by go_num, by omega, kk⟩
            case measure => simp [intOf]; omega
          · have e2i : ((j : Int) + 1 == (xs.length : Int)) = false := by simp; omega
            have hj1 : j + 1 < xs.length := by omega
            have hj1i : (j : Int) + 1 < (xs.length : Int) := by omega
            obtain ⟨q0, q1, q2, q3, q4, q5, q6⟩ := hnext hj1
            by_cases e3 : (atC xs (j + 1)).part = 2
            · have b3 : ((atC xs (j + 1)).part != 2) = false := by simp [e3]
              have b4 : ((atC xs j).part == 2) = false := by simp [e1]
              have ha : aloneB xs j = false := by rw [hal]; simp [e1, e2, e3]
              have kk := hkeep ha
              clear hkeep hstep hal ha hsrc hnext hbl k hv hr
              go_wp2
              go_roundw
              case rel => exact ⟨j + 1, by go_num, by omega, kk⟩
              case measure => simp [intOf]; omega
            · have b3 : ((atC xs (j + 1)).part != 2) = true := by simp [e3]
              have ha : aloneB xs j = true := by rw [hal]; simp [e1, e3]
              have hst := hstep ha
              clear hkeep hstep hal ha hsrc hnext hv hr
              obtain ⟨c0, c1, c2, c3, c4, c5, c6⟩ := id hat
              have hb1 := hbl (atC xs j).st
              unfold stV ceV blankC at hb1
              simp only at hb1
              go_wp2_with fail
              refine (hb1 _).mono ?_
              rintro e w2 ⟨rfl, hb2⟩
              have k2 := k.below hb2
              have hat2 := hat.below hb2 (by have := k.1.lt g rfl; exact this.2)
              have hp := k2.1.put hsz j hlt ⟨32, (atC xs j).st, 0⟩
              have kk : OC w.heap.size (.slice (some ⟨g, 0, none⟩) xs.length cap) (mendUp xs (j + 1)) w (putCe w2 g (j * 7) ⟨32, (atC xs j).st, 0⟩) := by rw [hst]; exact k2.own hp.1 hp.2
              have f0 := k2.1.frozen hsz (j * 7)
              have f1 := k2.1.frozen hsz (j * 7 + 1)
              have f2 := k2.1.frozen hsz (j * 7 + 2)
              have f3 := k2.1.frozen hsz (j * 7 + 3)
              have f4 := k2.1.frozen hsz (j * 7 + 4)
              have f5 := k2.1.frozen hsz (j * 7 + 5)
              have f6 := k2.1.frozen hsz (j * 7 + 6)
              clear hp hat k hb1 hb2 hbl hst c0 c1 c2 c3 c4 c5 c6
              obtain ⟨c0, c1, c2, c3, c4, c5, c6⟩ := hat2
              clear k2
              simp only [putCe] at kk
              go_wp2
              go_roundw
              case rel => exact ⟨j + 1, by go_num, by omega, kk⟩
              case measure => simp [intOf]; omega
        · have b1 : ((atC xs j).part == 1) = false := by simp [e1]
          by_cases e2 : (atC xs j).part = 2
          · have b2 : ((atC xs j).part == 2) = true := by simp [e2]
            by_cases e3 : j = 0
            · have e3i : ((j : Int) == 0) = true := by simp [e3]
              have ha : aloneB xs j = true := by rw [hal]; rw [show decide (j = 0) = true from decide_eq_true e3]; simp [e2]
              clear e3
              have hst := hstep ha
              clear hkeep hstep hal ha hsrc hnext hv hr
              obtain ⟨c0, c1, c2, c3, c4, c5, c6⟩ := id hat
              have hb1 := hbl (atC xs j).st
              unfold stV ceV blankC at hb1
              simp only at hb1
              go_wp2_with fail
              refine (hb1 _).mono ?_
              rintro e w2 ⟨rfl, hb2⟩
              have k2 := k.below hb2
              have hat2 := hat.below hb2 (by have := k.1.lt g rfl; exact this.2)
              have hp := k2.1.put hsz j hlt ⟨32, (atC xs j).st, 0⟩
              have kk : OC w.heap.size (.slice (some ⟨g, 0, none⟩) xs.length cap) (mendUp xs (j + 1)) w (putCe w2 g (j * 7) ⟨32, (atC xs j).st, 0⟩) := by rw [hst]; exact k2.own hp.1 hp.2
              have f0 := k2.1.frozen hsz (j * 7)
              have f1 := k2.1.frozen hsz (j * 7 + 1)
              have f2 := k2.1.frozen hsz (j * 7 + 2)
              have f3 := k2.1.frozen hsz (j * 7 + 3)
              have f4 := k2.1.frozen hsz (j * 7 + 4)
              have f5 := k2.1.frozen hsz (j * 7 + 5)
              have f6 := k2.1.frozen hsz (j * 7 + 6)
              clear hp hat k hb1 hb2 hbl hst c0 c1 c2 c3 c4 c5 c6
              obtain ⟨c0, c1, c2, c3, c4, c5, c6⟩ := hat2
              clear k2
              simp only [putCe] at kk
              go_wp2
              go_roundw
              case rel => exact ⟨j + 1, by go_num, by omega, kk⟩
              case measure => simp [intOf]; omega
            · obtain ⟨m, rfl⟩ : ∃ m, j = m + 1 := ⟨j - 1, by omega⟩
              obtain ⟨b, off, rfl, q0, q1, q2, q3, q4, q5, q6⟩ := hsrc m (by omega)
              have e3i : ((m : Int) + 1 == 0) = false := by simp; omega
              have hmi : (m : Int) < (xs.length : Int) := by omega
              by_cases e4 : (atC xs m).part = 1
              · have b4 : ((atC xs m).part != 1) = false := by simp [e4]
                have ha : aloneB xs (m + 1) = false := by rw [hal]; simp [e2, e4]
                have kk := hkeep ha
                clear hkeep hstep hal ha hsrc hnext hbl k hv hr
                go_wp2
                go_roundw
                case rel => exact ⟨m + 1 + 1, by go_num, by omega, kk⟩
                case measure => simp [intOf]; omega
              · have b4 : ((atC xs m).part != 1) = true := by simp [e4]
                have ha : aloneB xs (m + 1) = true := by rw [hal]; simp [e2, e4]
                have hst := hstep ha
                clear hkeep hstep hal ha hsrc hnext hv hr
                obtain ⟨c0, c1, c2, c3, c4, c5, c6⟩ := id hat
                have hb1 := hbl (atC xs (m + 1)).st
                unfold stV ceV blankC at hb1
                simp only at hb1
                go_wp2_with fail
                refine (hb1 _).mono ?_
                rintro e w2 ⟨rfl, hb2⟩
                have k2 := k.below hb2
                have hat2 := hat.below hb2 (by have := k.1.lt g rfl; exact this.2)
                have hp := k2.1.put hsz (m + 1) hlt ⟨32, (atC xs (m + 1)).st, 0⟩
                have kk : OC w.heap.size (.slice (some ⟨g, 0, none⟩) xs.length cap) (mendUp xs ((m + 1) + 1)) w (putCe w2 g ((m + 1) * 7) ⟨32, (atC xs (m + 1)).st, 0⟩) := by rw [hst]; exact k2.own hp.1 hp.2
                have f0 := k2.1.frozen hsz ((m + 1) * 7)
                have f1 := k2.1.frozen hsz ((m + 1) * 7 + 1)
                have f2 := k2.1.frozen hsz ((m + 1) * 7 + 2)
                have f3 := k2.1.frozen hsz ((m + 1) * 7 + 3)
                have f4 := k2.1.frozen hsz ((m + 1) * 7 + 4)
                have f5 := k2.1.frozen hsz ((m + 1) * 7 + 5)
                have f6 := k2.1.frozen hsz ((m + 1) * 7 + 6)
                clear hp hat k hb1 hb2 hbl hst c0 c1 c2 c3 c4 c5 c6
                obtain ⟨c0, c1, c2, c3, c4, c5, c6⟩ := hat2
                clear k2
                simp only [putCe] at kk
                go_wp2
                go_roundw
                case rel => exact ⟨m + 1 + 1, by go_num, by omega, kk⟩
                case measure => simp [intOf]; omega
          · have b2 : ((atC xs j).part == 2) = false := by simp [e2]
            have ha : aloneB xs j = false := by rw [hal]; simp [e1, e2]
            have kk := hkeep ha
            clear hkeep hstep hal ha hsrc hnext hbl k hv hr
            go_wp2
            go_roundw
            case rel => exact ⟨j + 1, by go_num, by omega, kk⟩
            case measure => simp [intOf]; omega
      · have hjn : j = xs.length := by omega
        have hji : ¬ (j : Int) < (xs.length : Int) := by omega
        subst hjn
        clear hbl hv hr
        go_wp2
        go_ret
        exact ⟨_, rfl, k.1, k.2.1⟩
end Go.Proofs.YtngbndfnhpjmjaaDoor
namespace Go.Proofs.YtngbndfnhpjmjaaDoor
open Go.ChangeShapes Go.WideShapes Go.ChangeAt Go.RowKit
theorem st_iff (f b : Int) (bo un tu : Bool) (f' b' : Int) (bo' un' tu' : Bool) : (St.mk f b bo un tu = St.mk f' b' bo' un' tu') ↔ (f = f' ∧ b = b' ∧ bo = bo' ∧ un = un' ∧ tu = tu') := by
  constructor
  · intro e; cases e; simp
  · rintro ⟨rfl, rfl, rfl, rfl, rfl⟩; rfl
set_option maxHeartbeats 1000000 in
theorem eq_st (a b : St) (W : World) : (Op.equalIn 10000 28 (.agg #[.int .i64 a.fore, .int .i64 a.back, .bool a.bold, .bool a.under, .bool a.turned]) (.agg #[.int .i64 b.fore, .int .i64 b.back, .bool b.bold, .bool b.under, .bool b.turned])).run Tryd.prog W = .ok (decide (a = b)) W := by
  have hu := Tryd.underlying28
  have hi := Tryd.underlying2
  have hb := Tryd.underlying4
  obtain ⟨f, g, bo, un, tu⟩ := a
  obtain ⟨f', g', bo', un', tu'⟩ := b
  simp only [st_iff]
  rw [run_equalIn_struct W 9999 _ _ _ (by simp [Program.fieldsOf, hu]) (by kernel_rfl)]
  by_cases h1 : f = f' <;> by_cases h2 : g = g' <;> by_cases h3 : bo = bo' <;> by_cases h4 : un = un' <;> by_cases h5 : tu = tu' <;> simp [Program.fieldsOf, hu, hi, hb, Op.eqFields, go_sem, h1, h2, h3, h4, h5, Result.andThen]
end Go.Proofs.YtngbndfnhpjmjaaDoor
namespace Go.Proofs.YtngbndfnhpjmjaaDoor
open Go.ChangeShapes Go.WideShapes Go.ChangeAt Go.RowKit
attribute [local go_sem ↓] eq_st
/-- A cell in a block of its own. -/
def CeN (w : World) (B : Nat) (c : Ce) : Prop :=
  w.cell? ⟨B, 0, none⟩ = some (.int .i64 c.rune) ∧ w.cell? ⟨B, 1, none⟩ = some (.int .i64 c.st.fore) ∧ w.cell? ⟨B, 2, none⟩ = some (.int .i64 c.st.back) ∧ w.cell? ⟨B, 3, none⟩ = some (.bool c.st.bold) ∧ w.cell? ⟨B, 4, none⟩ = some (.bool c.st.under) ∧ w.cell? ⟨B, 5, none⟩ = some (.bool c.st.turned) ∧ w.cell? ⟨B, 6, none⟩ = some (.int .i64 c.part)
theorem CeN.new (w : World) (c : Ce) (t : TypeId) : CeN (w.alloc (.cells #[.int .i64 c.rune, .int .i64 c.st.fore, .int .i64 c.st.back, .bool c.st.bold, .bool c.st.under, .bool c.st.turned, .int .i64 c.part] t)) w.heap.size c :=
  ⟨by simp [go_sem], by simp [go_sem], by simp [go_sem], by simp [go_sem], by simp [go_sem], by simp [go_sem], by simp [go_sem]⟩
theorem CeN.below {w w' : World} {B : Nat} {c : Ce} (h : CeN w B c) (hb : Below w.heap.size w w') (hlt : B < w.heap.size) : CeN w' B c := by
  have e : ∀ k, w'.cell? ⟨B, k, none⟩ = w.cell? ⟨B, k, none⟩ := fun k => hb.cell (p := ⟨B, k, none⟩) hlt
  unfold CeN
  rw [e, e, e, e, e, e, e]
  exact h
set_option maxHeartbeats 16000000 in
set_option maxRecDepth 20000 in
theorem specRowOk_any (v : Value) (xs : List Ce) (w : World) (hv : SlC w v xs) (hl : xs.length ≤ 1048576) :
    Calls Tryd.prog 52 #[v] w fun e w' => e = .returned (.bool (rowOkB xs)) ∧ Below w.heap.size w w' := by
  have hOK := fun s W => specStyleOk_any s W
  obtain ⟨a, c, rfl, hcp, _, hr⟩ := id hv
  by_cases hn : 1 ≤ xs.length ∧ xs.length ≤ 60
  · obtain ⟨hn1, hn2⟩ := hn
    have hn1i : ¬ (xs.length : Int) < 1 := by omega
    have hn2i : ¬ 60 < (xs.length : Int) := by omega
    rcases hr with h | ⟨b, off, rfl, hbb, hsrc0⟩
    · rw [h] at hn1; simp at hn1
    unfold stV at hOK
    go_enter Tryd.func52, Tryd.ntmps52
    go_wp2
    go_loopw [4] (fun i wr => ∃ j : Nat, i = .int .i64 j ∧ j ≤ xs.length ∧ Hid (∀ k, k < j → cellOkB xs k = true) ∧ Below w.heap.size w wr) (fun i _ => xs.length - (intOf i).toNat)
    case atStart => exact ⟨0, rfl, Nat.zero_le _, (fun k hk => absurd hk (Nat.not_lt_zero k)), Below.refl _ _⟩
    case round =>
      obtain ⟨j, rfl, hj, hall, kb⟩ := hrel
      by_cases hlt : j < xs.length
      · have hji : (j : Int) < (xs.length : Int) := by omega
        have hj0 : (0 : Int) ≤ (j : Int) := by omega
        have hat := (hsrc0 j hlt).below kb hbb
        obtain ⟨c0, c1, c2, c3, c4, c5, c6⟩ := hat
        have hx := CeN.new wr (atC xs j) 67
        have kb1 := kb.trans ((bal' wr (Obj.cells #[.int .i64 (atC xs j).rune, .int .i64 (atC xs j).st.fore, .int .i64 (atC xs j).st.back, .bool (atC xs j).st.bold, .bool (atC xs j).st.under, .bool (atC xs j).st.turned, .int .i64 (atC xs j).part] 67)).mono kb.size)
        have hst := hOK (atC xs j).st
        obtain ⟨d0, d1, d2, d3, d4, d5, d6⟩ := id hx
        go_wp2_with fail
        refine (hst _).mono ?_
        rintro e w2 ⟨rfl, hb2⟩
        have hx2 := hx.below hb2 (by simp)
        have kb2 := kb1.trans (hb2.mono kb1.size)
        have hsrc : ∀ i, i < xs.length → CeAt w2 b (off + i * 7) (atC xs i) := fun i hi => (hsrc0 i hi).below kb2 hbb
        clear hx kb1 hb2 kb hst c0 c1 c2 c3 c4 c5 c6 d0 d1 d2 d3 d4 d5 d6 hv
        obtain ⟨d0, d1, d2, d3, d4, d5, d6⟩ := hx2
        cases hso : (atC xs j).st.ok
        · have hno : rowOkB xs = false := rowOkB_no xs j hlt (by unfold cellOkB; rw [hso]; rfl)
          clear hall hsrc
          go_wp2
          go_ret
          first | exact ⟨ret_bool hno.symm, kb2⟩ | exact ⟨rfl, kb2⟩ | exact ⟨rfl, kb2.drew⟩ | exact ⟨ret_bool hno.symm, kb2.drew⟩
        · by_cases e0 : (atC xs j).part = 0
          · have b0 : ((atC xs j).part == 0) = true := by simp [e0]
            have hwd := specWidth_any (atC xs j).rune
            by_cases e1 : widthV (atC xs j).rune = 1
            · have b1 : (widthV (atC xs j).rune != 1) = false := by simp [e1]
              have hyes : cellOkB xs j = true := by unfold cellOkB; rw [hso, if_pos e0]; simp [e1]
              have hall' : Hid (∀ k, k < j + 1 → cellOkB xs k = true) := fun k hk => by rcases Nat.lt_succ_iff_lt_or_eq.1 hk with h | rfl; exact hall.out k h; exact hyes
              clear hall hsrc hyes e1
              go_wp2_with fail
              refine (hwd _).mono ?_
              rintro e w3 ⟨rfl, hw3⟩
              subst hw3
              go_wp2
              go_roundw
              case rel => exact ⟨j + 1, by go_num, by omega, hall', (by first | exact kb2 | exact kb2.drew)⟩
              case measure => simp [intOf]; omega
            · have b1 : (widthV (atC xs j).rune != 1) = true := by simp [e1]
              have hno : rowOkB xs = false := rowOkB_no xs j hlt (by unfold cellOkB; rw [hso, if_pos e0]; simp [e1])
              clear hall hsrc e1
              go_wp2_with fail
              refine (hwd _).mono ?_
              rintro e w3 ⟨rfl, hw3⟩
              subst hw3
              go_wp2
              go_ret
              first | exact ⟨ret_bool hno.symm, kb2⟩ | exact ⟨rfl, kb2⟩ | exact ⟨rfl, kb2.drew⟩ | exact ⟨ret_bool hno.symm, kb2.drew⟩
          · have b0 : ((atC xs j).part == 0) = false := by simp [e0]
            by_cases e1 : (atC xs j).part = 1
            · have b1 : ((atC xs j).part == 1) = true := by simp [e1]
              have hlj : j < xs.length := hlt
              by_cases e2 : widthV (atC xs j).rune = 2
              · have b2 : (widthV (atC xs j).rune != 2) = false := by simp [e2]
                by_cases e3 : j + 1 = xs.length
                · have b3 : ((j : Int) + 1 == (xs.length : Int)) = true := by simp; omega
                  have hwr : IntKind.i64.wrap ((j : Int) + 1) = (j : Int) + 1 := by simp [IntKind.wrap_i64]; omega
                  have hno : rowOkB xs = false := rowOkB_no xs j hlt (by unfold cellOkB; rw [hso, if_neg e0, if_pos e1, decide_eq_false (show ¬ j + 1 < xs.length by omega)]; simp)
                  clear hall hsrc e2 e3
                  go_wp2
                  refine wp_region_noPanic ?_
                  refine wp_region_held_drew (S := fun W => W = w2.drew) (by kernel_rfl) rfl (fun hHeld => ?_)
                  refine' wpAnyH_take (i := 0) (v := _) rfl (by kernel_rfl) (by kernel_rfl) (by kernel_rfl) (fun _ _ _ h => h) (Or.inl ⟨by rfl, ?hy1⟩) hHeld ?hr1
                  case hy1 => (intro w hSw; (try dsimp only at hSw); subst hSw; go_simp; (try with_reducible rfl))
                  simp only [Act.put, List.setIfInBounds_toArray, List.set_cons_zero, List.set_cons_succ, List.getElem_toArray, List.getElem_cons_zero]
                  refine' wpAnyH_take (i := 1) (v := _) rfl (by kernel_rfl) (by kernel_rfl) (by kernel_rfl) (fun _ _ _ h => h) (Or.inl ⟨by rfl, ?hy2⟩) hHeld ?hr2
                  case hy2 => (intro w hSw; (try dsimp only at hSw); subst hSw; go_simp; (try with_reducible rfl))
                  simp only [Act.put, List.setIfInBounds_toArray, List.set_cons_zero, List.set_cons_succ, List.getElem_toArray, List.getElem_cons_zero, List.getElem_cons_succ]
                  refine wpAnyH_ready (rs := [2]) (by kernel_rfl) (by simp) (AllReadyH.cons rfl (fun K hK => ?_) AllReadyH.nil)
                  go_simp
                  refine (specWidth_any _ _).mono ?_
                  rintro e wk ⟨rfl, hwk⟩
                  subst hwk
                  go_wp2_with fail
                  refine hK.out _ _ (by rfl) (fun hHeld => ?_)
                  clear hK K
                  (try simp only [Act.put, List.setIfInBounds_toArray, List.set_cons_zero, List.set_cons_succ])
                  refine' wpAnyH_take (i := 3) (v := _) rfl (by kernel_rfl) (by kernel_rfl) (by kernel_rfl) (fun _ _ _ h => h) (Or.inl ⟨by rfl, ?hy3⟩) hHeld ?hr3
                  case hy3 => (intro w hSw; (try dsimp only at hSw); subst hSw; go_simp; (try with_reducible rfl))
                  simp only [Act.put, List.setIfInBounds_toArray, List.set_cons_zero, List.set_cons_succ, List.getElem_toArray, List.getElem_cons_zero, List.getElem_cons_succ]
                  refine' wpAnyH_take (i := 4) (v := _) rfl (by kernel_rfl) (by kernel_rfl) (by kernel_rfl) (fun _ _ _ h => h) (Or.inl ⟨by rfl, ?hy4⟩) hHeld ?hr4
                  case hy4 => (intro w hSw; (try dsimp only at hSw); subst hSw; go_simp; (try with_reducible rfl))
                  simp only [Act.put, List.setIfInBounds_toArray, List.set_cons_zero, List.set_cons_succ, List.getElem_toArray, List.getElem_cons_zero, List.getElem_cons_succ]
                  refine' wpAnyH_take (i := 5) (v := _) rfl (by kernel_rfl) (by kernel_rfl) (by kernel_rfl) (fun _ _ _ h => h) (Or.inl ⟨by rfl, ?hy5⟩) hHeld ?hr5
                  case hy5 => (intro w hSw; (try dsimp only at hSw); subst hSw; go_simp; (try with_reducible rfl))
                  simp only [Act.put, List.setIfInBounds_toArray, List.set_cons_zero, List.set_cons_succ, List.getElem_toArray, List.getElem_cons_zero, List.getElem_cons_succ]
                  refine' wpAnyH_take (i := 6) (v := _) rfl (by kernel_rfl) (by kernel_rfl) (by kernel_rfl) (fun _ _ _ h => h) (Or.inl ⟨by rfl, ?hy6⟩) hHeld ?hr6
                  case hy6 => (intro w hSw; (try dsimp only at hSw); subst hSw; go_simp; (try with_reducible rfl))
                  simp only [Act.put, List.setIfInBounds_toArray, List.set_cons_zero, List.set_cons_succ, List.getElem_toArray, List.getElem_cons_zero, List.getElem_cons_succ]
                  refine' wpAnyH_take (i := 7) (v := _) rfl (by kernel_rfl) (by kernel_rfl) (by kernel_rfl) (fun _ _ _ h => h) (Or.inl ⟨by rfl, ?hy7⟩) hHeld ?hr7
                  case hy7 => (intro w hSw; (try dsimp only at hSw); subst hSw; go_simp; (try with_reducible rfl))
                  simp only [Act.put, List.setIfInBounds_toArray, List.set_cons_zero, List.set_cons_succ, List.getElem_toArray, List.getElem_cons_zero, List.getElem_cons_succ]
                  refine' wpAnyH_take (i := 8) (v := _) rfl (by kernel_rfl) (by kernel_rfl) (by kernel_rfl) (fun _ _ _ h => h) (Or.inl ⟨by rfl, ?hy8⟩) hHeld ?hr8
                  case hy8 => (intro w hSw; (try dsimp only at hSw); subst hSw; go_simp; (try with_reducible rfl))
                  simp only [Act.put, List.setIfInBounds_toArray, List.set_cons_zero, List.set_cons_succ, List.getElem_toArray, List.getElem_cons_zero, List.getElem_cons_succ]
                  refine' wpAnyH_take (i := 9) (v := _) rfl (by kernel_rfl) (by kernel_rfl) (by kernel_rfl) (fun _ _ _ h => h) (Or.inl ⟨by rfl, ?hy9⟩) hHeld ?hr9
                  case hy9 => (intro w hSw; (try dsimp only at hSw); subst hSw; go_simp; (try with_reducible rfl))
                  simp only [Act.put, List.setIfInBounds_toArray, List.set_cons_zero, List.set_cons_succ, List.getElem_toArray, List.getElem_cons_zero, List.getElem_cons_succ]
                  refine' wpAnyH_take (i := 10) (v := _) rfl (by kernel_rfl) (by kernel_rfl) (by kernel_rfl) (fun _ _ _ h => h) (Or.inl ⟨by rfl, ?hy10⟩) hHeld ?hr10
                  case hy10 => (intro w hSw; (try dsimp only at hSw); subst hSw; go_simp; (try with_reducible rfl))
                  simp only [Act.put, List.setIfInBounds_toArray, List.set_cons_zero, List.set_cons_succ, List.getElem_toArray, List.getElem_cons_zero, List.getElem_cons_succ]
                  refine wpAnyH_take (i := 11) (v := undef) rfl (by kernel_rfl) (by kernel_rfl) (by kernel_rfl) (fun _ _ _ h => h) (Or.inr ⟨by rfl, rfl⟩) hHeld ?_
                  simp only [Act.put, List.setIfInBounds_toArray, List.set_cons_zero, List.set_cons_succ, List.getElem_toArray, List.getElem_cons_zero, List.getElem_cons_succ]
                  refine wpAnyH_take (i := 12) (v := undef) rfl (by kernel_rfl) (by kernel_rfl) (by kernel_rfl) (fun _ _ _ h => h) (Or.inr ⟨by rfl, rfl⟩) hHeld ?_
                  simp only [Act.put, List.setIfInBounds_toArray, List.set_cons_zero, List.set_cons_succ, List.getElem_toArray, List.getElem_cons_zero, List.getElem_cons_succ]
                  refine wpAnyH_take (i := 13) (v := undef) rfl (by kernel_rfl) (by kernel_rfl) (by kernel_rfl) (fun _ _ _ h => h) (Or.inr ⟨by rfl, rfl⟩) hHeld ?_
                  simp only [Act.put, List.setIfInBounds_toArray, List.set_cons_zero, List.set_cons_succ, List.getElem_toArray, List.getElem_cons_zero, List.getElem_cons_succ]
                  refine wpAnyH_take (i := 14) (v := undef) rfl (by kernel_rfl) (by kernel_rfl) (by kernel_rfl) (fun _ _ _ h => h) (Or.inr ⟨by rfl, rfl⟩) hHeld ?_
                  simp only [Act.put, List.setIfInBounds_toArray, List.set_cons_zero, List.set_cons_succ, List.getElem_toArray, List.getElem_cons_zero, List.getElem_cons_succ]
                  refine wpAnyH_take (i := 15) (v := undef) rfl (by kernel_rfl) (by kernel_rfl) (by kernel_rfl) (fun _ _ _ h => h) (Or.inr ⟨by rfl, rfl⟩) hHeld ?_
                  simp only [Act.put, List.setIfInBounds_toArray, List.set_cons_zero, List.set_cons_succ, List.getElem_toArray, List.getElem_cons_zero, List.getElem_cons_succ]
                  refine wpAnyH_take (i := 16) (v := undef) rfl (by kernel_rfl) (by kernel_rfl) (by kernel_rfl) (fun _ _ _ h => h) (Or.inr ⟨by rfl, rfl⟩) hHeld ?_
                  simp only [Act.put, List.setIfInBounds_toArray, List.set_cons_zero, List.set_cons_succ, List.getElem_toArray, List.getElem_cons_zero, List.getElem_cons_succ]
                  refine wpAnyH_take (i := 17) (v := undef) rfl (by kernel_rfl) (by kernel_rfl) (by kernel_rfl) (fun _ _ _ h => h) (Or.inr ⟨by rfl, rfl⟩) hHeld ?_
                  simp only [Act.put, List.setIfInBounds_toArray, List.set_cons_zero, List.set_cons_succ, List.getElem_toArray, List.getElem_cons_zero, List.getElem_cons_succ]
                  refine' wpAnyH_take (i := 18) (v := _) rfl (by kernel_rfl) (by kernel_rfl) (by kernel_rfl) (fun _ _ _ h => h) (Or.inl ⟨by rfl, ?hy11⟩) hHeld ?hr11
                  case hy11 => (intro w hSw; (try dsimp only at hSw); subst hSw; go_simp; (try with_reducible rfl))
                  simp only [Act.put, List.setIfInBounds_toArray, List.set_cons_zero, List.set_cons_succ, List.getElem_toArray, List.getElem_cons_zero, List.getElem_cons_succ]
                  refine' wpAnyH_take (i := 19) (v := _) rfl (by kernel_rfl) (by kernel_rfl) (by kernel_rfl) (fun _ _ _ h => h) (Or.inl ⟨by rfl, ?hy12⟩) hHeld ?hr12
                  case hy12 => (intro w hSw; (try dsimp only at hSw); subst hSw; go_simp; (try with_reducible rfl))
                  simp only [Act.put, List.setIfInBounds_toArray, List.set_cons_zero, List.set_cons_succ, List.getElem_toArray, List.getElem_cons_zero, List.getElem_cons_succ]
                  refine wpAnyH_take (i := 20) (v := undef) rfl (by kernel_rfl) (by kernel_rfl) (by kernel_rfl) (fun _ _ _ h => h) (Or.inr ⟨by rfl, rfl⟩) hHeld ?_
                  simp only [Act.put, List.setIfInBounds_toArray, List.set_cons_zero, List.set_cons_succ, List.getElem_toArray, List.getElem_cons_zero, List.getElem_cons_succ]
                  refine wpAnyH_take (i := 21) (v := undef) rfl (by kernel_rfl) (by kernel_rfl) (by kernel_rfl) (fun _ _ _ h => h) (Or.inr ⟨by rfl, rfl⟩) hHeld ?_
                  simp only [Act.put, List.setIfInBounds_toArray, List.set_cons_zero, List.set_cons_succ, List.getElem_toArray, List.getElem_cons_zero, List.getElem_cons_succ]
                  refine wpAnyH_take (i := 22) (v := undef) rfl (by kernel_rfl) (by kernel_rfl) (by kernel_rfl) (fun _ _ _ h => h) (Or.inr ⟨by rfl, rfl⟩) hHeld ?_
                  simp only [Act.put, List.setIfInBounds_toArray, List.set_cons_zero, List.set_cons_succ, List.getElem_toArray, List.getElem_cons_zero, List.getElem_cons_succ]
                  refine wpAnyH_take (i := 23) (v := undef) rfl (by kernel_rfl) (by kernel_rfl) (by kernel_rfl) (fun _ _ _ h => h) (Or.inr ⟨by rfl, rfl⟩) hHeld ?_
                  simp only [Act.put, List.setIfInBounds_toArray, List.set_cons_zero, List.set_cons_succ, List.getElem_toArray, List.getElem_cons_zero, List.getElem_cons_succ]
                  refine wpAnyH_take (i := 24) (v := undef) rfl (by kernel_rfl) (by kernel_rfl) (by kernel_rfl) (fun _ _ _ h => h) (Or.inr ⟨by rfl, rfl⟩) hHeld ?_
                  simp only [Act.put, List.setIfInBounds_toArray, List.set_cons_zero, List.set_cons_succ, List.getElem_toArray, List.getElem_cons_zero, List.getElem_cons_succ]
                  refine wpAnyH_take (i := 25) (v := undef) rfl (by kernel_rfl) (by kernel_rfl) (by kernel_rfl) (fun _ _ _ h => h) (Or.inr ⟨by rfl, rfl⟩) hHeld ?_
                  simp only [Act.put, List.setIfInBounds_toArray, List.set_cons_zero, List.set_cons_succ, List.getElem_toArray, List.getElem_cons_zero, List.getElem_cons_succ]
                  refine wpAnyH_take (i := 26) (v := undef) rfl (by kernel_rfl) (by kernel_rfl) (by kernel_rfl) (fun _ _ _ h => h) (Or.inr ⟨by rfl, rfl⟩) hHeld ?_
                  simp only [Act.put, List.setIfInBounds_toArray, List.set_cons_zero, List.set_cons_succ, List.getElem_toArray, List.getElem_cons_zero, List.getElem_cons_succ]
                  refine wpAnyH_take (i := 27) (v := undef) rfl (by kernel_rfl) (by kernel_rfl) (by kernel_rfl) (fun _ _ _ h => h) (Or.inr ⟨by rfl, rfl⟩) hHeld ?_
                  simp only [Act.put, List.setIfInBounds_toArray, List.set_cons_zero, List.set_cons_succ, List.getElem_toArray, List.getElem_cons_zero, List.getElem_cons_succ]
                  refine wpAnyH_take (i := 28) (v := undef) rfl (by kernel_rfl) (by kernel_rfl) (by kernel_rfl) (fun _ _ _ h => h) (Or.inr ⟨by rfl, rfl⟩) hHeld ?_
                  simp only [Act.put, List.setIfInBounds_toArray, List.set_cons_zero, List.set_cons_succ, List.getElem_toArray, List.getElem_cons_zero, List.getElem_cons_succ]
                  refine' wpAnyH_take (i := 29) (v := _) rfl (by kernel_rfl) (by kernel_rfl) (by kernel_rfl) (fun _ _ _ h => h) (Or.inl ⟨by rfl, ?hy13⟩) hHeld ?hr13
                  case hy13 => (intro w hSw; (try dsimp only at hSw); subst hSw; go_simp; (try with_reducible rfl))
                  simp only [Act.put, List.setIfInBounds_toArray, List.set_cons_zero, List.set_cons_succ, List.getElem_toArray, List.getElem_cons_zero, List.getElem_cons_succ]
                  refine wpAnyH_done (by kernel_rfl) ?_ _
                  refine NoPanic.normal ?_
                  go_wp2
                  go_ret
                  first | exact ⟨ret_bool hno.symm, kb2⟩ | exact ⟨rfl, kb2⟩ | exact ⟨rfl, kb2.drew⟩ | exact ⟨ret_bool hno.symm, kb2.drew⟩
                · have b3 : ((j : Int) + 1 == (xs.length : Int)) = false := by simp; omega
                  have hwr : IntKind.i64.wrap ((j : Int) + 1) = (j : Int) + 1 := by simp [IntKind.wrap_i64]; omega
                  have hj1 : j + 1 < xs.length := by omega
                  have hj1i : (j : Int) + 1 < (xs.length : Int) := by omega
                  have hj1z : (0 : Int) ≤ (j : Int) + 1 := by omega
                  obtain ⟨q0, q1, q2, q3, q4, q5, q6⟩ := hsrc (j + 1) hj1
                  by_cases e4 : (atC xs (j + 1)).part = 2
                  · have b4 : ((atC xs (j + 1)).part != 2) = false := by simp [e4]
                    by_cases e5 : (atC xs (j + 1)).st = (atC xs j).st
                    · have b5 : decide ((atC xs (j + 1)).st = (atC xs j).st) = true := decide_eq_true e5
                      have hyes : cellOkB xs j = true := by unfold cellOkB; rw [hso, if_neg e0, if_pos e1, decide_eq_true e2, decide_eq_true hj1, decide_eq_true e4, b5]; rfl
                      have hall' : Hid (∀ k, k < j + 1 → cellOkB xs k = true) := fun k hk => by rcases Nat.lt_succ_iff_lt_or_eq.1 hk with h | rfl; exact hall.out k h; exact hyes
                      clear hall hsrc hyes e2 e5
                      go_wp2
                      refine wp_region_noPanic ?_
                      refine wp_region_held_drew (S := fun W => W = w2.drew) (by kernel_rfl) rfl (fun hHeld => ?_)
                      refine' wpAnyH_take (i := 0) (v := _) rfl (by kernel_rfl) (by kernel_rfl) (by kernel_rfl) (fun _ _ _ h => h) (Or.inl ⟨by rfl, ?hy14⟩) hHeld ?hr14
                      case hy14 => (intro w hSw; (try dsimp only at hSw); subst hSw; go_simp; (try with_reducible rfl))
                      simp only [Act.put, List.setIfInBounds_toArray, List.set_cons_zero, List.set_cons_succ, List.getElem_toArray, List.getElem_cons_zero]
                      refine' wpAnyH_take (i := 1) (v := _) rfl (by kernel_rfl) (by kernel_rfl) (by kernel_rfl) (fun _ _ _ h => h) (Or.inl ⟨by rfl, ?hy15⟩) hHeld ?hr15
                      case hy15 => (intro w hSw; (try dsimp only at hSw); subst hSw; go_simp; (try with_reducible rfl))
                      simp only [Act.put, List.setIfInBounds_toArray, List.set_cons_zero, List.set_cons_succ, List.getElem_toArray, List.getElem_cons_zero, List.getElem_cons_succ]
                      refine wpAnyH_ready (rs := [2]) (by kernel_rfl) (by simp) (AllReadyH.cons rfl (fun K hK => ?_) AllReadyH.nil)
                      go_simp
                      refine (specWidth_any _ _).mono ?_
                      rintro e wk ⟨rfl, hwk⟩
                      subst hwk
                      go_wp2_with fail
                      refine hK.out _ _ (by rfl) (fun hHeld => ?_)
                      clear hK K
                      (try simp only [Act.put, List.setIfInBounds_toArray, List.set_cons_zero, List.set_cons_succ])
                      refine' wpAnyH_take (i := 3) (v := _) rfl (by kernel_rfl) (by kernel_rfl) (by kernel_rfl) (fun _ _ _ h => h) (Or.inl ⟨by rfl, ?hy16⟩) hHeld ?hr16
                      case hy16 => (intro w hSw; (try dsimp only at hSw); subst hSw; go_simp; (try with_reducible rfl))
                      simp only [Act.put, List.setIfInBounds_toArray, List.set_cons_zero, List.set_cons_succ, List.getElem_toArray, List.getElem_cons_zero, List.getElem_cons_succ]
                      refine' wpAnyH_take (i := 4) (v := _) rfl (by kernel_rfl) (by kernel_rfl) (by kernel_rfl) (fun _ _ _ h => h) (Or.inl ⟨by rfl, ?hy17⟩) hHeld ?hr17
                      case hy17 => (intro w hSw; (try dsimp only at hSw); subst hSw; go_simp; (try with_reducible rfl))
                      simp only [Act.put, List.setIfInBounds_toArray, List.set_cons_zero, List.set_cons_succ, List.getElem_toArray, List.getElem_cons_zero, List.getElem_cons_succ]
                      refine' wpAnyH_take (i := 5) (v := _) rfl (by kernel_rfl) (by kernel_rfl) (by kernel_rfl) (fun _ _ _ h => h) (Or.inl ⟨by rfl, ?hy18⟩) hHeld ?hr18
                      case hy18 => (intro w hSw; (try dsimp only at hSw); subst hSw; go_simp; (try with_reducible rfl))
                      simp only [Act.put, List.setIfInBounds_toArray, List.set_cons_zero, List.set_cons_succ, List.getElem_toArray, List.getElem_cons_zero, List.getElem_cons_succ]
                      refine' wpAnyH_take (i := 6) (v := _) rfl (by kernel_rfl) (by kernel_rfl) (by kernel_rfl) (fun _ _ _ h => h) (Or.inl ⟨by rfl, ?hy19⟩) hHeld ?hr19
                      case hy19 => (intro w hSw; (try dsimp only at hSw); subst hSw; go_simp; (try with_reducible rfl))
                      simp only [Act.put, List.setIfInBounds_toArray, List.set_cons_zero, List.set_cons_succ, List.getElem_toArray, List.getElem_cons_zero, List.getElem_cons_succ]
                      refine' wpAnyH_take (i := 7) (v := _) rfl (by kernel_rfl) (by kernel_rfl) (by kernel_rfl) (fun _ _ _ h => h) (Or.inl ⟨by rfl, ?hy20⟩) hHeld ?hr20
                      case hy20 => (intro w hSw; (try dsimp only at hSw); subst hSw; go_simp; (try with_reducible rfl))
                      simp only [Act.put, List.setIfInBounds_toArray, List.set_cons_zero, List.set_cons_succ, List.getElem_toArray, List.getElem_cons_zero, List.getElem_cons_succ]
                      refine' wpAnyH_take (i := 8) (v := _) rfl (by kernel_rfl) (by kernel_rfl) (by kernel_rfl) (fun _ _ _ h => h) (Or.inl ⟨by rfl, ?hy21⟩) hHeld ?hr21
                      case hy21 => (intro w hSw; (try dsimp only at hSw); subst hSw; go_simp; (try with_reducible rfl))
                      simp only [Act.put, List.setIfInBounds_toArray, List.set_cons_zero, List.set_cons_succ, List.getElem_toArray, List.getElem_cons_zero, List.getElem_cons_succ]
                      refine' wpAnyH_take (i := 9) (v := _) rfl (by kernel_rfl) (by kernel_rfl) (by kernel_rfl) (fun _ _ _ h => h) (Or.inl ⟨by rfl, ?hy22⟩) hHeld ?hr22
                      case hy22 => (intro w hSw; (try dsimp only at hSw); subst hSw; go_simp; (try with_reducible rfl))
                      simp only [Act.put, List.setIfInBounds_toArray, List.set_cons_zero, List.set_cons_succ, List.getElem_toArray, List.getElem_cons_zero, List.getElem_cons_succ]
                      refine' wpAnyH_take (i := 10) (v := _) rfl (by kernel_rfl) (by kernel_rfl) (by kernel_rfl) (fun _ _ _ h => h) (Or.inl ⟨by rfl, ?hy23⟩) hHeld ?hr23
                      case hy23 => (intro w hSw; (try dsimp only at hSw); subst hSw; go_simp; (try with_reducible rfl))
                      simp only [Act.put, List.setIfInBounds_toArray, List.set_cons_zero, List.set_cons_succ, List.getElem_toArray, List.getElem_cons_zero, List.getElem_cons_succ]
                      refine' wpAnyH_take (i := 11) (v := _) rfl (by kernel_rfl) (by kernel_rfl) (by kernel_rfl) (fun _ _ _ h => h) (Or.inl ⟨by rfl, ?hy24⟩) hHeld ?hr24
                      case hy24 => (intro w hSw; (try dsimp only at hSw); subst hSw; go_simp; (try with_reducible rfl))
                      simp only [Act.put, List.setIfInBounds_toArray, List.set_cons_zero, List.set_cons_succ, List.getElem_toArray, List.getElem_cons_zero, List.getElem_cons_succ]
                      refine' wpAnyH_take (i := 12) (v := _) rfl (by kernel_rfl) (by kernel_rfl) (by kernel_rfl) (fun _ _ _ h => h) (Or.inl ⟨by rfl, ?hy25⟩) hHeld ?hr25
                      case hy25 => (intro w hSw; (try dsimp only at hSw); subst hSw; go_simp; (try with_reducible rfl))
                      simp only [Act.put, List.setIfInBounds_toArray, List.set_cons_zero, List.set_cons_succ, List.getElem_toArray, List.getElem_cons_zero, List.getElem_cons_succ]
                      refine' wpAnyH_take (i := 13) (v := _) rfl (by kernel_rfl) (by kernel_rfl) (by kernel_rfl) (fun _ _ _ h => h) (Or.inl ⟨by rfl, ?hy26⟩) hHeld ?hr26
                      case hy26 => (intro w hSw; (try dsimp only at hSw); subst hSw; go_simp; (try with_reducible rfl))
                      simp only [Act.put, List.setIfInBounds_toArray, List.set_cons_zero, List.set_cons_succ, List.getElem_toArray, List.getElem_cons_zero, List.getElem_cons_succ]
                      refine' wpAnyH_take (i := 14) (v := _) rfl (by kernel_rfl) (by kernel_rfl) (by kernel_rfl) (fun _ _ _ h => h) (Or.inl ⟨by rfl, ?hy27⟩) hHeld ?hr27
                      case hy27 => (intro w hSw; (try dsimp only at hSw); subst hSw; go_simp; (try with_reducible rfl))
                      simp only [Act.put, List.setIfInBounds_toArray, List.set_cons_zero, List.set_cons_succ, List.getElem_toArray, List.getElem_cons_zero, List.getElem_cons_succ]
                      refine' wpAnyH_take (i := 15) (v := _) rfl (by kernel_rfl) (by kernel_rfl) (by kernel_rfl) (fun _ _ _ h => h) (Or.inl ⟨by rfl, ?hy28⟩) hHeld ?hr28
                      case hy28 => (intro w hSw; (try dsimp only at hSw); subst hSw; go_simp; (try with_reducible rfl))
                      simp only [Act.put, List.setIfInBounds_toArray, List.set_cons_zero, List.set_cons_succ, List.getElem_toArray, List.getElem_cons_zero, List.getElem_cons_succ]
                      refine' wpAnyH_take (i := 16) (v := _) rfl (by kernel_rfl) (by kernel_rfl) (by kernel_rfl) (fun _ _ _ h => h) (Or.inl ⟨by rfl, ?hy29⟩) hHeld ?hr29
                      case hy29 => (intro w hSw; (try dsimp only at hSw); subst hSw; go_simp; (try with_reducible rfl))
                      simp only [Act.put, List.setIfInBounds_toArray, List.set_cons_zero, List.set_cons_succ, List.getElem_toArray, List.getElem_cons_zero, List.getElem_cons_succ]
                      refine' wpAnyH_take (i := 17) (v := _) rfl (by kernel_rfl) (by kernel_rfl) (by kernel_rfl) (fun _ _ _ h => h) (Or.inl ⟨by rfl, ?hy30⟩) hHeld ?hr30
                      case hy30 => (intro w hSw; (try dsimp only at hSw); subst hSw; go_simp; (try with_reducible rfl))
                      simp only [Act.put, List.setIfInBounds_toArray, List.set_cons_zero, List.set_cons_succ, List.getElem_toArray, List.getElem_cons_zero, List.getElem_cons_succ]
                      refine' wpAnyH_take (i := 18) (v := _) rfl (by kernel_rfl) (by kernel_rfl) (by kernel_rfl) (fun _ _ _ h => h) (Or.inl ⟨by rfl, ?hy31⟩) hHeld ?hr31
                      case hy31 => (intro w hSw; (try dsimp only at hSw); subst hSw; go_simp; (try with_reducible rfl))
                      simp only [Act.put, List.setIfInBounds_toArray, List.set_cons_zero, List.set_cons_succ, List.getElem_toArray, List.getElem_cons_zero, List.getElem_cons_succ]
                      refine' wpAnyH_take (i := 19) (v := _) rfl (by kernel_rfl) (by kernel_rfl) (by kernel_rfl) (fun _ _ _ h => h) (Or.inl ⟨by rfl, ?hy32⟩) hHeld ?hr32
                      case hy32 => (intro w hSw; (try dsimp only at hSw); subst hSw; go_simp; (try with_reducible rfl))
                      simp only [Act.put, List.setIfInBounds_toArray, List.set_cons_zero, List.set_cons_succ, List.getElem_toArray, List.getElem_cons_zero, List.getElem_cons_succ]
                      refine' wpAnyH_take (i := 20) (v := _) rfl (by kernel_rfl) (by kernel_rfl) (by kernel_rfl) (fun _ _ _ h => h) (Or.inl ⟨by rfl, ?hy33⟩) hHeld ?hr33
                      case hy33 => (intro w hSw; (try dsimp only at hSw); subst hSw; go_simp; (try with_reducible rfl))
                      simp only [Act.put, List.setIfInBounds_toArray, List.set_cons_zero, List.set_cons_succ, List.getElem_toArray, List.getElem_cons_zero, List.getElem_cons_succ]
                      refine' wpAnyH_take (i := 21) (v := _) rfl (by kernel_rfl) (by kernel_rfl) (by kernel_rfl) (fun _ _ _ h => h) (Or.inl ⟨by rfl, ?hy34⟩) hHeld ?hr34
                      case hy34 => (intro w hSw; (try dsimp only at hSw); subst hSw; go_simp; (try with_reducible rfl))
                      simp only [Act.put, List.setIfInBounds_toArray, List.set_cons_zero, List.set_cons_succ, List.getElem_toArray, List.getElem_cons_zero, List.getElem_cons_succ]
                      refine' wpAnyH_take (i := 22) (v := _) rfl (by kernel_rfl) (by kernel_rfl) (by kernel_rfl) (fun _ _ _ h => h) (Or.inl ⟨by rfl, ?hy35⟩) hHeld ?hr35
                      case hy35 => (intro w hSw; (try dsimp only at hSw); subst hSw; go_simp; (try with_reducible rfl))
                      simp only [Act.put, List.setIfInBounds_toArray, List.set_cons_zero, List.set_cons_succ, List.getElem_toArray, List.getElem_cons_zero, List.getElem_cons_succ]
                      refine' wpAnyH_take (i := 23) (v := _) rfl (by kernel_rfl) (by kernel_rfl) (by kernel_rfl) (fun _ _ _ h => h) (Or.inl ⟨by rfl, ?hy36⟩) hHeld ?hr36
                      case hy36 => (intro w hSw; (try dsimp only at hSw); subst hSw; go_simp; (try with_reducible rfl))
                      simp only [Act.put, List.setIfInBounds_toArray, List.set_cons_zero, List.set_cons_succ, List.getElem_toArray, List.getElem_cons_zero, List.getElem_cons_succ]
                      refine' wpAnyH_take (i := 24) (v := _) rfl (by kernel_rfl) (by kernel_rfl) (by kernel_rfl) (fun _ _ _ h => h) (Or.inl ⟨by rfl, ?hy37⟩) hHeld ?hr37
                      case hy37 => (intro w hSw; (try dsimp only at hSw); subst hSw; go_simp; (try with_reducible rfl))
                      simp only [Act.put, List.setIfInBounds_toArray, List.set_cons_zero, List.set_cons_succ, List.getElem_toArray, List.getElem_cons_zero, List.getElem_cons_succ]
                      refine' wpAnyH_take (i := 25) (v := _) rfl (by kernel_rfl) (by kernel_rfl) (by kernel_rfl) (fun _ _ _ h => h) (Or.inl ⟨by rfl, ?hy38⟩) hHeld ?hr38
                      case hy38 => (intro w hSw; (try dsimp only at hSw); subst hSw; go_simp; (try with_reducible rfl))
                      simp only [Act.put, List.setIfInBounds_toArray, List.set_cons_zero, List.set_cons_succ, List.getElem_toArray, List.getElem_cons_zero, List.getElem_cons_succ]
                      refine' wpAnyH_take (i := 26) (v := _) rfl (by kernel_rfl) (by kernel_rfl) (by kernel_rfl) (fun _ _ _ h => h) (Or.inl ⟨by rfl, ?hy39⟩) hHeld ?hr39
                      case hy39 => (intro w hSw; (try dsimp only at hSw); subst hSw; go_simp; (try with_reducible rfl))
                      simp only [Act.put, List.setIfInBounds_toArray, List.set_cons_zero, List.set_cons_succ, List.getElem_toArray, List.getElem_cons_zero, List.getElem_cons_succ]
                      refine' wpAnyH_take (i := 27) (v := _) rfl (by kernel_rfl) (by kernel_rfl) (by kernel_rfl) (fun _ _ _ h => h) (Or.inl ⟨by rfl, ?hy40⟩) hHeld ?hr40
                      case hy40 => (intro w hSw; (try dsimp only at hSw); subst hSw; go_simp; (try with_reducible rfl))
                      simp only [Act.put, List.setIfInBounds_toArray, List.set_cons_zero, List.set_cons_succ, List.getElem_toArray, List.getElem_cons_zero, List.getElem_cons_succ]
                      refine' wpAnyH_take (i := 28) (v := _) rfl (by kernel_rfl) (by kernel_rfl) (by kernel_rfl) (fun _ _ _ h => h) (Or.inl ⟨by rfl, ?hy41⟩) hHeld ?hr41
                      case hy41 => (intro w hSw; (try dsimp only at hSw); subst hSw; go_simp; (try with_reducible rfl))
                      simp only [Act.put, List.setIfInBounds_toArray, List.set_cons_zero, List.set_cons_succ, List.getElem_toArray, List.getElem_cons_zero, List.getElem_cons_succ]
                      refine' wpAnyH_take (i := 29) (v := _) rfl (by kernel_rfl) (by kernel_rfl) (by kernel_rfl) (fun _ _ _ h => h) (Or.inl ⟨by rfl, ?hy42⟩) hHeld ?hr42
                      case hy42 => (intro w hSw; (try dsimp only at hSw); subst hSw; go_simp; (try with_reducible rfl))
                      simp only [Act.put, List.setIfInBounds_toArray, List.set_cons_zero, List.set_cons_succ, List.getElem_toArray, List.getElem_cons_zero, List.getElem_cons_succ]
                      refine wpAnyH_done (by kernel_rfl) ?_ _
                      refine NoPanic.normal ?_
                      go_wp2
                      go_roundw
                      case rel => exact ⟨j + 1, by go_num, by omega, hall', (by first | exact kb2 | exact kb2.drew)⟩
                      case measure => simp [intOf]; omega
                    · have b5 : decide ((atC xs (j + 1)).st = (atC xs j).st) = false := decide_eq_false e5
                      have hno : rowOkB xs = false := rowOkB_no xs j hlt (by unfold cellOkB; rw [hso, if_neg e0, if_pos e1, b5]; simp)
                      clear hall hsrc e2 e5
                      go_wp2
                      refine wp_region_noPanic ?_
                      refine wp_region_held_drew (S := fun W => W = w2.drew) (by kernel_rfl) rfl (fun hHeld => ?_)
                      refine' wpAnyH_take (i := 0) (v := _) rfl (by kernel_rfl) (by kernel_rfl) (by kernel_rfl) (fun _ _ _ h => h) (Or.inl ⟨by rfl, ?hy43⟩) hHeld ?hr43
                      case hy43 => (intro w hSw; (try dsimp only at hSw); subst hSw; go_simp; (try with_reducible rfl))
                      simp only [Act.put, List.setIfInBounds_toArray, List.set_cons_zero, List.set_cons_succ, List.getElem_toArray, List.getElem_cons_zero]
                      refine' wpAnyH_take (i := 1) (v := _) rfl (by kernel_rfl) (by kernel_rfl) (by kernel_rfl) (fun _ _ _ h => h) (Or.inl ⟨by rfl, ?hy44⟩) hHeld ?hr44
                      case hy44 => (intro w hSw; (try dsimp only at hSw); subst hSw; go_simp; (try with_reducible rfl))
                      simp only [Act.put, List.setIfInBounds_toArray, List.set_cons_zero, List.set_cons_succ, List.getElem_toArray, List.getElem_cons_zero, List.getElem_cons_succ]
                      refine wpAnyH_ready (rs := [2]) (by kernel_rfl) (by simp) (AllReadyH.cons rfl (fun K hK => ?_) AllReadyH.nil)
                      go_simp
                      refine (specWidth_any _ _).mono ?_
                      rintro e wk ⟨rfl, hwk⟩
                      subst hwk
                      go_wp2_with fail
                      refine hK.out _ _ (by rfl) (fun hHeld => ?_)
                      clear hK K
                      (try simp only [Act.put, List.setIfInBounds_toArray, List.set_cons_zero, List.set_cons_succ])
                      refine' wpAnyH_take (i := 3) (v := _) rfl (by kernel_rfl) (by kernel_rfl) (by kernel_rfl) (fun _ _ _ h => h) (Or.inl ⟨by rfl, ?hy45⟩) hHeld ?hr45
                      case hy45 => (intro w hSw; (try dsimp only at hSw); subst hSw; go_simp; (try with_reducible rfl))
                      simp only [Act.put, List.setIfInBounds_toArray, List.set_cons_zero, List.set_cons_succ, List.getElem_toArray, List.getElem_cons_zero, List.getElem_cons_succ]
                      refine' wpAnyH_take (i := 4) (v := _) rfl (by kernel_rfl) (by kernel_rfl) (by kernel_rfl) (fun _ _ _ h => h) (Or.inl ⟨by rfl, ?hy46⟩) hHeld ?hr46
                      case hy46 => (intro w hSw; (try dsimp only at hSw); subst hSw; go_simp; (try with_reducible rfl))
                      simp only [Act.put, List.setIfInBounds_toArray, List.set_cons_zero, List.set_cons_succ, List.getElem_toArray, List.getElem_cons_zero, List.getElem_cons_succ]
                      refine' wpAnyH_take (i := 5) (v := _) rfl (by kernel_rfl) (by kernel_rfl) (by kernel_rfl) (fun _ _ _ h => h) (Or.inl ⟨by rfl, ?hy47⟩) hHeld ?hr47
                      case hy47 => (intro w hSw; (try dsimp only at hSw); subst hSw; go_simp; (try with_reducible rfl))
                      simp only [Act.put, List.setIfInBounds_toArray, List.set_cons_zero, List.set_cons_succ, List.getElem_toArray, List.getElem_cons_zero, List.getElem_cons_succ]
                      refine' wpAnyH_take (i := 6) (v := _) rfl (by kernel_rfl) (by kernel_rfl) (by kernel_rfl) (fun _ _ _ h => h) (Or.inl ⟨by rfl, ?hy48⟩) hHeld ?hr48
                      case hy48 => (intro w hSw; (try dsimp only at hSw); subst hSw; go_simp; (try with_reducible rfl))
                      simp only [Act.put, List.setIfInBounds_toArray, List.set_cons_zero, List.set_cons_succ, List.getElem_toArray, List.getElem_cons_zero, List.getElem_cons_succ]
                      refine' wpAnyH_take (i := 7) (v := _) rfl (by kernel_rfl) (by kernel_rfl) (by kernel_rfl) (fun _ _ _ h => h) (Or.inl ⟨by rfl, ?hy49⟩) hHeld ?hr49
                      case hy49 => (intro w hSw; (try dsimp only at hSw); subst hSw; go_simp; (try with_reducible rfl))
                      simp only [Act.put, List.setIfInBounds_toArray, List.set_cons_zero, List.set_cons_succ, List.getElem_toArray, List.getElem_cons_zero, List.getElem_cons_succ]
                      refine' wpAnyH_take (i := 8) (v := _) rfl (by kernel_rfl) (by kernel_rfl) (by kernel_rfl) (fun _ _ _ h => h) (Or.inl ⟨by rfl, ?hy50⟩) hHeld ?hr50
                      case hy50 => (intro w hSw; (try dsimp only at hSw); subst hSw; go_simp; (try with_reducible rfl))
                      simp only [Act.put, List.setIfInBounds_toArray, List.set_cons_zero, List.set_cons_succ, List.getElem_toArray, List.getElem_cons_zero, List.getElem_cons_succ]
                      refine' wpAnyH_take (i := 9) (v := _) rfl (by kernel_rfl) (by kernel_rfl) (by kernel_rfl) (fun _ _ _ h => h) (Or.inl ⟨by rfl, ?hy51⟩) hHeld ?hr51
                      case hy51 => (intro w hSw; (try dsimp only at hSw); subst hSw; go_simp; (try with_reducible rfl))
                      simp only [Act.put, List.setIfInBounds_toArray, List.set_cons_zero, List.set_cons_succ, List.getElem_toArray, List.getElem_cons_zero, List.getElem_cons_succ]
                      refine' wpAnyH_take (i := 10) (v := _) rfl (by kernel_rfl) (by kernel_rfl) (by kernel_rfl) (fun _ _ _ h => h) (Or.inl ⟨by rfl, ?hy52⟩) hHeld ?hr52
                      case hy52 => (intro w hSw; (try dsimp only at hSw); subst hSw; go_simp; (try with_reducible rfl))
                      simp only [Act.put, List.setIfInBounds_toArray, List.set_cons_zero, List.set_cons_succ, List.getElem_toArray, List.getElem_cons_zero, List.getElem_cons_succ]
                      refine' wpAnyH_take (i := 11) (v := _) rfl (by kernel_rfl) (by kernel_rfl) (by kernel_rfl) (fun _ _ _ h => h) (Or.inl ⟨by rfl, ?hy53⟩) hHeld ?hr53
                      case hy53 => (intro w hSw; (try dsimp only at hSw); subst hSw; go_simp; (try with_reducible rfl))
                      simp only [Act.put, List.setIfInBounds_toArray, List.set_cons_zero, List.set_cons_succ, List.getElem_toArray, List.getElem_cons_zero, List.getElem_cons_succ]
                      refine' wpAnyH_take (i := 12) (v := _) rfl (by kernel_rfl) (by kernel_rfl) (by kernel_rfl) (fun _ _ _ h => h) (Or.inl ⟨by rfl, ?hy54⟩) hHeld ?hr54
                      case hy54 => (intro w hSw; (try dsimp only at hSw); subst hSw; go_simp; (try with_reducible rfl))
                      simp only [Act.put, List.setIfInBounds_toArray, List.set_cons_zero, List.set_cons_succ, List.getElem_toArray, List.getElem_cons_zero, List.getElem_cons_succ]
                      refine' wpAnyH_take (i := 13) (v := _) rfl (by kernel_rfl) (by kernel_rfl) (by kernel_rfl) (fun _ _ _ h => h) (Or.inl ⟨by rfl, ?hy55⟩) hHeld ?hr55
                      case hy55 => (intro w hSw; (try dsimp only at hSw); subst hSw; go_simp; (try with_reducible rfl))
                      simp only [Act.put, List.setIfInBounds_toArray, List.set_cons_zero, List.set_cons_succ, List.getElem_toArray, List.getElem_cons_zero, List.getElem_cons_succ]
                      refine' wpAnyH_take (i := 14) (v := _) rfl (by kernel_rfl) (by kernel_rfl) (by kernel_rfl) (fun _ _ _ h => h) (Or.inl ⟨by rfl, ?hy56⟩) hHeld ?hr56
                      case hy56 => (intro w hSw; (try dsimp only at hSw); subst hSw; go_simp; (try with_reducible rfl))
                      simp only [Act.put, List.setIfInBounds_toArray, List.set_cons_zero, List.set_cons_succ, List.getElem_toArray, List.getElem_cons_zero, List.getElem_cons_succ]
                      refine' wpAnyH_take (i := 15) (v := _) rfl (by kernel_rfl) (by kernel_rfl) (by kernel_rfl) (fun _ _ _ h => h) (Or.inl ⟨by rfl, ?hy57⟩) hHeld ?hr57
                      case hy57 => (intro w hSw; (try dsimp only at hSw); subst hSw; go_simp; (try with_reducible rfl))
                      simp only [Act.put, List.setIfInBounds_toArray, List.set_cons_zero, List.set_cons_succ, List.getElem_toArray, List.getElem_cons_zero, List.getElem_cons_succ]
                      refine' wpAnyH_take (i := 16) (v := _) rfl (by kernel_rfl) (by kernel_rfl) (by kernel_rfl) (fun _ _ _ h => h) (Or.inl ⟨by rfl, ?hy58⟩) hHeld ?hr58
                      case hy58 => (intro w hSw; (try dsimp only at hSw); subst hSw; go_simp; (try with_reducible rfl))
                      simp only [Act.put, List.setIfInBounds_toArray, List.set_cons_zero, List.set_cons_succ, List.getElem_toArray, List.getElem_cons_zero, List.getElem_cons_succ]
                      refine' wpAnyH_take (i := 17) (v := _) rfl (by kernel_rfl) (by kernel_rfl) (by kernel_rfl) (fun _ _ _ h => h) (Or.inl ⟨by rfl, ?hy59⟩) hHeld ?hr59
                      case hy59 => (intro w hSw; (try dsimp only at hSw); subst hSw; go_simp; (try with_reducible rfl))
                      simp only [Act.put, List.setIfInBounds_toArray, List.set_cons_zero, List.set_cons_succ, List.getElem_toArray, List.getElem_cons_zero, List.getElem_cons_succ]
                      refine' wpAnyH_take (i := 18) (v := _) rfl (by kernel_rfl) (by kernel_rfl) (by kernel_rfl) (fun _ _ _ h => h) (Or.inl ⟨by rfl, ?hy60⟩) hHeld ?hr60
                      case hy60 => (intro w hSw; (try dsimp only at hSw); subst hSw; go_simp; (try with_reducible rfl))
                      simp only [Act.put, List.setIfInBounds_toArray, List.set_cons_zero, List.set_cons_succ, List.getElem_toArray, List.getElem_cons_zero, List.getElem_cons_succ]
                      refine' wpAnyH_take (i := 19) (v := _) rfl (by kernel_rfl) (by kernel_rfl) (by kernel_rfl) (fun _ _ _ h => h) (Or.inl ⟨by rfl, ?hy61⟩) hHeld ?hr61
                      case hy61 => (intro w hSw; (try dsimp only at hSw); subst hSw; go_simp; (try with_reducible rfl))
                      simp only [Act.put, List.setIfInBounds_toArray, List.set_cons_zero, List.set_cons_succ, List.getElem_toArray, List.getElem_cons_zero, List.getElem_cons_succ]
                      refine' wpAnyH_take (i := 20) (v := _) rfl (by kernel_rfl) (by kernel_rfl) (by kernel_rfl) (fun _ _ _ h => h) (Or.inl ⟨by rfl, ?hy62⟩) hHeld ?hr62
                      case hy62 => (intro w hSw; (try dsimp only at hSw); subst hSw; go_simp; (try with_reducible rfl))
                      simp only [Act.put, List.setIfInBounds_toArray, List.set_cons_zero, List.set_cons_succ, List.getElem_toArray, List.getElem_cons_zero, List.getElem_cons_succ]
                      refine' wpAnyH_take (i := 21) (v := _) rfl (by kernel_rfl) (by kernel_rfl) (by kernel_rfl) (fun _ _ _ h => h) (Or.inl ⟨by rfl, ?hy63⟩) hHeld ?hr63
                      case hy63 => (intro w hSw; (try dsimp only at hSw); subst hSw; go_simp; (try with_reducible rfl))
                      simp only [Act.put, List.setIfInBounds_toArray, List.set_cons_zero, List.set_cons_succ, List.getElem_toArray, List.getElem_cons_zero, List.getElem_cons_succ]
                      refine' wpAnyH_take (i := 22) (v := _) rfl (by kernel_rfl) (by kernel_rfl) (by kernel_rfl) (fun _ _ _ h => h) (Or.inl ⟨by rfl, ?hy64⟩) hHeld ?hr64
                      case hy64 => (intro w hSw; (try dsimp only at hSw); subst hSw; go_simp; (try with_reducible rfl))
                      simp only [Act.put, List.setIfInBounds_toArray, List.set_cons_zero, List.set_cons_succ, List.getElem_toArray, List.getElem_cons_zero, List.getElem_cons_succ]
                      refine' wpAnyH_take (i := 23) (v := _) rfl (by kernel_rfl) (by kernel_rfl) (by kernel_rfl) (fun _ _ _ h => h) (Or.inl ⟨by rfl, ?hy65⟩) hHeld ?hr65
                      case hy65 => (intro w hSw; (try dsimp only at hSw); subst hSw; go_simp; (try with_reducible rfl))
                      simp only [Act.put, List.setIfInBounds_toArray, List.set_cons_zero, List.set_cons_succ, List.getElem_toArray, List.getElem_cons_zero, List.getElem_cons_succ]
                      refine' wpAnyH_take (i := 24) (v := _) rfl (by kernel_rfl) (by kernel_rfl) (by kernel_rfl) (fun _ _ _ h => h) (Or.inl ⟨by rfl, ?hy66⟩) hHeld ?hr66
                      case hy66 => (intro w hSw; (try dsimp only at hSw); subst hSw; go_simp; (try with_reducible rfl))
                      simp only [Act.put, List.setIfInBounds_toArray, List.set_cons_zero, List.set_cons_succ, List.getElem_toArray, List.getElem_cons_zero, List.getElem_cons_succ]
                      refine' wpAnyH_take (i := 25) (v := _) rfl (by kernel_rfl) (by kernel_rfl) (by kernel_rfl) (fun _ _ _ h => h) (Or.inl ⟨by rfl, ?hy67⟩) hHeld ?hr67
                      case hy67 => (intro w hSw; (try dsimp only at hSw); subst hSw; go_simp; (try with_reducible rfl))
                      simp only [Act.put, List.setIfInBounds_toArray, List.set_cons_zero, List.set_cons_succ, List.getElem_toArray, List.getElem_cons_zero, List.getElem_cons_succ]
                      refine' wpAnyH_take (i := 26) (v := _) rfl (by kernel_rfl) (by kernel_rfl) (by kernel_rfl) (fun _ _ _ h => h) (Or.inl ⟨by rfl, ?hy68⟩) hHeld ?hr68
                      case hy68 => (intro w hSw; (try dsimp only at hSw); subst hSw; go_simp; (try with_reducible rfl))
                      simp only [Act.put, List.setIfInBounds_toArray, List.set_cons_zero, List.set_cons_succ, List.getElem_toArray, List.getElem_cons_zero, List.getElem_cons_succ]
                      refine' wpAnyH_take (i := 27) (v := _) rfl (by kernel_rfl) (by kernel_rfl) (by kernel_rfl) (fun _ _ _ h => h) (Or.inl ⟨by rfl, ?hy69⟩) hHeld ?hr69
                      case hy69 => (intro w hSw; (try dsimp only at hSw); subst hSw; go_simp; (try with_reducible rfl))
                      simp only [Act.put, List.setIfInBounds_toArray, List.set_cons_zero, List.set_cons_succ, List.getElem_toArray, List.getElem_cons_zero, List.getElem_cons_succ]
                      refine' wpAnyH_take (i := 28) (v := _) rfl (by kernel_rfl) (by kernel_rfl) (by kernel_rfl) (fun _ _ _ h => h) (Or.inl ⟨by rfl, ?hy70⟩) hHeld ?hr70
                      case hy70 => (intro w hSw; (try dsimp only at hSw); subst hSw; go_simp; (try with_reducible rfl))
                      simp only [Act.put, List.setIfInBounds_toArray, List.set_cons_zero, List.set_cons_succ, List.getElem_toArray, List.getElem_cons_zero, List.getElem_cons_succ]
                      refine' wpAnyH_take (i := 29) (v := _) rfl (by kernel_rfl) (by kernel_rfl) (by kernel_rfl) (fun _ _ _ h => h) (Or.inl ⟨by rfl, ?hy71⟩) hHeld ?hr71
                      case hy71 => (intro w hSw; (try dsimp only at hSw); subst hSw; go_simp; (try with_reducible rfl))
                      simp only [Act.put, List.setIfInBounds_toArray, List.set_cons_zero, List.set_cons_succ, List.getElem_toArray, List.getElem_cons_zero, List.getElem_cons_succ]
                      refine wpAnyH_done (by kernel_rfl) ?_ _
                      refine NoPanic.normal ?_
                      go_wp2
                      go_ret
                      first | exact ⟨ret_bool hno.symm, kb2⟩ | exact ⟨rfl, kb2⟩ | exact ⟨rfl, kb2.drew⟩ | exact ⟨ret_bool hno.symm, kb2.drew⟩
                  · have b4 : ((atC xs (j + 1)).part != 2) = true := by simp [e4]
                    have hno : rowOkB xs = false := rowOkB_no xs j hlt (by unfold cellOkB; rw [hso, if_neg e0, if_pos e1, decide_eq_false e4]; simp)
                    clear hall hsrc e2
                    go_wp2
                    refine wp_region_noPanic ?_
                    refine wp_region_held_drew (S := fun W => W = w2.drew) (by kernel_rfl) rfl (fun hHeld => ?_)
                    refine' wpAnyH_take (i := 0) (v := _) rfl (by kernel_rfl) (by kernel_rfl) (by kernel_rfl) (fun _ _ _ h => h) (Or.inl ⟨by rfl, ?hy72⟩) hHeld ?hr72
                    case hy72 => (intro w hSw; (try dsimp only at hSw); subst hSw; go_simp; (try with_reducible rfl))
                    simp only [Act.put, List.setIfInBounds_toArray, List.set_cons_zero, List.set_cons_succ, List.getElem_toArray, List.getElem_cons_zero]
                    refine' wpAnyH_take (i := 1) (v := _) rfl (by kernel_rfl) (by kernel_rfl) (by kernel_rfl) (fun _ _ _ h => h) (Or.inl ⟨by rfl, ?hy73⟩) hHeld ?hr73
                    case hy73 => (intro w hSw; (try dsimp only at hSw); subst hSw; go_simp; (try with_reducible rfl))
                    simp only [Act.put, List.setIfInBounds_toArray, List.set_cons_zero, List.set_cons_succ, List.getElem_toArray, List.getElem_cons_zero, List.getElem_cons_succ]
                    refine wpAnyH_ready (rs := [2]) (by kernel_rfl) (by simp) (AllReadyH.cons rfl (fun K hK => ?_) AllReadyH.nil)
                    go_simp
                    refine (specWidth_any _ _).mono ?_
                    rintro e wk ⟨rfl, hwk⟩
                    subst hwk
                    go_wp2_with fail
                    refine hK.out _ _ (by rfl) (fun hHeld => ?_)
                    clear hK K
                    (try simp only [Act.put, List.setIfInBounds_toArray, List.set_cons_zero, List.set_cons_succ])
                    refine' wpAnyH_take (i := 3) (v := _) rfl (by kernel_rfl) (by kernel_rfl) (by kernel_rfl) (fun _ _ _ h => h) (Or.inl ⟨by rfl, ?hy74⟩) hHeld ?hr74
                    case hy74 => (intro w hSw; (try dsimp only at hSw); subst hSw; go_simp; (try with_reducible rfl))
                    simp only [Act.put, List.setIfInBounds_toArray, List.set_cons_zero, List.set_cons_succ, List.getElem_toArray, List.getElem_cons_zero, List.getElem_cons_succ]
                    refine' wpAnyH_take (i := 4) (v := _) rfl (by kernel_rfl) (by kernel_rfl) (by kernel_rfl) (fun _ _ _ h => h) (Or.inl ⟨by rfl, ?hy75⟩) hHeld ?hr75
                    case hy75 => (intro w hSw; (try dsimp only at hSw); subst hSw; go_simp; (try with_reducible rfl))
                    simp only [Act.put, List.setIfInBounds_toArray, List.set_cons_zero, List.set_cons_succ, List.getElem_toArray, List.getElem_cons_zero, List.getElem_cons_succ]
                    refine' wpAnyH_take (i := 5) (v := _) rfl (by kernel_rfl) (by kernel_rfl) (by kernel_rfl) (fun _ _ _ h => h) (Or.inl ⟨by rfl, ?hy76⟩) hHeld ?hr76
                    case hy76 => (intro w hSw; (try dsimp only at hSw); subst hSw; go_simp; (try with_reducible rfl))
                    simp only [Act.put, List.setIfInBounds_toArray, List.set_cons_zero, List.set_cons_succ, List.getElem_toArray, List.getElem_cons_zero, List.getElem_cons_succ]
                    refine' wpAnyH_take (i := 6) (v := _) rfl (by kernel_rfl) (by kernel_rfl) (by kernel_rfl) (fun _ _ _ h => h) (Or.inl ⟨by rfl, ?hy77⟩) hHeld ?hr77
                    case hy77 => (intro w hSw; (try dsimp only at hSw); subst hSw; go_simp; (try with_reducible rfl))
                    simp only [Act.put, List.setIfInBounds_toArray, List.set_cons_zero, List.set_cons_succ, List.getElem_toArray, List.getElem_cons_zero, List.getElem_cons_succ]
                    refine' wpAnyH_take (i := 7) (v := _) rfl (by kernel_rfl) (by kernel_rfl) (by kernel_rfl) (fun _ _ _ h => h) (Or.inl ⟨by rfl, ?hy78⟩) hHeld ?hr78
                    case hy78 => (intro w hSw; (try dsimp only at hSw); subst hSw; go_simp; (try with_reducible rfl))
                    simp only [Act.put, List.setIfInBounds_toArray, List.set_cons_zero, List.set_cons_succ, List.getElem_toArray, List.getElem_cons_zero, List.getElem_cons_succ]
                    refine' wpAnyH_take (i := 8) (v := _) rfl (by kernel_rfl) (by kernel_rfl) (by kernel_rfl) (fun _ _ _ h => h) (Or.inl ⟨by rfl, ?hy79⟩) hHeld ?hr79
                    case hy79 => (intro w hSw; (try dsimp only at hSw); subst hSw; go_simp; (try with_reducible rfl))
                    simp only [Act.put, List.setIfInBounds_toArray, List.set_cons_zero, List.set_cons_succ, List.getElem_toArray, List.getElem_cons_zero, List.getElem_cons_succ]
                    refine' wpAnyH_take (i := 9) (v := _) rfl (by kernel_rfl) (by kernel_rfl) (by kernel_rfl) (fun _ _ _ h => h) (Or.inl ⟨by rfl, ?hy80⟩) hHeld ?hr80
                    case hy80 => (intro w hSw; (try dsimp only at hSw); subst hSw; go_simp; (try with_reducible rfl))
                    simp only [Act.put, List.setIfInBounds_toArray, List.set_cons_zero, List.set_cons_succ, List.getElem_toArray, List.getElem_cons_zero, List.getElem_cons_succ]
                    refine' wpAnyH_take (i := 10) (v := _) rfl (by kernel_rfl) (by kernel_rfl) (by kernel_rfl) (fun _ _ _ h => h) (Or.inl ⟨by rfl, ?hy81⟩) hHeld ?hr81
                    case hy81 => (intro w hSw; (try dsimp only at hSw); subst hSw; go_simp; (try with_reducible rfl))
                    simp only [Act.put, List.setIfInBounds_toArray, List.set_cons_zero, List.set_cons_succ, List.getElem_toArray, List.getElem_cons_zero, List.getElem_cons_succ]
                    refine' wpAnyH_take (i := 11) (v := _) rfl (by kernel_rfl) (by kernel_rfl) (by kernel_rfl) (fun _ _ _ h => h) (Or.inl ⟨by rfl, ?hy82⟩) hHeld ?hr82
                    case hy82 => (intro w hSw; (try dsimp only at hSw); subst hSw; go_simp; (try with_reducible rfl))
                    simp only [Act.put, List.setIfInBounds_toArray, List.set_cons_zero, List.set_cons_succ, List.getElem_toArray, List.getElem_cons_zero, List.getElem_cons_succ]
                    refine' wpAnyH_take (i := 12) (v := _) rfl (by kernel_rfl) (by kernel_rfl) (by kernel_rfl) (fun _ _ _ h => h) (Or.inl ⟨by rfl, ?hy83⟩) hHeld ?hr83
                    case hy83 => (intro w hSw; (try dsimp only at hSw); subst hSw; go_simp; (try with_reducible rfl))
                    simp only [Act.put, List.setIfInBounds_toArray, List.set_cons_zero, List.set_cons_succ, List.getElem_toArray, List.getElem_cons_zero, List.getElem_cons_succ]
                    refine' wpAnyH_take (i := 13) (v := _) rfl (by kernel_rfl) (by kernel_rfl) (by kernel_rfl) (fun _ _ _ h => h) (Or.inl ⟨by rfl, ?hy84⟩) hHeld ?hr84
                    case hy84 => (intro w hSw; (try dsimp only at hSw); subst hSw; go_simp; (try with_reducible rfl))
                    simp only [Act.put, List.setIfInBounds_toArray, List.set_cons_zero, List.set_cons_succ, List.getElem_toArray, List.getElem_cons_zero, List.getElem_cons_succ]
                    refine' wpAnyH_take (i := 14) (v := _) rfl (by kernel_rfl) (by kernel_rfl) (by kernel_rfl) (fun _ _ _ h => h) (Or.inl ⟨by rfl, ?hy85⟩) hHeld ?hr85
                    case hy85 => (intro w hSw; (try dsimp only at hSw); subst hSw; go_simp; (try with_reducible rfl))
                    simp only [Act.put, List.setIfInBounds_toArray, List.set_cons_zero, List.set_cons_succ, List.getElem_toArray, List.getElem_cons_zero, List.getElem_cons_succ]
                    refine' wpAnyH_take (i := 15) (v := _) rfl (by kernel_rfl) (by kernel_rfl) (by kernel_rfl) (fun _ _ _ h => h) (Or.inl ⟨by rfl, ?hy86⟩) hHeld ?hr86
                    case hy86 => (intro w hSw; (try dsimp only at hSw); subst hSw; go_simp; (try with_reducible rfl))
                    simp only [Act.put, List.setIfInBounds_toArray, List.set_cons_zero, List.set_cons_succ, List.getElem_toArray, List.getElem_cons_zero, List.getElem_cons_succ]
                    refine' wpAnyH_take (i := 16) (v := _) rfl (by kernel_rfl) (by kernel_rfl) (by kernel_rfl) (fun _ _ _ h => h) (Or.inl ⟨by rfl, ?hy87⟩) hHeld ?hr87
                    case hy87 => (intro w hSw; (try dsimp only at hSw); subst hSw; go_simp; (try with_reducible rfl))
                    simp only [Act.put, List.setIfInBounds_toArray, List.set_cons_zero, List.set_cons_succ, List.getElem_toArray, List.getElem_cons_zero, List.getElem_cons_succ]
                    refine' wpAnyH_take (i := 17) (v := _) rfl (by kernel_rfl) (by kernel_rfl) (by kernel_rfl) (fun _ _ _ h => h) (Or.inl ⟨by rfl, ?hy88⟩) hHeld ?hr88
                    case hy88 => (intro w hSw; (try dsimp only at hSw); subst hSw; go_simp; (try with_reducible rfl))
                    simp only [Act.put, List.setIfInBounds_toArray, List.set_cons_zero, List.set_cons_succ, List.getElem_toArray, List.getElem_cons_zero, List.getElem_cons_succ]
                    refine' wpAnyH_take (i := 18) (v := _) rfl (by kernel_rfl) (by kernel_rfl) (by kernel_rfl) (fun _ _ _ h => h) (Or.inl ⟨by rfl, ?hy89⟩) hHeld ?hr89
                    case hy89 => (intro w hSw; (try dsimp only at hSw); subst hSw; go_simp; (try with_reducible rfl))
                    simp only [Act.put, List.setIfInBounds_toArray, List.set_cons_zero, List.set_cons_succ, List.getElem_toArray, List.getElem_cons_zero, List.getElem_cons_succ]
                    refine' wpAnyH_take (i := 19) (v := _) rfl (by kernel_rfl) (by kernel_rfl) (by kernel_rfl) (fun _ _ _ h => h) (Or.inl ⟨by rfl, ?hy90⟩) hHeld ?hr90
                    case hy90 => (intro w hSw; (try dsimp only at hSw); subst hSw; go_simp; (try with_reducible rfl))
                    simp only [Act.put, List.setIfInBounds_toArray, List.set_cons_zero, List.set_cons_succ, List.getElem_toArray, List.getElem_cons_zero, List.getElem_cons_succ]
                    refine wpAnyH_take (i := 20) (v := undef) rfl (by kernel_rfl) (by kernel_rfl) (by kernel_rfl) (fun _ _ _ h => h) (Or.inr ⟨by rfl, rfl⟩) hHeld ?_
                    simp only [Act.put, List.setIfInBounds_toArray, List.set_cons_zero, List.set_cons_succ, List.getElem_toArray, List.getElem_cons_zero, List.getElem_cons_succ]
                    refine wpAnyH_take (i := 21) (v := undef) rfl (by kernel_rfl) (by kernel_rfl) (by kernel_rfl) (fun _ _ _ h => h) (Or.inr ⟨by rfl, rfl⟩) hHeld ?_
                    simp only [Act.put, List.setIfInBounds_toArray, List.set_cons_zero, List.set_cons_succ, List.getElem_toArray, List.getElem_cons_zero, List.getElem_cons_succ]
                    refine wpAnyH_take (i := 22) (v := undef) rfl (by kernel_rfl) (by kernel_rfl) (by kernel_rfl) (fun _ _ _ h => h) (Or.inr ⟨by rfl, rfl⟩) hHeld ?_
                    simp only [Act.put, List.setIfInBounds_toArray, List.set_cons_zero, List.set_cons_succ, List.getElem_toArray, List.getElem_cons_zero, List.getElem_cons_succ]
                    refine wpAnyH_take (i := 23) (v := undef) rfl (by kernel_rfl) (by kernel_rfl) (by kernel_rfl) (fun _ _ _ h => h) (Or.inr ⟨by rfl, rfl⟩) hHeld ?_
                    simp only [Act.put, List.setIfInBounds_toArray, List.set_cons_zero, List.set_cons_succ, List.getElem_toArray, List.getElem_cons_zero, List.getElem_cons_succ]
                    refine wpAnyH_take (i := 24) (v := undef) rfl (by kernel_rfl) (by kernel_rfl) (by kernel_rfl) (fun _ _ _ h => h) (Or.inr ⟨by rfl, rfl⟩) hHeld ?_
                    simp only [Act.put, List.setIfInBounds_toArray, List.set_cons_zero, List.set_cons_succ, List.getElem_toArray, List.getElem_cons_zero, List.getElem_cons_succ]
                    refine wpAnyH_take (i := 25) (v := undef) rfl (by kernel_rfl) (by kernel_rfl) (by kernel_rfl) (fun _ _ _ h => h) (Or.inr ⟨by rfl, rfl⟩) hHeld ?_
                    simp only [Act.put, List.setIfInBounds_toArray, List.set_cons_zero, List.set_cons_succ, List.getElem_toArray, List.getElem_cons_zero, List.getElem_cons_succ]
                    refine wpAnyH_take (i := 26) (v := undef) rfl (by kernel_rfl) (by kernel_rfl) (by kernel_rfl) (fun _ _ _ h => h) (Or.inr ⟨by rfl, rfl⟩) hHeld ?_
                    simp only [Act.put, List.setIfInBounds_toArray, List.set_cons_zero, List.set_cons_succ, List.getElem_toArray, List.getElem_cons_zero, List.getElem_cons_succ]
                    refine wpAnyH_take (i := 27) (v := undef) rfl (by kernel_rfl) (by kernel_rfl) (by kernel_rfl) (fun _ _ _ h => h) (Or.inr ⟨by rfl, rfl⟩) hHeld ?_
                    simp only [Act.put, List.setIfInBounds_toArray, List.set_cons_zero, List.set_cons_succ, List.getElem_toArray, List.getElem_cons_zero, List.getElem_cons_succ]
                    refine wpAnyH_take (i := 28) (v := undef) rfl (by kernel_rfl) (by kernel_rfl) (by kernel_rfl) (fun _ _ _ h => h) (Or.inr ⟨by rfl, rfl⟩) hHeld ?_
                    simp only [Act.put, List.setIfInBounds_toArray, List.set_cons_zero, List.set_cons_succ, List.getElem_toArray, List.getElem_cons_zero, List.getElem_cons_succ]
                    refine' wpAnyH_take (i := 29) (v := _) rfl (by kernel_rfl) (by kernel_rfl) (by kernel_rfl) (fun _ _ _ h => h) (Or.inl ⟨by rfl, ?hy91⟩) hHeld ?hr91
                    case hy91 => (intro w hSw; (try dsimp only at hSw); subst hSw; go_simp; (try with_reducible rfl))
                    simp only [Act.put, List.setIfInBounds_toArray, List.set_cons_zero, List.set_cons_succ, List.getElem_toArray, List.getElem_cons_zero, List.getElem_cons_succ]
                    refine wpAnyH_done (by kernel_rfl) ?_ _
                    refine NoPanic.normal ?_
                    go_wp2
                    go_ret
                    first | exact ⟨ret_bool hno.symm, kb2⟩ | exact ⟨rfl, kb2⟩ | exact ⟨rfl, kb2.drew⟩ | exact ⟨ret_bool hno.symm, kb2.drew⟩
              · have b2 : (widthV (atC xs j).rune != 2) = true := by simp [e2]
                have hno : rowOkB xs = false := rowOkB_no xs j hlt (by unfold cellOkB; rw [hso, if_neg e0, if_pos e1, decide_eq_false e2]; simp)
                clear hall hsrc e2
                go_wp2
                refine wp_region_noPanic ?_
                refine wp_region_held_drew (S := fun W => W = w2.drew) (by kernel_rfl) rfl (fun hHeld => ?_)
                refine' wpAnyH_take (i := 0) (v := _) rfl (by kernel_rfl) (by kernel_rfl) (by kernel_rfl) (fun _ _ _ h => h) (Or.inl ⟨by rfl, ?hy92⟩) hHeld ?hr92
                case hy92 => (intro w hSw; (try dsimp only at hSw); subst hSw; go_simp; (try with_reducible rfl))
                simp only [Act.put, List.setIfInBounds_toArray, List.set_cons_zero, List.set_cons_succ, List.getElem_toArray, List.getElem_cons_zero]
                refine' wpAnyH_take (i := 1) (v := _) rfl (by kernel_rfl) (by kernel_rfl) (by kernel_rfl) (fun _ _ _ h => h) (Or.inl ⟨by rfl, ?hy93⟩) hHeld ?hr93
                case hy93 => (intro w hSw; (try dsimp only at hSw); subst hSw; go_simp; (try with_reducible rfl))
                simp only [Act.put, List.setIfInBounds_toArray, List.set_cons_zero, List.set_cons_succ, List.getElem_toArray, List.getElem_cons_zero, List.getElem_cons_succ]
                refine wpAnyH_ready (rs := [2]) (by kernel_rfl) (by simp) (AllReadyH.cons rfl (fun K hK => ?_) AllReadyH.nil)
                go_simp
                refine (specWidth_any _ _).mono ?_
                rintro e wk ⟨rfl, hwk⟩
                subst hwk
                go_wp2_with fail
                refine hK.out _ _ (by rfl) (fun hHeld => ?_)
                clear hK K
                (try simp only [Act.put, List.setIfInBounds_toArray, List.set_cons_zero, List.set_cons_succ])
                refine' wpAnyH_take (i := 3) (v := _) rfl (by kernel_rfl) (by kernel_rfl) (by kernel_rfl) (fun _ _ _ h => h) (Or.inl ⟨by rfl, ?hy94⟩) hHeld ?hr94
                case hy94 => (intro w hSw; (try dsimp only at hSw); subst hSw; go_simp; (try with_reducible rfl))
                simp only [Act.put, List.setIfInBounds_toArray, List.set_cons_zero, List.set_cons_succ, List.getElem_toArray, List.getElem_cons_zero, List.getElem_cons_succ]
                refine' wpAnyH_take (i := 4) (v := _) rfl (by kernel_rfl) (by kernel_rfl) (by kernel_rfl) (fun _ _ _ h => h) (Or.inl ⟨by rfl, ?hy95⟩) hHeld ?hr95
                case hy95 => (intro w hSw; (try dsimp only at hSw); subst hSw; go_simp; (try with_reducible rfl))
                simp only [Act.put, List.setIfInBounds_toArray, List.set_cons_zero, List.set_cons_succ, List.getElem_toArray, List.getElem_cons_zero, List.getElem_cons_succ]
                refine wpAnyH_take (i := 5) (v := undef) rfl (by kernel_rfl) (by kernel_rfl) (by kernel_rfl) (fun _ _ _ h => h) (Or.inr ⟨by rfl, rfl⟩) hHeld ?_
                simp only [Act.put, List.setIfInBounds_toArray, List.set_cons_zero, List.set_cons_succ, List.getElem_toArray, List.getElem_cons_zero, List.getElem_cons_succ]
                refine wpAnyH_take (i := 6) (v := undef) rfl (by kernel_rfl) (by kernel_rfl) (by kernel_rfl) (fun _ _ _ h => h) (Or.inr ⟨by rfl, rfl⟩) hHeld ?_
                simp only [Act.put, List.setIfInBounds_toArray, List.set_cons_zero, List.set_cons_succ, List.getElem_toArray, List.getElem_cons_zero, List.getElem_cons_succ]
                refine wpAnyH_take (i := 7) (v := undef) rfl (by kernel_rfl) (by kernel_rfl) (by kernel_rfl) (fun _ _ _ h => h) (Or.inr ⟨by rfl, rfl⟩) hHeld ?_
                simp only [Act.put, List.setIfInBounds_toArray, List.set_cons_zero, List.set_cons_succ, List.getElem_toArray, List.getElem_cons_zero, List.getElem_cons_succ]
                refine wpAnyH_take (i := 8) (v := undef) rfl (by kernel_rfl) (by kernel_rfl) (by kernel_rfl) (fun _ _ _ h => h) (Or.inr ⟨by rfl, rfl⟩) hHeld ?_
                simp only [Act.put, List.setIfInBounds_toArray, List.set_cons_zero, List.set_cons_succ, List.getElem_toArray, List.getElem_cons_zero, List.getElem_cons_succ]
                refine' wpAnyH_take (i := 9) (v := _) rfl (by kernel_rfl) (by kernel_rfl) (by kernel_rfl) (fun _ _ _ h => h) (Or.inl ⟨by rfl, ?hy96⟩) hHeld ?hr96
                case hy96 => (intro w hSw; (try dsimp only at hSw); subst hSw; go_simp; (try with_reducible rfl))
                simp only [Act.put, List.setIfInBounds_toArray, List.set_cons_zero, List.set_cons_succ, List.getElem_toArray, List.getElem_cons_zero, List.getElem_cons_succ]
                refine' wpAnyH_take (i := 10) (v := _) rfl (by kernel_rfl) (by kernel_rfl) (by kernel_rfl) (fun _ _ _ h => h) (Or.inl ⟨by rfl, ?hy97⟩) hHeld ?hr97
                case hy97 => (intro w hSw; (try dsimp only at hSw); subst hSw; go_simp; (try with_reducible rfl))
                simp only [Act.put, List.setIfInBounds_toArray, List.set_cons_zero, List.set_cons_succ, List.getElem_toArray, List.getElem_cons_zero, List.getElem_cons_succ]
                refine wpAnyH_take (i := 11) (v := undef) rfl (by kernel_rfl) (by kernel_rfl) (by kernel_rfl) (fun _ _ _ h => h) (Or.inr ⟨by rfl, rfl⟩) hHeld ?_
                simp only [Act.put, List.setIfInBounds_toArray, List.set_cons_zero, List.set_cons_succ, List.getElem_toArray, List.getElem_cons_zero, List.getElem_cons_succ]
                refine wpAnyH_take (i := 12) (v := undef) rfl (by kernel_rfl) (by kernel_rfl) (by kernel_rfl) (fun _ _ _ h => h) (Or.inr ⟨by rfl, rfl⟩) hHeld ?_
                simp only [Act.put, List.setIfInBounds_toArray, List.set_cons_zero, List.set_cons_succ, List.getElem_toArray, List.getElem_cons_zero, List.getElem_cons_succ]
                refine wpAnyH_take (i := 13) (v := undef) rfl (by kernel_rfl) (by kernel_rfl) (by kernel_rfl) (fun _ _ _ h => h) (Or.inr ⟨by rfl, rfl⟩) hHeld ?_
                simp only [Act.put, List.setIfInBounds_toArray, List.set_cons_zero, List.set_cons_succ, List.getElem_toArray, List.getElem_cons_zero, List.getElem_cons_succ]
                refine wpAnyH_take (i := 14) (v := undef) rfl (by kernel_rfl) (by kernel_rfl) (by kernel_rfl) (fun _ _ _ h => h) (Or.inr ⟨by rfl, rfl⟩) hHeld ?_
                simp only [Act.put, List.setIfInBounds_toArray, List.set_cons_zero, List.set_cons_succ, List.getElem_toArray, List.getElem_cons_zero, List.getElem_cons_succ]
                refine wpAnyH_take (i := 15) (v := undef) rfl (by kernel_rfl) (by kernel_rfl) (by kernel_rfl) (fun _ _ _ h => h) (Or.inr ⟨by rfl, rfl⟩) hHeld ?_
                simp only [Act.put, List.setIfInBounds_toArray, List.set_cons_zero, List.set_cons_succ, List.getElem_toArray, List.getElem_cons_zero, List.getElem_cons_succ]
                refine wpAnyH_take (i := 16) (v := undef) rfl (by kernel_rfl) (by kernel_rfl) (by kernel_rfl) (fun _ _ _ h => h) (Or.inr ⟨by rfl, rfl⟩) hHeld ?_
                simp only [Act.put, List.setIfInBounds_toArray, List.set_cons_zero, List.set_cons_succ, List.getElem_toArray, List.getElem_cons_zero, List.getElem_cons_succ]
                refine wpAnyH_take (i := 17) (v := undef) rfl (by kernel_rfl) (by kernel_rfl) (by kernel_rfl) (fun _ _ _ h => h) (Or.inr ⟨by rfl, rfl⟩) hHeld ?_
                simp only [Act.put, List.setIfInBounds_toArray, List.set_cons_zero, List.set_cons_succ, List.getElem_toArray, List.getElem_cons_zero, List.getElem_cons_succ]
                refine' wpAnyH_take (i := 18) (v := _) rfl (by kernel_rfl) (by kernel_rfl) (by kernel_rfl) (fun _ _ _ h => h) (Or.inl ⟨by rfl, ?hy98⟩) hHeld ?hr98
                case hy98 => (intro w hSw; (try dsimp only at hSw); subst hSw; go_simp; (try with_reducible rfl))
                simp only [Act.put, List.setIfInBounds_toArray, List.set_cons_zero, List.set_cons_succ, List.getElem_toArray, List.getElem_cons_zero, List.getElem_cons_succ]
                refine' wpAnyH_take (i := 19) (v := _) rfl (by kernel_rfl) (by kernel_rfl) (by kernel_rfl) (fun _ _ _ h => h) (Or.inl ⟨by rfl, ?hy99⟩) hHeld ?hr99
                case hy99 => (intro w hSw; (try dsimp only at hSw); subst hSw; go_simp; (try with_reducible rfl))
                simp only [Act.put, List.setIfInBounds_toArray, List.set_cons_zero, List.set_cons_succ, List.getElem_toArray, List.getElem_cons_zero, List.getElem_cons_succ]
                refine wpAnyH_take (i := 20) (v := undef) rfl (by kernel_rfl) (by kernel_rfl) (by kernel_rfl) (fun _ _ _ h => h) (Or.inr ⟨by rfl, rfl⟩) hHeld ?_
                simp only [Act.put, List.setIfInBounds_toArray, List.set_cons_zero, List.set_cons_succ, List.getElem_toArray, List.getElem_cons_zero, List.getElem_cons_succ]
                refine wpAnyH_take (i := 21) (v := undef) rfl (by kernel_rfl) (by kernel_rfl) (by kernel_rfl) (fun _ _ _ h => h) (Or.inr ⟨by rfl, rfl⟩) hHeld ?_
                simp only [Act.put, List.setIfInBounds_toArray, List.set_cons_zero, List.set_cons_succ, List.getElem_toArray, List.getElem_cons_zero, List.getElem_cons_succ]
                refine wpAnyH_take (i := 22) (v := undef) rfl (by kernel_rfl) (by kernel_rfl) (by kernel_rfl) (fun _ _ _ h => h) (Or.inr ⟨by rfl, rfl⟩) hHeld ?_
                simp only [Act.put, List.setIfInBounds_toArray, List.set_cons_zero, List.set_cons_succ, List.getElem_toArray, List.getElem_cons_zero, List.getElem_cons_succ]
                refine wpAnyH_take (i := 23) (v := undef) rfl (by kernel_rfl) (by kernel_rfl) (by kernel_rfl) (fun _ _ _ h => h) (Or.inr ⟨by rfl, rfl⟩) hHeld ?_
                simp only [Act.put, List.setIfInBounds_toArray, List.set_cons_zero, List.set_cons_succ, List.getElem_toArray, List.getElem_cons_zero, List.getElem_cons_succ]
                refine wpAnyH_take (i := 24) (v := undef) rfl (by kernel_rfl) (by kernel_rfl) (by kernel_rfl) (fun _ _ _ h => h) (Or.inr ⟨by rfl, rfl⟩) hHeld ?_
                simp only [Act.put, List.setIfInBounds_toArray, List.set_cons_zero, List.set_cons_succ, List.getElem_toArray, List.getElem_cons_zero, List.getElem_cons_succ]
                refine wpAnyH_take (i := 25) (v := undef) rfl (by kernel_rfl) (by kernel_rfl) (by kernel_rfl) (fun _ _ _ h => h) (Or.inr ⟨by rfl, rfl⟩) hHeld ?_
                simp only [Act.put, List.setIfInBounds_toArray, List.set_cons_zero, List.set_cons_succ, List.getElem_toArray, List.getElem_cons_zero, List.getElem_cons_succ]
                refine wpAnyH_take (i := 26) (v := undef) rfl (by kernel_rfl) (by kernel_rfl) (by kernel_rfl) (fun _ _ _ h => h) (Or.inr ⟨by rfl, rfl⟩) hHeld ?_
                simp only [Act.put, List.setIfInBounds_toArray, List.set_cons_zero, List.set_cons_succ, List.getElem_toArray, List.getElem_cons_zero, List.getElem_cons_succ]
                refine wpAnyH_take (i := 27) (v := undef) rfl (by kernel_rfl) (by kernel_rfl) (by kernel_rfl) (fun _ _ _ h => h) (Or.inr ⟨by rfl, rfl⟩) hHeld ?_
                simp only [Act.put, List.setIfInBounds_toArray, List.set_cons_zero, List.set_cons_succ, List.getElem_toArray, List.getElem_cons_zero, List.getElem_cons_succ]
                refine wpAnyH_take (i := 28) (v := undef) rfl (by kernel_rfl) (by kernel_rfl) (by kernel_rfl) (fun _ _ _ h => h) (Or.inr ⟨by rfl, rfl⟩) hHeld ?_
                simp only [Act.put, List.setIfInBounds_toArray, List.set_cons_zero, List.set_cons_succ, List.getElem_toArray, List.getElem_cons_zero, List.getElem_cons_succ]
                refine' wpAnyH_take (i := 29) (v := _) rfl (by kernel_rfl) (by kernel_rfl) (by kernel_rfl) (fun _ _ _ h => h) (Or.inl ⟨by rfl, ?hy100⟩) hHeld ?hr100
                case hy100 => (intro w hSw; (try dsimp only at hSw); subst hSw; go_simp; (try with_reducible rfl))
                simp only [Act.put, List.setIfInBounds_toArray, List.set_cons_zero, List.set_cons_succ, List.getElem_toArray, List.getElem_cons_zero, List.getElem_cons_succ]
                refine wpAnyH_done (by kernel_rfl) ?_ _
                refine NoPanic.normal ?_
                go_wp2
                go_ret
                first | exact ⟨ret_bool hno.symm, kb2⟩ | exact ⟨rfl, kb2⟩ | exact ⟨rfl, kb2.drew⟩ | exact ⟨ret_bool hno.symm, kb2.drew⟩
            · have b1 : ((atC xs j).part == 1) = false := by simp [e1]
              by_cases e2 : (atC xs j).part = 2
              · have b2 : ((atC xs j).part == 2) = true := by simp [e2]
                by_cases e3 : (atC xs j).rune = 0
                · have b3 : ((atC xs j).rune != 0) = false := by simp [e3]
                  by_cases e4 : j = 0
                  · have b4 : ((j : Int) == 0) = true := by simp [e4]
                    have hno : rowOkB xs = false := rowOkB_no xs j hlt (by unfold cellOkB; rw [hso, if_neg e0, if_neg e1, if_pos e2, decide_eq_false (show ¬ 0 < j by omega)]; simp)
                    clear hall hsrc e4
                    go_wp2
                    go_ret
                    first | exact ⟨ret_bool hno.symm, kb2⟩ | exact ⟨rfl, kb2⟩ | exact ⟨rfl, kb2.drew⟩ | exact ⟨ret_bool hno.symm, kb2.drew⟩
                  · obtain ⟨m, rfl⟩ : ∃ m, j = m + 1 := ⟨j - 1, by omega⟩
                    have b4 : ((m : Int) + 1 == 0) = false := by simp; omega
                    have hmi : (m : Int) < (xs.length : Int) := by omega
                    obtain ⟨q0, q1, q2, q3, q4, q5, q6⟩ := hsrc m (by omega)
                    by_cases e5 : (atC xs m).part = 1
                    · have b5 : ((atC xs m).part != 1) = false := by simp [e5]
                      have hyes : cellOkB xs (m + 1) = true := by unfold cellOkB; rw [hso, if_neg e0, if_neg e1, if_pos e2, decide_eq_true e3]; simp [e5]
                      have hall' : Hid (∀ k, k < m + 1 + 1 → cellOkB xs k = true) := fun k hk => by rcases Nat.lt_succ_iff_lt_or_eq.1 hk with h | rfl; exact hall.out k h; exact hyes
                      clear hall hsrc hyes
                      go_wp2
                      go_roundw
                      case rel => exact ⟨m + 1 + 1, by go_num, by omega, hall', (by first | exact kb2 | exact kb2.drew)⟩
                      case measure => simp [intOf]; omega
                    · have b5 : ((atC xs m).part != 1) = true := by simp [e5]
                      have hno : rowOkB xs = false := rowOkB_no xs (m + 1) hlt (by unfold cellOkB; rw [hso, if_neg e0, if_neg e1, if_pos e2]; simp [e5])
                      clear hall hsrc
                      go_wp2
                      go_ret
                      first | exact ⟨ret_bool hno.symm, kb2⟩ | exact ⟨rfl, kb2⟩ | exact ⟨rfl, kb2.drew⟩ | exact ⟨ret_bool hno.symm, kb2.drew⟩
                · have b3 : ((atC xs j).rune != 0) = true := by simp [e3]
                  have hno : rowOkB xs = false := rowOkB_no xs j hlt (by unfold cellOkB; rw [hso, if_neg e0, if_neg e1, if_pos e2, decide_eq_false e3]; simp)
                  clear hall hsrc
                  go_wp2
                  go_ret
                  first | exact ⟨ret_bool hno.symm, kb2⟩ | exact ⟨rfl, kb2⟩ | exact ⟨rfl, kb2.drew⟩ | exact ⟨ret_bool hno.symm, kb2.drew⟩
              · have b2 : ((atC xs j).part == 2) = false := by simp [e2]
                have hno : rowOkB xs = false := rowOkB_no xs j hlt (by unfold cellOkB; rw [hso, if_neg e0, if_neg e1, if_neg e2]; rfl)
                clear hall hsrc
                go_wp2
                go_ret
                first | exact ⟨ret_bool hno.symm, kb2⟩ | exact ⟨rfl, kb2⟩ | exact ⟨rfl, kb2.drew⟩ | exact ⟨ret_bool hno.symm, kb2.drew⟩
      · have hjn : j = xs.length := by omega
        have hji : ¬ (j : Int) < (xs.length : Int) := by omega
        subst hjn
        have hyes : rowOkB xs = true := rowOkB_yes xs ⟨hn1, hn2⟩ hall.out
        clear hall hOK hv
        go_wp2
        go_ret
        first | exact ⟨ret_bool hyes.symm, kb⟩ | exact ⟨rfl, kb⟩
  · have hno := rowOkB_len xs hn
    by_cases h0 : xs.length < 1
    · have hi : (xs.length : Int) < 1 := by omega
      go_enter Tryd.func52, Tryd.ntmps52
      go_wp2
      go_ret
      first | exact ⟨ret_bool hno.symm, Below.refl _ _⟩ | exact ⟨rfl, Below.refl _ _⟩
    · have hi : ¬ (xs.length : Int) < 1 := by omega
      have hi2 : 60 < (xs.length : Int) := by omega
      go_enter Tryd.func52, Tryd.ntmps52
      go_wp2
      go_ret
      first | exact ⟨ret_bool hno.symm, Below.refl _ _⟩ | exact ⟨rfl, Below.refl _ _⟩
end Go.Proofs.YtngbndfnhpjmjaaDoor
