/- A window of a row of this call's own: cleared, copied into, made anew. The laws' own helpers on rows: a row's copy. One row written anew; rows made. The laws' own helpers on grids: a grid's copy. Contract of the specification's new grids. The laws' own helpers on grids: a grid's copy whole. The laws' own helpers on grids: likeness. What stays while an exact law of rows runs. Contract of the program's StyleOk. Two styles compared. Contracts of the program's RowOk. Contract of the program's RowOk. Contract of the program's GridOk. Rows of rows that are moved about. Contracts of the program's blanked windows. Contract of the program's NewGrid. Contracts of the program's scrollOk and of rows copied. The laws' own helper: two lists alike. Contracts of the program's rows joined and turned. Contract of the program's rows turned. Contract of the program's blanked rows. -/
import Derived.Test.YtmmmglblkampcaaDoorP1
import Derived.Laws.CopyOwn
import Derived.OwnWalk
import Derived.Deep.RegionHeld3
import Derived.Laws.StructEq
import Derived.Laws.AppendOwnNone
import Derived.Lib.AppendZeros
namespace Go.Proofs.YtmmmglblkampcaaDoor
open Go.ChangeShapes Go.WideShapes Go.ChangeAt Go.RowKit
theorem flat_take (xs : List Ce) : ∀ k, (xs.flatMap ceL).take (k * 7) = (xs.take k).flatMap ceL := by
  induction xs with
  | nil => intro k; simp
  | cons c xs ih =>
    intro k
    cases k with
    | zero => simp
    | succ k =>
      rw [List.flatMap_cons, List.take_succ_cons, List.flatMap_cons, List.take_append, ← ih k]
      have hl : (ceL c).length = 7 := rfl
      rw [List.take_of_length_le (by rw [hl]; omega), hl, show (k + 1) * 7 - 7 = k * 7 by omega]
theorem flat_drop (xs : List Ce) : ∀ k, (xs.flatMap ceL).drop (k * 7) = (xs.drop k).flatMap ceL := by
  induction xs with
  | nil => intro k; simp
  | cons c xs ih =>
    intro k
    cases k with
    | zero => simp
    | succ k =>
      have hl : (ceL c).length = 7 := rfl
      rw [List.flatMap_cons, List.drop_succ_cons, ← ih k, List.drop_append, hl, List.drop_of_length_le (by rw [hl]; omega), List.nil_append, show (k + 1) * 7 - 7 = k * 7 by omega]
def windL (L : List Ce) (q : Nat) (M : List Ce) : List Ce := L.take q ++ M ++ L.drop (q + M.length)
theorem windL_len (L : List Ce) (q : Nat) (M : List Ce) (h : q + M.length ≤ L.length) : (windL L q M).length = L.length := by unfold windL; simp; omega
theorem windL_at (L : List Ce) (q : Nat) (M : List Ce) (h : q + M.length ≤ L.length) (i : Nat) : atC (windL L q M) i = if q ≤ i ∧ i < q + M.length then atC M (i - q) else atC L i := by
  have h1 : (L.take q).length = q := by rw [List.length_take]; omega
  unfold windL
  rw [app_at, app_at, List.length_append, h1]
  by_cases c1 : i < q
  · rw [if_pos (by omega), if_pos c1, if_neg (by omega), atC_take L q i c1]
  · by_cases c2 : i < q + M.length
    · rw [if_pos c2, if_neg c1, if_pos (by omega)]
    · rw [if_neg c2, if_neg (by omega), atC_drop, show q + M.length + (i - (q + M.length)) = i by omega]
theorem OwnC.cur {w : World} {base g n cap : Nat} {L : List Ce} (h : OwnC w base (.slice (some ⟨g, 0, none⟩) n cap) L) (hn : L.length = n) :
    ∃ cur : Array Value, w.heap[g]? = some (.cells cur 65 (0, 0)) ∧ base ≤ g ∧ n ≤ cap ∧ cap ≤ maxLen ∧ cur.size = cap * 7 ∧ cur.toList.take (n * 7) = L.flatMap ceL := by
  subst hn
  rcases h.2 with ⟨h1, _⟩ | ⟨g', cap', cur, hv, hb, hg, hc, hm, hs, ht⟩
  · cases h1
  · simp only [Value.slice.injEq, Option.some.injEq, Addr.mk.injEq, and_true, true_and] at hv
    obtain ⟨rfl, rfl⟩ := hv
    exact ⟨cur, hg, hb, hc, hm, hs, ht⟩
theorem OwnC.relaid {w : World} {base g n cap : Nat} {L : List Ce} (h : OwnC w base (.slice (some ⟨g, 0, none⟩) n cap) L) (hn : L.length = n) (cur : Array Value) (hg : w.heap[g]? = some (.cells cur 65 (0, 0)))
    (q : Nat) (M : List Ce) (hq : q + M.length ≤ n) :
    OwnC (w.setRow g (cur.toList.take (q * 7) ++ M.flatMap ceL ++ cur.toList.drop (q * 7 + (M.flatMap ceL).length)).toArray) base (.slice (some ⟨g, 0, none⟩) n cap) (windL L q M) ∧
      w.grownBy (w.setRow g (cur.toList.take (q * 7) ++ M.flatMap ceL ++ cur.toList.drop (q * 7 + (M.flatMap ceL).length)).toArray) (some g) := by
  obtain ⟨cur', hg', hb, hc, hm, hs, ht⟩ := h.cur hn
  rw [hg] at hg'
  simp only [Option.some.injEq, Obj.cells.injEq, and_true] at hg'
  subst hg'
  have hl := windL_len L q M (by omega)
  refine ⟨⟨by rw [flat_len, hl], .inr ⟨g, cap, _, by rw [hl, hn], hb, setRow_heap w g cur _ 65 _ hg, by omega, hm, ?_, ?_⟩⟩, ⟨rfl, rfl, rfl, by simp [World.setRow], fun k _ hk => setRow_other w g k _ (fun e => hk (by simp [e]))⟩⟩
  · have : M.length * 7 ≤ n * 7 - q * 7 := by omega
    have : n * 7 ≤ cap * 7 := by omega
    rw [List.size_toArray, List.length_append, List.length_append, List.length_take, List.length_drop, flat_len, Array.length_toList, hs]; omega
  · rw [hl, hn]
    have e1 : cur.toList.take (q * 7) = (L.take q).flatMap ceL := by
      rw [← flat_take, ← ht, List.take_take, Nat.min_eq_left (by omega)]
    have e2 : (cur.toList.drop (q * 7 + (M.flatMap ceL).length)).take (n * 7 - (q + M.length) * 7) = (L.drop (q + M.length)).flatMap ceL := by
      rw [← flat_drop, ← ht, flat_len, ← Nat.add_mul, List.drop_take]
    unfold windL
    rw [List.flatMap_append, List.flatMap_append, ← e1, ← e2]
    have hl1 : (cur.toList.take (q * 7) ++ M.flatMap ceL).length = (q + M.length) * 7 := by
      rw [List.length_append, List.length_take, flat_len, Array.length_toList, hs]; omega
    rw [List.take_append, List.take_of_length_le (by rw [hl1]; omega), hl1]
theorem replC_flat (z : Ce) (k : Nat) : (Builtin.zeroCells (ceL z).toArray k).toList = (List.replicate k z).flatMap ceL := by
  apply List.ext_getElem?
  intro j
  have hl : (ceL z).length = 7 := rfl
  by_cases hj : j < k * 7
  · have h2 : j % 7 < 7 := Nat.mod_lt _ (by decide)
    have e := flat_get (List.replicate k z) (j / 7) (j % 7) (by simp; omega) h2
    rw [show j / 7 * 7 + j % 7 = j by omega] at e
    rw [e]
    have ea : atC (List.replicate k z) (j / 7) = z := by rw [atC_lt (by simp; omega)]; simp
    rw [ea]
    simp only [Builtin.zeroCells, List.size_toArray, hl]
    rw [Array.getElem?_toList, Array.getElem?_map, Array.getElem?_range]
    rw [if_pos hj]
    simp only [Option.map_some]
    rw [getElem!_pos _ _ (by simpa [hl] using h2)]
    simp
  · have h1 : ((Builtin.zeroCells (ceL z).toArray k).toList)[j]? = none := by
      apply List.getElem?_eq_none; simp [Builtin.zeroCells, hl]; omega
    have h2 : ((List.replicate k z).flatMap ceL)[j]? = none := by
      apply List.getElem?_eq_none; rw [flat_len]; simp; omega
    rw [h1, h2]
theorem under_cells : Tryd.prog.underlying 43 = some (.slice 65) := by kernel_rfl
theorem zero_cell (w : World) : (zeroValue 65).run Tryd.prog w = .ok (ceV Ce.zero) w := by
  obtain ⟨i, hi, hz, _⟩ := info_parts info_cell
  simp [zeroValue, typeInfo, hi, hz]
/-- 'clear' of a window. -/
theorem clear_oc {w : World} {ops : Array Oper} {rest : List Oper} {o : Oper} {ac : Act} {Q : Exit → Act → World → Prop} (hgd : o.guard = none) (s : Operand)
    (ho : o.op = .call { callee := .builtin .clear, args := #[s], argTypes := #[43] })
    (base g n cap q k c off : Nat) (L : List Ce) (h : OwnC w base (.slice (some ⟨g, 0, none⟩) n cap) L) (hn : L.length = n) (hq : q + k ≤ n) (hoff : off = q * 7) (hs : ac.eval s = .slice (some ⟨g, off, none⟩) k c)
    (hK : ∀ w', OwnC w' base (.slice (some ⟨g, 0, none⟩) n cap) (windL L q (List.replicate k Ce.zero)) → w.grownBy w' (some g) → wpList Tryd.prog ops Q rest (ac.put o.dst (.tuple #[])) w') :
    wpList Tryd.prog ops Q (o :: rest) ac w := by
  subst hoff
  refine wpList_plain hgd fun K hK' => ?_
  obtain ⟨cur, hg, hb, hc, hm, hsz, ht⟩ := h.cur hn
  have hwin := h.relaid hn cur hg q (List.replicate k Ce.zero) (by simpa using hq)
  by_cases h0 : k = 0
  · subst h0
    have hrun : ∀ ty, (Builtin.clear_ #[43] ty #[.slice (some ⟨g, q * 7, none⟩) 0 c]).run Tryd.prog w = .ok (.tuple #[]) w := fun ty => by
      simp [Builtin.clear_, run_underlying under_cells]
    unfold Oper.wp
    simp [execOp, ho, resolve, invoke, builtin, hs, hrun, Result.andThen]
    refine hK' _ _ (hK w ?_ ⟨rfl, rfl, rfl, Nat.le_refl _, fun _ _ _ => rfl⟩)
    have e : windL L q (List.replicate 0 Ce.zero) = L := by simp [windL]
    rw [e]; exact h
  · have hfl := flat_len (List.replicate k Ce.zero)
    rw [List.length_replicate] at hfl
    have hz : (ceV Ce.zero).cells = (ceL Ce.zero).toArray := rfl
    have hst := run_storeCells_at Tryd.prog g (q * 7) 65 ((List.replicate k Ce.zero).flatMap ceL) 0 cur w hg (by rw [hfl, hsz]; omega) (flat_one _)
    rw [Nat.add_zero] at hst
    obtain ⟨m, rfl⟩ : ∃ m, k = m + 1 := ⟨k - 1, by omega⟩
    have hrun : ∀ ty, (Builtin.clear_ #[43] ty #[.slice (some ⟨g, q * 7, none⟩) (m + 1) c]).run Tryd.prog w = .ok (.tuple #[]) (w.setRow g (cur.toList.take (q * 7) ++ (List.replicate (m + 1) Ce.zero).flatMap ceL ++ cur.toList.drop (q * 7 + ((List.replicate (m + 1) Ce.zero).flatMap ceL).length)).toArray) := fun ty => by
      simp only [Builtin.clear_]
      simp only [Sem.run_bind, run_underlying under_cells, Result.andThen_ok, zero_cell, hz, replC_flat, hst, List.getElem?_toArray, List.getElem?_cons_zero]
      simp
    unfold Oper.wp
    simp [execOp, ho, resolve, invoke, builtin, hs, hrun, Result.andThen]
    have := hK _ hwin.1 hwin.2
    simp at this
    exact hK' _ _ this
/-- 'make([]Cell, n)'. -/
theorem made_zero (n : Nat) : (madeCells (ceV Ce.zero).cells (n * 7)).toList = (List.replicate n Ce.zero).flatMap ceL := by
  apply List.ext_getElem?
  intro i
  by_cases hi : i < n * 7
  · have h1 : i / 7 < n := by omega
    have h2 : i % 7 < 7 := Nat.mod_lt _ (by decide)
    have e : i = i / 7 * 7 + i % 7 := by omega
    have hr : ((List.replicate n Ce.zero).flatMap ceL)[i]? = (ceL Ce.zero)[i % 7]? := by
      conv => lhs; rw [e]
      rw [flat_get _ (i / 7) (i % 7) (by simpa using h1) h2]
      simp [atC, h1]
    rw [hr]
    simp only [madeCells, Array.toList_map, List.getElem?_map, Array.toList_range]
    rw [List.getElem?_range hi]
    generalize he : i % 7 = k at *
    have hz : (ceV Ce.zero).cells.size = 7 := rfl
    simp only [Option.map_some, hz, he]
    match k, h2 with
    | 0, _ => rfl
    | 1, _ => rfl
    | 2, _ => rfl
    | 3, _ => rfl
    | 4, _ => rfl
    | 5, _ => rfl
    | 6, _ => rfl
  · rw [List.getElem?_eq_none (by simp [size_madeCells]; omega), List.getElem?_eq_none (by rw [flat_len]; simp; omega)]
theorem make_oc {w : World} {ops : Array Oper} {rest : List Oper} {o : Oper} {ac : Act} {Q : Exit → Act → World → Prop} (hgd : o.guard = none) (x y : Operand)
    (ho : o.op = Op.makeSlice 43 x y) (n : Nat) (hx : ac.eval x = .int .i64 (n : Int)) (hy : ac.eval y = .int .i64 (n : Int)) (hn : n ≤ 1073741824)
    (h : ∀ w', OwnC w' w.heap.size (.slice (some ⟨w.heap.size, 0, none⟩) n n) (List.replicate n Ce.zero) → Below w.heap.size w w' → wpList Tryd.prog ops Q rest (ac.put o.dst (.slice (some ⟨w.heap.size, 0, none⟩) n n)) w') :
    wpList Tryd.prog ops Q (o :: rest) ac w := by
  obtain ⟨i0, hi, hz0, hz1, hz2⟩ := info_parts info_cell
  refine wpList_make_full _ hgd x y 43 ho w.heap.size 65 i0 (ceV Ce.zero) 7 Tryd.underlying43 hi hz0 hz1 .i64 .i64 (n : Int) (n : Int) n hx hy rfl rfl (by rw [hz2]; omega) (by unfold maxLen; omega) (Nat.le_refl _) (fun w' ho' hg => ?_)
  refine h w' ?_ ((Below.refl _ _).grown hg (Nat.le_refl _) (fun k hk => by cases hk))
  rw [made_zero] at ho'
  unfold OwnC
  rw [List.length_replicate]
  exact ho'
/-- 'copy' into a window. -/
theorem run_copy_oc {w : World} (ty : TypeId) (base g n cap q : Nat) (L M : List Ce) (h : OwnC w base (.slice (some ⟨g, 0, none⟩) n cap) L) (hn : L.length = n) (dp sp : Option Addr) (dLen dCap sLen sCap : Nat) (hM : M.length = Nat.min sLen dLen) (hq : q + M.length ≤ n)
    (hpos : 0 < M.length → dp = some ⟨g, q * 7, none⟩ ∧ ∃ b off, sp = some ⟨b, off, none⟩ ∧ ∀ i, i < M.length → CeAt w b (off + i * 7) (atC M i)) :
    ∃ w', (Builtin.copy_ #[43, 43] ty #[.slice dp dLen dCap, .slice sp sLen sCap]).run Tryd.prog w = .ok (goInt M.length) w' ∧ OwnC w' base (.slice (some ⟨g, 0, none⟩) n cap) (windL L q M) ∧ w.grownBy w' (some g) := by
  obtain ⟨i0, hi, hz0, hz1, hz2⟩ := info_parts info_cell
  obtain ⟨cur, hg, hb, hc, hm, hsz, ht⟩ := h.cur hn
  have hwin := h.relaid hn cur hg q M hq
  by_cases h0 : M.length = 0
  · have hM0 : M = [] := List.eq_nil_of_length_eq_zero h0
    subst hM0
    have e : windL L q [] = L := by simp [windL]
    refine ⟨w, ?_, by rw [e]; exact h, ⟨rfl, rfl, rfl, Nat.le_refl _, fun _ _ _ => rfl⟩⟩
    have hm0 : Nat.min sLen dLen = 0 := by simpa using hM.symm
    cases sp <;> cases dp <;> simp [Builtin.copy_, run_underlying under_cells, Builtin.lenOf, Builtin.firstCells, sizeOf, typeInfo, hi, hm0, loadCells, loadCellsFrom, storeCells]
  · obtain ⟨rfl, b, off, rfl, hsrc⟩ := hpos (by omega)
    refine ⟨_, ?_, hwin.1, hwin.2⟩
    have hl := run_loadCells_list (P := Tryd.prog) w ⟨b, off, none⟩ (M.flatMap ceL) (fun j v hj => by rw [Addr.add_mid]; exact flat_cells hsrc j v hj)
    rw [flat_len] at hl
    have hst := run_storeCells_at Tryd.prog g (q * 7) 65 (M.flatMap ceL) 0 cur w hg (by rw [flat_len, hsz]; omega) (flat_one _)
    rw [Nat.add_zero] at hst
    simp [Builtin.copy_, run_underlying under_cells, Builtin.lenOf, Builtin.firstCells, sizeOf, typeInfo, hi, hz1, ← hM, hl, hst]
theorem copy_oc {w : World} {ops : Array Oper} {rest : List Oper} {o : Oper} {ac : Act} {Q : Exit → Act → World → Prop} (hgd : o.guard = none) (d s : Operand)
    (ho : o.op = .call { callee := .builtin .copy, args := #[d, s], argTypes := #[43, 43] })
    (base g n cap q : Nat) (L M : List Ce) (h : OwnC w base (.slice (some ⟨g, 0, none⟩) n cap) L) (hn : L.length = n) (dp sp : Option Addr) (dLen dCap sLen sCap : Nat) (hd : ac.eval d = .slice dp dLen dCap) (hs : ac.eval s = .slice sp sLen sCap) (hM : M.length = Nat.min sLen dLen) (hq : q + M.length ≤ n)
    (hpos : 0 < M.length → dp = some ⟨g, q * 7, none⟩ ∧ ∃ b off, sp = some ⟨b, off, none⟩ ∧ ∀ i, i < M.length → CeAt w b (off + i * 7) (atC M i))
    (hK : ∀ w', OwnC w' base (.slice (some ⟨g, 0, none⟩) n cap) (windL L q M) → w.grownBy w' (some g) → wpList Tryd.prog ops Q rest (ac.put o.dst (goInt M.length)) w') :
    wpList Tryd.prog ops Q (o :: rest) ac w := by
  refine wpList_plain hgd fun K hK' => ?_
  obtain ⟨w', hrun, h1, h2⟩ := run_copy_oc (w := w) o.type base g n cap q L M h hn dp sp dLen dCap sLen sCap hM hq hpos
  unfold Oper.wp
  simp [execOp, ho, resolve, invoke, builtin, hd, hs, hrun, Result.andThen]
  exact hK' _ _ (hK w' h1 h2)
/-- Rune and style of one cell are written, its part stays. -/
def putRS (w : World) (g o : Nat) (r : Int) (s : St) : World :=
  (((((w.setCell ⟨g, o, none⟩ (.int .i64 r)).setCell ⟨g, o + 1, none⟩ (.int .i64 s.fore)).setCell ⟨g, o + 2, none⟩ (.int .i64 s.back)).setCell ⟨g, o + 3, none⟩ (.bool s.bold)).setCell ⟨g, o + 4, none⟩ (.bool s.under)).setCell ⟨g, o + 5, none⟩ (.bool s.turned)
theorem flat_set6 (xs : List Ce) (r : Int) (s : St) : ∀ i, i < xs.length → (((((((xs.flatMap ceL).set (i * 7) (.int .i64 r)).set (i * 7 + 1) (.int .i64 s.fore)).set (i * 7 + 2) (.int .i64 s.back)).set (i * 7 + 3) (.bool s.bold)).set (i * 7 + 4) (.bool s.under)).set (i * 7 + 5) (.bool s.turned)) = (xs.set i ⟨r, s, (atC xs i).part⟩).flatMap ceL := by
  induction xs with
  | nil => intro i h; simp at h
  | cons d xs ih =>
    intro i h
    cases i with
    | zero => simp [ceL, atC]
    | succ i =>
      have e : ∀ k, (i + 1) * 7 + k = (i * 7 + k) + 7 := fun k => by omega
      have e0 : (i + 1) * 7 = (i * 7) + 7 := by omega
      rw [e 1, e 2, e 3, e 4, e 5, e0]
      have hs : ∀ (m : Nat) (u : Value) (l : List Value), ((ceL d ++ l).set (m + 7) u) = ceL d ++ l.set m u := fun m u l => by
        rw [List.set_append, if_neg (by simp [ceL])]
        simp [ceL]
      have e1 : atC (d :: xs) (i + 1) = atC xs i := by simp [atC]
      rw [List.flatMap_cons, hs, hs, hs, hs, hs, hs, ih i (by simpa using h), List.set_cons_succ, List.flatMap_cons, e1]
theorem OwnC.putRS {w : World} {base g n cap : Nat} {xs : List Ce} (h : OwnC w base (.slice (some ⟨g, 0, none⟩) n cap) xs) (hn : xs.length = n) (i : Nat) (hi : i < n) (r : Int) (s : St) :
    OwnC (putRS w g (i * 7) r s) base (.slice (some ⟨g, 0, none⟩) n cap) (xs.set i ⟨r, s, (atC xs i).part⟩) ∧ w.grownBy (Proofs.YtmmmglblkampcaaDoor.putRS w g (i * 7) r s) (some g) := by
  subst hn
  have h0 := World.ownsRow.stored h (i * 7) (.int .i64 r)
  have h1 := World.ownsRow.stored h0.1 (i * 7 + 1) (.int .i64 s.fore)
  have h2 := World.ownsRow.stored h1.1 (i * 7 + 2) (.int .i64 s.back)
  have h3 := World.ownsRow.stored h2.1 (i * 7 + 3) (.bool s.bold)
  have h4 := World.ownsRow.stored h3.1 (i * 7 + 4) (.bool s.under)
  have h5 := World.ownsRow.stored h4.1 (i * 7 + 5) (.bool s.turned)
  refine ⟨?_, grown_tr (grown_tr (grown_tr (grown_tr (grown_tr h0.2 h1.2) h2.2) h3.2) h4.2) h5.2⟩
  have := h5.1
  rw [flat_set6 xs r s i hi] at this
  unfold OwnC Proofs.YtmmmglblkampcaaDoor.putRS
  rw [List.length_set]
  exact this
theorem ownC_none (w : World) (base : Nat) : OwnC w base (.slice none 0 0) [] := ⟨rfl, .inl ⟨rfl, rfl⟩⟩
end Go.Proofs.YtmmmglblkampcaaDoor
namespace Go.Proofs.YtmmmglblkampcaaDoor
open Go.ChangeShapes Go.WideShapes Go.ChangeAt Go.RowKit
set_option maxHeartbeats 2000000 in
theorem toCS_copy (v : Value) (xs : List Ce) (w : World) (hv : SlC w v xs) (hl : xs.length ≤ 1073741824) :
    Calls Tryd.prog 78 #[v] w fun e w' => ∃ u, e = .returned u ∧ OwnC w' w.heap.size u xs ∧ Below w.heap.size w w' := by
  have hto := fun c W => toCell_any c W
  unfold ceV at hto
  obtain ⟨a, c, rfl, hc0⟩ := id hv
  clear hc0
  go_enter Tryd.func78, Tryd.ntmps78
  go_wp2_with (refine make_oc rfl _ _ rfl xs.length rfl rfl hl ?_; intro w1 ho1 hb1)
  go_wp2
  go_loopw [4] (fun i wr => ∃ (j : Nat) (ys : List Ce), i = .int .i64 j ∧ j ≤ xs.length ∧ ys.length = xs.length ∧ (∀ t, t < j → atC ys t = atC xs t) ∧ OC w.heap.size (.slice (some ⟨w.heap.size, 0, none⟩) xs.length xs.length) ys w wr) (fun i _ => xs.length - (intOf i).toNat)
  case atStart => exact ⟨0, _, rfl, Nat.zero_le _, List.length_replicate, (fun t h => absurd h (Nat.not_lt_zero t)), ho1, hb1, hb1.size, Nat.le_refl _⟩
  case round =>
    clear ho1 hb1
    obtain ⟨j, ys, rfl, hj, hyl, hys, k⟩ := hrel
    by_cases hlt : j < xs.length
    · have hji : (j : Int) < (xs.length : Int) := by omega
      have hj0 : (0 : Int) ≤ (j : Int) := by omega
      obtain ⟨b, off, rfl, hbb, hat⟩ := (hv.below k.2.1).at j hlt
      obtain ⟨c0, c1, c2, c3, c4, c5, c6⟩ := hat
      go_wp2_with fail
      refine (hto (atC xs j) _).mono ?_
      rintro e w2 ⟨rfl, hb2⟩
      have k2 := k.below hb2
      have hp := k2.1.put hyl j hlt (atC xs j)
      have kk : OC w.heap.size (.slice (some ⟨w.heap.size, 0, none⟩) xs.length xs.length) (ys.set j (atC xs j)) w (putCe w2 w.heap.size (j * 7) (atC xs j)) := k2.own hp.1 hp.2
      have hys2 : ∀ t, t < j + 1 → atC (ys.set j (atC xs j)) t = atC xs t := by
        intro t ht
        rw [atC_set]
        by_cases e : t = j
        · subst e; rw [if_pos ⟨rfl, by omega⟩]
        · rw [if_neg (fun h => e h.1)]; exact hys t (by omega)
      have hyl2 : (ys.set j (atC xs j)).length = xs.length := by simpa using hyl
      have hat := k2.1.at hyl j hlt
      have f0 := k2.1.frozen hyl (j * 7)
      have f1 := k2.1.frozen hyl (j * 7 + 1)
      have f2 := k2.1.frozen hyl (j * 7 + 2)
      have f3 := k2.1.frozen hyl (j * 7 + 3)
      have f4 := k2.1.frozen hyl (j * 7 + 4)
      have f5 := k2.1.frozen hyl (j * 7 + 5)
      have f6 := k2.1.frozen hyl (j * 7 + 6)
      clear hp k hb2 hto hys c0 c1 c2 c3 c4 c5 c6 k2 hv hyl
      generalize ys.set j (atC xs j) = ys2 at *
      obtain ⟨c0, c1, c2, c3, c4, c5, c6⟩ := hat
      simp only [putCe] at kk
      go_wp2
      go_roundw
      case rel => exact ⟨j + 1, ys2, by go_num, by omega, hyl2, hys2, kk⟩
      case measure => simp [intOf]; omega
    · have hjn : j = xs.length := by omega
      have hji : ¬ (j : Int) < (xs.length : Int) := by omega
      have hye : ys = xs := ext_atC _ _ hyl (fun i hi => hys i (by omega))
      subst hye
      clear hys hyl hv hto
      go_wp2
      go_ret
      exact ⟨_, rfl, k.1, k.2.1⟩
end Go.Proofs.YtmmmglblkampcaaDoor
namespace Go.Proofs.YtmmmglblkampcaaDoor
open Go.ChangeShapes Go.WideShapes Go.ChangeAt Go.RowKit
theorem rowV_set {vs : List Value} {i : Nat} (hi : i < vs.length) (r : Value) (k : Nat) : rowV (vs.set i r) k = if k = i then r else rowV vs k := by
  unfold rowV
  by_cases e : k = i
  · subst e; rw [if_pos rfl]; simp [List.getD, hi]
  · rw [if_neg e]; simp [List.getD, Ne.symm e]
theorem rowX_set {rows : List (List Ce)} {i : Nat} (hi : i < rows.length) (x : List Ce) (k : Nat) : rowX (rows.set i x) k = if k = i then x else rowX rows k := by
  unfold rowX
  by_cases e : k = i
  · subst e; rw [if_pos rfl]; simp [List.getD, hi]
  · rw [if_neg e]; simp [List.getD, Ne.symm e]
/-- One row is written anew. -/
theorem OwnG.set {w : World} {base B g n cap : Nat} {rows : List (List Ce)} (h : OwnG w base B (.slice (some ⟨g, 0, none⟩) n cap) rows) (hn : rows.length = n) (i : Nat) (hi : i < n) (r : Value) (xs : List Ce) (hr : OwnC w base r xs) (hB : ∀ q, r.ownBlock = some q → B ≤ q) :
    OwnG (w.setCell ⟨g, i, none⟩ r) base (w.setCell ⟨g, i, none⟩ r).heap.size (.slice (some ⟨g, 0, none⟩) n cap) (rows.set i xs) ∧ w.grownBy (w.setCell ⟨g, i, none⟩ r) (some g) := by
  subst hn
  obtain ⟨vs, hvl, hown, hrs, hlt, hd⟩ := h
  have h0 := World.ownsRow.stored hown i r
  have hap : ∀ {u : Value} {ys : List Ce}, OwnC w base u ys → OwnC (w.setCell ⟨g, i, none⟩ r) base u ys := fun hu => hu.kept h0.2 (outer_apart hown hu)
  have hs2 := h0.2.size
  refine ⟨⟨vs.set i r, by simp [hvl], by rw [List.length_set]; exact h0.1, fun k hk => ?_, fun k hk q e => ?_, fun a b hab hb q e => ?_⟩, h0.2⟩
  · rw [List.length_set] at hk
    rw [rowV_set (by omega), rowX_set hi]
    by_cases e : k = i
    · rw [if_pos e, if_pos e]; exact hap hr
    · rw [if_neg e, if_neg e]; exact hap (hrs k hk)
  · rw [List.length_set] at hk
    rw [rowV_set (by omega)] at e
    by_cases c : k = i
    · rw [if_pos c] at e; have := (hr.lt q e).2; omega
    · rw [if_neg c] at e; have := ((hrs k hk).lt q e).2; omega
  · rw [List.length_set] at hb
    rw [rowV_set (by omega)] at e
    rw [rowV_set (by omega)]
    by_cases c : a = i
    · rw [if_pos c] at e
      rw [if_neg (by omega)]
      intro e2
      have := hlt b hb q e2
      have := hB q e
      omega
    · rw [if_neg c] at e
      by_cases c2 : b = i
      · rw [if_pos c2]
        intro e2
        have := hlt a (by omega) q e
        have := hB q e2
        omega
      · rw [if_neg c2]; exact hd a b hab hb q e
theorem made_none (n : Nat) : (madeCells (Value.slice none 0 0).cells (n * 1)).toList = List.replicate n (Value.slice none 0 0) := by
  apply List.ext_getElem?
  intro i
  by_cases hi : i < n
  · simp [madeCells, Value.cells, hi, Nat.mod_one]
  · simp [madeCells, Value.cells, hi]
theorem make_og {w : World} {ops : Array Oper} {rest : List Oper} {o : Oper} {ac : Act} {Q : Exit → Act → World → Prop} (hgd : o.guard = none) (x y : Operand)
    (ho : o.op = Op.makeSlice 24 x y) (n : Nat) (hx : ac.eval x = .int .i64 (n : Int)) (hy : ac.eval y = .int .i64 (n : Int)) (hn : n ≤ 1073741824)
    (h : ∀ w', OwnG w' w.heap.size w'.heap.size (.slice (some ⟨w.heap.size, 0, none⟩) n n) (List.replicate n []) → Below w.heap.size w w' → wpList Tryd.prog ops Q rest (ac.put o.dst (.slice (some ⟨w.heap.size, 0, none⟩) n n)) w') :
    wpList Tryd.prog ops Q (o :: rest) ac w := by
  obtain ⟨i0, hi, hz0, hz1, hz2⟩ := info_parts info_row
  refine wpList_make_full _ hgd x y 24 ho w.heap.size 43 i0 (.slice none 0 0) 1 under_rows hi hz0 hz1 .i64 .i64 (n : Int) (n : Int) n hx hy rfl rfl (by rw [hz2]; omega) (by unfold maxLen; omega) (Nat.le_refl _) (fun w' ho' hg => ?_)
  rw [made_none] at ho'
  have hv : ∀ i, rowV (List.replicate n (Value.slice none 0 0)) i = .slice none 0 0 := fun i => by
    unfold rowV; by_cases hi : i < n <;> simp [List.getD, hi]
  have hr : ∀ i, rowX (List.replicate n ([] : List Ce)) i = [] := fun i => by
    unfold rowX; by_cases hi : i < n <;> simp [List.getD, hi]
  have hG : OwnG w' w.heap.size w'.heap.size (.slice (some ⟨w.heap.size, 0, none⟩) n n) (List.replicate n []) :=
    ⟨List.replicate n (.slice none 0 0), by simp, by rw [List.length_replicate]; exact ho', fun i _ => by rw [hv, hr]; exact ownC_none _ _, (fun i _ g e => by rw [hv] at e; cases e), (fun i j _ _ g e => by rw [hv] at e; cases e)⟩
  exact h w' hG ((Below.refl _ _).grown hg (Nat.le_refl _) (fun k hk => by cases hk))
end Go.Proofs.YtmmmglblkampcaaDoor
namespace Go.Proofs.YtmmmglblkampcaaDoor
open Go.ChangeShapes Go.WideShapes Go.ChangeAt Go.RowKit
set_option maxHeartbeats 2000000 in
theorem toCSS_copy (v : Value) (rows : List (List Ce)) (w : World) (hv : SlG w v rows) (hl : rows.length ≤ 1073741824) (hx : ∀ i, i < rows.length → (rowX rows i).length ≤ 1073741824) :
    Calls Tryd.prog 54 #[v] w fun e w' => ∃ u, e = .returned u ∧ OwnG w' w.heap.size w'.heap.size u rows ∧ Below w.heap.size w w' := by
  obtain ⟨a, c, vs, rfl, hcp, _, hr, hs⟩ := id hv
  go_enter Tryd.func54, Tryd.ntmps54
  go_wp2_with (refine make_og rfl _ _ rfl rows.length rfl rfl hl ?_; intro w1 ho1 hb1)
  go_wp2
  go_loopw [4] (fun i wr => ∃ (j : Nat) (R : List (List Ce)), i = .int .i64 j ∧ j ≤ rows.length ∧ R.length = rows.length ∧ (∀ t, t < j → rowX R t = rowX rows t) ∧ OwnG wr w.heap.size wr.heap.size (.slice (some ⟨w.heap.size, 0, none⟩) rows.length rows.length) R ∧ Below w.heap.size w wr) (fun i _ => rows.length - (intOf i).toNat)
  case atStart => exact ⟨0, _, rfl, Nat.zero_le _, List.length_replicate, (fun t h => absurd h (Nat.not_lt_zero t)), ho1, hb1⟩
  case round =>
    clear ho1 hb1
    obtain ⟨j, R, rfl, hj, hRl, hR, k, kb⟩ := hrel
    by_cases hlt : j < rows.length
    · have hji : (j : Int) < (rows.length : Int) := by omega
      have hj0 : (0 : Int) ≤ (j : Int) := by omega
      rcases hr with h | ⟨b, off, rfl, hbb, hrc⟩
      · rw [h] at hlt; simp at hlt
      have hsj := (hs j hlt).below kb
      have hcj := (kb.cell (p := ⟨b, off + j, none⟩) hbb).trans (hrc j hlt)
      obtain ⟨aj, cj, ev, _⟩ := id hsj
      rw [ev] at hcj hsj
      have hto := toCS_copy _ _ wr hsj (hx j hlt)
      clear hs hrc ev hsj hv
      go_wp2_with fail
      refine hto.mono ?_
      rintro e w2 ⟨r, rfl, hor, hb2⟩
      have hk2 := (k.below hb2).set hRl j hlt r _ (hor.low kb.size) (fun q e => (hor.lt q e).1)
      have hw0 : ∃ cur, w2.cell? ⟨w.heap.size, j, none⟩ = some cur := by
        obtain ⟨vs2, hvl2, hown2, _⟩ := k.below hb2
        rw [hRl] at hown2
        exact ⟨_, by rw [World.ownsRow.cellAt hown2 j (by omega), rowV_get (by omega)]⟩
      have hfz : w2.frozen? ⟨w.heap.size, j, none⟩ = false := by
        obtain ⟨vs2, hvl2, hown2, _⟩ := k.below hb2
        rw [hRl] at hown2
        exact World.ownsRow.frozenAt hown2 j
      have kb3 := (kb.trans (hb2.mono kb.size)).grown hk2.2 (by have := kb.size; have := hb2.size; omega) (fun g e => by cases e; exact Nat.le_refl _)
      have hR2 : ∀ t, t < j + 1 → rowX (R.set j (rowX rows j)) t = rowX rows t := fun t ht => by
        rw [rowX_set (by omega)]
        by_cases e : t = j
        · rw [if_pos e, e]
        · rw [if_neg e]; exact hR t (by omega)
      have hRl2 : (R.set j (rowX rows j)).length = rows.length := by simpa using hRl
      have kk := hk2.1
      obtain ⟨cur, hcur⟩ := hw0
      obtain ⟨ra, rn, rc, rfl⟩ : ∃ a n c, r = Value.slice a n c := by rcases hor.shape with ⟨h, _⟩ | ⟨_, _, h, _⟩ <;> exact ⟨_, _, _, h⟩
      clear k kb hor hb2 hto hk2 hR hRl hcj
      generalize R.set j (rowX rows j) = R2 at *
      go_wp2
      go_roundw
      case rel => exact ⟨j + 1, R2, by go_num, by omega, hRl2, hR2, kk, kb3⟩
      case measure => simp [intOf]; omega
    · have hjn : j = rows.length := by omega
      have hji : ¬ (j : Int) < (rows.length : Int) := by omega
      have hye : R = rows := by
        apply List.ext_getElem hRl
        intro i h1 h2
        rw [← rowX_lt h1, ← rowX_lt h2]
        exact hR i (by omega)
      subst hye
      clear hs hr hR hv
      go_wp2
      go_ret
      exact ⟨_, rfl, k, kb⟩
end Go.Proofs.YtmmmglblkampcaaDoor
namespace Go.Proofs.YtmmmglblkampcaaDoor
open Go.ChangeShapes Go.WideShapes Go.ChangeAt Go.RowKit
/-- A new grid that grows beside the result's block. -/
def NG (M B : Nat) (cols : Int) (u : Value) (rows : List (List Ce)) (w0 W : World) : Prop :=
  GrW W M 0 (.slice none 0 0) ∧ GrW W (M + 1) cols u ∧ OwnG W (M + 2) B u rows ∧ M + 2 ≤ W.heap.size ∧ B ≤ W.heap.size ∧ Below M w0 W
theorem NG.below {M B : Nat} {cols : Int} {u : Value} {rows : List (List Ce)} {w0 W W' : World} (k : NG M B cols u rows w0 W) (hb : Below W.heap.size W W') : NG M B cols u rows w0 W' :=
  ⟨k.1.below hb, k.2.1.below hb, k.2.2.1.below hb, Nat.le_trans k.2.2.2.1 hb.size, Nat.le_trans k.2.2.2.2.1 hb.size, k.2.2.2.2.2.trans (hb.mono (by have := k.2.2.2.1; omega))⟩
theorem NG.drew {M B : Nat} {cols : Int} {u : Value} {rows : List (List Ce)} {w0 W : World} (k : NG M B cols u rows w0 W) : NG M B cols u rows w0 W.drew := k.below (bdr W)
theorem NG.more {M B : Nat} {cols : Int} {u v' : Value} {rows rows' : List (List Ce)} {w0 W W' : World} (k : NG M B cols u rows w0 W) (ho : OwnG W' (M + 2) W'.heap.size v' rows') (hg : W.grownBy W' u.ownBlock) :
    GrW W' M 0 (.slice none 0 0) ∧ GrW W' (M + 1) cols u ∧ OwnG W' (M + 2) W'.heap.size v' rows' ∧ M + 2 ≤ W'.heap.size ∧ W'.heap.size ≤ W'.heap.size ∧ Below M w0 W' := by
  have hne : ∀ g, u.ownBlock = some g → M + 2 ≤ g := fun g e => (k.2.2.1.lt g e).1
  refine ⟨k.1.grown hg (fun e => by have := hne _ e; omega), k.2.1.grown hg (fun e => by have := hne _ e; omega), ho, Nat.le_trans k.2.2.2.1 hg.size, Nat.le_refl _, ?_⟩
  exact k.2.2.2.2.2.grown hg (by have := k.2.2.2.1; omega) (fun g e => by have := hne g e; omega)
theorem ng_put {M : Nat} {cols : Int} {u : Value} {rows : List (List Ce)} {w0 W : World} {v' : Value} (k : GrW W M 0 (.slice none 0 0) ∧ GrW W (M + 1) cols u ∧ OwnG W (M + 2) W.heap.size v' rows ∧ M + 2 ≤ W.heap.size ∧ W.heap.size ≤ W.heap.size ∧ Below M w0 W) :
    NG M (putG W (M + 1) v').heap.size cols v' rows w0 (putG W (M + 1) v') := by
  have hg := putG_grown W (M + 1) v'
  refine ⟨k.1.grown hg (fun e => by cases e), k.2.1.put v', ((k.2.2.1).kept hg (fun g e => by cases e; omega)).up hg.size, Nat.le_trans k.2.2.2.1 hg.size, Nat.le_refl _, ?_⟩
  exact k.2.2.2.2.2.grown hg (by have := k.2.2.2.1; omega) (fun g e => by cases e; omega)
/-- What NewGrid gives. -/
def newOk (cols n : Int) : Prop := (1 ≤ cols ∧ cols ≤ 60) ∧ (1 ≤ n ∧ n ≤ 30)
instance (cols n : Int) : Decidable (newOk cols n) := by unfold newOk; exact inferInstance
end Go.Proofs.YtmmmglblkampcaaDoor
namespace Go.Proofs.YtmmmglblkampcaaDoor
open Go.ChangeShapes Go.WideShapes Go.ChangeAt Go.RowKit
set_option maxHeartbeats 2000000 in
theorem toGrid_copy (cols : Int) (v : Value) (rows : List (List Ce)) (w : World) (hv : SlG w v rows) (hl : rows.length ≤ 1073741824) (hx : ∀ i, i < rows.length → (rowX rows i).length ≤ 1073741824) :
    Calls Tryd.prog 25 #[gridV cols v] w fun e w' => ∃ u, e = .returned (gridV cols u) ∧ OwnG w' w.heap.size w'.heap.size u rows ∧ Below w.heap.size w w' := by
  have hto := fun W h => toCSS_copy v rows W h hl hx
  have hG0 := GrN.new w cols v 46
  have hb0 := bal' w (Obj.cells #[.int .i64 cols, v] 46)
  have e0 : (w.alloc (Obj.cells #[.int .i64 cols, v] 46)).heap.size = w.heap.size + 1 := by simp
  have hvv := hv
  obtain ⟨a, c, vs, rfl, _⟩ := id hv
  have hv1 := hvv.below hb0
  unfold gridV
  generalize hw1 : w.alloc (Obj.cells #[.int .i64 cols, .slice a rows.length c] 46) = w1 at *
  have hR := GrW.new w1 0 (.slice none 0 0) 26
  have hb1 := bal' w1 (Obj.cells #[Value.int IntKind.i64 0, Value.slice none 0 0] 26)
  have e1 : (w1.alloc (Obj.cells #[Value.int IntKind.i64 0, Value.slice none 0 0] 26)).heap.size = w.heap.size + 2 := by simp; omega
  have hO := GrW.new (w1.alloc (Obj.cells #[Value.int IntKind.i64 0, Value.slice none 0 0] 26)) cols (.slice none 0 0) 26
  have hb2 := bal' (w1.alloc (Obj.cells #[Value.int IntKind.i64 0, Value.slice none 0 0] 26)) (Obj.cells #[Value.int IntKind.i64 cols, Value.slice none 0 0] 26)
  rw [e1] at hO
  rw [e0] at hR
  have hR2 := hR.below hb2
  have hbb := hb1.trans (hb2.mono hb1.size)
  have hv2 := hv1.below hbb
  have e3 : ((w1.alloc (Obj.cells #[Value.int IntKind.i64 0, Value.slice none 0 0] 26)).alloc (Obj.cells #[Value.int IntKind.i64 cols, Value.slice none 0 0] 26)).heap.size = w.heap.size + 3 := by simp; omega
  subst hw1
  obtain ⟨_, g0, g1⟩ := id hG0
  go_enter Tryd.func25, Tryd.ntmps25
  go_wp2_with fail
  refine (hto _ hv2).mono ?_
  rintro e w4 ⟨u, rfl, hou, hb4⟩
  have hR4 := hR2.below hb4
  have hO4 := hO.below hb4
  obtain ⟨ua, un, uc, rfl⟩ : ∃ a n c, u = Value.slice a n c := by rcases hou.shape with ⟨h, _⟩ | ⟨_, _, h, _⟩ <;> exact ⟨_, _, _, h⟩
  have hs4 := hb4.size
  rw [e3] at hou hs4
  have hg5 := putG_grown w4 (w.heap.size + 2) (.slice ua un uc)
  have hO5 := hO4.put (.slice ua un uc)
  have hR5 := hR4.grown hg5 (fun e => by simp at e)
  have ho5 := (hou.kept hg5 (fun g e => by cases e; omega)).up hg5.size
  have hbase := hb0.trans ((hbb.trans (hb4.mono hbb.size)).mono hb0.size)
  have hb5 := hbase.grown hg5 (by omega) (fun g e => by cases e; omega)
  have hs5 := hg5.size
  have hg6 := putG2_grown (putG w4 (w.heap.size + 2) (.slice ua un uc)) (w.heap.size + 1) cols (.slice ua un uc)
  have kF := (hR5.put2 cols (.slice ua un uc)).2.1
  have ho6 := (ho5.kept hg6 (fun g e => by cases e; omega)).up hg6.size
  have hb6 := hb5.grown hg6 (by omega) (fun g e => by cases e; omega)
  clear hG0 hb0 e0 hR hb1 e1 hO hb2 hR2 hbb hv1 hv2 hvv hto e3 hbase hb4 hs4 hs5 hg5 hg6 hb5 ho5 hou g0 g1
  obtain ⟨_, ⟨d0, d1⟩, ⟨y0, y1⟩⟩ := hR4
  obtain ⟨_, ⟨c0, c1⟩, ⟨z0, z1⟩⟩ := hO4
  obtain ⟨_, ⟨p0, p1⟩, ⟨q0, q1⟩⟩ := hO5
  obtain ⟨_, ⟨r0, r1⟩, ⟨s0, s1⟩⟩ := hR5
  obtain ⟨f0, f1⟩ := kF
  simp only [putG, putG2] at f0 f1 ho6 hb6 p0 p1 q0 q1 r0 r1 s0 s1
  go_wp2
  exact bodyPost_ret (v := .agg #[.int .i64 cols, .slice ua un uc]) (by simp [results, Tryd.results25, go_sem, f0, f1]) rfl ⟨_, rfl, ho6.low (by omega), hb6⟩
end Go.Proofs.YtmmmglblkampcaaDoor
namespace Go.Proofs.YtmmmglblkampcaaDoor
open Go.ChangeShapes Go.WideShapes Go.ChangeAt Go.RowKit
set_option maxHeartbeats 4000000 in
theorem eqCSS_same (va vb : Value) (rows : List (List Ce)) (w : World) (ha : SlG w va rows) (hb : SlG w vb rows) (hl : rows.length ≤ 1073741824) (hx : ∀ i, i < rows.length → (rowX rows i).length ≤ 1073741824) :
    Calls Tryd.prog 55 #[va, vb] w fun e w' => e = .returned (.bool true) ∧ Below w.heap.size w w' := by
  obtain ⟨a, c, vs, rfl, _, _, hr, hs⟩ := id ha
  obtain ⟨a2, c2, vs2, rfl, _, _, hr2, hs2⟩ := id hb
  clear ha hb
  go_enter Tryd.func55, Tryd.ntmps55
  go_wp2
  go_loopw [5] (fun i wr => ∃ j : Nat, i = .int .i64 j ∧ j ≤ rows.length ∧ Below w.heap.size w wr) (fun i _ => rows.length - (intOf i).toNat)
  case atStart => exact ⟨0, rfl, Nat.zero_le _, Below.refl _ _⟩
  case round =>
    obtain ⟨j, rfl, hj, kb⟩ := hrel
    by_cases hlt : j < rows.length
    · have hji : (j : Int) < (rows.length : Int) := by omega
      have hj0 : (0 : Int) ≤ (j : Int) := by omega
      rcases hr with h | ⟨b, off, rfl, hbb, hrc⟩
      · rw [h] at hlt; simp at hlt
      rcases hr2 with h | ⟨b2, off2, rfl, hbb2, hrc2⟩
      · rw [h] at hlt; simp at hlt
      have hsj := (hs j hlt).below kb
      have hsj2 := (hs2 j hlt).below kb
      have hcj := (kb.cell (p := ⟨b, off + j, none⟩) hbb).trans (hrc j hlt)
      have hcj2 := (kb.cell (p := ⟨b2, off2 + j, none⟩) hbb2).trans (hrc2 j hlt)
      obtain ⟨aj, cj, ev, _⟩ := id hsj
      obtain ⟨aj2, cj2, ev2, _⟩ := id hsj2
      rw [ev] at hcj hsj
      rw [ev2] at hcj2 hsj2
      have heq := fun W (hW : Below wr.heap.size wr W) => eqC_same _ _ _ W (hsj.below hW) (hsj2.below hW) (hx j hlt)
      clear hs hs2 hrc hrc2 ev ev2 hsj hsj2
      go_wp2
      go_region_with (go_at_call 79; refine (heq _ (bdr _)).mono ?_; rintro e w2 ⟨rfl, hb2⟩)
      all_goals
        have kb2 := (kb.trans ((bdr wr).mono kb.size)).trans (hb2.mono kb.size)
        clear kb hb2 heq
        go_wp2
        go_roundw
        case rel => exact ⟨j + 1, by go_num, by omega, by first | exact kb2 | exact kb2.drew⟩
        case measure => simp [intOf]; omega
    · have hjn : j = rows.length := by omega
      have hji : ¬ (j : Int) < (rows.length : Int) := by omega
      subst hjn
      clear hs hs2 hr hr2
      go_wp2
      go_ret
      exact ⟨rfl, kb⟩
set_option maxHeartbeats 2000000 in
theorem eqGrid_same (cols : Int) (va vb : Value) (rows : List (List Ce)) (w : World) (ha : SlG w va rows) (hb : SlG w vb rows) (hl : rows.length ≤ 1073741824) (hx : ∀ i, i < rows.length → (rowX rows i).length ≤ 1073741824) :
    Calls Tryd.prog 27 #[gridV cols va, gridV cols vb] w fun e w' => e = .returned (.bool true) ∧ Below w.heap.size w w' := by
  have hb0 := bal' w (Obj.cells #[.int .i64 cols, va] 26)
  have hb1 := bal' (w.alloc (Obj.cells #[.int .i64 cols, va] 26)) (Obj.cells #[.int .i64 cols, vb] 26)
  have hG0 := (GrN.new w cols va 26).below hb1
  have hG1 := GrN.new (w.alloc (Obj.cells #[.int .i64 cols, va] 26)) cols vb 26
  have e0 : (w.alloc (Obj.cells #[.int .i64 cols, va] 26)).heap.size = w.heap.size + 1 := by simp
  rw [e0] at hG1
  have heq := fun W h1 h2 => eqCSS_same va vb rows W h1 h2 hl hx
  have hbb := hb0.trans (hb1.mono hb0.size)
  have ha1 := ha.below hbb
  have hb2 := hb.below hbb
  obtain ⟨a, c, vs, rfl, _⟩ := id ha
  obtain ⟨a2, c2, vs2, rfl, _⟩ := id hb
  unfold gridV
  obtain ⟨_, g0, g1⟩ := id hG0
  obtain ⟨_, f0, f1⟩ := id hG1
  go_enter Tryd.func27, Tryd.ntmps27
  go_wp2_with fail
  refine (heq _ ha1 hb2).mono ?_
  rintro e w2 ⟨rfl, hw⟩
  go_wp2
  go_ret
  exact ⟨rfl, hbb.trans (hw.mono hbb.size)⟩
end Go.Proofs.YtmmmglblkampcaaDoor
namespace Go.Proofs.YtmmmglblkampcaaDoor
open Go.ChangeShapes Go.WideShapes Go.ChangeAt Go.RowKit
/-- A slice of cells whose block lies below B. -/
def SlU (B : Nat) (w : World) (v : Value) (xs : List Ce) : Prop :=
  ∃ a c, v = .slice a xs.length c ∧ xs.length ≤ c ∧ (a = none → c = 0) ∧ (xs = [] ∨ ∃ b off, a = some ⟨b, off, none⟩ ∧ b < B ∧ b < w.heap.size ∧ ∀ i, i < xs.length → CeAt w b (off + i * 7) (atC xs i))
theorem SlU.sl {B : Nat} {w : World} {v : Value} {xs : List Ce} (h : SlU B w v xs) : SlC w v xs := by
  obtain ⟨a, c, hv, hc, hn, h | ⟨b, off, ha, _, hlt, hi⟩⟩ := h
  · exact ⟨a, c, hv, hc, hn, .inl h⟩
  · exact ⟨a, c, hv, hc, hn, .inr ⟨b, off, ha, hlt, hi⟩⟩
theorem SlU.of {w : World} {v : Value} {xs : List Ce} (h : SlC w v xs) : SlU w.heap.size w v xs := by
  obtain ⟨a, c, hv, hc, hn, h | ⟨b, off, ha, hlt, hi⟩⟩ := h
  · exact ⟨a, c, hv, hc, hn, .inl h⟩
  · exact ⟨a, c, hv, hc, hn, .inr ⟨b, off, ha, hlt, hlt, hi⟩⟩
theorem SlU.up {B B' : Nat} {w : World} {v : Value} {xs : List Ce} (h : SlU B w v xs) (hb : B ≤ B') : SlU B' w v xs := by
  obtain ⟨a, c, hv, hc, hn, h | ⟨b, off, ha, h1, hlt, hi⟩⟩ := h
  · exact ⟨a, c, hv, hc, hn, .inl h⟩
  · exact ⟨a, c, hv, hc, hn, .inr ⟨b, off, ha, Nat.lt_of_lt_of_le h1 hb, hlt, hi⟩⟩
theorem SlU.below {B : Nat} {w w' : World} {v : Value} {xs : List Ce} (h : SlU B w v xs) (hb : Below B w w') : SlU B w' v xs := by
  obtain ⟨a, c, hv, hc, hn, h | ⟨b, off, ha, h1, hlt, hi⟩⟩ := h
  · exact ⟨a, c, hv, hc, hn, .inl h⟩
  · refine ⟨a, c, hv, hc, hn, .inr ⟨b, off, ha, h1, Nat.lt_of_lt_of_le hlt hb.size, fun i h => ?_⟩⟩
    have e : ∀ k, w'.cell? ⟨b, k, none⟩ = w.cell? ⟨b, k, none⟩ := fun k => hb.cell (p := ⟨b, k, none⟩) h1
    have := hi i h
    unfold CeAt at *
    rw [e, e, e, e, e, e, e]
    exact this
/-- An argument's row, and a style in a box of this call's own. -/
def KE (B : Nat) (s : St) (v : Value) (xs : List Ce) (w0 W : World) : Prop := StAt W B s ∧ SlU (B + 1) W v xs ∧ Below w0.heap.size w0 W
theorem KE.below {B : Nat} {s : St} {v : Value} {xs : List Ce} {w0 W W' : World} (k : KE B s v xs w0 W) (hb : Below W.heap.size W W') : KE B s v xs w0 W' :=
  ⟨k.1.below hb, k.2.1.below (hb.mono k.1.1), k.2.2.trans (hb.mono k.2.2.size)⟩
/-- A row of this call's own changes. -/
theorem KE.own {B : Nat} {s : St} {v : Value} {xs : List Ce} {w0 W W' : World} {base : Nat} {u : Value} {L : List Ce} (k : KE B s v xs w0 W) (ho : OwnC W base u L) (hB : B < base) (h0 : w0.heap.size ≤ B) (hg : W.grownBy W' u.ownBlock) : KE B s v xs w0 W' := by
  have hb : Below (B + 1) W W' := (Below.refl _ _).grown hg k.1.1 (fun g e => Nat.lt_of_lt_of_le hB (ho.lt g e).1)
  exact ⟨k.1.own ho hB hg, k.2.1.below hb, k.2.2.trans (hb.mono (by omega))⟩
theorem KE.all {B : Nat} {s : St} {v : Value} {xs : List Ce} {w0 W : World} (k : KE B s v xs w0 W) : W.cell? ⟨B, 0, none⟩ = some (.int .i64 s.fore) ∧ W.cell? ⟨B, 1, none⟩ = some (.int .i64 s.back) ∧ W.cell? ⟨B, 2, none⟩ = some (.bool s.bold) ∧ W.cell? ⟨B, 3, none⟩ = some (.bool s.under) ∧ W.cell? ⟨B, 4, none⟩ = some (.bool s.turned) ∧ KE B s v xs w0 W :=
  ⟨k.1.2.1.1, k.1.2.1.2.1, k.1.2.1.2.2.1, k.1.2.1.2.2.2.1, k.1.2.1.2.2.2.2, k⟩
theorem KE.drew {B : Nat} {s : St} {v : Value} {xs : List Ce} {w0 W : World} (k : KE B s v xs w0 W) : W.drew.cell? ⟨B, 0, none⟩ = some (.int .i64 s.fore) ∧ W.drew.cell? ⟨B, 1, none⟩ = some (.int .i64 s.back) ∧ W.drew.cell? ⟨B, 2, none⟩ = some (.bool s.bold) ∧ W.drew.cell? ⟨B, 3, none⟩ = some (.bool s.under) ∧ W.drew.cell? ⟨B, 4, none⟩ = some (.bool s.turned) ∧ KE B s v xs w0 W.drew := (k.below (bdr W)).all
theorem OwnC.apart {w w' : World} {base base' : Nat} {v u : Value} {xs ys : List Ce} (h : OwnC w base v xs) (_hu : OwnC w base' u ys) (hB : ∀ g, u.ownBlock = some g → g < base) (hg : w.grownBy w' u.ownBlock) : OwnC w' base v xs := by
  refine World.ownsRow.kept h hg ?_
  cases hv : v.ownBlock with
  | none => exact .inl rfl
  | some g =>
    right
    intro e
    have h1 := (h.lt g hv).1
    have h2 := hB g e.symm
    omega
/-- A row that lies below another's base stays while that one changes. -/
theorem SlU.own {B base : Nat} {w w' : World} {v u : Value} {xs L : List Ce} (h : SlU B w v xs) (ho : OwnC w base u L) (hB : B ≤ base) (hs : B ≤ w.heap.size) (hg : w.grownBy w' u.ownBlock) : SlU B w' v xs :=
  h.below ((Below.refl _ _).grown hg hs (fun g e => Nat.le_trans hB (ho.lt g e).1))
end Go.Proofs.YtmmmglblkampcaaDoor
namespace Go.Proofs.YtmmmglblkampcaaDoor
open Go.ChangeShapes Go.WideShapes Go.ChangeAt Go.RowKit
theorem colorOk_any (x : Int) (w : World) :
    Calls Tryd.prog 85 #[.int .i64 x] w fun e w' => e = .returned (.bool (decide (0 ≤ x ∧ x ≤ 8))) ∧ w' = w := by
  by_cases h1 : 0 ≤ x
  · go_enter Tryd.func85, Tryd.ntmps85
    go_wp2
    go_ret
    exact ⟨ret_bool (by simp [h1]), rfl⟩
  · go_enter Tryd.func85, Tryd.ntmps85
    go_wp2
    go_ret
    exact ⟨ret_bool (by simp; omega), rfl⟩
set_option maxHeartbeats 400000 in
theorem implStyleOk_any (s : St) (w : World) :
    Calls Tryd.prog 63 #[stV s] w fun e w' => e = .returned (.bool s.ok) ∧ Below w.heap.size w w' := by
  obtain ⟨f, b, bo, un, tu⟩ := s
  have hok : Hid ((St.mk f b bo un tu).ok = decide (0 ≤ f ∧ f ≤ 8 ∧ 0 ≤ b ∧ b ≤ 8)) := rfl
  unfold stV
  simp only
  go_enter Tryd.func63, Tryd.ntmps63
  go_wp2_with (go_at_call 85; refine (colorOk_any _ _).mono ?_; rintro e w' ⟨rfl, hw⟩; subst hw)
  all_goals
    go_ret
    refine ⟨ret_bool ?_, (Below.refl _ _).alloc (Nat.le_refl _) _⟩
    rw [hok.out]
    clear hok
    by_cases h1 : 0 ≤ f ∧ f ≤ 8
    · by_cases h2 : 0 ≤ b ∧ b ≤ 8
      · have h3 : 0 ≤ f ∧ f ≤ 8 ∧ 0 ≤ b ∧ b ≤ 8 := ⟨h1.1, h1.2, h2⟩
        simp_all
      · have h3 : ¬ (0 ≤ f ∧ f ≤ 8 ∧ 0 ≤ b ∧ b ≤ 8) := fun h => h2 h.2.2
        simp_all
        try omega
    · have h3 : ¬ (0 ≤ f ∧ f ≤ 8 ∧ 0 ≤ b ∧ b ≤ 8) := fun h => h1 ⟨h.1, h.2.1⟩
      simp_all
end Go.Proofs.YtmmmglblkampcaaDoor
namespace Go.Proofs.YtmmmglblkampcaaDoor
open Go.ChangeShapes Go.WideShapes Go.ChangeAt Go.RowKit
theorem st_iff (f b : Int) (bo un tu : Bool) (f' b' : Int) (bo' un' tu' : Bool) : (St.mk f b bo un tu = St.mk f' b' bo' un' tu') ↔ (f = f' ∧ b = b' ∧ bo = bo' ∧ un = un' ∧ tu = tu') := by
  constructor
  · intro e; cases e; simp
  · rintro ⟨rfl, rfl, rfl, rfl, rfl⟩; rfl
set_option maxHeartbeats 1000000 in
theorem eq_st (a b : St) (W : World) : (Op.equalIn 10000 28 (.agg #[.int .i64 a.fore, .int .i64 a.back, .bool a.bold, .bool a.under, .bool a.turned]) (.agg #[.int .i64 b.fore, .int .i64 b.back, .bool b.bold, .bool b.under, .bool b.turned])).run Tryd.prog W = .ok (decide (a = b)) W := by
  have hu := Tryd.underlying28
  have hi := Tryd.underlying2
  have hb := Tryd.underlying4
  obtain ⟨f, g, bo, un, tu⟩ := a
  obtain ⟨f', g', bo', un', tu'⟩ := b
  simp only [st_iff]
  rw [run_equalIn_struct W 9999 _ _ _ (by simp [Program.fieldsOf, hu]) (by kernel_rfl)]
  by_cases h1 : f = f' <;> by_cases h2 : g = g' <;> by_cases h3 : bo = bo' <;> by_cases h4 : un = un' <;> by_cases h5 : tu = tu' <;> simp [Program.fieldsOf, hu, hi, hb, Op.eqFields, go_sem, h1, h2, h3, h4, h5, Result.andThen]
end Go.Proofs.YtmmmglblkampcaaDoor
namespace Go.Proofs.YtmmmglblkampcaaDoor
open Go.ChangeShapes Go.WideShapes Go.ChangeAt Go.RowKit
attribute [local go_sem ↓] eq_st
def c1B (c : Ce) : Bool := c.st.ok && (if c.part = 0 then decide (widthV c.rune = 1) else if c.part = 1 then decide (widthV c.rune = 2) else if c.part = 2 then decide (c.rune = 0) else false)
theorem c1B_iff (c : Ce) : c1B c = true ↔ c1 c := by
  unfold c1B c1
  rw [Bool.and_eq_true]
  constructor
  · rintro ⟨h, h2⟩
    refine ⟨h, ?_⟩
    split at h2
    · rename_i e; exact .inl ⟨e, by simpa using h2⟩
    · split at h2
      · rename_i e; exact .inr (.inl ⟨e, by simpa using h2⟩)
      · split at h2
        · rename_i e; exact .inr (.inr ⟨e, by simpa using h2⟩)
        · cases h2
  · rintro ⟨h, ⟨e, h2⟩ | ⟨e, h2⟩ | ⟨e, h2⟩⟩
    · exact ⟨h, by rw [if_pos e]; simpa using h2⟩
    · exact ⟨h, by rw [if_neg (by rw [e]; decide), if_pos e]; simpa using h2⟩
    · exact ⟨h, by rw [if_neg (by rw [e]; decide), if_neg (by rw [e]; decide), if_pos e]; simpa using h2⟩
def joinB (a c : Ce) : Bool := if a.part = 1 then decide (c.part = 2) && decide (c.st = a.st) else !decide (c.part = 2)
set_option maxHeartbeats 1000000 in
theorem cellOk_any (c : Ce) (w : World) (hS : SpansAt w) :
    Calls Tryd.prog 71 #[ceV c] w fun e w' => e = .returned (.bool (c1B c)) ∧ Below w.heap.size w w' := by
  obtain ⟨r, ⟨f, b, bo, un, tu⟩, p⟩ := c
  have hok := fun W => implStyleOk_any ⟨f, b, bo, un, tu⟩ W
  have hwd := fun W h => implWidth_any r W h
  have hB : Hid (c1B ⟨r, ⟨f, b, bo, un, tu⟩, p⟩ = ((St.mk f b bo un tu).ok && (if p = 0 then decide (widthV r = 1) else if p = 1 then decide (widthV r = 2) else if p = 2 then decide (r = 0) else false))) := rfl
  have hbA := bal' w (Obj.cells #[.int .i64 r, .int .i64 f, .int .i64 b, .bool bo, .bool un, .bool tu, .int .i64 p] 65)
  have hlt := hS.lt
  unfold ceV stV at *
  generalize (St.mk f b bo un tu).ok = ok at *
  generalize widthV r = wd at *
  cases ok
  · go_enter Tryd.func71, Tryd.ntmps71
    go_wp2_with fail
    refine (hok _).mono ?_
    rintro e w1 ⟨rfl, hb1⟩
    go_wp2
    go_ret
    exact ⟨by rw [hB.out]; rfl, hbA.trans (hb1.mono hbA.size)⟩
  · have hsp := hS.below hbA hlt
    have hcp : (w.alloc (Obj.cells #[.int .i64 r, .int .i64 f, .int .i64 b, .bool bo, .bool un, .bool tu, .int .i64 p] 65)).cell? ⟨w.heap.size, 6, none⟩ = some (.int .i64 p) := by simp [go_sem]
    have hcr : (w.alloc (Obj.cells #[.int .i64 r, .int .i64 f, .int .i64 b, .bool bo, .bool un, .bool tu, .int .i64 p] 65)).cell? ⟨w.heap.size, 0, none⟩ = some (.int .i64 r) := by simp [go_sem]
    have hsz : w.heap.size < (w.alloc (Obj.cells #[.int .i64 r, .int .i64 f, .int .i64 b, .bool bo, .bool un, .bool tu, .int .i64 p] 65)).heap.size := by simp
    go_enter Tryd.func71, Tryd.ntmps71
    go_wp2_with fail
    generalize w.alloc (Obj.cells #[.int .i64 r, .int .i64 f, .int .i64 b, .bool bo, .bool un, .bool tu, .int .i64 p] 65) = W0 at *
    refine (hok _).mono ?_
    rintro e w1 ⟨rfl, hb1⟩
    have d6 : w1.cell? ⟨w.heap.size, 6, none⟩ = some (.int .i64 p) := (hb1.cell (p := ⟨w.heap.size, 6, none⟩) hsz).trans hcp
    have d0 : w1.cell? ⟨w.heap.size, 0, none⟩ = some (.int .i64 r) := (hb1.cell (p := ⟨w.heap.size, 0, none⟩) hsz).trans hcr
    have hs1 := hsp.below hb1 hsp.lt
    have kb := hbA.trans (hb1.mono hbA.size)
    clear hb1 hcp hcr hok hsp hbA hsz
    have hwd1 := hwd w1 hs1
    clear hwd hs1 hS
    by_cases p0 : p = 0
    · have e0 : (p == 0) = true := by simp [p0]
      have hB2 : Hid (c1B ⟨r, ⟨f, b, bo, un, tu⟩, p⟩ = decide (wd = 1)) := by show _ = _; rw [hB.out, if_pos p0]; rfl
      clear p0 hB
      go_wp2_with fail
      refine hwd1.mono ?_
      rintro e w2 ⟨rfl, hb2⟩
      go_wp2
      go_ret
      exact ⟨by rw [hB2.out]; first | rfl | (simp; done), kb.trans (hb2.mono kb.size)⟩
    · have e0 : (p == 0) = false := by simp [p0]
      by_cases p1 : p = 1
      · have e1 : (p == 1) = true := by simp [p1]
        have hB2 : Hid (c1B ⟨r, ⟨f, b, bo, un, tu⟩, p⟩ = decide (wd = 2)) := by show _ = _; rw [hB.out, if_neg p0, if_pos p1]; rfl
        clear p0 p1 hB
        go_wp2_with fail
        refine hwd1.mono ?_
        rintro e w2 ⟨rfl, hb2⟩
        go_wp2
        go_ret
        exact ⟨by rw [hB2.out]; first | rfl | (simp; done), kb.trans (hb2.mono kb.size)⟩
      · have e1 : (p == 1) = false := by simp [p1]
        clear hwd1
        by_cases p2 : p = 2
        · have e2 : (p == 2) = true := by simp [p2]
          have hB2 : Hid (c1B ⟨r, ⟨f, b, bo, un, tu⟩, p⟩ = decide (r = 0)) := by show _ = _; rw [hB.out, if_neg p0, if_neg p1, if_pos p2]; rfl
          clear p0 p1 p2 hB
          go_wp2
          go_ret
          exact ⟨by rw [hB2.out]; first | rfl | (simp; done), kb⟩
        · have e2 : (p == 2) = false := by simp [p2]
          have hB2 : Hid (c1B ⟨r, ⟨f, b, bo, un, tu⟩, p⟩ = false) := by show _ = _; rw [hB.out, if_neg p0, if_neg p1, if_neg p2]; rfl
          clear p0 p1 p2 hB
          go_wp2
          go_ret
          exact ⟨by rw [hB2.out]; rfl, kb⟩
set_option maxHeartbeats 1000000 in
theorem joins_any (a c : Ce) (w : World) :
    Calls Tryd.prog 72 #[ceV a, ceV c] w fun e w' => e = .returned (.bool (joinB a c)) ∧ Below w.heap.size w w' := by
  have hB : Hid (joinB a c = if a.part = 1 then decide (c.part = 2) && decide (c.st = a.st) else !decide (c.part = 2)) := rfl
  have kb : Below w.heap.size w ((w.alloc (Obj.cells #[.int .i64 a.rune, .int .i64 a.st.fore, .int .i64 a.st.back, .bool a.st.bold, .bool a.st.under, .bool a.st.turned, .int .i64 a.part] 65)).alloc (Obj.cells #[.int .i64 c.rune, .int .i64 c.st.fore, .int .i64 c.st.back, .bool c.st.bold, .bool c.st.under, .bool c.st.turned, .int .i64 c.part] 65)) := ((Below.refl _ _).alloc (Nat.le_refl _) _).alloc (by simp) _
  unfold ceV
  by_cases h1 : a.part = 1
  · have b1 : (a.part == 1) = true := by simp [h1]
    by_cases h2 : c.part = 2
    · have b2 : (c.part == 2) = true := by simp [h2]
      have hB2 : Hid (joinB a c = decide (c.st = a.st)) := by show _ = _; rw [hB.out, if_pos h1, decide_eq_true h2]; rfl
      clear h1 h2 hB
      go_enter Tryd.func72, Tryd.ntmps72
      go_wp2
      go_ret
      exact ⟨by rw [hB2.out]; first | rfl | (simp; done), kb⟩
    · have b2 : (c.part == 2) = false := by simp [h2]
      have hB2 : Hid (joinB a c = false) := by show _ = _; rw [hB.out, if_pos h1, decide_eq_false h2]; rfl
      clear h1 h2 hB
      go_enter Tryd.func72, Tryd.ntmps72
      go_wp2
      go_ret
      exact ⟨by rw [hB2.out]; first | rfl | (simp; done), kb⟩
  · have b1 : (a.part == 1) = false := by simp [h1]
    have hB2 : Hid (joinB a c = !decide (c.part = 2)) := by show _ = _; rw [hB.out, if_neg h1]
    clear h1 hB
    go_enter Tryd.func72, Tryd.ntmps72
    go_wp2
    go_ret
    exact ⟨by rw [hB2.out]; first | rfl | (simp; done), kb⟩
end Go.Proofs.YtmmmglblkampcaaDoor
namespace Go.Proofs.YtmmmglblkampcaaDoor
open Go.ChangeShapes Go.WideShapes Go.ChangeAt Go.RowKit
def aheadC (xs : List Ce) (j : Nat) : Ce := if j = 0 then Ce.zero else atC xs (j - 1)
theorem aheadC_zero (xs : List Ce) : aheadC xs 0 = Ce.zero := rfl
theorem aheadC_succ (xs : List Ce) (j : Nat) : aheadC xs (j + 1) = atC xs j := by simp [aheadC]
theorem row_joins {xs : List Ce} (h : Right xs) (i : Nat) : joinB (aheadC xs i) (atC xs i) = true := by
  unfold joinB
  cases i with
  | zero =>
    rw [aheadC_zero, if_neg (by decide)]
    have : ¬ (atC xs 0).part = 2 := fun e => absurd (h.2.2 0 e).1 (by decide)
    simp [this]
  | succ i =>
    rw [aheadC_succ]
    by_cases e : (atC xs i).part = 1
    · have := h.2.1 i e
      rw [if_pos e]; simp [this.1, this.2]
    · rw [if_neg e]
      have : ¬ (atC xs (i + 1)).part = 2 := fun e2 => by
        have := (h.2.2 _ e2).2
        rw [Nat.add_sub_cancel] at this; exact e this
      simp [this]
theorem row_no_cell {xs : List Ce} {i : Nat} (hi : i < xs.length) (h : c1B (atC xs i) = false) : rowOkB xs = false := by
  cases hr : rowOkB xs with
  | false => rfl
  | true =>
    have := (c1B_iff _).2 (((right_iff xs).1 hr).2.1 i hi)
    rw [h] at this; cases this
theorem row_no_join {xs : List Ce} {i : Nat} (h : joinB (aheadC xs i) (atC xs i) = false) : rowOkB xs = false := by
  cases hr : rowOkB xs with
  | false => rfl
  | true =>
    have := row_joins ((right_iff xs).1 hr).2 i
    rw [h] at this; cases this
theorem row_end {xs : List Ce} (hl : 1 ≤ xs.length ∧ xs.length ≤ 60) (h : ∀ i, i < xs.length → c1B (atC xs i) = true ∧ joinB (aheadC xs i) (atC xs i) = true) : rowOkB xs = !decide ((aheadC xs xs.length).part = 1) := by
  have hlast : aheadC xs xs.length = atC xs (xs.length - 1) := by unfold aheadC; rw [if_neg (by omega)]
  by_cases e : (aheadC xs xs.length).part = 1
  · rw [decide_eq_true e]
    cases hr : rowOkB xs with
    | false => rfl
    | true =>
      rw [hlast] at e
      have := (((right_iff xs).1 hr).2.2.1 _ e).1
      rw [atC_ge (by omega)] at this
      exact absurd this (by decide)
  · rw [decide_eq_false e]
    show rowOkB xs = true
    rw [right_iff]
    refine ⟨hl, fun i hi => (c1B_iff _).1 (h i hi).1, fun i h1 => ?_, fun i h2 => ?_⟩
    · have hi : i < xs.length := part_lt (by rw [h1]; decide)
      by_cases c : i + 1 < xs.length
      · have := (h (i + 1) c).2
        unfold joinB at this
        rw [aheadC_succ, if_pos h1] at this
        simpa using this
      · exfalso
        rw [hlast, show xs.length - 1 = i by omega] at e
        exact e h1
    · have hi : i < xs.length := part_lt (by rw [h2]; decide)
      have := (h i hi).2
      unfold joinB at this
      cases i with
      | zero => rw [aheadC_zero, if_neg (by decide), h2] at this; simp at this
      | succ i =>
        rw [aheadC_succ] at this
        by_cases c : (atC xs i).part = 1
        · exact ⟨by omega, by rw [Nat.add_sub_cancel]; exact c⟩
        · rw [if_neg c, h2] at this; simp at this
set_option maxHeartbeats 4000000 in
set_option maxRecDepth 20000 in
theorem implRowOk_any (v : Value) (xs : List Ce) (w : World) (hS : SpansAt w) (hv : SlC w v xs) (hl : xs.length ≤ 1048576) :
    Calls Tryd.prog 49 #[v] w fun e w' => e = .returned (.bool (rowOkB xs)) ∧ Below w.heap.size w w' := by
  obtain ⟨a, c, rfl, hcp, hnc, _⟩ := id hv
  have hlt := hS.lt
  by_cases h0 : xs.length < 1
  · have h0i : (xs.length : Int) < 1 := by omega
    have hV : Hid (rowOkB xs = false) := rowOkB_len xs (by omega)
    go_enter Tryd.func49, Tryd.ntmps49
    go_wp2
    go_ret
    exact ⟨by rw [hV.out]; rfl, Below.refl _ _⟩
  · have h0i : ¬ (xs.length : Int) < 1 := by omega
    by_cases h60 : 60 < xs.length
    · have h60i : (60 : Int) < (xs.length : Int) := by omega
      have hV : Hid (rowOkB xs = false) := rowOkB_len xs (by omega)
      go_enter Tryd.func49, Tryd.ntmps49
      go_wp2
      go_ret
      exact ⟨by rw [hV.out]; rfl, Below.refl _ _⟩
    · have h60i : ¬ (60 : Int) < (xs.length : Int) := by omega
      have hco := fun c W h => cellOk_any c W h
      have hjo := fun a c W => joins_any a c W
      have hbA := bal' w (Obj.cells #[.int .i64 0, .int .i64 0, .int .i64 0, .bool false, .bool false, .bool false, .int .i64 0] 65)
      have hz := CeF.new w Ce.zero 65
      simp only [Ce.zero, St.zero] at hz
      unfold ceV at *
      go_enter Tryd.func49, Tryd.ntmps49
      go_wp2
      go_loopw [17, 5] (fun i _ wr => ∃ j : Nat, i = .int .i64 j ∧ j ≤ xs.length ∧ CeF wr w.heap.size (aheadC xs j) ∧ Below w.heap.size w wr ∧ Hid (∀ i, i < j → c1B (atC xs i) = true ∧ joinB (aheadC xs i) (atC xs i) = true)) (fun i _ _ => xs.length - (intOf i).toNat)
      case atStart => exact ⟨0, rfl, Nat.zero_le _, hz, hbA, fun i h => absurd h (Nat.not_lt_zero i)⟩
      case round =>
        clear hz hbA
        obtain ⟨j, rfl, hj, hA, hb, hall⟩ := hrel
        by_cases hlj : j < xs.length
        · have hji : (j : Int) < (xs.length : Int) := by omega
          have hj0 : (0 : Int) ≤ (j : Int) := by omega
          obtain ⟨b, off, rfl, hsrc⟩ := (hv.below hb).src (by omega)
          have hat := hsrc j hlj
          have hno1 := fun h => row_no_cell (xs := xs) hlj h
          have hno2 := fun h => row_no_join (xs := xs) (i := j) h
          have hsu : Hid (aheadC xs (j + 1) = atC xs j) := aheadC_succ xs j
          have hX := CeF.new wr (atC xs j) 65
          have hbX := bal' wr (Obj.cells #[.int .i64 (atC xs j).rune, .int .i64 (atC xs j).st.fore, .int .i64 (atC xs j).st.back, .bool (atC xs j).st.bold, .bool (atC xs j).st.under, .bool (atC xs j).st.turned, .int .i64 (atC xs j).part] 65)
          have hA1 := hA.below hbX
          have hb1 := hb.trans (hbX.mono hb.size)
          have hstep : c1B (atC xs j) = true → joinB (aheadC xs j) (atC xs j) = true → Hid (∀ i, i < j + 1 → c1B (atC xs i) = true ∧ joinB (aheadC xs i) (atC xs i) = true) := fun h1 h2 => (show ∀ i, i < j + 1 → c1B (atC xs i) = true ∧ joinB (aheadC xs i) (atC xs i) = true from fun i hi => by
            by_cases e : i = j
            · rw [e]; exact ⟨h1, h2⟩
            · exact hall.out i (by omega))
          obtain ⟨c0, c1, c2, c3, c4, c5, c6⟩ := hat
          have hne : w.heap.size ≠ wr.heap.size := by have := hA.1; omega
          generalize atC xs j = x at *
          generalize aheadC xs j = ah at *
          clear hsrc hall hA hb hbX
          go_wp2_with fail
          generalize wr.alloc (Obj.cells #[.int .i64 x.rune, .int .i64 x.st.fore, .int .i64 x.st.back, .bool x.st.bold, .bool x.st.under, .bool x.st.turned, .int .i64 x.part] 65) = W1 at *
          refine (hco x _ (hS.below hb1 hlt)).mono ?_
          rintro e w2 ⟨rfl, hb2⟩
          have hX2 := hX.below hb2
          have hA2 := hA1.below hb2
          have hb2' := hb1.trans (hb2.mono hb1.size)
          clear hX hA1 hb2 c0 c1 c2 c3 c4 c5 c6 hb1 hco
          cases hc1 : c1B x
          · have hV : Hid (rowOkB xs = false) := hno1 hc1
            clear hno1 hno2 hstep hc1 hX2 hA2 hjo
            go_wp2
            go_ret
            exact ⟨by rw [hV.out]; rfl, hb2'⟩
          · obtain ⟨_, ⟨c0, c1, c2, c3, c4, c5, c6⟩, _⟩ := id hX2
            obtain ⟨_, ⟨d0, d1, d2, d3, d4, d5, d6⟩, _⟩ := id hA2
            go_wp2_with fail
            refine (hjo ah x _).mono ?_
            rintro e w3 ⟨rfl, hb3⟩
            have hX3 := hX2.below hb3
            have hA3 := hA2.below hb3
            have hb3' := hb2'.trans (hb3.mono hb2'.size)
            clear hX2 hA2 hb3 c0 c1 c2 c3 c4 c5 c6 d0 d1 d2 d3 d4 d5 d6 hb2' hjo
            cases hc2 : joinB ah x
            · have hV : Hid (rowOkB xs = false) := hno2 hc2
              clear hno1 hno2 hstep hc1 hc2 hX3 hA3
              go_wp2
              go_ret
              exact ⟨by rw [hV.out]; rfl, hb3'⟩
            · have hall := hstep hc1 hc2
              have hAp := hA3.put x
              have hbp := hb3'.grown (putF_grown w3 w.heap.size x) hb3'.size (fun k hk => by cases hk; exact Nat.le_refl _)
              obtain ⟨_, ⟨c0, c1, c2, c3, c4, c5, c6⟩, _⟩ := id hX3
              obtain ⟨_, ⟨d0, d1, d2, d3, d4, d5, d6⟩, ⟨f0, f1, f2, f3, f4, f5, f6⟩⟩ := id hA3
              clear hno1 hno2 hstep hc1 hc2 hX3 hA3
              simp only [putF] at hAp hbp
              go_wp2
              go_roundw
              case rel => exact ⟨j + 1, by go_num, by omega, by rw [hsu.out]; exact hAp, hbp, hall⟩
              case measure => simp [intOf]; omega
        · have hjn : j = xs.length := by omega
          have hji : ¬ (j : Int) < (xs.length : Int) := by omega
          have hV : Hid (rowOkB xs = !decide ((aheadC xs xs.length).part = 1)) := row_end ⟨by omega, by omega⟩ (by rw [← hjn]; exact hall.out)
          rw [← hjn] at hV
          obtain ⟨_, ⟨d0, d1, d2, d3, d4, d5, d6⟩, _⟩ := id hA
          clear hco hjo hall
          generalize aheadC xs j = ah at *
          go_wp2
          go_ret
          exact ⟨by rw [hV.out]; first | rfl | (simp; done), hb⟩
end Go.Proofs.YtmmmglblkampcaaDoor
namespace Go.Proofs.YtmmmglblkampcaaDoor
open Go.ChangeShapes Go.WideShapes Go.ChangeAt Go.RowKit
theorem gridOk_of {cols : Int} {rows : List (List Ce)} (hn : 1 ≤ rows.length ∧ rows.length ≤ 30) (h : ∀ i, i < rows.length → fitB cols (rowX rows i) = true) : gridOkB cols rows = true := by
  rw [gridOk_iff]
  refine ⟨?_, hn, h⟩
  have h0 := h 0 (by omega)
  unfold fitB at h0
  rw [Bool.and_eq_true, decide_eq_true_eq] at h0
  have := ((right_iff _).1 h0.2).1
  omega
set_option maxHeartbeats 4000000 in
set_option maxRecDepth 20000 in
theorem implGridOk_any (cols : Int) (v : Value) (rows : List (List Ce)) (w : World) (hS : SpansAt w) (hv : SlG w v rows) (hl : rows.length ≤ 1048576) (hx : ∀ i, i < rows.length → (rowX rows i).length ≤ 1048576) :
    Calls Tryd.prog 19 #[gridV cols v] w fun e w' => e = .returned (.bool (gridOkB cols rows)) ∧ Below w.heap.size w w' := by
  have hb0 := bal' w (Obj.cells #[.int .i64 cols, v] 26)
  have hG0 := GrN.new w cols v 26
  obtain ⟨a, c, vs, rfl, hcp, _, hr, hs⟩ := id hv
  unfold gridV
  obtain ⟨_, g0, g1⟩ := id hG0
  by_cases hn1 : rows.length < 1
  · have hn1i : (rows.length : Int) < 1 := by omega
    have hV : Hid (gridOkB cols rows = false) := gridOk_len (by omega)
    clear hs hr
    go_enter Tryd.func19, Tryd.ntmps19
    go_wp2
    go_ret
    exact ⟨by rw [hV.out]; rfl, hb0⟩
  · have hn1i : ¬ (rows.length : Int) < 1 := by omega
    by_cases hn2 : 30 < rows.length
    · have hn2i : 30 < (rows.length : Int) := by omega
      have hV : Hid (gridOkB cols rows = false) := gridOk_len (by omega)
      clear hs hr
      go_enter Tryd.func19, Tryd.ntmps19
      go_wp2
      go_ret
      exact ⟨by rw [hV.out]; rfl, hb0⟩
    · have hn2i : ¬ 30 < (rows.length : Int) := by omega
      rcases hr with h | ⟨b, off, rfl, hbb, hrc⟩
      · rw [h] at hn1; simp at hn1
      go_enter Tryd.func19, Tryd.ntmps19
      go_wp2
      go_loopw [4, 18] (fun _ i wr => ∃ j : Nat, i = .int .i64 j ∧ j ≤ rows.length ∧ Hid (∀ k, k < j → fitB cols (rowX rows k) = true) ∧ GrN wr w.heap.size cols (.slice (some ⟨b, off, none⟩) rows.length c) ∧ Below w.heap.size w wr) (fun _ i _ => rows.length - (intOf i).toNat)
      case atStart => exact ⟨0, rfl, Nat.zero_le _, (fun k hk => absurd hk (Nat.not_lt_zero k)), hG0, hb0⟩
      case round =>
        clear hG0 hb0
        obtain ⟨j, rfl, hj, hall, hG, kb⟩ := hrel
        obtain ⟨_, g0, g1⟩ := id hG
        by_cases hlt : j < rows.length
        · have hji : (j : Int) < (rows.length : Int) := by omega
          have hj0 : (0 : Int) ≤ (j : Int) := by omega
          have hcj := (kb.cell (p := ⟨b, off + j, none⟩) hbb).trans (hrc j hlt)
          have hsj := (hs j hlt).below kb
          obtain ⟨aj, cj, ev, _⟩ := id hsj
          rw [ev] at hcj hsj
          have hno : fitB cols (rowX rows j) = false → Hid (gridOkB cols rows = false) := fun h => gridOk_no hlt h
          have hstep : fitB cols (rowX rows j) = true → Hid (∀ k, k < j + 1 → fitB cols (rowX rows k) = true) := fun h => (show ∀ k, k < j + 1 → fitB cols (rowX rows k) = true from fun k hk => by
            by_cases e : k = j
            · rw [e]; exact h
            · exact hall.out k (by omega))
          have hok := implRowOk_any _ _ wr (hS.below kb hS.lt) hsj (hx j hlt)
          have hfit : fitB cols (rowX rows j) = (decide (((rowX rows j).length : Int) = cols) && rowOkB (rowX rows j)) := rfl
          clear hs hrc ev hsj hall
          by_cases hc : ((rowX rows j).length : Int) = cols
          · have hcb : (((rowX rows j).length : Int) != cols) = false := by simp [hc]
            rw [decide_eq_true hc, Bool.true_and] at hfit
            rw [hfit] at hno hstep
            clear hfit
            generalize rowOkB (rowX rows j) = ok at *
            clear hc
            go_wp2_with fail
            refine hok.mono ?_
            rintro e w2 ⟨rfl, hb2⟩
            have hG2 := hG.below hb2
            have kb2 := kb.trans (hb2.mono kb.size)
            clear hG kb hb2 hok g0 g1
            cases ok
            · have hV := hno rfl
              clear hno hstep
              go_wp2
              go_ret
              exact ⟨by rw [hV.out]; rfl, kb2⟩
            · have hall2 := hstep rfl
              clear hno hstep
              go_wp2
              go_roundw
              case rel => exact ⟨j + 1, by go_num, by omega, hall2, hG2, kb2⟩
              case measure => simp [intOf]; omega
          · have hcb : (((rowX rows j).length : Int) != cols) = true := by simp [hc]
            rw [decide_eq_false hc, Bool.false_and] at hfit
            have hV := hno hfit
            clear hok hno hstep hfit hc
            go_wp2
            go_ret
            exact ⟨by rw [hV.out]; rfl, kb⟩
        · have hjn : j = rows.length := by omega
          have hji : ¬ (j : Int) < (rows.length : Int) := by omega
          have hV : Hid (gridOkB cols rows = true) := gridOk_of ⟨by omega, by omega⟩ (by rw [← hjn]; exact hall.out)
          subst hjn
          clear hs hrc hall
          go_wp2
          go_ret
          exact ⟨by rw [hV.out]; rfl, kb⟩
end Go.Proofs.YtmmmglblkampcaaDoor
namespace Go.Proofs.YtmmmglblkampcaaDoor
open Go.ChangeShapes Go.WideShapes Go.ChangeAt Go.RowKit
def genV (n : Nat) (f : Nat → Value) : List Value := (List.range n).map f
theorem genV_len (n : Nat) (f : Nat → Value) : (genV n f).length = n := by simp [genV]
theorem genV_at (n : Nat) (f : Nat → Value) (i : Nat) (h : i < n) : rowV (genV n f) i = f i := by
  rw [rowV_lt (by rw [genV_len]; exact h)]
  simp [genV]
theorem ext_rowV (a b : List Value) (hl : a.length = b.length) (h : ∀ i, i < a.length → rowV a i = rowV b i) : a = b := by
  apply List.ext_getElem hl
  intro i h1 h2
  rw [← rowV_lt h1, ← rowV_lt h2]
  exact h i h1
theorem rowV_setV {vs : List Value} {j : Nat} (hj : j < vs.length) (r : Value) (i : Nat) : rowV (vs.set j r) i = if i = j then r else rowV vs i := by
  unfold rowV
  by_cases e : i = j
  · subst e; rw [if_pos rfl]; simp [List.getD, hj]
  · rw [if_neg e]; simp [List.getD, Ne.symm e]
/-- The values are moved about: each is one of before or a new one. -/
theorem OwnV.mixed {w w' : World} {base B : Nat} {v : Value} {vs : List Value} {rows : List (List Ce)} (h : OwnV w base B v vs rows) (σ : Nat → Option Nat) (vs' : List Value) (rows' : List (List Ce))
    (hl : vs'.length = rows'.length) (hn : rows'.length = rows.length) (ho : w'.ownsRow base 43 1 v rows.length vs')
    (hkeep : ∀ p, p < rows.length → OwnC w' base (rowV vs p) (rowX rows p))
    (hold : ∀ i p, i < rows.length → σ i = some p → p < rows.length ∧ rowV vs' i = rowV vs p ∧ rowX rows' i = rowX rows p)
    (hinj : ∀ i j p, i < j → j < rows.length → σ i = some p → σ j = some p → False)
    (hnew : ∀ i, i < rows.length → σ i = none → OwnC w' base (rowV vs' i) (rowX rows' i) ∧ ∀ g, (rowV vs' i).ownBlock = some g → B ≤ g)
    (hnd : ∀ i j, i < j → j < rows.length → σ i = none → σ j = none → ∀ g, (rowV vs' i).ownBlock = some g → (rowV vs' j).ownBlock ≠ some g) :
    OwnV w' base w'.heap.size v vs' rows' := by
  have hrow : ∀ i, i < rows.length → OwnC w' base (rowV vs' i) (rowX rows' i) := fun i hi => by
    cases e : σ i with
    | none => exact (hnew i hi e).1
    | some p => obtain ⟨hp, e1, e2⟩ := hold i p hi e; rw [e1, e2]; exact hkeep p hp
  refine ⟨hl, by rw [hn]; exact ho, fun i hi => hrow i (by omega), fun i hi g e => ((hrow i (by omega)).lt g e).2, fun i j hij hj g e1 e2 => ?_⟩
  rw [hn] at hj
  cases ei : σ i with
  | none =>
    cases ej : σ j with
    | none => exact hnd i j hij hj ei ej g e1 e2
    | some q =>
      obtain ⟨hq, eq1, _⟩ := hold j q hj ej
      rw [eq1] at e2
      have := h.2.2.2.1 q hq g e2
      have := (hnew i (by omega) ei).2 g e1
      omega
  | some p =>
    obtain ⟨hp, ep1, _⟩ := hold i p (by omega) ei
    rw [ep1] at e1
    cases ej : σ j with
    | none =>
      have := h.2.2.2.1 p hp g e1
      have := (hnew j hj ej).2 g e2
      omega
    | some q =>
      obtain ⟨hq, eq1, _⟩ := hold j q hj ej
      rw [eq1] at e2
      rcases Nat.lt_trichotomy p q with c | c | c
      · exact h.2.2.2.2 p q c hq g e1 e2
      · subst c; exact hinj i j p hij hj ei ej
      · exact h.2.2.2.2 q p c hp g e2 e1
/-- Values gathered, each one of before or a new row. -/
def Gat (w : World) (base : Nat) (vs : List Value) (X : List Ce) (σ : Nat → Option Nat) (us : List Value) : Prop :=
  (∀ k p, k < us.length → σ k = some p → rowV us k = rowV vs p) ∧ (∀ k, k < us.length → σ k = none → OwnC w base (rowV us k) X) ∧
  (∀ k l, k < l → l < us.length → σ k = none → σ l = none → ∀ g, (rowV us k).ownBlock = some g → (rowV us l).ownBlock ≠ some g)
theorem Gat.nil (w : World) (base : Nat) (vs : List Value) (X : List Ce) (σ : Nat → Option Nat) : Gat w base vs X σ [] :=
  ⟨fun k _ h => absurd h (Nat.not_lt_zero k), fun k h => absurd h (Nat.not_lt_zero k), fun _ l _ h => absurd h (Nat.not_lt_zero l)⟩
theorem Gat.below {w w' : World} {base : Nat} {vs : List Value} {X : List Ce} {σ : Nat → Option Nat} {us : List Value} (h : Gat w base vs X σ us) (hb : Below w.heap.size w w') : Gat w' base vs X σ us :=
  ⟨h.1, fun k hk e => (h.2.1 k hk e).below hb, h.2.2⟩
theorem Gat.kept {w w' : World} {base base2 n : Nat} {v : Value} {ys vs : List Value} {X : List Ce} {σ : Nat → Option Nat} {us : List Value} (h : Gat w base vs X σ us) (ho : w.ownsRow base2 43 1 v n ys) (hg : w.grownBy w' v.ownBlock) : Gat w' base vs X σ us :=
  ⟨h.1, fun k hk e => (h.2.1 k hk e).kept hg (outer_apart ho (h.2.1 k hk e)), h.2.2⟩
theorem Gat.old {w : World} {base : Nat} {vs : List Value} {X : List Ce} {σ : Nat → Option Nat} {us : List Value} (h : Gat w base vs X σ us) (p : Nat) (e : σ us.length = some p) : Gat w base vs X σ (us ++ [rowV vs p]) := by
  refine ⟨fun k q hk e2 => ?_, fun k hk e2 => ?_, fun k l hkl hl e1 e2 => ?_⟩
  · rw [List.length_append, List.length_singleton] at hk
    rw [rowV_snoc]
    by_cases c : k < us.length
    · rw [if_pos c]; exact h.1 k q c e2
    · have : k = us.length := by omega
      subst this
      rw [if_neg c, if_pos rfl]
      rw [e] at e2; cases e2; rfl
  · rw [List.length_append, List.length_singleton] at hk
    rw [rowV_snoc]
    by_cases c : k < us.length
    · rw [if_pos c]; exact h.2.1 k c e2
    · have : k = us.length := by omega
      subst this
      rw [e] at e2; cases e2
  · rw [List.length_append, List.length_singleton] at hl
    have c : l < us.length := by
      apply Nat.lt_of_not_le; intro c
      have : l = us.length := by omega
      subst this
      rw [e] at e2; cases e2
    rw [rowV_snoc, rowV_snoc, if_pos c, if_pos (by omega)]
    exact h.2.2 k l hkl c e1 e2
theorem Gat.new {w w' : World} {base : Nat} {vs : List Value} {X : List Ce} {σ : Nat → Option Nat} {us : List Value} (h : Gat w base vs X σ us) (e : σ us.length = none) (hb : Below w.heap.size w w') (r : Value) (hr : OwnC w' w.heap.size r X) (hbase : base ≤ w.heap.size) : Gat w' base vs X σ (us ++ [r]) := by
  have h2 := h.below hb
  refine ⟨fun k q hk e2 => ?_, fun k hk e2 => ?_, fun k l hkl hl e1 e2 => ?_⟩
  · rw [List.length_append, List.length_singleton] at hk
    rw [rowV_snoc]
    by_cases c : k < us.length
    · rw [if_pos c]; exact h.1 k q c e2
    · have : k = us.length := by omega
      subst this
      rw [e] at e2; cases e2
  · rw [List.length_append, List.length_singleton] at hk
    rw [rowV_snoc]
    by_cases c : k < us.length
    · rw [if_pos c]; exact h2.2.1 k c e2
    · rw [if_neg c, if_pos (by omega)]
      exact hr.low hbase
  · rw [List.length_append, List.length_singleton] at hl
    rw [rowV_snoc, rowV_snoc, if_pos (show k < us.length by omega)]
    by_cases c : l < us.length
    · rw [if_pos c]; exact h.2.2 k l hkl c e1 e2
    · rw [if_neg c, if_pos (by omega)]
      intro g g1 g2
      have := ((h.2.1 k (by omega) e1).lt g g1).2
      have := (hr.lt g g2).1
      omega
/-- Values are slices. -/
def AreSl (vs : List Value) : Prop := ∀ i, i < vs.length → ∃ a n c, rowV vs i = Value.slice a n c
theorem OwnC.isSl {w : World} {base : Nat} {v : Value} {xs : List Ce} (h : OwnC w base v xs) : ∃ a n c, v = Value.slice a n c := by
  rcases h.shape with ⟨h, _⟩ | ⟨_, _, h, _⟩ <;> exact ⟨_, _, _, h⟩
theorem OwnV.areSl {w : World} {base B : Nat} {v : Value} {vs : List Value} {rows : List (List Ce)} (h : OwnV w base B v vs rows) : AreSl vs := fun i hi => (h.2.2.1 i (by rw [← h.1]; exact hi)).isSl
theorem Gat.areSl {w : World} {base : Nat} {vs : List Value} {X : List Ce} {σ : Nat → Option Nat} {us : List Value} (h : Gat w base vs X σ us) (hv : AreSl vs) (hp : ∀ k p, k < us.length → σ k = some p → p < vs.length) : AreSl us := fun k hk => by
  cases e : σ k with
  | none => exact (h.2.1 k hk e).isSl
  | some p => rw [h.1 k p hk e]; exact hv p (hp k p hk e)
/-- One value more onto a row of this call's own. -/
theorem append_ov {w : World} {ops : Array Oper} {rest : List Oper} {o : Oper} {ac : Act} {Q : Exit → Act → World → Prop} (hgd : o.guard = none) (s x : Operand)
    (ho : o.op = .call { callee := .builtin .append, args := #[s, x], argTypes := #[24, 24] })
    (base n : Nat) (v : Value) (us : List Value) (r : Value) (hs : ac.eval s = v) (k : w.ownsRow base 43 1 v n us) (hr : ∃ a n c, r = Value.slice a n c) (hb : base ≤ w.heap.size) (hl : n < 2000000)
    (g : Nat) (hg0 : w.heap.size = g) (hx : ac.eval x = .slice (some ⟨g, 0, none⟩) 1 1)
    (h : ∀ v' w', w'.ownsRow base 43 1 v' (n + 1) (us ++ [r]) → (w.alloc (.cells #[r] 43)).grownBy w' v.ownBlock → wpList Tryd.prog ops Q rest (ac.put o.dst v') w') :
    wpList Tryd.prog ops Q (o :: rest) ac (w.alloc (.cells #[r] 43)) := by
  subst hg0
  obtain ⟨i0, hi, hz0, hz1, hz2⟩ := info_parts info_row
  have hba := bal' w (Obj.cells #[r] 43)
  have hown2 := World.ownsRow.below k hba
  obtain ⟨ra, rn, rc, rfl⟩ := hr
  refine wpList_append_own _ hgd s x _ ho base 43 i0 (.slice none 0 0) 1 24 under_rows hi hz0 hz1 hz2 rfl (by decide) v n us hs hown2 ⟨w.heap.size, 0, none⟩ 1 1 [_] hx rfl ?_ ?_ (by unfold maxLen; omega) (by omega) (by simp; omega) (fun v' w' ho' hg' _ => h v' w' ho' hg')
  · intro j u hj
    match j, hj with
    | 0, hj => simp at hj; subst hj; simp [Addr.add, go_sem]
  · intro u hu
    simp at hu
    subst hu
    rfl
theorem step_append_ov {w : World} {ops : Array Oper} {o : Oper} {ac : Act} {K : Act → World → Prop} {Q : Exit → Act → World → Prop} {E : Prop} (hgd : o.guard = none) (s x : Operand)
    (ho : o.op = .call { callee := .builtin .append, args := #[s, x], argTypes := #[24, 24] })
    (base n : Nat) (v : Value) (us : List Value) (r : Value) (hs : ac.eval s = v) (k : w.ownsRow base 43 1 v n us) (hr : ∃ a n c, r = Value.slice a n c) (hb : base ≤ w.heap.size) (hl : n < 2000000)
    (g : Nat) (hg0 : w.heap.size = g) (hx : ac.eval x = .slice (some ⟨g, 0, none⟩) 1 1)
    (h : ∀ v' w', w'.ownsRow base 43 1 v' (n + 1) (us ++ [r]) → (w.alloc (.cells #[r] 43)).grownBy w' v.ownBlock → K (ac.put o.dst v') w') :
    if Region.wanted o (yielded ops ac.tmps) = true then Oper.wp Tryd.prog o ac (w.alloc (.cells #[r] 43)) K Q else E := by
  have hw : Region.wanted o (yielded ops ac.tmps) = true := by simp [Region.wanted, hgd]
  rw [if_pos hw]
  subst hg0
  obtain ⟨i0, hi, hz0, hz1, hz2⟩ := info_parts info_row
  have hba := bal' w (Obj.cells #[r] 43)
  have hown2 := World.ownsRow.below k hba
  obtain ⟨ra, rn, rc, rfl⟩ := hr
  refine wp_append_own _ s x _ ho base 43 i0 (.slice none 0 0) 1 24 under_rows hi hz0 hz1 hz2 rfl (by decide) v n us hs hown2 ⟨w.heap.size, 0, none⟩ 1 1 [_] hx rfl ?_ ?_ (by unfold maxLen; omega) (by omega) (by simp; omega) (fun v' w' ho' hg' _ => h v' w' ho' hg')
  · intro j u hj
    match j, hj with
    | 0, hj => simp at hj; subst hj; simp [Addr.add, go_sem]
  · intro u hu
    simp at hu
    subst hu
    rfl
end Go.Proofs.YtmmmglblkampcaaDoor
namespace Go.Proofs.YtmmmglblkampcaaDoor
open Go.ChangeShapes Go.WideShapes Go.ChangeAt Go.RowKit
/-- A window of k cells, the first j of them blank, the others zero. -/
def zeroUp (L : List Ce) (q k j : Nat) (s : St) : List Ce := genL L.length fun i => if q ≤ i ∧ i < q + j then blankC s else if q ≤ i ∧ i < q + k then Ce.zero else atC L i
theorem zeroUp_len (L : List Ce) (q k j : Nat) (s : St) : (zeroUp L q k j s).length = L.length := genL_len _ _
theorem zeroUp_at (L : List Ce) (q k j : Nat) (s : St) (i : Nat) (h : i < L.length) : atC (zeroUp L q k j s) i = if q ≤ i ∧ i < q + j then blankC s else if q ≤ i ∧ i < q + k then Ce.zero else atC L i := genL_at _ _ _ h
theorem zeroUp_start (L : List Ce) (q k : Nat) (s : St) (h : q + k ≤ L.length) : windL L q (List.replicate k Ce.zero) = zeroUp L q k 0 s := ext_atC _ _ (by rw [windL_len _ _ _ (by simpa using h), zeroUp_len]) fun i hi => by
  rw [windL_len _ _ _ (by simpa using h)] at hi
  rw [windL_at _ _ _ (by simpa using h), zeroUp_at _ _ _ _ _ _ hi, if_neg (show ¬ (q ≤ i ∧ i < q + 0) by omega), List.length_replicate]
  by_cases c : q ≤ i ∧ i < q + k
  · rw [if_pos c, if_pos c, atC_lt (by simp; omega)]; simp
  · rw [if_neg c, if_neg c]
theorem zeroUp_end (L : List Ce) (q k : Nat) (s : St) : zeroUp L q k k s = fillUp L q (q + k) s := ext_atC _ _ (by rw [zeroUp_len, fillUp_len]) fun i hi => by
  rw [zeroUp_len] at hi
  rw [zeroUp_at _ _ _ _ _ _ hi, fillUp_at _ _ _ _ _ hi]
  by_cases c : q ≤ i ∧ i < q + k
  · rw [if_pos c, if_pos c]
  · rw [if_neg c, if_neg c, if_neg c]
theorem zeroUp_step (L : List Ce) (q k j : Nat) (s : St) (hj : j < k) (h : q + k ≤ L.length) : zeroUp L q k (j + 1) s = (zeroUp L q k j s).set (q + j) ⟨32, s, (atC (zeroUp L q k j s) (q + j)).part⟩ := ext_atC _ _ (by simp [zeroUp_len]) fun i hi => by
  rw [zeroUp_len] at hi
  rw [zeroUp_at _ _ _ _ _ _ hi, atC_set, zeroUp_len, zeroUp_at _ _ _ _ _ _ hi, zeroUp_at _ _ _ _ _ (q + j) (by omega), if_neg (show ¬ (q ≤ q + j ∧ q + j < q + j) by omega), if_pos (show q ≤ q + j ∧ q + j < q + k by omega)]
  by_cases e : i = q + j
  · rw [if_pos (show q ≤ i ∧ i < q + (j + 1) by omega), if_pos (show i = q + j ∧ q + j < L.length from ⟨e, by omega⟩)]; rfl
  · rw [if_neg (show ¬ (i = q + j ∧ q + j < L.length) from fun x => e x.1)]
    by_cases c : q ≤ i ∧ i < q + j
    · rw [if_pos c, if_pos (show q ≤ i ∧ i < q + (j + 1) by omega)]
    · rw [if_neg c, if_neg (show ¬ (q ≤ i ∧ i < q + (j + 1)) by omega)]
set_option maxHeartbeats 4000000 in
set_option maxRecDepth 20000 in
theorem blankOut_any (base g n cap q k c off : Nat) (L : List Ce) (s : St) (w : World) (h : OwnC w base (.slice (some ⟨g, 0, none⟩) n cap) L) (hn : L.length = n) (hq : q + k ≤ n) (hk : 0 < k) (hl : n ≤ 1000) (hoff : off = q * 7) :
    Calls Tryd.prog 66 #[.slice (some ⟨g, off, none⟩) k c, stV s] w fun e w' => e = .returned (.tuple #[]) ∧ OwnC w' base (.slice (some ⟨g, 0, none⟩) n cap) (fillUp L q (q + k) s) ∧ w.grownBy w' (some g) := by
  have h2 := StAt.new w s 28
  have hbA := bal' w (Obj.cells #[.int .i64 s.fore, .int .i64 s.back, .bool s.bold, .bool s.under, .bool s.turned] 28)
  have hlt : g < w.heap.size := (h.lt g rfl).2
  have hA := h.below hbA
  have hgA : w.grownBy (w.alloc (Obj.cells #[.int .i64 s.fore, .int .i64 s.back, .bool s.bold, .bool s.under, .bool s.turned] 28)) (some g) := World.grownBy_alloc w _ _
  have hHo : Hid (off = q * 7) := hoff
  have hfin : Hid (zeroUp L q k k s = fillUp L q (q + k) s) := zeroUp_end L q k s
  have hsta : Hid (windL L q (List.replicate k Ce.zero) = zeroUp L q k 0 s) := zeroUp_start L q k s (by omega)
  have hnG : w.heap.size ≠ g := by omega
  clear hbA hoff h
  unfold stV
  go_enter Tryd.func66, Tryd.ntmps66
  go_wp2_with (refine clear_oc rfl _ rfl base g n cap q k c off L hA hn hq hHo.out rfl ?_; intro w1 ho1 hg1)
  have k1 : OwnC w1 base (.slice (some ⟨g, 0, none⟩) n cap) (zeroUp L q k 0 s) := by rw [← hsta.out]; exact ho1
  have hs1 := h2.grown hg1 (by simp; omega)
  have hw1 := grown_tr hgA hg1
  clear ho1 hg1 hA h2 hgA
  go_wp2
  go_loopw [8, 4] (fun i _ wr => ∃ j : Nat, i = .int .i64 j ∧ j ≤ k ∧ OwnC wr base (.slice (some ⟨g, 0, none⟩) n cap) (zeroUp L q k j s) ∧ StAt wr w.heap.size s ∧ w.grownBy wr (some g)) (fun i _ _ => k - (intOf i).toNat)
  case atStart => exact ⟨0, rfl, Nat.zero_le _, k1, hs1, hw1⟩
  case round =>
    clear k1 hs1 hw1
    obtain ⟨j, rfl, hj, ko, hs, hw⟩ := hrel
    by_cases hlt : j < k
    · have hji : (j : Int) < (k : Int) := by omega
      have hj0 : (0 : Int) ≤ (j : Int) := by omega
      have hst : Hid (zeroUp L q k (j + 1) s = (zeroUp L q k j s).set (q + j) ⟨32, s, (atC (zeroUp L q k j s) (q + j)).part⟩) := zeroUp_step L q k j s hlt (by omega)
      have hsz : (zeroUp L q k j s).length = n := by rw [zeroUp_len]; exact hn
      have hp := ko.putRS hsz (q + j) (by omega) 32 s
      have kk : OwnC (putRS wr g ((q + j) * 7) 32 s) base (.slice (some ⟨g, 0, none⟩) n cap) (zeroUp L q k (j + 1) s) := by rw [hst.out]; exact hp.1
      have hsk := hs.grown hp.2 (by simp; omega)
      have hwk := grown_tr hw hp.2
      have hat := ko.at hsz (q + j) (by omega)
      have f0 := ko.frozen hsz ((q + j) * 7)
      have f1 := ko.frozen hsz ((q + j) * 7 + 1)
      have f2 := ko.frozen hsz ((q + j) * 7 + 2)
      have f3 := ko.frozen hsz ((q + j) * 7 + 3)
      have f4 := ko.frozen hsz ((q + j) * 7 + 4)
      have f5 := ko.frozen hsz ((q + j) * 7 + 5)
      have eo : (q + j) * 7 = off + j * 7 := by have := hHo.out; omega
      rw [eo] at f0 f1 f2 f3 f4 f5 kk hsk hwk hat
      obtain ⟨c0, c1, c2, c3, c4, c5, c6⟩ := hat
      obtain ⟨_, ⟨d0, d1, d2, d3, d4⟩, _⟩ := id hs
      clear hp hst ko hs hw eo
      simp only [putRS] at kk hsk hwk
      go_wp2
      go_roundw
      case rel => exact ⟨j + 1, by go_num, by omega, kk, hsk, hwk⟩
      case measure => simp [intOf]; omega
    · have hjn : j = k := by omega
      have hji : ¬ (j : Int) < (k : Int) := by omega
      subst hjn
      go_wp2
      refine bodyPost_end (results_none rfl _ _ _) rfl ?_
      exact ⟨rfl, by rw [← hfin.out]; exact ko, hw⟩
end Go.Proofs.YtmmmglblkampcaaDoor
namespace Go.Proofs.YtmmmglblkampcaaDoor
open Go.ChangeShapes Go.WideShapes Go.ChangeAt Go.RowKit
theorem under_stack : Tryd.prog.underlying 62 = some (.slice 43) := by kernel_rfl
/-- 'make' of rows under another name. -/
theorem make_ogs {w : World} {ops : Array Oper} {rest : List Oper} {o : Oper} {ac : Act} {Q : Exit → Act → World → Prop} (hgd : o.guard = none) (x y : Operand)
    (ho : o.op = Op.makeSlice 62 x y) (n : Nat) (hx : ac.eval x = .int .i64 (n : Int)) (hy : ac.eval y = .int .i64 (n : Int)) (hn : n ≤ 1073741824)
    (h : ∀ w', OwnG w' w.heap.size w'.heap.size (.slice (some ⟨w.heap.size, 0, none⟩) n n) (List.replicate n []) → Below w.heap.size w w' → wpList Tryd.prog ops Q rest (ac.put o.dst (.slice (some ⟨w.heap.size, 0, none⟩) n n)) w') :
    wpList Tryd.prog ops Q (o :: rest) ac w := by
  obtain ⟨i0, hi, hz0, hz1, hz2⟩ := info_parts info_row
  refine wpList_make_full _ hgd x y 62 ho w.heap.size 43 i0 (.slice none 0 0) 1 under_stack hi hz0 hz1 .i64 .i64 (n : Int) (n : Int) n hx hy rfl rfl (by rw [hz2]; omega) (by unfold maxLen; omega) (Nat.le_refl _) (fun w' ho' hg => ?_)
  rw [made_none] at ho'
  have hv : ∀ i, rowV (List.replicate n (Value.slice none 0 0)) i = .slice none 0 0 := fun i => by
    unfold rowV; by_cases hi : i < n <;> simp [List.getD, hi]
  have hr : ∀ i, rowX (List.replicate n ([] : List Ce)) i = [] := fun i => by
    unfold rowX; by_cases hi : i < n <;> simp [List.getD, hi]
  have hG : OwnG w' w.heap.size w'.heap.size (.slice (some ⟨w.heap.size, 0, none⟩) n n) (List.replicate n []) :=
    ⟨List.replicate n (.slice none 0 0), by simp, by rw [List.length_replicate]; exact ho', fun i _ => by rw [hv, hr]; exact ownC_none _ _, (fun i _ g e => by rw [hv] at e; cases e), (fun i j _ _ g e => by rw [hv] at e; cases e)⟩
  exact h w' hG ((Below.refl _ _).grown hg (Nat.le_refl _) (fun k hk => by cases hk))
end Go.Proofs.YtmmmglblkampcaaDoor
namespace Go.Proofs.YtmmmglblkampcaaDoor
open Go.ChangeShapes Go.WideShapes Go.ChangeAt Go.RowKit
set_option maxHeartbeats 4000000 in
theorem scrollOk_any (cols : Int) (v : Value) (rows : List (List Ce)) (t b n : Int) (s : St) (w : World) (hS : SpansAt w) (hv : SlG w v rows) (hl : rows.length ≤ 1048576) (hx : ∀ i, i < rows.length → (rowX rows i).length ≤ 1048576) :
    Calls Tryd.prog 36 #[gridV cols v, .int .i64 t, .int .i64 b, .int .i64 n, stV s] w fun e w' => e = .returned (.bool (toldB cols rows t b n s)) ∧ Below w.heap.size w w' := by
  have hb1 := bal' w (Obj.cells #[.int .i64 cols, v] 26)
  have hG := GrN.new w cols v 26
  have e1 : (w.alloc (Obj.cells #[.int .i64 cols, v] 26)).heap.size = w.heap.size + 1 := by simp
  have hb2 := hb1.trans ((bal' (w.alloc (Obj.cells #[.int .i64 cols, v] 26)) (Obj.cells #[.int .i64 s.fore, .int .i64 s.back, .bool s.bold, .bool s.under, .bool s.turned] 28)).mono hb1.size)
  have hG1 := hG.below (bal' _ (Obj.cells #[.int .i64 s.fore, .int .i64 s.back, .bool s.bold, .bool s.under, .bool s.turned] 28))
  have hS1 := StAt.new (w.alloc (Obj.cells #[.int .i64 cols, v] 26)) s 28
  rw [e1] at hS1
  have hv1 := hv.below hb2
  have hSp := hS.below hb2 hS.lt
  have hok := fun W hS h => implGridOk_any cols v rows W hS h hl hx
  have hst := fun W => implStyleOk_any s W
  obtain ⟨a, c, vs, rfl, _⟩ := id hv
  unfold gridV stV at *
  clear hv hG hb1 e1 hS
  have hT : Hid (toldB cols rows t b n s = (gridOkB cols rows && (s.ok && (decide (0 ≤ t ∧ t ≤ b) && (decide (b < rows.length) && decide (0 ≤ n ∧ n ≤ 1000)))))) := rfl
  generalize toldB cols rows t b n s = tt at *
  by_cases hP : 0 ≤ t ∧ t ≤ b ∧ b < rows.length ∧ 0 ≤ n ∧ n ≤ 1000
  · obtain ⟨h1, h2, h3, h4, h5⟩ := hP
    have hT2 : Hid (tt = (gridOkB cols rows && s.ok)) := by
      show _ = _
      rw [hT.out, decide_eq_true (show 0 ≤ t ∧ t ≤ b from ⟨h1, h2⟩), decide_eq_true h3, decide_eq_true (show 0 ≤ n ∧ n ≤ 1000 from ⟨h4, h5⟩)]; simp
    clear hT
    obtain ⟨_, g0, g1⟩ := id hG1
    go_enter Tryd.func36, Tryd.ntmps36
    go_wp2_with fail
    refine (hok _ hSp hv1).mono ?_
    rintro e w2 ⟨rfl, hw2⟩
    have hS2 := hS1.below hw2
    have hb3 := hb2.trans (hw2.mono hb2.size)
    clear hG1 hS1 hb2 hw2 hv1 hok g0 g1 hSp
    obtain ⟨_, ⟨c0, c1, c2, c3, c4⟩, _⟩ := id hS2
    cases hg : gridOkB cols rows
    · rw [hg] at hT2
      go_wp2
      go_ret
      exact ⟨by rw [hT2.out]; rfl, hb3⟩
    · rw [hg] at hT2
      go_wp2_with fail
      refine (hst _).mono ?_
      rintro e w3 ⟨rfl, hw3⟩
      go_wp2
      go_ret
      exact ⟨by rw [hT2.out]; simp, hb3.trans (hw3.mono hb3.size)⟩
  · have hT2 : Hid (tt = false) := by
      show _ = _
      rw [hT.out]
      by_cases c : 0 ≤ t ∧ t ≤ b
      · by_cases d : b < rows.length
        · rw [decide_eq_false (show ¬ (0 ≤ n ∧ n ≤ 1000) from fun h => hP ⟨c.1, c.2, d, h.1, h.2⟩)]; simp
        · rw [decide_eq_false d]; simp
      · rw [decide_eq_false c]; simp
    clear hT hok hst hv1 hSp
    obtain ⟨_, g0, g1⟩ := id hG1
    by_cases h1 : 0 ≤ t
    · by_cases h2 : t ≤ b
      · by_cases h3 : b < (rows.length : Int)
        · by_cases h4 : 0 ≤ n
          · have h5 : ¬ n ≤ 1000 := fun h5 => hP ⟨h1, h2, h3, h4, h5⟩
            clear hP
            go_enter Tryd.func36, Tryd.ntmps36
            go_wp2
            go_ret
            exact ⟨by rw [hT2.out]; rfl, hb2⟩
          · clear hP
            go_enter Tryd.func36, Tryd.ntmps36
            go_wp2
            go_ret
            exact ⟨by rw [hT2.out]; rfl, hb2⟩
        · clear hP
          go_enter Tryd.func36, Tryd.ntmps36
          go_wp2
          go_ret
          exact ⟨by rw [hT2.out]; rfl, hb2⟩
      · clear hP
        go_enter Tryd.func36, Tryd.ntmps36
        go_wp2
        go_ret
        exact ⟨by rw [hT2.out]; rfl, hb2⟩
    · clear hP
      go_enter Tryd.func36, Tryd.ntmps36
      go_wp2
      go_ret
      exact ⟨by rw [hT2.out]; rfl, hb2⟩
/-- One row is written anew, its value named. -/
theorem OwnV.setV {w : World} {base B g n cap : Nat} {vs : List Value} {rows : List (List Ce)} (h : OwnV w base B (.slice (some ⟨g, 0, none⟩) n cap) vs rows) (hn : rows.length = n) (i : Nat) (hi : i < n) (r : Value) (xs : List Ce) (hr : OwnC w base r xs) (hB : ∀ q, r.ownBlock = some q → B ≤ q) :
    OwnV (w.setCell ⟨g, i, none⟩ r) base (w.setCell ⟨g, i, none⟩ r).heap.size (.slice (some ⟨g, 0, none⟩) n cap) (vs.set i r) (rows.set i xs) ∧ w.grownBy (w.setCell ⟨g, i, none⟩ r) (some g) := by
  have h' := h
  subst hn
  obtain ⟨hvl, hown, hrs, hlt, hd⟩ := h
  have h0 := World.ownsRow.stored hown i r
  have hap : ∀ {u : Value} {ys : List Ce}, OwnC w base u ys → OwnC (w.setCell ⟨g, i, none⟩ r) base u ys := fun hu => hu.kept h0.2 (outer_apart hown hu)
  refine ⟨h'.mixed (fun k => if k = i then none else some k) _ _ (by simp [hvl]) (by simp) h0.1 (fun p hp => hap (hrs p hp)) (fun k p hk e => ?_) (fun a b p hab hb e1 e2 => ?_) (fun k hk e => ?_) (fun a b hab hb e1 e2 => ?_), h0.2⟩
  · by_cases c : k = i
    · rw [if_pos c] at e; cases e
    · rw [if_neg c] at e; cases e
      exact ⟨hk, by rw [rowV_setV (by omega), if_neg c], by rw [rowX_set hi, if_neg c]⟩
  · by_cases c : a = i
    · rw [if_pos c] at e1; cases e1
    · by_cases d : b = i
      · rw [if_pos d] at e2; cases e2
      · rw [if_neg c] at e1; rw [if_neg d] at e2; cases e1; cases e2; omega
  · by_cases c : k = i
    · rw [rowV_setV (by omega), if_pos c, rowX_set hi, if_pos c]; exact ⟨hap hr, hB⟩
    · rw [if_neg c] at e; cases e
  · by_cases c : a = i
    · by_cases d : b = i
      · omega
      · rw [if_neg d] at e2; cases e2
    · rw [if_neg c] at e1; cases e1
set_option maxHeartbeats 4000000 in
set_option maxRecDepth 20000 in
theorem copiedG_any (v : Value) (rows : List (List Ce)) (w : World) (hv : SlG w v rows) (hl : rows.length ≤ 1000) (hx : ∀ i, i < rows.length → (rowX rows i).length ≤ 1000) :
    Calls Tryd.prog 37 #[v] w fun e w' => ∃ vs, e = .returned (.slice (some ⟨w.heap.size, 0, none⟩) rows.length rows.length) ∧ OwnV w' w.heap.size w'.heap.size (.slice (some ⟨w.heap.size, 0, none⟩) rows.length rows.length) vs rows ∧ Below w.heap.size w w' := by
  obtain ⟨a, c, vs0, rfl, hcp, _, hr, hs⟩ := id hv
  generalize hN : rows.length = n at *
  go_enter Tryd.func37, Tryd.ntmps37
  go_wp2_with (refine make_ogs rfl _ _ rfl n rfl rfl (by omega) ?_; intro w1 ho1 hb1)
  obtain ⟨vs1, hv1⟩ := ho1.v
  have hst0 : OwnV w1 w.heap.size w1.heap.size (.slice (some ⟨w.heap.size, 0, none⟩) n n) vs1 (genR n fun i => if i < 0 then rowX rows i else []) := by
    have e : (genR n fun i => if i < 0 then rowX rows i else []) = List.replicate n [] := ext_rowX _ _ (by rw [genR_len, List.length_replicate]) fun i hi => by
      rw [genR_len] at hi
      rw [genR_at _ _ _ hi, if_neg (Nat.not_lt_zero i), rowX_lt (by simpa using hi)]; simp
    rw [e]; exact hv1
  clear ho1 hv1
  go_wp2
  go_loopw [4, 5, 11] (fun _ _ i wr => ∃ (j : Nat) (vs : List Value), i = .int .i64 j ∧ j ≤ n ∧ OwnV wr w.heap.size wr.heap.size (.slice (some ⟨w.heap.size, 0, none⟩) n n) vs (genR n fun i => if i < j then rowX rows i else []) ∧ Below w.heap.size w wr) (fun _ _ i _ => n - (intOf i).toNat)
  case atStart => exact ⟨0, vs1, rfl, Nat.zero_le _, hst0, hb1⟩
  case round =>
    clear hst0 hb1
    obtain ⟨j, vs, rfl, hj, k, kb⟩ := hrel
    have hRl : (genR n fun i => if i < j then rowX rows i else []).length = n := genR_len _ _
    by_cases hlt : j < n
    · have hji : (j : Int) < (n : Int) := by omega
      have hj0 : (0 : Int) ≤ (j : Int) := by omega
      rcases hr with h | ⟨b, off, rfl, hbb, hrc⟩
      · rw [h] at hN; simp at hN; omega
      have hst : Hid (((genR n fun i => if i < j then rowX rows i else []).set j (List.replicate (rowX rows j).length Ce.zero)).set j (rowX rows j) = genR n fun i => if i < j + 1 then rowX rows i else []) := by
        show _ = _
        rw [List.set_set]
        refine ext_rowX _ _ (by rw [List.length_set, genR_len, genR_len]) fun i hi => ?_
        rw [List.length_set, genR_len] at hi
        rw [rowX_set (by rw [genR_len]; exact hlt), genR_at _ _ _ hi, genR_at _ _ _ hi]
        by_cases e : i = j
        · rw [if_pos e, if_pos (by omega), e]
        · rw [if_neg e]
          by_cases c : i < j
          · rw [if_pos c, if_pos (by omega)]
          · rw [if_neg c, if_neg (by omega)]
      generalize (genR n fun i => if i < j then rowX rows i else []) = R at *
      have hcj := (kb.cell (p := ⟨b, off + j, none⟩) hbb).trans (hrc j hlt)
      have hsj := hs j hlt
      have hxj := hx j (by omega)
      obtain ⟨aj, cj, ev, _⟩ := id hsj
      rw [ev] at hcj hsj
      generalize rowX rows j = X at *
      have hm : X.length ≤ 1073741824 := by omega
      have hwin : Hid (windL (List.replicate X.length Ce.zero) 0 X = X) := by show _ = _; simp [windL]
      have hmin : Hid (X.length = Nat.min X.length X.length) := (Nat.min_self _).symm
      have hre : Hid ((List.replicate X.length Ce.zero).length = X.length) := by show _ = _; simp
      clear hs hrc ev hx
      go_wp2_with (first
        | (refine make_oc (by rfl) _ _ (by rfl) X.length (by rfl) (by rfl) hm ?_; intro w1 ho1 hb1
           have kv1 := k.below hb1
           have hcur := kv1.cell hRl j hlt
           have hfz := kv1.frozen hRl j
           have hsz := kb.size
           have hlt0 := (World.ownsRow.lt k.2.1 w.heap.size rfl).2
           obtain ⟨hkv, hkg⟩ := kv1.setV hRl j hlt (.slice (some ⟨wr.heap.size, 0, none⟩) X.length X.length) _ (ho1.low hsz) (fun q e => by cases e; exact Nat.le_refl _)
           have hoz := ho1.kept hkg (Or.inr (fun e => Nat.ne_of_gt hlt0 (Option.some.inj e)))
           have hbj := (kb.trans (hb1.mono hsz)).grown hkg (by have := hb1.size; omega) (fun g e => by cases e; exact Nat.le_refl _)
           have hsrc := (hsj.below hbj).src)
        | (refine copy_oc (by rfl) _ _ (by rfl) wr.heap.size wr.heap.size X.length X.length 0 (List.replicate X.length Ce.zero) X hoz hre.out (some ⟨wr.heap.size, 0, none⟩) aj X.length X.length X.length cj (by rfl) (by rfl) hmin.out (Nat.le_of_eq (Nat.zero_add _)) (fun h0 => ⟨rfl, hsrc h0⟩) ?_; intro w2 ho2 hg2; rw [hwin.out] at ho2))
      have hvl : vs.length = n := by rw [k.1]; exact hRl
      have hrv : rowV (vs.set j (.slice (some ⟨wr.heap.size, 0, none⟩) X.length X.length)) j = .slice (some ⟨wr.heap.size, 0, none⟩) X.length X.length := by rw [rowV_setV (by omega), if_pos rfl]
      have hkk := (hkv.rowset (j := j) (by simp; omega) X (by rw [hrv]; exact ho2.low hsz) (by rw [hrv]; exact hg2)).up (B' := w2.heap.size) hg2.size
      rw [hst.out] at hkk
      have hb2 := hbj.grown hg2 (by have := hbj.size; omega) (fun g e => by cases e; exact hsz)
      clear hst hrv hvl ho2 hg2 hsrc hbj hoz hkv hkg hlt0 hcur hfz kv1 ho1 hb1 k kb hRl
      go_wp2
      go_roundw
      case rel => exact ⟨j + 1, _, by go_num, by omega, hkk, hb2⟩
      case measure => simp [intOf]; omega
    · have hjn : j = n := by omega
      have hji : ¬ (j : Int) < (n : Int) := by omega
      have hye : (genR n fun i => if i < j then rowX rows i else []) = rows := ext_rowX _ _ (by rw [genR_len]; exact hN.symm) fun i hi => by
        rw [genR_len] at hi
        rw [genR_at _ _ _ hi, if_pos (by omega)]
      rw [hye] at k
      subst hjn
      clear hs hr hye hRl
      go_wp2
      go_ret
      exact ⟨rfl, ⟨_, k⟩, kb⟩
end Go.Proofs.YtmmmglblkampcaaDoor
namespace Go.Proofs.YtmmmglblkampcaaDoor
open Go.ChangeShapes Go.WideShapes Go.ChangeAt Go.RowKit
/-- A slice whose cells hold these values, one a place: what append takes its news from. -/
def ReadsRow (w : World) (u : Value) (news : List Value) : Prop :=
  (u = .slice none 0 0 ∧ news = []) ∨ ∃ ad c, u = .slice (some ad) news.length c ∧ ∀ j x, news[j]? = some x → w.cell? (ad.add j) = some x
theorem ReadsRow.of_own {w : World} {base : Nat} {e : TypeId} {v : Value} {n : Nat} {xs : List Value} (h : w.ownsRow base e 1 v n xs) : ReadsRow w v xs := by
  have hl : xs.length = n := by simpa using h.1
  rcases h.2 with ⟨rfl, rfl⟩ | ⟨g, cap, cur, hv, _⟩
  · exact .inl ⟨rfl, List.eq_nil_of_length_eq_zero hl⟩
  · exact .inr ⟨⟨g, 0, none⟩, cap, by rw [hv, hl], h.cells (by rw [hv]; rfl)⟩
theorem ReadsRow.below {w w' : World} {u : Value} {news : List Value} (h : ReadsRow w u news) (hb : Below w.heap.size w w') : ReadsRow w' u news := by
  rcases h with h | ⟨ad, c, hu, hc⟩
  · exact .inl h
  · refine .inr ⟨ad, c, hu, fun j x hx => ?_⟩
    have h1 := hc j x hx
    exact (hb.cell (World.block_lt_of_cell? w _ h1)).trans h1
theorem append_any {P : Program} {w : World} {ops : Array Oper} {rest : List Oper} {o : Oper} {a : Act} {Q : Exit → Act → World → Prop} (hgd : o.guard = none) (s x : Operand) (t : TypeId)
    (ho : o.op = .call { callee := .builtin .append, args := #[s, x], argTypes := #[t, t] })
    (base : Nat) (e : TypeId) (i : TypeInfo) (z : Value) (bytes : Nat) (ht : P.underlying t = some (.slice e)) (hi : P.info? e = some i) (hz : i.zero = some z)
    (hsize : i.size = 1) (hby : i.bytes = bytes) (hzs : z.cells.size = 1)
    (v : Value) (n : Nat) (xs : List Value) (hs : a.eval s = v) (hown : w.ownsRow base e 1 v n xs)
    (u : Value) (news : List Value) (hx : a.eval x = u) (hr : ReadsRow w u news) (h1 : ∀ u ∈ news, u.oneCell' = true)
    (h63 : n + news.length ≤ maxLen) (hbytes : (n + news.length) * bytes ≤ 140737488355328) (hbase : base ≤ w.heap.size)
    (h : ∀ v' w', w'.ownsRow base e 1 v' (n + news.length) (xs ++ news) → w.grownBy w' v.ownBlock → wpList P ops Q rest (a.put o.dst v') w') : wpList P ops Q (o :: rest) a w := by
  rcases hr with ⟨rfl, rfl⟩ | ⟨ad, c, rfl, hc⟩
  · exact wpList_append_own_none hgd s x t ho base e i 1 ht hi v n xs hs hown hx (h v w (by simpa using hown) (World.grownBy.refl _ _))
  · exact wpList_append_own w hgd s x t ho base e i z 1 bytes ht hi hz hsize hby hzs (by decide) v n xs hs hown ad news.length c news hx (by simp) hc h1 h63 hbytes hbase (fun v' w' a b _ => h v' w' a b)
end Go.Proofs.YtmmmglblkampcaaDoor
namespace Go.Proofs.YtmmmglblkampcaaDoor
open Go.ChangeShapes Go.WideShapes Go.ChangeAt Go.RowKit
theorem under_int : Tryd.prog.underlying 3 = some (.int .i64) := by kernel_rfl
/-- Room for n values is made. -/
theorem grow_zeros {w : World} {ops : Array Oper} {rest : List Oper} {o : Oper} {ac : Act} {Q : Exit → Act → World → Prop} (hgd : o.guard = none) (s x : Operand)
    (ho : o.op = .call { callee := .builtin .append, args := #[s, x], argTypes := #[62, 3] })
    (n : Nat) (hs : ac.eval s = .slice none 0 0) (hx : ac.eval x = .int .i64 (n : Int)) (h0 : 0 < n) (hn : n ≤ 1000000)
    (h : ∀ cap w', n ≤ cap → w'.ownsRow w.heap.size 43 1 (.slice (some ⟨w.heap.size, 0, none⟩) 0 cap) 0 [] → Below w.heap.size w w' → wpList Tryd.prog ops Q rest (ac.put o.dst (.slice (some ⟨w.heap.size, 0, none⟩) n cap)) w') :
    wpList Tryd.prog ops Q (o :: rest) ac w := by
  refine wpList_plain hgd fun K hK' => ?_
  obtain ⟨i0, hi, hz0, hz1, hz2⟩ := info_parts info_row
  have hrun := fun ty => Lib.run_append_nil_zeros (P := Tryd.prog) w 62 3 ty 43 i0 (.slice none 0 0) .i64 .i64 under_stack under_int hi hz0 n h0 (by omega) (by omega) (by rw [hz2]; omega)
  have hge := grownCap_ge w n 0 43
  have hle := grownCap_le_maxLen w n 0 43 (by unfold maxLen; omega)
  generalize grownCap w n 0 43 = cap at hrun hge hle
  have hZs : (Builtin.zeroCells (Value.slice none 0 0).cells n ++ Builtin.zeroCells (Value.slice none 0 0).cells (cap - n)).size = cap := by simp [size_zeroCells, Value.cells]; omega
  generalize Builtin.zeroCells (Value.slice none 0 0).cells n ++ Builtin.zeroCells (Value.slice none 0 0).cells (cap - n) = Z at hrun hZs
  have hb : Below w.heap.size w (w.drew.alloc (.cells Z 43)) := (bdr w).trans (bal' w.drew _)
  have hown : (w.drew.alloc (.cells Z 43)).ownsRow w.heap.size 43 1 (.slice (some ⟨w.heap.size, 0, none⟩) 0 cap) 0 [] := by
    refine ⟨rfl, .inr ⟨w.heap.size, cap, Z, rfl, Nat.le_refl _, heap_alloc_new w.drew _, Nat.zero_le _, hle, by omega, by simp⟩⟩
  unfold Oper.wp
  simp [execOp, ho, resolve, invoke, builtin, hs, hx, hrun, Result.andThen]
  exact hK' _ _ (h cap _ hge hown hb)
set_option maxRecDepth 20000 in
theorem growG_any (n : Nat) (w : World) (h0 : 0 < n) (hn : n ≤ 1000000) :
    Calls Tryd.prog 100 #[.slice none 0 0, .int .i64 (n : Int)] w fun e w' => ∃ cap, e = .returned (.slice (some ⟨w.heap.size, 0, none⟩) 0 cap) ∧ w'.ownsRow w.heap.size 43 1 (.slice (some ⟨w.heap.size, 0, none⟩) 0 cap) 0 [] ∧ Below w.heap.size w w' := by
  have h1 : ¬ (n : Int) < 0 := by omega
  have h2 : (0 : Int) < (n : Int) := by omega
  go_enter Tryd.func100, Tryd.ntmps100
  go_wp2_with (at_builtin; refine grow_zeros (by rfl) _ _ (by rfl) n (by rfl) (by rfl) h0 hn ?_; intro cap w1 hcap ho1 hb1)
  go_ret
  exact ⟨_, rfl, ho1, hb1⟩
theorem ownsShape' {w : World} {base n : Nat} {v : Value} {xs : List Value} (h : w.ownsRow base 43 1 v n xs) : ∃ a n c, v = Value.slice a n c := by
  rcases h.2 with ⟨h1, _⟩ | ⟨g, cap, cur, hv, _⟩
  · exact ⟨_, _, _, h1⟩
  · exact ⟨_, _, _, hv⟩
set_option maxHeartbeats 4000000 in
set_option maxRecDepth 20000 in
theorem concatG_any (bb cc : Nat) (pa pb : Option Addr) (ca cb : Nat) (As Bs : List Value) (w : World) (c0 : w.cell? ⟨bb, 0, none⟩ = some (.slice pa As.length ca)) (c1 : w.cell? ⟨bb, 1, none⟩ = some (.slice pb Bs.length cb))
    (ha : ReadsRow w (.slice pa As.length ca) As) (hb : ReadsRow w (.slice pb Bs.length cb) Bs) (h0 : 0 < As.length + Bs.length) (hn : As.length + Bs.length ≤ 1000) (h1a : ∀ u ∈ As, u.oneCell' = true) (h1b : ∀ u ∈ Bs, u.oneCell' = true) :
    Calls Tryd.prog 86 #[.slice (some ⟨bb, 0, none⟩) 2 cc] w fun e w' => ∃ v, e = .returned v ∧ w'.ownsRow w.heap.size 43 1 v (As.length + Bs.length) (As ++ Bs) ∧ Below w.heap.size w w' := by
  have hbb := World.block_lt_of_cell? w _ c0
  have hgr := fun W => growG_any (As.length + Bs.length) W h0 (by omega)
  have hsum : ((As.length + Bs.length : Nat) : Int) = (As.length : Int) + (Bs.length : Int) := by omega
  rw [hsum] at hgr
  generalize hA : As.length = la at *
  generalize hB : Bs.length = lb at *
  have hla : ¬ ((la : Int) < 0) := by omega
  have hlb : ¬ ((la : Int) + (lb : Int) < 0) := by omega
  obtain ⟨i0, hi, hz0, hz1, hz2⟩ := info_parts info_row
  clear hsum
  go_enter Tryd.func86, Tryd.ntmps86
  go_wp2
  refine wp_loop_rounds 3 ?_
  rw [rounds_succ]
  go_wp2
  rw [rounds_succ]
  go_wp2
  rw [rounds_succ]
  go_wp2_with fail
  refine (hgr _).mono ?_
  rintro e w2 ⟨cap, rfl, ho2, hb2⟩
  have d0 := (hb2.cell (p := ⟨bb, 0, none⟩) hbb).trans c0
  have d1 := (hb2.cell (p := ⟨bb, 1, none⟩) hbb).trans c1
  have ha2 := ha.below hb2
  clear c0 c1 ha hgr
  go_wp2
  refine wp_loop_rounds 3 ?_
  rw [rounds_succ]
  go_wp2_with (at_builtin; refine append_any (by rfl) _ _ 62 (by rfl) w.heap.size 43 i0 (.slice none 0 0) 24 under_stack hi hz0 hz1 hz2 (by rfl) (.slice (some ⟨w.heap.size, 0, none⟩) 0 cap) 0 [] (by rfl) ho2 (.slice pa la ca) As (by rfl) ha2 h1a (by rw [hA]; unfold maxLen; omega) (by rw [hA]; omega) hb2.size ?_; intro v3 w3 ho3 hg3)
  have hb3 := hb2.grown hg3 hb2.size (fun g e => by cases e; exact Nat.le_refl _)
  have e1 := (hb3.cell (p := ⟨bb, 1, none⟩) hbb).trans ((hb2.cell (p := ⟨bb, 1, none⟩) hbb).symm.trans d1)
  have hbw3 := hb.below hb3
  rw [hA, Nat.zero_add, List.nil_append] at ho3
  clear hg3 ho2 ha2 d0 d1
  obtain ⟨va, vn, vc, rfl⟩ := ownsShape' ho3
  rw [rounds_succ]
  go_wp2_with (at_builtin; refine append_any (by rfl) _ _ 62 (by rfl) w.heap.size 43 i0 (.slice none 0 0) 24 under_stack hi hz0 hz1 hz2 (by rfl) (.slice va vn vc) la As (by rfl) ho3 (.slice pb lb cb) Bs (by rfl) hbw3 h1b (by rw [hB]; unfold maxLen; omega) (by rw [hB]; omega) hb3.size ?_; intro v4 w4 ho4 hg4)
  have hb4 := hb3.grown hg4 hb3.size (fun g e => (World.ownsRow.lt ho3 g e).1)
  rw [hB] at ho4
  clear hg4 ho3 hbw3 e1 hb hb2 hb3
  rw [rounds_succ]
  go_wp2
  go_ret
  exact ⟨_, rfl, ho4, hb4⟩
end Go.Proofs.YtmmmglblkampcaaDoor
namespace Go.Proofs.YtmmmglblkampcaaDoor
open Go.ChangeShapes Go.WideShapes Go.ChangeAt Go.RowKit
/-- Values laid over a window. -/
def windV (L : List Value) (q : Nat) (M : List Value) : List Value := L.take q ++ M ++ L.drop (q + M.length)
theorem windV_len (L : List Value) (q : Nat) (M : List Value) (h : q + M.length ≤ L.length) : (windV L q M).length = L.length := by unfold windV; simp; omega
theorem windV_at (L : List Value) (q : Nat) (M : List Value) (h : q + M.length ≤ L.length) (i : Nat) (_ : i < L.length) : rowV (windV L q M) i = if q ≤ i ∧ i < q + M.length then rowV M (i - q) else rowV L i := by
  have h1 : (L.take q).length = q := by rw [List.length_take]; omega
  unfold rowV windV
  simp only [List.getD]
  by_cases c1 : i < q
  · rw [if_neg (by omega), List.append_assoc, List.getElem?_append_left (by omega), List.getElem?_take_of_lt c1]
  · by_cases c2 : i < q + M.length
    · rw [if_pos (by omega), List.append_assoc, List.getElem?_append_right (by omega), h1, List.getElem?_append_left (by omega)]
    · rw [if_neg (by omega), List.getElem?_append_right (by rw [List.length_append, h1]; omega), List.length_append, h1, List.getElem?_drop, show q + M.length + (i - (q + M.length)) = i by omega]
theorem run_copy_ov {w : World} (ty : TypeId) (base g n cap q : Nat) (xs cs : List Value) (h : w.ownsRow base 43 1 (.slice (some ⟨g, 0, none⟩) n cap) n xs) (dp sp : Option Addr) (dLen dCap sLen sCap : Nat) (hM : cs.length = Nat.min sLen dLen) (hq : q + cs.length ≤ n)
    (hpos : 0 < cs.length → dp = some ⟨g, q, none⟩ ∧ ∃ ad, sp = some ad ∧ ∀ j v, cs[j]? = some v → w.cell? (ad.add j) = some v) (h1 : ∀ v ∈ cs, v.oneCell' = true) :
    ∃ w', (Builtin.copy_ #[62, 62] ty #[.slice dp dLen dCap, .slice sp sLen sCap]).run Tryd.prog w = .ok (goInt cs.length) w' ∧ w'.ownsRow base 43 1 (.slice (some ⟨g, 0, none⟩) n cap) n (windV xs q cs) ∧ w.grownBy w' (some g) := by
  obtain ⟨i0, hi, hz0, hz1, hz2⟩ := info_parts info_row
  have hsz : (Tryd.prog.info? 43).map (·.size) = some 1 := by rw [hi]; simp [hz1]
  have hxl : xs.length = n := by have := h.1; omega
  by_cases h0 : cs.length = 0
  · obtain rfl : cs = [] := List.eq_nil_of_length_eq_zero h0
    have hrun := run_copy_none (P := Tryd.prog) w 62 62 ty 43 dp sp dLen dCap sLen sCap under_stack hsz (by simpa using hM.symm)
    refine ⟨w, hrun, ?_, World.grownBy.refl _ _⟩
    have e : windV xs q [] = xs := by simp [windV]
    rw [e]; exact h
  · obtain ⟨rfl, ad, rfl, hsrc⟩ := hpos (by omega)
    rcases h.2 with ⟨h', _⟩ | ⟨g', cap', cur, h', hb, hg, hnc, hcm, hcs, htake⟩
    · simp at h'
    · simp only [Value.slice.injEq, Option.some.injEq, Addr.mk.injEq, and_true, true_and] at h'
      obtain ⟨rfl, rfl⟩ := h'
      have hrun := run_copy_row (P := Tryd.prog) w 62 62 ty 43 g q dLen dCap ad sLen sCap cur 43 cs under_stack hsz hg hM hsrc (by omega) h1
      refine ⟨_, hrun, ⟨by rw [windV_len _ _ _ (by omega)]; omega, .inr ⟨g, cap, _, rfl, hb, setRow_heap w g cur _ 43 _ hg, hnc, hcm, ?_, ?_⟩⟩, ⟨rfl, rfl, rfl, by simp [World.setRow], fun k _ hk => setRow_other w g k _ (fun e => hk (by simp [e]))⟩⟩
      · simp only [List.size_toArray, List.length_append, List.length_take, List.length_drop, Array.length_toList]; omega
      · have hx : xs = cur.toList.take n := by rw [← htake]; simp
        have e1 : cur.toList.take q = xs.take q := by rw [hx, List.take_take, Nat.min_eq_left (by omega)]
        have e2 : (cur.toList.drop (q + cs.length)).take (n - (q + cs.length)) = xs.drop (q + cs.length) := by rw [hx, List.drop_take]
        unfold windV
        rw [← e1, ← e2]
        have hl1 : (cur.toList.take q ++ cs).length = q + cs.length := by rw [List.length_append, List.length_take, Array.length_toList, hcs]; omega
        simp only [Nat.mul_one]
        rw [List.take_append, List.take_of_length_le (by rw [hl1]; omega), hl1]
theorem step_copy_ov {ops : Array Oper} {o : Oper} {ac : Act} {w : World} {K : Act → World → Prop} {Q : Exit → Act → World → Prop} {E : Prop} (hgd : o.guard = none) (d s : Operand)
    (ho : o.op = .call { callee := .builtin .copy, args := #[d, s], argTypes := #[62, 62] })
    (base g n cap q : Nat) (xs cs : List Value) (h : w.ownsRow base 43 1 (.slice (some ⟨g, 0, none⟩) n cap) n xs) (dp sp : Option Addr) (dLen dCap sLen sCap : Nat) (hd : ac.eval d = .slice dp dLen dCap) (hs : ac.eval s = .slice sp sLen sCap) (hM : cs.length = Nat.min sLen dLen) (hq : q + cs.length ≤ n)
    (hpos : 0 < cs.length → dp = some ⟨g, q, none⟩ ∧ ∃ ad, sp = some ad ∧ ∀ j v, cs[j]? = some v → w.cell? (ad.add j) = some v) (h1 : ∀ v ∈ cs, v.oneCell' = true)
    (hK : ∀ w', w'.ownsRow base 43 1 (.slice (some ⟨g, 0, none⟩) n cap) n (windV xs q cs) → w.grownBy w' (some g) → K (ac.put o.dst (goInt cs.length)) w') :
    if Region.wanted o (yielded ops ac.tmps) = true then Oper.wp Tryd.prog o ac w K Q else E := by
  have hw : Region.wanted o (yielded ops ac.tmps) = true := by simp [Region.wanted, hgd]
  rw [if_pos hw]
  obtain ⟨w', hrun, h2, h3⟩ := run_copy_ov (w := w) o.type base g n cap q xs cs h dp sp dLen dCap sLen sCap hM hq hpos h1
  unfold Oper.wp
  simp [execOp, ho, resolve, invoke, builtin, hd, hs, hrun, Result.andThen]
  exact hK w' h2 h3
/-- The rows of a window, turned. -/
def turnI (a m k i : Nat) : Nat := if a ≤ i ∧ i < a + m then (if i + k < a + m then i + k else i + k - m) else i
def turnR (rows : List (List Ce)) (a m k : Nat) : List (List Ce) := genR rows.length fun i => rowX rows (turnI a m k i)
theorem turnR_len (rows : List (List Ce)) (a m k : Nat) : (turnR rows a m k).length = rows.length := genR_len _ _
theorem turnR_at (rows : List (List Ce)) (a m k i : Nat) (h : i < rows.length) : rowX (turnR rows a m k) i = rowX rows (turnI a m k i) := genR_at _ _ _ h
theorem turnI_lt {a m k i n : Nat} (hk : k ≤ m) (ham : a + m ≤ n) (hi : i < n) : turnI a m k i < n := by unfold turnI; split <;> (try split) <;> omega
theorem turnI_inj {a m k i j : Nat} (hk : k ≤ m) (h : turnI a m k i = turnI a m k j) : i = j := by
  unfold turnI at h
  split at h <;> split at h <;> (try split at h) <;> (try split at h) <;> omega
def turnV (vs : List Value) (a m k : Nat) : List Value := genV (m - k) (fun i => rowV vs (a + k + i)) ++ genV k (fun i => rowV vs (a + i))
theorem turnV_len (vs : List Value) (a m k : Nat) (hk : k ≤ m) : (turnV vs a m k).length = m := by unfold turnV; rw [List.length_append, genV_len, genV_len]; omega
theorem rowV_app (a b : List Value) (i : Nat) : rowV (a ++ b) i = if i < a.length then rowV a i else rowV b (i - a.length) := by
  unfold rowV
  simp only [List.getD]
  by_cases c : i < a.length
  · rw [if_pos c, List.getElem?_append_left c]
  · rw [if_neg c, List.getElem?_append_right (by omega)]
theorem turnV_at (vs : List Value) (a m k i : Nat) (hk : k ≤ m) (hi : i < m) : rowV (turnV vs a m k) i = rowV vs (turnI a m k (a + i)) := by
  unfold turnV turnI
  rw [rowV_app, genV_len, if_pos (show a ≤ a + i ∧ a + i < a + m by omega)]
  by_cases c : i < m - k
  · rw [if_pos c, genV_at _ _ _ c, if_pos (by omega)]
    congr 1; omega
  · rw [if_neg c, genV_at _ _ _ (by omega), if_neg (by omega)]
    congr 1; omega
theorem OwnV.turned {w w' : World} {base B g n cap a m k : Nat} {vs : List Value} {rows : List (List Ce)} (h : OwnV w base B (.slice (some ⟨g, 0, none⟩) n cap) vs rows) (hn : rows.length = n) (ham : a + m ≤ n) (hk : k ≤ m)
    (ho : w'.ownsRow base 43 1 (.slice (some ⟨g, 0, none⟩) n cap) n (windV vs a (turnV vs a m k))) (hg : w.grownBy w' (some g)) : OwnV w' base B (.slice (some ⟨g, 0, none⟩) n cap) (windV vs a (turnV vs a m k)) (turnR rows a m k) := by
  have hvl := h.1
  have hown := h.2.1
  have hl := turnV_len vs a m k hk
  have hat : ∀ i, i < rows.length → rowV (windV vs a (turnV vs a m k)) i = rowV vs (turnI a m k i) := fun i hi => by
    rw [windV_at _ _ _ (by omega) _ (by omega), hl]
    by_cases c : a ≤ i ∧ i < a + m
    · rw [if_pos c, turnV_at _ _ _ _ _ hk (by omega), show a + (i - a) = i by omega]
    · rw [if_neg c]
      unfold turnI
      rw [if_neg c]
  have key : OwnV w' base w'.heap.size (.slice (some ⟨g, 0, none⟩) n cap) (windV vs a (turnV vs a m k)) (turnR rows a m k) := by
    refine h.mixed (fun i => some (turnI a m k i)) _ _ (by rw [windV_len _ _ _ (by omega), turnR_len, hvl]) (turnR_len _ _ _ _) (by rw [hn]; exact ho) (fun p hp => (h.2.2.1 p hp).kept hg (outer_apart hown (h.2.2.1 p hp))) (fun i p hi e => ?_) (fun i j p hij _ e1 e2 => ?_) (fun i _ e => by cases e) (fun i j _ _ e _ => by cases e)
    · cases e
      exact ⟨turnI_lt hk (by omega) hi, hat i hi, turnR_at _ _ _ _ _ hi⟩
    · cases e1
      have := turnI_inj hk (Option.some.inj e2)
      omega
  refine ⟨key.1, key.2.1, key.2.2.1, fun i hi g' e => ?_, key.2.2.2.2⟩
  rw [turnR_len] at hi
  rw [hat i hi] at e
  exact h.2.2.2.1 _ (by rw [hn]; exact turnI_lt hk (by omega) (by omega)) g' e
theorem areSl_one {L : List Value} (h : AreSl L) : ∀ u ∈ L, u.oneCell' = true := fun u hu => by
  obtain ⟨i, hi, rfl⟩ := List.getElem_of_mem hu
  obtain ⟨a, n, c, e⟩ := h i hi
  rw [rowV_lt hi] at e
  rw [e]; rfl
theorem genV_sl {n : Nat} {f : Nat → Value} (h : ∀ i, i < n → ∃ a n' c, f i = Value.slice a n' c) : AreSl (genV n f) := fun i hi => by
  rw [genV_len] at hi
  rw [genV_at _ _ _ hi]; exact h i hi
/-- The values of a window, read. -/
theorem win_reads {w : World} {base n g cap q m c : Nat} {vs : List Value} (h : w.ownsRow base 43 1 (.slice (some ⟨g, 0, none⟩) n cap) n vs) (hq : q + m ≤ n) : ReadsRow w (.slice (some ⟨g, q, none⟩) m c) (genV m fun i => rowV vs (q + i)) := by
  have hl : vs.length = n := by have := h.1; omega
  refine .inr ⟨⟨g, q, none⟩, c, by rw [genV_len], fun j x hx => ?_⟩
  have hj : j < m := by have := (List.getElem?_eq_some_iff.1 hx).1; rw [genV_len] at this; exact this
  rw [rowV_get (by rw [genV_len]; exact hj), genV_at _ _ _ hj] at hx
  cases hx
  rw [Addr.add_mid, World.ownsRow.cellAt h (q + j) (by omega), rowV_get (by omega)]
theorem ownsSome {w : World} {base n : Nat} {v : Value} {xs : List Value} (h : w.ownsRow base 43 1 v n xs) (hn : 0 < n) : ∃ gv cv, v = Value.slice (some ⟨gv, 0, none⟩) n cv := by
  rcases h.2 with ⟨_, h2⟩ | ⟨g, cap, cur, hv, _⟩
  · omega
  · exact ⟨_, _, hv⟩
set_option maxHeartbeats 8000000 in
set_option maxRecDepth 20000 in
theorem turn_any (base B g n cap a m k c : Nat) (vs : List Value) (rows : List (List Ce)) (w : World) (h : OwnV w base B (.slice (some ⟨g, 0, none⟩) n cap) vs rows) (hn : rows.length = n) (ham : a + m ≤ n) (hk : k < m) (hc : m ≤ c) (hl : n ≤ 1000) :
    Calls Tryd.prog 64 #[.slice (some ⟨g, a, none⟩) m c, .int .i64 (k : Int)] w fun e w' => e = .returned (.tuple #[]) ∧ (∃ vs', OwnV w' base B (.slice (some ⟨g, 0, none⟩) n cap) vs' (turnR rows a m k)) ∧ w.grownBy w' (some g) := by
  have hown := h.2.1
  rw [hn] at hown
  have hvl : vs.length = n := by rw [h.1]; exact hn
  have hvs := h.areSl
  have hg := (World.ownsRow.lt hown g rfl).2
  have hlt : AreSl (turnV vs a m k) := fun i hi => by
    rw [turnV_len _ _ _ _ (by omega)] at hi
    rw [turnV_at _ _ _ _ _ (by omega) hi]
    exact hvs _ (by rw [hvl]; exact turnI_lt (n := n) (by omega) ham (by omega))
  have hcat : ∀ W, W.cell? ⟨w.heap.size, 0, none⟩ = some (.slice (some ⟨g, a + k, none⟩) (m - k) (c - k)) → W.cell? ⟨w.heap.size, 1, none⟩ = some (.slice (some ⟨g, a, none⟩) k c) → Below w.heap.size w W →
      Calls Tryd.prog 86 #[.slice (some ⟨w.heap.size, 0, none⟩) 2 2] W fun e w' => ∃ v, e = .returned v ∧ w'.ownsRow W.heap.size 43 1 v m (turnV vs a m k) ∧ Below W.heap.size W w' := fun W c0 c1 hb => by
    have hoW := World.ownsRow.below hown hb
    have r1 := win_reads (c := c - k) hoW (show (a + k) + (m - k) ≤ n by omega)
    have r2 := win_reads (c := c) hoW (show a + k ≤ n by omega)
    have hlA := genV_len (m - k) fun i => rowV vs (a + k + i)
    have hlB := genV_len k fun i => rowV vs (a + i)
    have h3 := concatG_any w.heap.size 2 (some ⟨g, a + k, none⟩) (some ⟨g, a, none⟩) (c - k) c (genV (m - k) fun i => rowV vs (a + k + i)) (genV k fun i => rowV vs (a + i)) W (by rw [hlA]; exact c0) (by rw [hlB]; exact c1) (by rw [hlA]; exact r1) (by rw [hlB]; exact r2) (by omega) (by omega)
      (areSl_one (genV_sl fun i hi => hvs _ (by omega))) (areSl_one (genV_sl fun i hi => hvs _ (by omega)))
    rw [hlA, hlB, show m - k + k = m by omega] at h3
    exact h3
  have hfin := fun (W W' : World) (hb : Below w.heap.size w W) (ho : W'.ownsRow base 43 1 (.slice (some ⟨g, 0, none⟩) n cap) n (windV vs a (turnV vs a m k))) (hgr : W.grownBy W' (some g)) => (h.below hb).turned hn ham (Nat.le_of_lt hk) ho hgr
  have hbA := fun o => (bal' w o).trans ((bdr (w.alloc o)).mono (bal' w o).size)
  have hm0 : 0 < m := by omega
  have hk0 : (0 : Int) ≤ (k : Int) := by omega
  have hkm : (k : Int) ≤ (m : Int) := by omega
  have hkc : (k : Int) ≤ (c : Int) := by omega
  have hmc : (m : Int) ≤ (c : Int) := by omega
  have hkc2 : ¬ (c - k = 0) := by omega
  have htl := turnV_len vs a m k (by omega)
  have hone := areSl_one hlt
  have hmin : Hid ((turnV vs a m k).length = Nat.min m m) := by show _ = _; rw [htl]; exact (Nat.min_self _).symm
  have hqn : Hid (a + (turnV vs a m k).length ≤ n) := by show _ ≤ _; rw [htl]; exact ham
  have hownW := fun W hb => World.ownsRow.below hown (w' := W) hb
  clear h hvs hlt htl hvl hown
  generalize turnV vs a m k = us at *
  go_enter Tryd.func64, Tryd.ntmps64
  go_wp2
  go_region_held3 (fun _ => True) (trivial)
    (first
      | (go_at_call 86; refine (hcat _ (by simp [go_sem]; omega) (by simp [go_sem]) (hbA _)).mono ?_; rintro e w2 ⟨v, rfl, ho2, hb2⟩; have hbw2 := (hbA _).trans (hb2.mono (hbA _).size); obtain ⟨gv, cv, rfl⟩ := ownsSome ho2 hm0)
      | (refine step_copy_ov (by rfl) _ _ (by rfl) base g n cap a vs us (hownW _ hbw2) _ _ _ _ _ _ (by rfl) (by rfl) hmin.out hqn.out (fun _ => ⟨rfl, _, rfl, World.ownsRow.cells ho2 rfl⟩) hone ?_; intro w3 ho3 hg3))
  have hF := hfin _ _ hbw2 ho3 hg3
  have hG := grown_tr (gbl hbw2 (some g)) hg3
  clear hfin ho3 hg3 ho2 hb2 hbw2 hcat hbA hownW hone
  go_wp2
  refine bodyPost_end (results_none rfl _ _ _) rfl ?_
  exact ⟨rfl, ⟨_, hF⟩, hG⟩
set_option maxHeartbeats 8000000 in
set_option maxRecDepth 20000 in
theorem turn_end (base B g n cap a m c : Nat) (vs : List Value) (rows : List (List Ce)) (w : World) (h : OwnV w base B (.slice (some ⟨g, 0, none⟩) n cap) vs rows) (hn : rows.length = n) (ham : a + m ≤ n) (hm0 : 0 < m) (hc : m ≤ c) (hl : n ≤ 1000) :
    Calls Tryd.prog 64 #[.slice (some ⟨g, a, none⟩) m c, .int .i64 (m : Int)] w fun e w' => e = .returned (.tuple #[]) ∧ (∃ vs', OwnV w' base B (.slice (some ⟨g, 0, none⟩) n cap) vs' (turnR rows a m m)) ∧ w.grownBy w' (some g) := by
  have hown := h.2.1
  rw [hn] at hown
  have hvl : vs.length = n := by rw [h.1]; exact hn
  have hvs := h.areSl
  have hg := (World.ownsRow.lt hown g rfl).2
  have hlt : AreSl (turnV vs a m m) := fun i hi => by
    rw [turnV_len _ _ _ _ (by omega)] at hi
    rw [turnV_at _ _ _ _ _ (by omega) hi]
    exact hvs _ (by rw [hvl]; exact turnI_lt (n := n) (by omega) ham (by omega))
  have hcat : ∀ W ad q, W.cell? ⟨w.heap.size, 0, none⟩ = some (.slice (some ad) 0 q) → W.cell? ⟨w.heap.size, 1, none⟩ = some (.slice (some ⟨g, a, none⟩) m c) → Below w.heap.size w W →
      Calls Tryd.prog 86 #[.slice (some ⟨w.heap.size, 0, none⟩) 2 2] W fun e w' => ∃ v, e = .returned v ∧ w'.ownsRow W.heap.size 43 1 v m (turnV vs a m m) ∧ Below W.heap.size W w' := fun W ad q c0 c1 hb => by
    have hoW := World.ownsRow.below hown hb
    have r2 := win_reads (c := c) hoW (show a + m ≤ n by omega)
    have hlB := genV_len m fun i => rowV vs (a + i)
    have h3 := concatG_any w.heap.size 2 (some ad) (some ⟨g, a, none⟩) q c [] (genV m fun i => rowV vs (a + i)) W c0 (by rw [hlB]; exact c1) (.inr ⟨ad, q, rfl, fun j x hx => by simp at hx⟩) (by rw [hlB]; exact r2) (by rw [hlB]; simp; omega) (by rw [hlB]; simp; omega)
      (fun u hu => by simp at hu) (areSl_one (genV_sl fun i hi => hvs _ (by omega)))
    rw [hlB] at h3
    have e : turnV vs a m m = [] ++ genV m fun i => rowV vs (a + i) := by unfold turnV; rw [Nat.sub_self]; rfl
    rw [e]
    simpa using h3
  have hfin := fun (W W' : World) (hb : Below w.heap.size w W) (ho : W'.ownsRow base 43 1 (.slice (some ⟨g, 0, none⟩) n cap) n (windV vs a (turnV vs a m m))) (hgr : W.grownBy W' (some g)) => (h.below hb).turned hn ham (Nat.le_refl m) ho hgr
  have hbA := fun o => (bal' w o).trans ((bdr (w.alloc o)).mono (bal' w o).size)
  have hmc : (m : Int) ≤ (c : Int) := by omega
  have hm00 : (0 : Int) ≤ (m : Int) := by omega
  have htl := turnV_len vs a m m (by omega)
  have hone := areSl_one hlt
  have hmin : Hid ((turnV vs a m m).length = Nat.min m m) := by show _ = _; rw [htl]; exact (Nat.min_self _).symm
  have hqn : Hid (a + (turnV vs a m m).length ≤ n) := by show _ ≤ _; rw [htl]; exact ham
  have hownW := fun W hb => World.ownsRow.below hown (w' := W) hb
  clear h hvs hlt htl hvl hown
  generalize turnV vs a m m = us at *
  by_cases hce : c = m
  · subst hce
    go_enter Tryd.func64, Tryd.ntmps64
    go_wp2
    go_region_held3 (fun _ => True) (trivial)
      (first
        | (go_at_call 86; refine (hcat _ ⟨g, a, none⟩ 0 (by simp [go_sem]) (by simp [go_sem]) (hbA _)).mono ?_; rintro e w2 ⟨v, rfl, ho2, hb2⟩; have hbw2 := (hbA _).trans (hb2.mono (hbA _).size); obtain ⟨gv, cv, rfl⟩ := ownsSome ho2 hm0)
        | (refine step_copy_ov (by rfl) _ _ (by rfl) base g n cap a vs us (hownW _ hbw2) _ _ _ _ _ _ (by rfl) (by rfl) hmin.out hqn.out (fun _ => ⟨rfl, _, rfl, World.ownsRow.cells ho2 rfl⟩) hone ?_; intro w3 ho3 hg3))
    have hF := hfin _ _ hbw2 ho3 hg3
    have hG := grown_tr (gbl hbw2 (some g)) hg3
    clear hfin ho3 hg3 ho2 hb2 hbw2 hcat hbA hownW hone
    go_wp2
    refine bodyPost_end (results_none rfl _ _ _) rfl ?_
    exact ⟨rfl, ⟨_, hF⟩, hG⟩
  · have hce2 : ¬ (c - m = 0) := by omega
    go_enter Tryd.func64, Tryd.ntmps64
    go_wp2
    go_region_held3 (fun _ => True) (trivial)
      (first
        | (go_at_call 86; refine (hcat _ ⟨g, a + m, none⟩ (c - m) (by simp [go_sem]) (by simp [go_sem]) (hbA _)).mono ?_; rintro e w2 ⟨v, rfl, ho2, hb2⟩; have hbw2 := (hbA _).trans (hb2.mono (hbA _).size); obtain ⟨gv, cv, rfl⟩ := ownsSome ho2 hm0)
        | (refine step_copy_ov (by rfl) _ _ (by rfl) base g n cap a vs us (hownW _ hbw2) _ _ _ _ _ _ (by rfl) (by rfl) hmin.out hqn.out (fun _ => ⟨rfl, _, rfl, World.ownsRow.cells ho2 rfl⟩) hone ?_; intro w3 ho3 hg3))
    have hF := hfin _ _ hbw2 ho3 hg3
    have hG := grown_tr (gbl hbw2 (some g)) hg3
    clear hfin ho3 hg3 ho2 hb2 hbw2 hcat hbA hownW hone
    go_wp2
    refine bodyPost_end (results_none rfl _ _ _) rfl ?_
    exact ⟨rfl, ⟨_, hF⟩, hG⟩
theorem turn_all (base B g n cap a m k c : Nat) (vs : List Value) (rows : List (List Ce)) (w : World) (h : OwnV w base B (.slice (some ⟨g, 0, none⟩) n cap) vs rows) (hn : rows.length = n) (ham : a + m ≤ n) (hm0 : 0 < m) (hk : k ≤ m) (hc : m ≤ c) (hl : n ≤ 1000) :
    Calls Tryd.prog 64 #[.slice (some ⟨g, a, none⟩) m c, .int .i64 (k : Int)] w fun e w' => e = .returned (.tuple #[]) ∧ (∃ vs', OwnV w' base B (.slice (some ⟨g, 0, none⟩) n cap) vs' (turnR rows a m k)) ∧ w.grownBy w' (some g) := by
  by_cases e : k = m
  · subst e; exact turn_end base B g n cap a k c vs rows w h hn ham hm0 hc hl
  · exact turn_any base B g n cap a m k c vs rows w h hn ham (by omega) hc hl
end Go.Proofs.YtmmmglblkampcaaDoor
namespace Go.Proofs.YtmmmglblkampcaaDoor
open Go.ChangeShapes Go.WideShapes Go.ChangeAt Go.RowKit
theorem StAt.gr {lo hi B : Nat} {w w' : World} {s : St} (h : StAt w B s) (hg : GrB lo hi w w') (hne : B < lo ∨ hi ≤ B) : StAt w' B s := by
  obtain ⟨h0, ⟨c0, c1, c2, c3, c4⟩, z0, z1, z2, z3, z4⟩ := h
  refine ⟨Nat.lt_of_lt_of_le h0 hg.size, ⟨?_, ?_, ?_, ?_, ?_⟩, ?_, ?_, ?_, ?_, ?_⟩
  all_goals first | rw [hg.cell h0 hne] | rw [hg.frozen h0 hne]
  all_goals assumption
def blankedR (rows : List (List Ce)) (q j : Nat) (s : St) : List (List Ce) := genR rows.length fun i => if q ≤ i ∧ i < q + j then rowL (rowX rows i).length s else rowX rows i
theorem blankedR_len (rows : List (List Ce)) (q j : Nat) (s : St) : (blankedR rows q j s).length = rows.length := genR_len _ _
theorem blankedR_at (rows : List (List Ce)) (q j : Nat) (s : St) (i : Nat) (h : i < rows.length) : rowX (blankedR rows q j s) i = if q ≤ i ∧ i < q + j then rowL (rowX rows i).length s else rowX rows i := genR_at _ _ _ h
theorem blankedR_zero (rows : List (List Ce)) (q : Nat) (s : St) : blankedR rows q 0 s = rows := ext_rowX _ _ (blankedR_len _ _ _ _) fun i hi => by
  rw [blankedR_len] at hi
  rw [blankedR_at _ _ _ _ _ hi, if_neg (by omega)]
theorem blankedR_step (rows : List (List Ce)) (q j : Nat) (s : St) (h : q + j < rows.length) : blankedR rows q (j + 1) s = (blankedR rows q j s).set (q + j) (rowL (rowX rows (q + j)).length s) := ext_rowX _ _ (by rw [List.length_set, blankedR_len, blankedR_len]) fun i hi => by
  rw [blankedR_len] at hi
  rw [rowX_set (by rw [blankedR_len]; exact h), blankedR_at _ _ _ _ _ hi, blankedR_at _ _ _ _ _ hi]
  by_cases e : i = q + j
  · rw [if_pos (by omega), if_pos e, e]
  · rw [if_neg e]
    by_cases c : q ≤ i ∧ i < q + j
    · rw [if_pos c, if_pos (by omega)]
    · rw [if_neg c, if_neg (by omega)]
theorem fillUp_all (L : List Ce) (s : St) : fillUp L 0 (0 + L.length) s = rowL L.length s := ext_atC _ _ (by rw [fillUp_len, rowL_len]) fun i hi => by
  rw [fillUp_len] at hi
  rw [fillUp_at _ _ _ _ _ hi, if_pos (by omega), rowL_at _ _ _ hi]
set_option maxHeartbeats 4000000 in
set_option maxRecDepth 20000 in
theorem blankRows_any (B base g n cap q k c : Nat) (ad : Option Addr) (vs : List Value) (rows : List (List Ce)) (s : St) (w : World) (h : OwnV w base B (.slice (some ⟨g, 0, none⟩) n cap) vs rows) (hn : rows.length = n) (hq : q + k ≤ n) (had : 0 < k → ad = some ⟨g, q, none⟩) (hB : B ≤ w.heap.size) (hx : ∀ i, i < n → 0 < (rowX rows i).length ∧ (rowX rows i).length ≤ 1000) (hl : n ≤ 1000) :
    Calls Tryd.prog 65 #[.slice ad k c, stV s] w fun e w' => e = .returned (.tuple #[]) ∧ OwnV w' base B (.slice (some ⟨g, 0, none⟩) n cap) vs (blankedR rows q k s) ∧ GrB base B w w' := by
  have hS1 := StAt.new w s 28
  have hb1 := bal' w (Obj.cells #[.int .i64 s.fore, .int .i64 s.back, .bool s.bold, .bool s.under, .bool s.turned] 28)
  have h1 := h.below hb1
  have hg1 := GrB.of_below (lo := base) (hi := B) hb1
  have hvl : vs.length = n := by rw [h.1]; exact hn
  clear hb1 h
  unfold stV
  go_enter Tryd.func65, Tryd.ntmps65
  go_wp2
  go_loopw [5, 8] (fun _ i wr => ∃ j : Nat, i = .int .i64 j ∧ j ≤ k ∧ OwnV wr base B (.slice (some ⟨g, 0, none⟩) n cap) vs (blankedR rows q j s) ∧ StAt wr w.heap.size s ∧ GrB base B w wr) (fun _ i _ => k - (intOf i).toNat)
  case atStart => exact ⟨0, rfl, Nat.zero_le _, by rw [blankedR_zero]; exact h1, hS1, hg1⟩
  case round =>
    clear h1 hS1 hg1
    obtain ⟨j, rfl, hj, ko, hs, hg⟩ := hrel
    by_cases hlt : j < k
    · have hji : (j : Int) < (k : Int) := by omega
      have hj0 : (0 : Int) ≤ (j : Int) := by omega
      obtain rfl := had (by omega)
      have hbl : (blankedR rows q j s).length = n := by rw [blankedR_len]; exact hn
      have hcj := ko.cell hbl (q + j) (by omega)
      have hrow := ko.2.2.1 (q + j) (by omega)
      rw [blankedR_at _ _ _ _ _ (by omega), if_neg (by omega)] at hrow
      have hst : Hid (blankedR rows q (j + 1) s = (blankedR rows q j s).set (q + j) (rowL (rowX rows (q + j)).length s)) := blankedR_step rows q j s (by omega)
      obtain ⟨hx1, hx2⟩ := hx (q + j) (by omega)
      have hfu : Hid (fillUp (rowX rows (q + j)) 0 (0 + (rowX rows (q + j)).length) s = rowL (rowX rows (q + j)).length s) := fillUp_all _ _
      have hB2 := ko.2.2.2.1 (q + j) (by omega)
      rcases hrow.shape with ⟨_, h⟩ | ⟨gr, cr, hv, hgr, hgl, hcr⟩
      · rw [h] at hx1; simp at hx1
      rw [hv] at hcj hrow hB2
      have hbo := blankOut_any base gr (rowX rows (q + j)).length cr 0 (rowX rows (q + j)).length cr 0 (rowX rows (q + j)) s wr hrow rfl (by omega) hx1 hx2 rfl
      rw [hfu.out] at hbo
      have hset := fun W' (h1 : OwnC W' base (Value.slice (some ⟨gr, 0, none⟩) (rowX rows (q + j)).length cr) (rowL (rowX rows (q + j)).length s)) (h2 : wr.grownBy W' (some gr)) => ko.rowset (w' := W') (j := q + j) (by omega) (rowL (rowX rows (q + j)).length s) (by rw [hv]; exact h1) (by rw [hv]; exact h2)
      rw [← hst.out] at hset
      unfold stV at hbo
      obtain ⟨_, ⟨d0, d1, d2, d3, d4⟩, _⟩ := id hs
      have hgB := hB2 gr rfl
      clear hst hfu hv hrow hB2 hx ko
      generalize (rowX rows (q + j)).length = m at *
      go_wp2_with fail
      refine hbo.mono ?_
      rintro e w2 ⟨rfl, ho2, hg2⟩
      have kk := hset w2 ho2 hg2
      have ks := hs.grown hg2 (by simp; omega)
      have kg := hg.trans (GrB.of_grown (lo := base) (hi := B) hg2 (fun g' e => by cases e; exact ⟨hgr, hgB⟩))
      clear hset ho2 hg2 hs hg hbo d0 d1 d2 d3 d4 hcj
      go_wp2
      go_roundw
      case rel => exact ⟨j + 1, by go_num, by omega, kk, ks, kg⟩
      case measure => simp [intOf]; omega
    · have hjn : j = k := by omega
      have hji : ¬ (j : Int) < (k : Int) := by omega
      subst hjn
      clear hs hx
      go_wp2
      refine bodyPost_end (results_none rfl _ _ _) rfl ?_
      exact ⟨rfl, ko, hg⟩
end Go.Proofs.YtmmmglblkampcaaDoor
