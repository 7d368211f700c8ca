/- A window of a row of this call's own: cleared, copied into, made anew. Contracts of the program's blanked windows. -/
import Derived.Test.YteimcepkoclpbaaDoorCF
import Derived.Test.YteimcepkoclpbaaDoorJRM
import Derived.Laws.CopyOwn
import Derived.OwnWalk
namespace Go.Proofs.YteimcepkoclpbaaDoor
open Go.ChangeShapes Go.WideShapes Go.ChangeAt Go.RowKit

theorem flat_take (xs : List Ce) : ∀ k, (xs.flatMap ceL).take (k * 7) = (xs.take k).flatMap ceL := by
  induction xs with
  | nil => intro k; simp
  | cons c xs ih =>
    intro k
    cases k with
    | zero => simp
    | succ k =>
      rw [List.flatMap_cons, List.take_succ_cons, List.flatMap_cons, List.take_append, ← ih k]
      have hl : (ceL c).length = 7 := rfl
      rw [List.take_of_length_le (by rw [hl]; omega), hl, show (k + 1) * 7 - 7 = k * 7 by omega]
theorem flat_drop (xs : List Ce) : ∀ k, (xs.flatMap ceL).drop (k * 7) = (xs.drop k).flatMap ceL := by
  induction xs with
  | nil => intro k; simp
  | cons c xs ih =>
    intro k
    cases k with
    | zero => simp
    | succ k =>
      have hl : (ceL c).length = 7 := rfl
      rw [List.flatMap_cons, List.drop_succ_cons, ← ih k, List.drop_append, hl, List.drop_of_length_le (by rw [hl]; omega), List.nil_append, show (k + 1) * 7 - 7 = k * 7 by omega]
def windL (L : List Ce) (q : Nat) (M : List Ce) : List Ce := L.take q ++ M ++ L.drop (q + M.length)
theorem windL_len (L : List Ce) (q : Nat) (M : List Ce) (h : q + M.length ≤ L.length) : (windL L q M).length = L.length := by unfold windL; simp; omega
theorem windL_at (L : List Ce) (q : Nat) (M : List Ce) (h : q + M.length ≤ L.length) (i : Nat) : atC (windL L q M) i = if q ≤ i ∧ i < q + M.length then atC M (i - q) else atC L i := by
  have h1 : (L.take q).length = q := by rw [List.length_take]; omega
  unfold windL
  rw [app_at, app_at, List.length_append, h1]
  by_cases c1 : i < q
  · rw [if_pos (by omega), if_pos c1, if_neg (by omega), atC_take L q i c1]
  · by_cases c2 : i < q + M.length
    · rw [if_pos c2, if_neg c1, if_pos (by omega)]
    · rw [if_neg c2, if_neg (by omega), atC_drop, show q + M.length + (i - (q + M.length)) = i by omega]
theorem OwnC.cur {w : World} {base g n cap : Nat} {L : List Ce} (h : OwnC w base (.slice (some ⟨g, 0, none⟩) n cap) L) (hn : L.length = n) :
    ∃ cur : Array Value, w.heap[g]? = some (.cells cur 37 (0, 0)) ∧ base ≤ g ∧ n ≤ cap ∧ cap ≤ maxLen ∧ cur.size = cap * 7 ∧ cur.toList.take (n * 7) = L.flatMap ceL := by
  subst hn
  rcases h.2 with ⟨h1, _⟩ | ⟨g', cap', cur, hv, hb, hg, hc, hm, hs, ht⟩
  · cases h1
  · simp only [Value.slice.injEq, Option.some.injEq, Addr.mk.injEq, and_true, true_and] at hv
    obtain ⟨rfl, rfl⟩ := hv
    exact ⟨cur, hg, hb, hc, hm, hs, ht⟩
theorem OwnC.relaid {w : World} {base g n cap : Nat} {L : List Ce} (h : OwnC w base (.slice (some ⟨g, 0, none⟩) n cap) L) (hn : L.length = n) (cur : Array Value) (hg : w.heap[g]? = some (.cells cur 37 (0, 0)))
    (q : Nat) (M : List Ce) (hq : q + M.length ≤ n) :
    OwnC (w.setRow g (cur.toList.take (q * 7) ++ M.flatMap ceL ++ cur.toList.drop (q * 7 + (M.flatMap ceL).length)).toArray) base (.slice (some ⟨g, 0, none⟩) n cap) (windL L q M) ∧
      w.grownBy (w.setRow g (cur.toList.take (q * 7) ++ M.flatMap ceL ++ cur.toList.drop (q * 7 + (M.flatMap ceL).length)).toArray) (some g) := by
  obtain ⟨cur', hg', hb, hc, hm, hs, ht⟩ := h.cur hn
  rw [hg] at hg'
  simp only [Option.some.injEq, Obj.cells.injEq, and_true] at hg'
  subst hg'
  have hl := windL_len L q M (by omega)
  refine ⟨⟨by rw [flat_len, hl], .inr ⟨g, cap, _, by rw [hl, hn], hb, setRow_heap w g cur _ 37 _ hg, by omega, hm, ?_, ?_⟩⟩, ⟨rfl, rfl, rfl, by simp [World.setRow], fun k _ hk => setRow_other w g k _ (fun e => hk (by simp [e]))⟩⟩
  · have : M.length * 7 ≤ n * 7 - q * 7 := by omega
    have : n * 7 ≤ cap * 7 := by omega
    rw [List.size_toArray, List.length_append, List.length_append, List.length_take, List.length_drop, flat_len, Array.length_toList, hs]; omega
  · rw [hl, hn]
    have e1 : cur.toList.take (q * 7) = (L.take q).flatMap ceL := by
      rw [← flat_take, ← ht, List.take_take, Nat.min_eq_left (by omega)]
    have e2 : (cur.toList.drop (q * 7 + (M.flatMap ceL).length)).take (n * 7 - (q + M.length) * 7) = (L.drop (q + M.length)).flatMap ceL := by
      rw [← flat_drop, ← ht, flat_len, ← Nat.add_mul, List.drop_take]
    unfold windL
    rw [List.flatMap_append, List.flatMap_append, ← e1, ← e2]
    have hl1 : (cur.toList.take (q * 7) ++ M.flatMap ceL).length = (q + M.length) * 7 := by
      rw [List.length_append, List.length_take, flat_len, Array.length_toList, hs]; omega
    rw [List.take_append, List.take_of_length_le (by rw [hl1]; omega), hl1]
theorem replC_flat (z : Ce) (k : Nat) : (Builtin.zeroCells (ceL z).toArray k).toList = (List.replicate k z).flatMap ceL := by
  apply List.ext_getElem?
  intro j
  have hl : (ceL z).length = 7 := rfl
  by_cases hj : j < k * 7
  · have h2 : j % 7 < 7 := Nat.mod_lt _ (by decide)
    have e := flat_get (List.replicate k z) (j / 7) (j % 7) (by simp; omega) h2
    rw [show j / 7 * 7 + j % 7 = j by omega] at e
    rw [e]
    have ea : atC (List.replicate k z) (j / 7) = z := by rw [atC_lt (by simp; omega)]; simp
    rw [ea]
    simp only [Builtin.zeroCells, List.size_toArray, hl]
    rw [Array.getElem?_toList, Array.getElem?_map, Array.getElem?_range]
    rw [if_pos hj]
    simp only [Option.map_some]
    rw [getElem!_pos _ _ (by simpa [hl] using h2)]
    simp
  · have h1 : ((Builtin.zeroCells (ceL z).toArray k).toList)[j]? = none := by
      apply List.getElem?_eq_none; simp [Builtin.zeroCells, hl]; omega
    have h2 : ((List.replicate k z).flatMap ceL)[j]? = none := by
      apply List.getElem?_eq_none; rw [flat_len]; simp; omega
    rw [h1, h2]
theorem under_cells : Tryd.prog.underlying 24 = some (.slice 37) := by kernel_rfl
theorem zero_cell (w : World) : (zeroValue 37).run Tryd.prog w = .ok (ceV Ce.zero) w := by
  obtain ⟨i, hi, hz, _⟩ := info_parts info_cell
  simp [zeroValue, typeInfo, hi, hz]
/-- 'clear' of a window. -/
theorem clear_oc {w : World} {ops : Array Oper} {rest : List Oper} {o : Oper} {ac : Act} {Q : Exit → Act → World → Prop} (hgd : o.guard = none) (s : Operand)
    (ho : o.op = .call { callee := .builtin .clear, args := #[s], argTypes := #[24] })
    (base g n cap q k c off : Nat) (L : List Ce) (h : OwnC w base (.slice (some ⟨g, 0, none⟩) n cap) L) (hn : L.length = n) (hq : q + k ≤ n) (hoff : off = q * 7) (hs : ac.eval s = .slice (some ⟨g, off, none⟩) k c)
    (hK : ∀ w', OwnC w' base (.slice (some ⟨g, 0, none⟩) n cap) (windL L q (List.replicate k Ce.zero)) → w.grownBy w' (some g) → wpList Tryd.prog ops Q rest (ac.put o.dst (.tuple #[])) w') :
    wpList Tryd.prog ops Q (o :: rest) ac w := by
  subst hoff
  refine wpList_plain hgd fun K hK' => ?_
  obtain ⟨cur, hg, hb, hc, hm, hsz, ht⟩ := h.cur hn
  have hwin := h.relaid hn cur hg q (List.replicate k Ce.zero) (by simpa using hq)
  by_cases h0 : k = 0
  · subst h0
    have hrun : ∀ ty, (Builtin.clear_ #[24] ty #[.slice (some ⟨g, q * 7, none⟩) 0 c]).run Tryd.prog w = .ok (.tuple #[]) w := fun ty => by
      simp [Builtin.clear_, run_underlying under_cells]
    unfold Oper.wp
    simp [execOp, ho, resolve, invoke, builtin, hs, hrun, Result.andThen]
    refine hK' _ _ (hK w ?_ ⟨rfl, rfl, rfl, Nat.le_refl _, fun _ _ _ => rfl⟩)
    have e : windL L q (List.replicate 0 Ce.zero) = L := by simp [windL]
    rw [e]; exact h
  · have hfl := flat_len (List.replicate k Ce.zero)
    rw [List.length_replicate] at hfl
    have hz : (ceV Ce.zero).cells = (ceL Ce.zero).toArray := rfl
    have hst := run_storeCells_at Tryd.prog g (q * 7) 37 ((List.replicate k Ce.zero).flatMap ceL) 0 cur w hg (by rw [hfl, hsz]; omega) (flat_one _)
    rw [Nat.add_zero] at hst
    obtain ⟨m, rfl⟩ : ∃ m, k = m + 1 := ⟨k - 1, by omega⟩
    have hrun : ∀ ty, (Builtin.clear_ #[24] ty #[.slice (some ⟨g, q * 7, none⟩) (m + 1) c]).run Tryd.prog w = .ok (.tuple #[]) (w.setRow g (cur.toList.take (q * 7) ++ (List.replicate (m + 1) Ce.zero).flatMap ceL ++ cur.toList.drop (q * 7 + ((List.replicate (m + 1) Ce.zero).flatMap ceL).length)).toArray) := fun ty => by
      simp only [Builtin.clear_]
      simp only [Sem.run_bind, run_underlying under_cells, Result.andThen_ok, zero_cell, hz, replC_flat, hst, List.getElem?_toArray, List.getElem?_cons_zero]
      simp
    unfold Oper.wp
    simp [execOp, ho, resolve, invoke, builtin, hs, hrun, Result.andThen]
    have := hK _ hwin.1 hwin.2
    simp at this
    exact hK' _ _ this
/-- 'make([]Cell, n)'. -/
theorem made_zero (n : Nat) : (madeCells (ceV Ce.zero).cells (n * 7)).toList = (List.replicate n Ce.zero).flatMap ceL := by
  apply List.ext_getElem?
  intro i
  by_cases hi : i < n * 7
  · have h1 : i / 7 < n := by omega
    have h2 : i % 7 < 7 := Nat.mod_lt _ (by decide)
    have e : i = i / 7 * 7 + i % 7 := by omega
    have hr : ((List.replicate n Ce.zero).flatMap ceL)[i]? = (ceL Ce.zero)[i % 7]? := by
      conv => lhs; rw [e]
      rw [flat_get _ (i / 7) (i % 7) (by simpa using h1) h2]
      simp [atC, h1]
    rw [hr]
    simp only [madeCells, Array.toList_map, List.getElem?_map, Array.toList_range]
    rw [List.getElem?_range hi]
    generalize he : i % 7 = k at *
    have hz : (ceV Ce.zero).cells.size = 7 := rfl
    simp only [Option.map_some, hz, he]
    match k, h2 with
    | 0, _ => rfl
    | 1, _ => rfl
    | 2, _ => rfl
    | 3, _ => rfl
    | 4, _ => rfl
    | 5, _ => rfl
    | 6, _ => rfl
  · rw [List.getElem?_eq_none (by simp [size_madeCells]; omega), List.getElem?_eq_none (by rw [flat_len]; simp; omega)]
theorem make_oc {w : World} {ops : Array Oper} {rest : List Oper} {o : Oper} {ac : Act} {Q : Exit → Act → World → Prop} (hgd : o.guard = none) (x y : Operand)
    (ho : o.op = Op.makeSlice 24 x y) (n : Nat) (hx : ac.eval x = .int .i64 (n : Int)) (hy : ac.eval y = .int .i64 (n : Int)) (hn : n ≤ 1073741824)
    (h : ∀ w', OwnC w' w.heap.size (.slice (some ⟨w.heap.size, 0, none⟩) n n) (List.replicate n Ce.zero) → Below w.heap.size w w' → wpList Tryd.prog ops Q rest (ac.put o.dst (.slice (some ⟨w.heap.size, 0, none⟩) n n)) w') :
    wpList Tryd.prog ops Q (o :: rest) ac w := by
  obtain ⟨i0, hi, hz0, hz1, hz2⟩ := info_parts info_cell
  refine wpList_make_full _ hgd x y 24 ho w.heap.size 37 i0 (ceV Ce.zero) 7 Tryd.underlying24 hi hz0 hz1 .i64 .i64 (n : Int) (n : Int) n hx hy rfl rfl (by rw [hz2]; omega) (by unfold maxLen; omega) (Nat.le_refl _) (fun w' ho' hg => ?_)
  refine h w' ?_ ((Below.refl _ _).grown hg (Nat.le_refl _) (fun k hk => by cases hk))
  rw [made_zero] at ho'
  unfold OwnC
  rw [List.length_replicate]
  exact ho'
/-- 'copy' into a window. -/
theorem run_copy_oc {w : World} (ty : TypeId) (base g n cap q : Nat) (L M : List Ce) (h : OwnC w base (.slice (some ⟨g, 0, none⟩) n cap) L) (hn : L.length = n) (dp sp : Option Addr) (dLen dCap sLen sCap : Nat) (hM : M.length = Nat.min sLen dLen) (hq : q + M.length ≤ n)
    (hpos : 0 < M.length → dp = some ⟨g, q * 7, none⟩ ∧ ∃ b off, sp = some ⟨b, off, none⟩ ∧ ∀ i, i < M.length → CeAt w b (off + i * 7) (atC M i)) :
    ∃ w', (Builtin.copy_ #[24, 24] ty #[.slice dp dLen dCap, .slice sp sLen sCap]).run Tryd.prog w = .ok (goInt M.length) w' ∧ OwnC w' base (.slice (some ⟨g, 0, none⟩) n cap) (windL L q M) ∧ w.grownBy w' (some g) := by
  obtain ⟨i0, hi, hz0, hz1, hz2⟩ := info_parts info_cell
  obtain ⟨cur, hg, hb, hc, hm, hsz, ht⟩ := h.cur hn
  have hwin := h.relaid hn cur hg q M hq
  by_cases h0 : M.length = 0
  · have hM0 : M = [] := List.eq_nil_of_length_eq_zero h0
    subst hM0
    have e : windL L q [] = L := by simp [windL]
    refine ⟨w, ?_, by rw [e]; exact h, ⟨rfl, rfl, rfl, Nat.le_refl _, fun _ _ _ => rfl⟩⟩
    have hm0 : Nat.min sLen dLen = 0 := by simpa using hM.symm
    cases sp <;> cases dp <;> simp [Builtin.copy_, run_underlying under_cells, Builtin.lenOf, Builtin.firstCells, sizeOf, typeInfo, hi, hm0, loadCells, loadCellsFrom, storeCells]
  · obtain ⟨rfl, b, off, rfl, hsrc⟩ := hpos (by omega)
    refine ⟨_, ?_, hwin.1, hwin.2⟩
    have hl := run_loadCells_list (P := Tryd.prog) w ⟨b, off, none⟩ (M.flatMap ceL) (fun j v hj => by rw [Addr.add_mid]; exact flat_cells hsrc j v hj)
    rw [flat_len] at hl
    have hst := run_storeCells_at Tryd.prog g (q * 7) 37 (M.flatMap ceL) 0 cur w hg (by rw [flat_len, hsz]; omega) (flat_one _)
    rw [Nat.add_zero] at hst
    simp [Builtin.copy_, run_underlying under_cells, Builtin.lenOf, Builtin.firstCells, sizeOf, typeInfo, hi, hz1, ← hM, hl, hst]
theorem copy_oc {w : World} {ops : Array Oper} {rest : List Oper} {o : Oper} {ac : Act} {Q : Exit → Act → World → Prop} (hgd : o.guard = none) (d s : Operand)
    (ho : o.op = .call { callee := .builtin .copy, args := #[d, s], argTypes := #[24, 24] })
    (base g n cap q : Nat) (L M : List Ce) (h : OwnC w base (.slice (some ⟨g, 0, none⟩) n cap) L) (hn : L.length = n) (dp sp : Option Addr) (dLen dCap sLen sCap : Nat) (hd : ac.eval d = .slice dp dLen dCap) (hs : ac.eval s = .slice sp sLen sCap) (hM : M.length = Nat.min sLen dLen) (hq : q + M.length ≤ n)
    (hpos : 0 < M.length → dp = some ⟨g, q * 7, none⟩ ∧ ∃ b off, sp = some ⟨b, off, none⟩ ∧ ∀ i, i < M.length → CeAt w b (off + i * 7) (atC M i))
    (hK : ∀ w', OwnC w' base (.slice (some ⟨g, 0, none⟩) n cap) (windL L q M) → w.grownBy w' (some g) → wpList Tryd.prog ops Q rest (ac.put o.dst (goInt M.length)) w') :
    wpList Tryd.prog ops Q (o :: rest) ac w := by
  refine wpList_plain hgd fun K hK' => ?_
  obtain ⟨w', hrun, h1, h2⟩ := run_copy_oc (w := w) o.type base g n cap q L M h hn dp sp dLen dCap sLen sCap hM hq hpos
  unfold Oper.wp
  simp [execOp, ho, resolve, invoke, builtin, hd, hs, hrun, Result.andThen]
  exact hK' _ _ (hK w' h1 h2)
theorem step_copy_oc {ops : Array Oper} {o : Oper} {ac : Act} {w : World} {K : Act → World → Prop} {Q : Exit → Act → World → Prop} {E : Prop} (hgd : o.guard = none) (d s : Operand)
    (ho : o.op = .call { callee := .builtin .copy, args := #[d, s], argTypes := #[24, 24] })
    (base g n cap q : Nat) (L M : List Ce) (h : OwnC w base (.slice (some ⟨g, 0, none⟩) n cap) L) (hn : L.length = n) (dp sp : Option Addr) (dLen dCap sLen sCap : Nat) (hd : ac.eval d = .slice dp dLen dCap) (hs : ac.eval s = .slice sp sLen sCap) (hM : M.length = Nat.min sLen dLen) (hq : q + M.length ≤ n)
    (hpos : 0 < M.length → dp = some ⟨g, q * 7, none⟩ ∧ ∃ b off, sp = some ⟨b, off, none⟩ ∧ ∀ i, i < M.length → CeAt w b (off + i * 7) (atC M i))
    (hK : ∀ w', OwnC w' base (.slice (some ⟨g, 0, none⟩) n cap) (windL L q M) → w.grownBy w' (some g) → K (ac.put o.dst (goInt M.length)) w') :
    if Region.wanted o (yielded ops ac.tmps) = true then Oper.wp Tryd.prog o ac w K Q else E := by
  have hw : Region.wanted o (yielded ops ac.tmps) = true := by simp [Region.wanted, hgd]
  rw [if_pos hw]
  obtain ⟨w', hrun, h1, h2⟩ := run_copy_oc (w := w) o.type base g n cap q L M h hn dp sp dLen dCap sLen sCap hM hq hpos
  unfold Oper.wp
  simp [execOp, ho, resolve, invoke, builtin, hd, hs, hrun, Result.andThen]
  exact hK w' h1 h2
theorem flat_put1 (xs : List Ce) (c' : Ce) (k : Nat) (u : Value) (hk : k < 7) : ∀ i, i < xs.length → (ceL (atC xs i)).set k u = ceL c' → (xs.flatMap ceL).set (i * 7 + k) u = (xs.set i c').flatMap ceL := by
  induction xs with
  | nil => intro i h; simp at h
  | cons d xs ih =>
    intro i h he
    cases i with
    | zero =>
      have e0 : atC (d :: xs) 0 = d := by simp [atC]
      rw [e0] at he
      rw [List.flatMap_cons, List.set_append, if_pos (by simp [ceL]; omega), Nat.zero_mul, Nat.zero_add, he, List.set_cons_zero, List.flatMap_cons]
    | succ i =>
      have e1 : atC (d :: xs) (i + 1) = atC xs i := by simp [atC]
      rw [e1] at he
      have e : (i + 1) * 7 + k = (i * 7 + k) + 7 := by omega
      rw [e, List.flatMap_cons, List.set_append, if_neg (by simp [ceL])]
      have e2 : i * 7 + k + 7 - (ceL d).length = i * 7 + k := by simp [ceL]
      rw [e2, ih i (by simpa using h) he, List.set_cons_succ, List.flatMap_cons]
theorem OwnC.put1 {w : World} {base g n cap : Nat} {xs : List Ce} (h : OwnC w base (.slice (some ⟨g, 0, none⟩) n cap) xs) (hn : xs.length = n) (i : Nat) (hi : i < n) (k : Nat) (hk : k < 7) (u : Value) (c' : Ce) (he : (ceL (atC xs i)).set k u = ceL c') :
    OwnC (w.setCell ⟨g, i * 7 + k, none⟩ u) base (.slice (some ⟨g, 0, none⟩) n cap) (xs.set i c') ∧ w.grownBy (w.setCell ⟨g, i * 7 + k, none⟩ u) (some g) := by
  subst hn
  have h0 := World.ownsRow.stored h (i * 7 + k) u
  refine ⟨?_, h0.2⟩
  have := h0.1
  rw [flat_put1 xs c' k u hk i hi he] at this
  unfold OwnC
  rw [List.length_set]
  exact this
/-- Rune and style of one cell are written, its part stays. -/
def putRS (w : World) (g o : Nat) (r : Int) (s : St) : World :=
  (((((w.setCell ⟨g, o, none⟩ (.int .i64 r)).setCell ⟨g, o + 1, none⟩ (.int .i64 s.fore)).setCell ⟨g, o + 2, none⟩ (.int .i64 s.back)).setCell ⟨g, o + 3, none⟩ (.bool s.bold)).setCell ⟨g, o + 4, none⟩ (.bool s.under)).setCell ⟨g, o + 5, none⟩ (.bool s.turned)
theorem flat_set6 (xs : List Ce) (r : Int) (s : St) : ∀ i, i < xs.length → (((((((xs.flatMap ceL).set (i * 7) (.int .i64 r)).set (i * 7 + 1) (.int .i64 s.fore)).set (i * 7 + 2) (.int .i64 s.back)).set (i * 7 + 3) (.bool s.bold)).set (i * 7 + 4) (.bool s.under)).set (i * 7 + 5) (.bool s.turned)) = (xs.set i ⟨r, s, (atC xs i).part⟩).flatMap ceL := by
  induction xs with
  | nil => intro i h; simp at h
  | cons d xs ih =>
    intro i h
    cases i with
    | zero => simp [ceL, atC]
    | succ i =>
      have e : ∀ k, (i + 1) * 7 + k = (i * 7 + k) + 7 := fun k => by omega
      have e0 : (i + 1) * 7 = (i * 7) + 7 := by omega
      rw [e 1, e 2, e 3, e 4, e 5, e0]
      have hs : ∀ (m : Nat) (u : Value) (l : List Value), ((ceL d ++ l).set (m + 7) u) = ceL d ++ l.set m u := fun m u l => by
        rw [List.set_append, if_neg (by simp [ceL])]
        simp [ceL]
      have e1 : atC (d :: xs) (i + 1) = atC xs i := by simp [atC]
      rw [List.flatMap_cons, hs, hs, hs, hs, hs, hs, ih i (by simpa using h), List.set_cons_succ, List.flatMap_cons, e1]
theorem OwnC.putRS {w : World} {base g n cap : Nat} {xs : List Ce} (h : OwnC w base (.slice (some ⟨g, 0, none⟩) n cap) xs) (hn : xs.length = n) (i : Nat) (hi : i < n) (r : Int) (s : St) :
    OwnC (putRS w g (i * 7) r s) base (.slice (some ⟨g, 0, none⟩) n cap) (xs.set i ⟨r, s, (atC xs i).part⟩) ∧ w.grownBy (Proofs.YteimcepkoclpbaaDoor.putRS w g (i * 7) r s) (some g) := by
  subst hn
  have h0 := World.ownsRow.stored h (i * 7) (.int .i64 r)
  have h1 := World.ownsRow.stored h0.1 (i * 7 + 1) (.int .i64 s.fore)
  have h2 := World.ownsRow.stored h1.1 (i * 7 + 2) (.int .i64 s.back)
  have h3 := World.ownsRow.stored h2.1 (i * 7 + 3) (.bool s.bold)
  have h4 := World.ownsRow.stored h3.1 (i * 7 + 4) (.bool s.under)
  have h5 := World.ownsRow.stored h4.1 (i * 7 + 5) (.bool s.turned)
  refine ⟨?_, grown_tr (grown_tr (grown_tr (grown_tr (grown_tr h0.2 h1.2) h2.2) h3.2) h4.2) h5.2⟩
  have := h5.1
  rw [flat_set6 xs r s i hi] at this
  unfold OwnC Proofs.YteimcepkoclpbaaDoor.putRS
  rw [List.length_set]
  exact this
theorem ownC_none (w : World) (base : Nat) : OwnC w base (.slice none 0 0) [] := ⟨rfl, .inl ⟨rfl, rfl⟩⟩
end Go.Proofs.YteimcepkoclpbaaDoor
namespace Go.Proofs.YteimcepkoclpbaaDoor
open Go.ChangeShapes Go.WideShapes Go.ChangeAt Go.RowKit

/-- A window of k cells, the first j of them blank, the others zero. -/
def zeroUp (L : List Ce) (q k j : Nat) (s : St) : List Ce := genL L.length fun i => if q ≤ i ∧ i < q + j then blankC s else if q ≤ i ∧ i < q + k then Ce.zero else atC L i
theorem zeroUp_len (L : List Ce) (q k j : Nat) (s : St) : (zeroUp L q k j s).length = L.length := genL_len _ _
theorem zeroUp_at (L : List Ce) (q k j : Nat) (s : St) (i : Nat) (h : i < L.length) : atC (zeroUp L q k j s) i = if q ≤ i ∧ i < q + j then blankC s else if q ≤ i ∧ i < q + k then Ce.zero else atC L i := genL_at _ _ _ h
theorem zeroUp_start (L : List Ce) (q k : Nat) (s : St) (h : q + k ≤ L.length) : windL L q (List.replicate k Ce.zero) = zeroUp L q k 0 s := ext_atC _ _ (by rw [windL_len _ _ _ (by simpa using h), zeroUp_len]) fun i hi => by
  rw [windL_len _ _ _ (by simpa using h)] at hi
  rw [windL_at _ _ _ (by simpa using h), zeroUp_at _ _ _ _ _ _ hi, if_neg (show ¬ (q ≤ i ∧ i < q + 0) by omega), List.length_replicate]
  by_cases c : q ≤ i ∧ i < q + k
  · rw [if_pos c, if_pos c, atC_lt (by simp; omega)]; simp
  · rw [if_neg c, if_neg c]
theorem zeroUp_end (L : List Ce) (q k : Nat) (s : St) : zeroUp L q k k s = fillUp L q (q + k) s := ext_atC _ _ (by rw [zeroUp_len, fillUp_len]) fun i hi => by
  rw [zeroUp_len] at hi
  rw [zeroUp_at _ _ _ _ _ _ hi, fillUp_at _ _ _ _ _ hi]
  by_cases c : q ≤ i ∧ i < q + k
  · rw [if_pos c, if_pos c]
  · rw [if_neg c, if_neg c, if_neg c]
theorem zeroUp_step (L : List Ce) (q k j : Nat) (s : St) (hj : j < k) (h : q + k ≤ L.length) : zeroUp L q k (j + 1) s = (zeroUp L q k j s).set (q + j) ⟨32, s, (atC (zeroUp L q k j s) (q + j)).part⟩ := ext_atC _ _ (by simp [zeroUp_len]) fun i hi => by
  rw [zeroUp_len] at hi
  rw [zeroUp_at _ _ _ _ _ _ hi, atC_set, zeroUp_len, zeroUp_at _ _ _ _ _ _ hi, zeroUp_at _ _ _ _ _ (q + j) (by omega), if_neg (show ¬ (q ≤ q + j ∧ q + j < q + j) by omega), if_pos (show q ≤ q + j ∧ q + j < q + k by omega)]
  by_cases e : i = q + j
  · rw [if_pos (show q ≤ i ∧ i < q + (j + 1) by omega), if_pos (show i = q + j ∧ q + j < L.length from ⟨e, by omega⟩)]; rfl
  · rw [if_neg (show ¬ (i = q + j ∧ q + j < L.length) from fun x => e x.1)]
    by_cases c : q ≤ i ∧ i < q + j
    · rw [if_pos c, if_pos (show q ≤ i ∧ i < q + (j + 1) by omega)]
    · rw [if_neg c, if_neg (show ¬ (q ≤ i ∧ i < q + (j + 1)) by omega)]
set_option maxHeartbeats 4000000 in
set_option maxRecDepth 20000 in
theorem blankOut_any (base g n cap q k c off : Nat) (L : List Ce) (s : St) (w : World) (h : OwnC w base (.slice (some ⟨g, 0, none⟩) n cap) L) (hn : L.length = n) (hq : q + k ≤ n) (hk : 0 < k) (hl : n ≤ 1000) (hoff : off = q * 7) :
    Calls Tryd.prog 47 #[.slice (some ⟨g, off, none⟩) k c, stV s] w fun e w' => e = .returned (.tuple #[]) ∧ OwnC w' base (.slice (some ⟨g, 0, none⟩) n cap) (fillUp L q (q + k) s) ∧ w.grownBy w' (some g) := by
  have h2 := StAt.new w s 26
  have hbA := bal' w (Obj.cells #[.int .i64 s.fore, .int .i64 s.back, .bool s.bold, .bool s.under, .bool s.turned] 26)
  have hlt : g < w.heap.size := (h.lt g rfl).2
  have hA := h.below hbA
  have hgA : w.grownBy (w.alloc (Obj.cells #[.int .i64 s.fore, .int .i64 s.back, .bool s.bold, .bool s.under, .bool s.turned] 26)) (some g) := World.grownBy_alloc w _ _
  have hHo : Hid (off = q * 7) := hoff
  have hfin : Hid (zeroUp L q k k s = fillUp L q (q + k) s) := zeroUp_end L q k s
  have hsta : Hid (windL L q (List.replicate k Ce.zero) = zeroUp L q k 0 s) := zeroUp_start L q k s (by omega)
  have hnG : w.heap.size ≠ g := by omega
  clear hbA hoff h
  unfold stV
  go_enter Tryd.func47, Tryd.ntmps47
  go_wp2_with (refine clear_oc rfl _ rfl base g n cap q k c off L hA hn hq hHo.out rfl ?_; intro w1 ho1 hg1)
  have k1 : OwnC w1 base (.slice (some ⟨g, 0, none⟩) n cap) (zeroUp L q k 0 s) := by rw [← hsta.out]; exact ho1
  have hs1 := h2.grown hg1 (by simp; omega)
  have hw1 := grown_tr hgA hg1
  clear ho1 hg1 hA h2 hgA
  go_wp2
  go_loopw [8, 4] (fun i _ wr => ∃ j : Nat, i = .int .i64 j ∧ j ≤ k ∧ OwnC wr base (.slice (some ⟨g, 0, none⟩) n cap) (zeroUp L q k j s) ∧ StAt wr w.heap.size s ∧ w.grownBy wr (some g)) (fun i _ _ => k - (intOf i).toNat)
  case atStart => exact ⟨0, rfl, Nat.zero_le _, k1, hs1, hw1⟩
  case round =>
    clear k1 hs1 hw1
    obtain ⟨j, rfl, hj, ko, hs, hw⟩ := hrel
    by_cases hlt : j < k
    · have hji : (j : Int) < (k : Int) := by omega
      have hj0 : (0 : Int) ≤ (j : Int) := by omega
      have hst : Hid (zeroUp L q k (j + 1) s = (zeroUp L q k j s).set (q + j) ⟨32, s, (atC (zeroUp L q k j s) (q + j)).part⟩) := zeroUp_step L q k j s hlt (by omega)
      have hsz : (zeroUp L q k j s).length = n := by rw [zeroUp_len]; exact hn
      have hp := ko.putRS hsz (q + j) (by omega) 32 s
      have kk : OwnC (putRS wr g ((q + j) * 7) 32 s) base (.slice (some ⟨g, 0, none⟩) n cap) (zeroUp L q k (j + 1) s) := by rw [hst.out]; exact hp.1
      have hsk := hs.grown hp.2 (by simp; omega)
      have hwk := grown_tr hw hp.2
      have hat := ko.at hsz (q + j) (by omega)
      have f0 := ko.frozen hsz ((q + j) * 7)
      have f1 := ko.frozen hsz ((q + j) * 7 + 1)
      have f2 := ko.frozen hsz ((q + j) * 7 + 2)
      have f3 := ko.frozen hsz ((q + j) * 7 + 3)
      have f4 := ko.frozen hsz ((q + j) * 7 + 4)
      have f5 := ko.frozen hsz ((q + j) * 7 + 5)
      have eo : (q + j) * 7 = off + j * 7 := by have := hHo.out; omega
      rw [eo] at f0 f1 f2 f3 f4 f5 kk hsk hwk hat
      obtain ⟨c0, c1, c2, c3, c4, c5, c6⟩ := hat
      obtain ⟨_, ⟨d0, d1, d2, d3, d4⟩, _⟩ := id hs
      clear hp hst ko hs hw eo
      simp only [putRS] at kk hsk hwk
      go_wp2
      go_roundw
      case rel => exact ⟨j + 1, by go_num, by omega, kk, hsk, hwk⟩
      case measure => simp [intOf]; omega
    · have hjn : j = k := by omega
      have hji : ¬ (j : Int) < (k : Int) := by omega
      subst hjn
      go_wp2
      refine bodyPost_end (results_none rfl _ _ _) rfl ?_
      exact ⟨rfl, by rw [← hfin.out]; exact ko, hw⟩
/-- A window is blanked, a style in a box of its own stays. -/
theorem blankOut_box (B base g n cap q k c off : Nat) (L : List Ce) (s : St) (w : World) (hs : StAt w B s) (hBg : B ≠ g) (h : OwnC w base (.slice (some ⟨g, 0, none⟩) n cap) L) (hn : L.length = n) (hq : q + k ≤ n) (hk : 0 < k) (hl : n ≤ 1000) (hoff : off = q * 7) :
    Calls Tryd.prog 47 #[.slice (some ⟨g, off, none⟩) k c, .agg #[.int .i64 s.fore, .int .i64 s.back, .bool s.bold, .bool s.under, .bool s.turned]] w fun e w' => e = .returned (.tuple #[]) ∧ (w'.cell? ⟨B, 0, none⟩ = some (.int .i64 s.fore) ∧ w'.cell? ⟨B, 1, none⟩ = some (.int .i64 s.back) ∧ w'.cell? ⟨B, 2, none⟩ = some (.bool s.bold) ∧ w'.cell? ⟨B, 3, none⟩ = some (.bool s.under) ∧ w'.cell? ⟨B, 4, none⟩ = some (.bool s.turned)) ∧ OwnC w' base (.slice (some ⟨g, 0, none⟩) n cap) (fillUp L q (q + k) s) ∧ w.grownBy w' (some g) :=
  (blankOut_any base g n cap q k c off L s w h hn hq hk hl hoff).mono fun _ _ ⟨he, ho, hg⟩ => ⟨he, (hs.grown hg (by simpa using Ne.symm hBg)).2.1, ho, hg⟩
end Go.Proofs.YteimcepkoclpbaaDoor
