/- Contracts of the specification's new grids. What changes within a range of blocks alone; a grid's rows within a range. Bytes that are told, in memory: a row of bytes with or without room; texts behind it; what stays. Contract of the specification's RowOk. Contract of the specification's GridOk. Rows held against each other: contracts of both sides. Right rows: what keeps them right. Plain mathematics. Contract of the program's StyleOk. Contracts of the program's RowOk. -/
import Derived.Test.YtlmnhlfklbgjdaaGreatDoorP2
import Derived.Deep.RegionHeld3
namespace Go.Proofs.YtlmnhlfklbgjdaaGreatDoor
open Go.ChangeShapes Go.WideShapes Go.ChangeAt Go.RowKit
/-- A grid in a block of its own, open to stores. -/
def GrW (w : World) (B : Nat) (cols : Int) (v : Value) : Prop :=
  B < w.heap.size ∧ (w.cell? ⟨B, 0, none⟩ = some (.int .i64 cols) ∧ w.cell? ⟨B, 1, none⟩ = some v) ∧ (w.frozen? ⟨B, 0, none⟩ = false ∧ w.frozen? ⟨B, 1, none⟩ = false)
theorem GrW.grown {w w' : World} {B : Nat} {cols : Int} {v : Value} {row : Option Nat} (h : GrW w B cols v) (hg : w.grownBy w' row) (hr : row ≠ some B) : GrW w' B cols v := by
  have hb := hg.block B h.1 (Ne.symm hr)
  have hc : ∀ k, w'.cell? ⟨B, k, none⟩ = w.cell? ⟨B, k, none⟩ := fun k => World.cell?_of_block (w := w) hb
  have hz : ∀ k, w'.frozen? ⟨B, k, none⟩ = w.frozen? ⟨B, k, none⟩ := fun k => World.frozen?_of_block (w := w) hb
  refine ⟨Nat.lt_of_lt_of_le h.1 hg.size, ?_, ?_⟩
  · rw [hc, hc]; exact h.2.1
  · rw [hz, hz]; exact h.2.2
theorem GrW.below {w w' : World} {B : Nat} {cols : Int} {v : Value} (h : GrW w B cols v) (hb : Below w.heap.size w w') : GrW w' B cols v := h.grown (gbl hb none) (by simp)
theorem GrW.new (w : World) (cols : Int) (v : Value) (t : TypeId) : GrW (w.alloc (.cells #[.int .i64 cols, v] t)) w.heap.size cols v :=
  ⟨by simp, ⟨by simp [go_sem], by simp [go_sem]⟩, ⟨by simp [go_sem], by simp [go_sem]⟩⟩
/-- Other rows are written there. -/
def putG (w : World) (B : Nat) (v : Value) : World := w.setCell ⟨B, 1, none⟩ v
theorem putG_grown (w : World) (B : Nat) (v : Value) : w.grownBy (putG w B v) (some B) := setCell_gr w B 1 _
theorem GrW.put {w : World} {B : Nat} {cols : Int} {v : Value} (h : GrW w B cols v) (v' : Value) : GrW (putG w B v') B cols v' := by
  obtain ⟨hlt, ⟨c0, c1⟩, ⟨z0, z1⟩⟩ := h
  refine ⟨by simpa [putG] using hlt, ⟨?_, ?_⟩, ⟨?_, ?_⟩⟩
  all_goals simp only [putG]
  · rw [setCell_ne' _ _ _ _ _ (by decide)]; exact c0
  · simp [go_sem, c1]
  · simp [go_sem, z0]
  · simp [go_sem, z1]
/-- Another grid is written there whole. -/
def putG2 (w : World) (B : Nat) (cols : Int) (v : Value) : World := (w.setCell ⟨B, 0, none⟩ (.int .i64 cols)).setCell ⟨B, 1, none⟩ v
theorem putG2_grown (w : World) (B : Nat) (cols : Int) (v : Value) : w.grownBy (putG2 w B cols v) (some B) := grown_tr (setCell_gr w B 0 _) (setCell_gr _ B 1 _)
theorem GrW.put2 {w : World} {B : Nat} {cols : Int} {v : Value} (h : GrW w B cols v) (cols' : Int) (v' : Value) : GrW (putG2 w B cols' v') B cols' v' := by
  obtain ⟨hlt, ⟨c0, c1⟩, ⟨z0, z1⟩⟩ := h
  refine ⟨by simpa [putG2] using hlt, ⟨?_, ?_⟩, ⟨?_, ?_⟩⟩
  all_goals simp only [putG2]
  · rw [setCell_ne' _ _ _ _ _ (by decide)]; simp [go_sem, c0]
  · simp [go_sem, c1]
  · simp [go_sem, z0]
  · simp [go_sem, z1]
theorem OwnG.kept {w w' : World} {base B : Nat} {v : Value} {rows : List (List Ce)} {row : Option Nat} (h : OwnG w base B v rows) (hg : w.grownBy w' row) (hne : ∀ g, row = some g → g < base) : OwnG w' base B v rows := by
  obtain ⟨vs, hl, ho, hr, hB, hd⟩ := h
  refine ⟨vs, hl, World.ownsRow.kept ho hg ?_, fun i hi => (hr i hi).kept hg ?_, hB, hd⟩
  · cases hv : v.ownBlock with
    | none => exact .inl rfl
    | some q => right; intro e; have := hne q e.symm; have := (ho.lt q hv).1; omega
  · cases hv : (rowV vs i).ownBlock with
    | none => exact .inl rfl
    | some q => right; intro e; have := hne q e.symm; have := ((hr i hi).lt q hv).1; omega
theorem OwnG.lt {w : World} {base B : Nat} {v : Value} {rows : List (List Ce)} (h : OwnG w base B v rows) : ∀ g, v.ownBlock = some g → base ≤ g ∧ g < w.heap.size := by
  obtain ⟨vs, hl, ho, _⟩ := h
  exact fun g e => ho.lt g e
theorem OwnG.up {w : World} {base B B' : Nat} {v : Value} {rows : List (List Ce)} (h : OwnG w base B v rows) (hb : B ≤ B') : OwnG w base B' v rows := by
  obtain ⟨vs, hl, ho, hr, hB, hd⟩ := h
  exact ⟨vs, hl, ho, hr, fun i hi g e => Nat.lt_of_lt_of_le (hB i hi g e) hb, hd⟩
end Go.Proofs.YtlmnhlfklbgjdaaGreatDoor
namespace Go.Proofs.YtlmnhlfklbgjdaaGreatDoor
open Go.ChangeShapes Go.WideShapes Go.ChangeAt Go.RowKit
/-- Nothing changes but the blocks from lo to below hi; new ones may come. -/
def GrB (lo hi : Nat) (w w' : World) : Prop := w'.os = w.os ∧ w'.tape = w.tape ∧ w'.output = w.output ∧ w.heap.size ≤ w'.heap.size ∧ ∀ k, k < w.heap.size → (k < lo ∨ hi ≤ k) → w'.heap[k]? = w.heap[k]?
theorem GrB.refl (lo hi : Nat) (w : World) : GrB lo hi w w := ⟨rfl, rfl, rfl, Nat.le_refl _, fun _ _ _ => rfl⟩
theorem GrB.trans {lo hi : Nat} {a b c : World} (h : GrB lo hi a b) (k : GrB lo hi b c) : GrB lo hi a c :=
  ⟨k.1.trans h.1, k.2.1.trans h.2.1, k.2.2.1.trans h.2.2.1, Nat.le_trans h.2.2.2.1 k.2.2.2.1, fun i hi ho => (k.2.2.2.2 i (Nat.lt_of_lt_of_le hi h.2.2.2.1) ho).trans (h.2.2.2.2 i hi ho)⟩
theorem GrB.size {lo hi : Nat} {w w' : World} (h : GrB lo hi w w') : w.heap.size ≤ w'.heap.size := h.2.2.2.1
theorem GrB.of_below {lo hi : Nat} {w w' : World} (h : Below w.heap.size w w') : GrB lo hi w w' := ⟨h.os, h.tape, h.output, h.size, fun k hk _ => h.block k hk⟩
theorem GrB.of_grown {lo hi : Nat} {w w' : World} {row : Option Nat} (h : w.grownBy w' row) (hr : ∀ g, row = some g → lo ≤ g ∧ g < hi) : GrB lo hi w w' :=
  ⟨h.os, h.tape, h.output, h.size, fun k hk ho => h.block k hk (fun e => by have := hr k e.symm; omega)⟩
theorem GrB.mono {lo hi lo' hi' : Nat} {w w' : World} (h : GrB lo hi w w') (h1 : lo' ≤ lo) (h2 : hi ≤ hi') : GrB lo' hi' w w' :=
  ⟨h.1, h.2.1, h.2.2.1, h.2.2.2.1, fun k hk ho => h.2.2.2.2 k hk (by omega)⟩
theorem GrB.to_below {lo hi B : Nat} {w w' : World} (h : GrB lo hi w w') (hB : B ≤ lo) (hs : B ≤ w.heap.size) : Below B w w' :=
  ⟨h.1, h.2.1, h.2.2.1, h.2.2.2.1, fun k hk => h.2.2.2.2 k (by omega) (by omega)⟩
theorem GrB.cell {lo hi k o : Nat} {w w' : World} (h : GrB lo hi w w') (hk : k < w.heap.size) (ho : k < lo ∨ hi ≤ k) : w'.cell? ⟨k, o, none⟩ = w.cell? ⟨k, o, none⟩ := World.cell?_of_block (w := w) (h.2.2.2.2 k hk ho)
theorem GrB.frozen {lo hi k o : Nat} {w w' : World} (h : GrB lo hi w w') (hk : k < w.heap.size) (ho : k < lo ∨ hi ≤ k) : w'.frozen? ⟨k, o, none⟩ = w.frozen? ⟨k, o, none⟩ := World.frozen?_of_block (w := w) (h.2.2.2.2 k hk ho)
/-- A slice of rows of this call's own, its values named. -/
def OwnV (w : World) (base B : Nat) (v : Value) (vs : List Value) (rows : List (List Ce)) : Prop :=
  vs.length = rows.length ∧ w.ownsRow base 72 1 v rows.length vs ∧ (∀ i, i < rows.length → OwnC w base (rowV vs i) (rowX rows i)) ∧
    (∀ i, i < rows.length → ∀ g, (rowV vs i).ownBlock = some g → g < B) ∧ (∀ i j, i < j → j < rows.length → ∀ g, (rowV vs i).ownBlock = some g → (rowV vs j).ownBlock ≠ some g)
theorem OwnG.v {w : World} {base B : Nat} {v : Value} {rows : List (List Ce)} (h : OwnG w base B v rows) : ∃ vs, OwnV w base B v vs rows := h
theorem OwnV.g {w : World} {base B : Nat} {v : Value} {vs : List Value} {rows : List (List Ce)} (h : OwnV w base B v vs rows) : OwnG w base B v rows := ⟨vs, h⟩
theorem OwnV.apart {w : World} {base B : Nat} {v : Value} {vs : List Value} {rows : List (List Ce)} (h : OwnV w base B v vs rows) {i j : Nat} (hi : i < rows.length) (hj : j < rows.length) (hij : i ≠ j) : (rowV vs i).ownBlock = none ∨ (rowV vs i).ownBlock ≠ (rowV vs j).ownBlock := by
  cases hv : (rowV vs i).ownBlock with
  | none => exact .inl rfl
  | some g =>
    right
    intro e
    rcases Nat.lt_or_gt_of_ne hij with c | c
    · exact h.2.2.2.2 i j c hj g hv e.symm
    · exact h.2.2.2.2 j i c hi g e.symm hv
theorem OwnV.below {w w' : World} {base B : Nat} {v : Value} {vs : List Value} {rows : List (List Ce)} (h : OwnV w base B v vs rows) (hb : Below w.heap.size w w') : OwnV w' base B v vs rows :=
  ⟨h.1, World.ownsRow.below h.2.1 hb, fun i hi => (h.2.2.1 i hi).below hb, h.2.2.2.1, h.2.2.2.2⟩
theorem OwnV.up {w : World} {base B B' : Nat} {v : Value} {vs : List Value} {rows : List (List Ce)} (h : OwnV w base B v vs rows) (hb : B ≤ B') : OwnV w base B' v vs rows :=
  ⟨h.1, h.2.1, h.2.2.1, fun i hi g e => Nat.lt_of_lt_of_le (h.2.2.2.1 i hi g e) hb, h.2.2.2.2⟩
theorem OwnV.shape {w : World} {base B : Nat} {v : Value} {vs : List Value} {rows : List (List Ce)} (h : OwnV w base B v vs rows) : (v = .slice none 0 0 ∧ rows = []) ∨ ∃ g cap, v = .slice (some ⟨g, 0, none⟩) rows.length cap ∧ base ≤ g ∧ g < w.heap.size ∧ rows.length ≤ cap := h.g.shape
theorem OwnV.cell {w : World} {base B g n cap : Nat} {vs : List Value} {rows : List (List Ce)} (h : OwnV w base B (.slice (some ⟨g, 0, none⟩) n cap) vs rows) (hn : rows.length = n) (i : Nat) (hi : i < n) : w.cell? ⟨g, i, none⟩ = some (rowV vs i) := by
  subst hn
  rw [World.ownsRow.cellAt h.2.1 i (by have := h.1; omega), rowV_get (by have := h.1; omega)]
theorem OwnV.frozen {w : World} {base B g n cap : Nat} {vs : List Value} {rows : List (List Ce)} (h : OwnV w base B (.slice (some ⟨g, 0, none⟩) n cap) vs rows) (hn : rows.length = n) (i : Nat) : w.frozen? ⟨g, i, none⟩ = false := by
  subst hn
  exact World.ownsRow.frozenAt h.2.1 i
/-- All of it lies from lo to below hi. -/
def OwnR (w : World) (lo hi : Nat) (v : Value) (rows : List (List Ce)) : Prop := OwnG w lo hi v rows ∧ (∀ g, v.ownBlock = some g → g < hi) ∧ hi ≤ w.heap.size
theorem OwnR.of {w : World} {lo : Nat} {v : Value} {rows : List (List Ce)} (h : OwnG w lo w.heap.size v rows) : OwnR w lo w.heap.size v rows := ⟨h, fun g e => (h.lt g e).2, Nat.le_refl _⟩
theorem OwnR.below {base B : Nat} {w w' : World} {v : Value} {rows : List (List Ce)} (h : OwnR w base B v rows) (hb : Below w.heap.size w w') : OwnR w' base B v rows := ⟨h.1.below hb, h.2.1, Nat.le_trans h.2.2 hb.size⟩
theorem OwnR.sl {base B : Nat} {w : World} {v : Value} {rows : List (List Ce)} (h : OwnR w base B v rows) : SlG w v rows := SlG.of_own h.1
end Go.Proofs.YtlmnhlfklbgjdaaGreatDoor
namespace Go.Proofs.YtlmnhlfklbgjdaaGreatDoor
open Go.ChangeShapes Go.WideShapes Go.ChangeAt Go.RowKit
/-- A row of bytes of this call's own, or one without room; its block's type is known. -/
def FullT (base : Nat) (v : Value) (L : List Int) (w : World) : Prop := ∃ g cs fr, v = .slice (some ⟨g, 0, none⟩) L.length L.length ∧ base ≤ g ∧ w.heap[g]? = some (.cells cs 5 fr) ∧ ∀ j, j < L.length → w.cell? ⟨g, j, none⟩ = some (.int .u8 (L.getD j 0))
theorem FullT.toB {base : Nat} {v : Value} {L : List Int} {w : World} (h : FullT base v L w) : FullB base v L w := by
  obtain ⟨g, cs, fr, rfl, hb, hg, hc⟩ := h
  exact ⟨g, rfl, hb, (Array.getElem?_eq_some_iff.1 hg).1, hc⟩
def RowT (base : Nat) (v : Value) (L : List Int) (w : World) : Prop := w.ownsRow base 5 1 v L.length (L.map (Value.int .u8)) ∨ FullT base v L w
theorem RowT.ty {base : Nat} {v : Value} {L : List Int} {w : World} (h : RowT base v L w) {g : Nat} (e : v.ownBlock = some g) : base ≤ g ∧ ∃ cs fr, w.heap[g]? = some (.cells cs 5 fr) := by
  rcases h with h | ⟨g', cs, fr, rfl, hb, hg, _⟩
  · refine ⟨(h.lt g e).1, ?_⟩
    rcases h.2 with ⟨rfl, _⟩ | ⟨g', cap, cur, rfl, _, hg, _⟩
    · simp [Value.ownBlock] at e
    · simp [Value.ownBlock] at e; subst e; exact ⟨_, _, hg⟩
  · simp [Value.ownBlock] at e; subst e; exact ⟨hb, _, _, hg⟩
theorem RowT.not {base : Nat} {v : Value} {L : List Int} {w : World} (h : RowT base v L w) {B : Nat} {cs : Array Value} {T : TypeId} {fr : Nat × Nat} (hB : w.heap[B]? = some (.cells cs T fr)) (hT : T ≠ 5) : v.ownBlock ≠ some B := fun e => by
  obtain ⟨_, cs', fr', h'⟩ := h.ty e
  rw [hB] at h'
  simp only [Option.some.injEq, Obj.cells.injEq] at h'
  exact hT h'.2.1
theorem RowT.kept {base : Nat} {v : Value} {L : List Int} {w w' : World} {row : Option Nat} (h : RowT base v L w) (hg : w.grownBy w' row) (hne : v.ownBlock = none ∨ v.ownBlock ≠ row) : RowT base v L w' := by
  rcases h with h | ⟨g, cs, fr, rfl, hb, hc, hl⟩
  · exact .inl (World.ownsRow.kept h hg hne)
  · right
    have hlt := (Array.getElem?_eq_some_iff.1 hc).1
    have hk : w'.heap[g]? = w.heap[g]? := hg.block g hlt (by rcases hne with hne | hne; simp [Value.ownBlock] at hne; exact hne)
    exact ⟨g, cs, fr, rfl, hb, by rw [hk]; exact hc, fun j hj => by rw [World.cell?_of_block (w := w) hk]; exact hl j hj⟩
theorem RowT.below {base : Nat} {v : Value} {L : List Int} {w w' : World} (h : RowT base v L w) (hb : Below w.heap.size w w') : RowT base v L w' := by
  rcases h with h | ⟨g, cs, fr, rfl, hbg, hc, hl⟩
  · exact .inl (World.ownsRow.below h hb)
  · right
    have hlt := (Array.getElem?_eq_some_iff.1 hc).1
    have hk : w'.heap[g]? = w.heap[g]? := hb.block g hlt
    exact ⟨g, cs, fr, rfl, hbg, by rw [hk]; exact hc, fun j hj => by rw [World.cell?_of_block (w := w) hk]; exact hl j hj⟩
theorem run_append_none (w : World) (t u ty e : TypeId) (i : TypeInfo) (ht : Tryz.prog.underlying t = some (.slice e)) (hu : Tryz.prog.underlying u = some .string) (hi : Tryz.prog.info? e = some i) (b : Addr) (n c : Nat) (hc : n ≤ c) (s : ByteArray) (h0 : s.size = 0) :
    (Builtin.append_ #[t, u] ty #[.slice (some b) n c, .string s]).run Tryz.prog w = .ok (.slice (some b) n c) w := by
  have hf := Lib.run_firstCells_string (P := Tryz.prog) w i.size s
  have hs : Lib.strCells s = [] := List.eq_nil_of_length_eq_zero (by rw [Lib.strCells_length]; exact h0)
  rw [h0, hs] at hf
  simp [Builtin.append_, run_underlying ht, run_underlying hu, sizeOf, typeInfo, hi, Builtin.lenOf, h0, hc, hf, storeCells]
theorem run_append_full (w : World) (ty : TypeId) (base : Nat) (v : Value) (L : List Int) (hk : FullB base v L w) (s : ByteArray) (h0 : 0 < s.size) (hl : L.length + s.size ≤ 140737488355328) (hbase : base ≤ w.heap.size) :
    ∃ v' w', (Builtin.append_ #[22, 9] ty #[v, .string s]).run Tryz.prog w = .ok v' w' ∧ w'.ownsRow base 5 1 v' (L.length + s.size) (L.map (Value.int .u8) ++ Lib.strCells s) ∧ w.grownBy w' v.ownBlock := by
  obtain ⟨i0, hi, hz0, hz1, hz2⟩ := info_parts info_u8s
  obtain ⟨g, rfl, hb, hg, hc⟩ := hk
  have holds : ∀ j u, (L.map (Value.int .u8))[j]? = some u → w.cell? ((⟨g, 0, none⟩ : Addr).add j) = some u := by
    intro j u hj
    have hj' : j < L.length := by have := (List.getElem?_eq_some_iff.1 hj).1; simpa using this
    have e : (⟨g, 0, none⟩ : Addr).add j = ⟨g, j, none⟩ := by unfold Addr.add; split <;> simp_all
    rw [e, hc j hj']
    simp [List.getElem?_eq_getElem hj'] at hj
    simp [← hj, List.getD, hj']
  have hr := Lib.run_append_grow_string (P := Tryz.prog) w 22 9 ty 5 i0 (.int .u8 0) Tryz.underlying22 Tryz.underlying9 hi hz0 ⟨g, 0, none⟩ L.length L.length (L.map (Value.int .u8)) (by rw [hz1]; simp) holds s (by omega) (by omega) (by rw [hz2]; exact growslice_fits (by omega) (by omega))
  refine ⟨_, _, hr, ?_, ⟨rfl, rfl, rfl, by simp, fun k hk _ => heap_alloc_old w.drew _ hk⟩⟩
  have hge := grownCap_ge w (L.length + s.size) L.length 5
  have hcm : grownCap w (L.length + s.size) L.length 5 ≤ maxLen := grownCap_le_maxLen w (L.length + s.size) L.length 5 (by unfold maxLen; omega)
  have hlen : (L.map (Value.int .u8) ++ Lib.strCells s).length = (L.length + s.size) * 1 := by rw [List.length_append, List.length_map, Lib.strCells_length, Nat.mul_one]
  refine ⟨hlen, .inr ⟨w.heap.size, _, _, rfl, hbase, heap_alloc_new w.drew _, hge, hcm, ?_, ?_⟩⟩
  · have hz1 : (Value.int IntKind.u8 0).cells.size = 1 := rfl
    simp only [Array.size_append, List.size_toArray, size_zeroCells, hz1, List.length_map, Lib.strCells_length]
    omega
  · simp only [Array.toList_append, List.append_assoc]
    rw [← List.append_assoc, ← hlen]
    exact List.take_left
theorem run_append_str (w : World) (ty : TypeId) (base : Nat) (v : Value) (L : List Int) (hk : RowT base v L w) (s : ByteArray) (M : List Int) (hM : nums s = M) (hl : L.length + M.length ≤ 140737488355328) (hbase : base ≤ w.heap.size) :
    ∃ v' w', (Builtin.append_ #[22, 9] ty #[v, .string s]).run Tryz.prog w = .ok v' w' ∧ RowT base v' (L ++ M) w' ∧ w.grownBy w' v.ownBlock := by
  have hsz : s.size = M.length := by rw [← hM, nums_len]
  have hcv : ∀ v' w', w'.ownsRow base 5 1 v' (L.length + s.size) (L.map (Value.int .u8) ++ Lib.strCells s) → RowT base v' (L ++ M) w' := fun v' w' ho => by
    left
    rw [strCells_n, hM, ← List.map_append, hsz] at ho
    rw [List.length_append]
    exact ho
  obtain ⟨i0, hi, hz0, hz1, hz2⟩ := info_parts info_u8s
  rcases hk with hk | hk
  · obtain ⟨v', w', h1, h2, h3, _⟩ := Lib.run_append_own_string (P := Tryz.prog) w base 22 9 ty 5 i0 Tryz.underlying22 Tryz.underlying9 hi hz0 hz1 hz2 v L.length _ hk s (by unfold maxLen; omega) (by omega) hbase
    exact ⟨v', w', h1, hcv _ _ h2, h3⟩
  · by_cases h0 : 0 < s.size
    · obtain ⟨v', w', h1, h2, h3⟩ := run_append_full w ty base v L hk.toB s h0 (by omega) hbase
      exact ⟨v', w', h1, hcv _ _ h2, h3⟩
    · have h0' : s.size = 0 := by omega
      have hMn : M = [] := List.eq_nil_of_length_eq_zero (by omega)
      subst hMn
      obtain ⟨g, cs, fr, rfl, hb, hg, hc⟩ := id hk
      exact ⟨_, _, run_append_none w 22 9 ty 5 i0 Tryz.underlying22 Tryz.underlying9 hi ⟨g, 0, none⟩ L.length L.length (Nat.le_refl _) s h0', by rw [List.append_nil]; exact .inr hk, World.grownBy.refl _ _⟩
/-- A text behind a row of bytes. -/
theorem append_str {w : World} {ops : Array Oper} {rest : List Oper} {o : Oper} {a : Act} {Q : Exit → Act → World → Prop} (hgd : Region.wanted o (yielded ops a.tmps) = true) (sl x : Operand)
    (ho : o.op = .call { callee := .builtin .append, args := #[sl, x], argTypes := #[22, 9] })
    (base : Nat) (v : Value) (L : List Int) (hs : a.eval sl = v) (hk : RowT base v L w) (s : ByteArray) (hx : a.eval x = .string s) (M : List Int) (hM : nums s = M)
    (hl : L.length + M.length ≤ 140737488355328) (hbase : base ≤ w.heap.size)
    (h : ∀ v' w', RowT base v' (L ++ M) w' → w.grownBy w' v.ownBlock → wpList Tryz.prog ops Q rest (a.put o.dst v') w') : wpList Tryz.prog ops Q (o :: rest) a w := by
  refine wpList_step fun K hK => ?_
  rw [if_pos hgd]
  obtain ⟨v', w', hr, h1, h2⟩ := run_append_str w o.type base v L hk s M hM hl hbase
  unfold Oper.wp execOp
  simp only [ho, resolve, invoke, builtin, Sem.run_bind, Sem.run_pure, Result.andThen_ok, List.map_toArray, List.map_cons, List.map_nil, hs, hx, hr]
  exact hK _ _ (h v' w' h1 h2)
theorem step_append_str {w : World} {ops : Array Oper} {o : Oper} {a : Act} {K : Act → World → Prop} {Q : Exit → Act → World → Prop} {E : Prop} (hgd : Region.wanted o (yielded ops a.tmps) = true) (sl x : Operand)
    (ho : o.op = .call { callee := .builtin .append, args := #[sl, x], argTypes := #[22, 9] })
    (base : Nat) (v : Value) (L : List Int) (hs : a.eval sl = v) (hk : RowT base v L w) (s : ByteArray) (hx : a.eval x = .string s) (M : List Int) (hM : nums s = M)
    (hl : L.length + M.length ≤ 140737488355328) (hbase : base ≤ w.heap.size)
    (h : ∀ v' w', RowT base v' (L ++ M) w' → w.grownBy w' v.ownBlock → K (a.put o.dst v') w') :
    if Region.wanted o (yielded ops a.tmps) = true then Oper.wp Tryz.prog o a w K Q else E := by
  rw [if_pos hgd]
  obtain ⟨v', w', hr, h1, h2⟩ := run_append_str w o.type base v L hk s M hM hl hbase
  unfold Oper.wp execOp
  simp only [ho, resolve, invoke, builtin, Sem.run_bind, Sem.run_pure, Result.andThen_ok, List.map_toArray, List.map_cons, List.map_nil, hs, hx, hr]
  exact h v' w' h1 h2
theorem conv_rowT {base : Nat} {v : Value} {L : List Int} {W : World} (h : RowT base v L W) :
    (convert 22 9 v).run Tryz.prog W = .ok (.string (strOfNums L)) W := by
  rcases h with h | ⟨g, cs, fr, rfl, _, _, hc⟩
  · rcases h.2 with ⟨rfl, h2⟩ | ⟨g, cap, cur, rfl, _⟩
    · have : L = [] := List.eq_nil_of_length_eq_zero h2
      subst this
      exact run_convert_bytes_nil W _ _ Tryz.underlying22 Tryz.underlying5 0 0 _ Tryz.underlying9
    · refine run_convert_bytes_arg W _ _ Tryz.underlying22 Tryz.underlying5 g 0 L.length cap L rfl ?_ _ Tryz.underlying9
      intro i hi
      rw [Nat.zero_add, h.cellAt i (by omega)]
      simp [hi]
  · refine run_convert_bytes_arg W _ _ Tryz.underlying22 Tryz.underlying5 g 0 L.length L.length L rfl ?_ _ Tryz.underlying9
    intro i hi
    rw [Nat.zero_add, hc i hi]
end Go.Proofs.YtlmnhlfklbgjdaaGreatDoor
namespace Go.Proofs.YtlmnhlfklbgjdaaGreatDoor
open Go.ChangeShapes Go.WideShapes Go.ChangeAt Go.RowKit
attribute [local go_sem ↓] eq_st
/-- A cell in a block of its own. -/
def CeN (w : World) (B : Nat) (c : Ce) : Prop :=
  w.cell? ⟨B, 0, none⟩ = some (.int .i64 c.rune) ∧ w.cell? ⟨B, 1, none⟩ = some (.int .i64 c.st.fore) ∧ w.cell? ⟨B, 2, none⟩ = some (.int .i64 c.st.back) ∧ w.cell? ⟨B, 3, none⟩ = some (.bool c.st.bold) ∧ w.cell? ⟨B, 4, none⟩ = some (.bool c.st.under) ∧ w.cell? ⟨B, 5, none⟩ = some (.bool c.st.turned) ∧ w.cell? ⟨B, 6, none⟩ = some (.int .i64 c.part)
theorem CeN.new (w : World) (c : Ce) (t : TypeId) : CeN (w.alloc (.cells #[.int .i64 c.rune, .int .i64 c.st.fore, .int .i64 c.st.back, .bool c.st.bold, .bool c.st.under, .bool c.st.turned, .int .i64 c.part] t)) w.heap.size c :=
  ⟨by simp [go_sem], by simp [go_sem], by simp [go_sem], by simp [go_sem], by simp [go_sem], by simp [go_sem], by simp [go_sem]⟩
theorem CeN.below {w w' : World} {B : Nat} {c : Ce} (h : CeN w B c) (hb : Below w.heap.size w w') (hlt : B < w.heap.size) : CeN w' B c := by
  have e : ∀ k, w'.cell? ⟨B, k, none⟩ = w.cell? ⟨B, k, none⟩ := fun k => hb.cell (p := ⟨B, k, none⟩) hlt
  unfold CeN
  rw [e, e, e, e, e, e, e]
  exact h
set_option maxHeartbeats 16000000 in
set_option maxRecDepth 20000 in
theorem specRowOk_any (v : Value) (xs : List Ce) (w : World) (hv : SlC w v xs) (hl : xs.length ≤ 1048576) :
    Calls Tryz.prog 95 #[v] w fun e w' => e = .returned (.bool (rowOkB xs)) ∧ Below w.heap.size w w' := by
  have hOK := fun s W => specStyleOk_any s W
  obtain ⟨a, c, rfl, hcp, _, hr⟩ := id hv
  by_cases hn : 1 ≤ xs.length ∧ xs.length ≤ 60
  · obtain ⟨hn1, hn2⟩ := hn
    have hn1i : ¬ (xs.length : Int) < 1 := by omega
    have hn2i : ¬ 60 < (xs.length : Int) := by omega
    rcases hr with h | ⟨b, off, rfl, hbb, hsrc0⟩
    · rw [h] at hn1; simp at hn1
    unfold stV at hOK
    go_enter Tryz.func95, Tryz.ntmps95
    go_wp2
    go_loopw [4] (fun i wr => ∃ j : Nat, i = .int .i64 j ∧ j ≤ xs.length ∧ Hid (∀ k, k < j → cellOkB xs k = true) ∧ Below w.heap.size w wr) (fun i _ => xs.length - (intOf i).toNat)
    case atStart => exact ⟨0, rfl, Nat.zero_le _, (fun k hk => absurd hk (Nat.not_lt_zero k)), Below.refl _ _⟩
    case round =>
      obtain ⟨j, rfl, hj, hall, kb⟩ := hrel
      by_cases hlt : j < xs.length
      · have hji : (j : Int) < (xs.length : Int) := by omega
        have hj0 : (0 : Int) ≤ (j : Int) := by omega
        have hat := (hsrc0 j hlt).below kb hbb
        obtain ⟨c0, c1, c2, c3, c4, c5, c6⟩ := hat
        have hx := CeN.new wr (atC xs j) 75
        have kb1 := kb.trans ((bal' wr (Obj.cells #[.int .i64 (atC xs j).rune, .int .i64 (atC xs j).st.fore, .int .i64 (atC xs j).st.back, .bool (atC xs j).st.bold, .bool (atC xs j).st.under, .bool (atC xs j).st.turned, .int .i64 (atC xs j).part] 75)).mono kb.size)
        have hst := hOK (atC xs j).st
        obtain ⟨d0, d1, d2, d3, d4, d5, d6⟩ := id hx
        go_wp2_with fail
        refine (hst _).mono ?_
        rintro e w2 ⟨rfl, hb2⟩
        have hx2 := hx.below hb2 (by simp)
        have kb2 := kb1.trans (hb2.mono kb1.size)
        have hsrc : ∀ i, i < xs.length → CeAt w2 b (off + i * 7) (atC xs i) := fun i hi => (hsrc0 i hi).below kb2 hbb
        clear hx kb1 hb2 kb hst c0 c1 c2 c3 c4 c5 c6 d0 d1 d2 d3 d4 d5 d6 hv
        obtain ⟨d0, d1, d2, d3, d4, d5, d6⟩ := hx2
        cases hso : (atC xs j).st.ok
        · have hno : rowOkB xs = false := rowOkB_no xs j hlt (by unfold cellOkB; rw [hso]; rfl)
          clear hall hsrc
          go_wp2
          go_ret
          first | exact ⟨ret_bool hno.symm, kb2⟩ | exact ⟨rfl, kb2⟩ | exact ⟨rfl, kb2.drew⟩ | exact ⟨ret_bool hno.symm, kb2.drew⟩
        · by_cases e0 : (atC xs j).part = 0
          · have b0 : ((atC xs j).part == 0) = true := by simp [e0]
            have hwd := specWidth_any (atC xs j).rune
            by_cases e1 : widthV (atC xs j).rune = 1
            · have b1 : (widthV (atC xs j).rune != 1) = false := by simp [e1]
              have hyes : cellOkB xs j = true := by unfold cellOkB; rw [hso, if_pos e0]; simp [e1]
              have hall' : Hid (∀ k, k < j + 1 → cellOkB xs k = true) := fun k hk => by rcases Nat.lt_succ_iff_lt_or_eq.1 hk with h | rfl; exact hall.out k h; exact hyes
              clear hall hsrc hyes e1
              go_wp2_with fail
              refine (hwd _).mono ?_
              rintro e w3 ⟨rfl, hw3⟩
              subst hw3
              go_wp2
              go_roundw
              case rel => exact ⟨j + 1, by go_num, by omega, hall', (by first | exact kb2 | exact kb2.drew)⟩
              case measure => simp [intOf]; omega
            · have b1 : (widthV (atC xs j).rune != 1) = true := by simp [e1]
              have hno : rowOkB xs = false := rowOkB_no xs j hlt (by unfold cellOkB; rw [hso, if_pos e0]; simp [e1])
              clear hall hsrc e1
              go_wp2_with fail
              refine (hwd _).mono ?_
              rintro e w3 ⟨rfl, hw3⟩
              subst hw3
              go_wp2
              go_ret
              first | exact ⟨ret_bool hno.symm, kb2⟩ | exact ⟨rfl, kb2⟩ | exact ⟨rfl, kb2.drew⟩ | exact ⟨ret_bool hno.symm, kb2.drew⟩
          · have b0 : ((atC xs j).part == 0) = false := by simp [e0]
            by_cases e1 : (atC xs j).part = 1
            · have b1 : ((atC xs j).part == 1) = true := by simp [e1]
              have hlj : j < xs.length := hlt
              by_cases e2 : widthV (atC xs j).rune = 2
              · have b2 : (widthV (atC xs j).rune != 2) = false := by simp [e2]
                by_cases e3 : j + 1 = xs.length
                · have b3 : ((j : Int) + 1 == (xs.length : Int)) = true := by simp; omega
                  have hwr : IntKind.i64.wrap ((j : Int) + 1) = (j : Int) + 1 := by simp [IntKind.wrap_i64]; omega
                  have hno : rowOkB xs = false := rowOkB_no xs j hlt (by unfold cellOkB; rw [hso, if_neg e0, if_pos e1, decide_eq_false (show ¬ j + 1 < xs.length by omega)]; simp)
                  clear hall hsrc e2 e3
                  go_wp2
                  refine wp_region_noPanic ?_
                  refine wp_region_held_drew (S := fun W => W = w2.drew) (by kernel_rfl) rfl (fun hHeld => ?_)
                  refine' wpAnyH_take (i := 0) (v := _) rfl (by kernel_rfl) (by kernel_rfl) (by kernel_rfl) (fun _ _ _ h => h) (Or.inl ⟨by rfl, ?hy1⟩) hHeld ?hr1
                  case hy1 => (intro w hSw; (try dsimp only at hSw); subst hSw; go_simp; (try with_reducible rfl))
                  simp only [Act.put, List.setIfInBounds_toArray, List.set_cons_zero, List.set_cons_succ, List.getElem_toArray, List.getElem_cons_zero]
                  refine' wpAnyH_take (i := 1) (v := _) rfl (by kernel_rfl) (by kernel_rfl) (by kernel_rfl) (fun _ _ _ h => h) (Or.inl ⟨by rfl, ?hy2⟩) hHeld ?hr2
                  case hy2 => (intro w hSw; (try dsimp only at hSw); subst hSw; go_simp; (try with_reducible rfl))
                  simp only [Act.put, List.setIfInBounds_toArray, List.set_cons_zero, List.set_cons_succ, List.getElem_toArray, List.getElem_cons_zero, List.getElem_cons_succ]
                  refine wpAnyH_ready (rs := [2]) (by kernel_rfl) (by simp) (AllReadyH.cons rfl (fun K hK => ?_) AllReadyH.nil)
                  go_simp
                  refine (specWidth_any _ _).mono ?_
                  rintro e wk ⟨rfl, hwk⟩
                  subst hwk
                  go_wp2_with fail
                  refine hK.out _ _ (by rfl) (fun hHeld => ?_)
                  clear hK K
                  (try simp only [Act.put, List.setIfInBounds_toArray, List.set_cons_zero, List.set_cons_succ])
                  refine' wpAnyH_take (i := 3) (v := _) rfl (by kernel_rfl) (by kernel_rfl) (by kernel_rfl) (fun _ _ _ h => h) (Or.inl ⟨by rfl, ?hy3⟩) hHeld ?hr3
                  case hy3 => (intro w hSw; (try dsimp only at hSw); subst hSw; go_simp; (try with_reducible rfl))
                  simp only [Act.put, List.setIfInBounds_toArray, List.set_cons_zero, List.set_cons_succ, List.getElem_toArray, List.getElem_cons_zero, List.getElem_cons_succ]
                  refine' wpAnyH_take (i := 4) (v := _) rfl (by kernel_rfl) (by kernel_rfl) (by kernel_rfl) (fun _ _ _ h => h) (Or.inl ⟨by rfl, ?hy4⟩) hHeld ?hr4
                  case hy4 => (intro w hSw; (try dsimp only at hSw); subst hSw; go_simp; (try with_reducible rfl))
                  simp only [Act.put, List.setIfInBounds_toArray, List.set_cons_zero, List.set_cons_succ, List.getElem_toArray, List.getElem_cons_zero, List.getElem_cons_succ]
                  refine' wpAnyH_take (i := 5) (v := _) rfl (by kernel_rfl) (by kernel_rfl) (by kernel_rfl) (fun _ _ _ h => h) (Or.inl ⟨by rfl, ?hy5⟩) hHeld ?hr5
                  case hy5 => (intro w hSw; (try dsimp only at hSw); subst hSw; go_simp; (try with_reducible rfl))
                  simp only [Act.put, List.setIfInBounds_toArray, List.set_cons_zero, List.set_cons_succ, List.getElem_toArray, List.getElem_cons_zero, List.getElem_cons_succ]
                  refine' wpAnyH_take (i := 6) (v := _) rfl (by kernel_rfl) (by kernel_rfl) (by kernel_rfl) (fun _ _ _ h => h) (Or.inl ⟨by rfl, ?hy6⟩) hHeld ?hr6
                  case hy6 => (intro w hSw; (try dsimp only at hSw); subst hSw; go_simp; (try with_reducible rfl))
                  simp only [Act.put, List.setIfInBounds_toArray, List.set_cons_zero, List.set_cons_succ, List.getElem_toArray, List.getElem_cons_zero, List.getElem_cons_succ]
                  refine' wpAnyH_take (i := 7) (v := _) rfl (by kernel_rfl) (by kernel_rfl) (by kernel_rfl) (fun _ _ _ h => h) (Or.inl ⟨by rfl, ?hy7⟩) hHeld ?hr7
                  case hy7 => (intro w hSw; (try dsimp only at hSw); subst hSw; go_simp; (try with_reducible rfl))
                  simp only [Act.put, List.setIfInBounds_toArray, List.set_cons_zero, List.set_cons_succ, List.getElem_toArray, List.getElem_cons_zero, List.getElem_cons_succ]
                  refine' wpAnyH_take (i := 8) (v := _) rfl (by kernel_rfl) (by kernel_rfl) (by kernel_rfl) (fun _ _ _ h => h) (Or.inl ⟨by rfl, ?hy8⟩) hHeld ?hr8
                  case hy8 => (intro w hSw; (try dsimp only at hSw); subst hSw; go_simp; (try with_reducible rfl))
                  simp only [Act.put, List.setIfInBounds_toArray, List.set_cons_zero, List.set_cons_succ, List.getElem_toArray, List.getElem_cons_zero, List.getElem_cons_succ]
                  refine' wpAnyH_take (i := 9) (v := _) rfl (by kernel_rfl) (by kernel_rfl) (by kernel_rfl) (fun _ _ _ h => h) (Or.inl ⟨by rfl, ?hy9⟩) hHeld ?hr9
                  case hy9 => (intro w hSw; (try dsimp only at hSw); subst hSw; go_simp; (try with_reducible rfl))
                  simp only [Act.put, List.setIfInBounds_toArray, List.set_cons_zero, List.set_cons_succ, List.getElem_toArray, List.getElem_cons_zero, List.getElem_cons_succ]
                  refine' wpAnyH_take (i := 10) (v := _) rfl (by kernel_rfl) (by kernel_rfl) (by kernel_rfl) (fun _ _ _ h => h) (Or.inl ⟨by rfl, ?hy10⟩) hHeld ?hr10
                  case hy10 => (intro w hSw; (try dsimp only at hSw); subst hSw; go_simp; (try with_reducible rfl))
                  simp only [Act.put, List.setIfInBounds_toArray, List.set_cons_zero, List.set_cons_succ, List.getElem_toArray, List.getElem_cons_zero, List.getElem_cons_succ]
                  refine wpAnyH_take (i := 11) (v := undef) rfl (by kernel_rfl) (by kernel_rfl) (by kernel_rfl) (fun _ _ _ h => h) (Or.inr ⟨by rfl, rfl⟩) hHeld ?_
                  simp only [Act.put, List.setIfInBounds_toArray, List.set_cons_zero, List.set_cons_succ, List.getElem_toArray, List.getElem_cons_zero, List.getElem_cons_succ]
                  refine wpAnyH_take (i := 12) (v := undef) rfl (by kernel_rfl) (by kernel_rfl) (by kernel_rfl) (fun _ _ _ h => h) (Or.inr ⟨by rfl, rfl⟩) hHeld ?_
                  simp only [Act.put, List.setIfInBounds_toArray, List.set_cons_zero, List.set_cons_succ, List.getElem_toArray, List.getElem_cons_zero, List.getElem_cons_succ]
                  refine wpAnyH_take (i := 13) (v := undef) rfl (by kernel_rfl) (by kernel_rfl) (by kernel_rfl) (fun _ _ _ h => h) (Or.inr ⟨by rfl, rfl⟩) hHeld ?_
                  simp only [Act.put, List.setIfInBounds_toArray, List.set_cons_zero, List.set_cons_succ, List.getElem_toArray, List.getElem_cons_zero, List.getElem_cons_succ]
                  refine wpAnyH_take (i := 14) (v := undef) rfl (by kernel_rfl) (by kernel_rfl) (by kernel_rfl) (fun _ _ _ h => h) (Or.inr ⟨by rfl, rfl⟩) hHeld ?_
                  simp only [Act.put, List.setIfInBounds_toArray, List.set_cons_zero, List.set_cons_succ, List.getElem_toArray, List.getElem_cons_zero, List.getElem_cons_succ]
                  refine wpAnyH_take (i := 15) (v := undef) rfl (by kernel_rfl) (by kernel_rfl) (by kernel_rfl) (fun _ _ _ h => h) (Or.inr ⟨by rfl, rfl⟩) hHeld ?_
                  simp only [Act.put, List.setIfInBounds_toArray, List.set_cons_zero, List.set_cons_succ, List.getElem_toArray, List.getElem_cons_zero, List.getElem_cons_succ]
                  refine wpAnyH_take (i := 16) (v := undef) rfl (by kernel_rfl) (by kernel_rfl) (by kernel_rfl) (fun _ _ _ h => h) (Or.inr ⟨by rfl, rfl⟩) hHeld ?_
                  simp only [Act.put, List.setIfInBounds_toArray, List.set_cons_zero, List.set_cons_succ, List.getElem_toArray, List.getElem_cons_zero, List.getElem_cons_succ]
                  refine wpAnyH_take (i := 17) (v := undef) rfl (by kernel_rfl) (by kernel_rfl) (by kernel_rfl) (fun _ _ _ h => h) (Or.inr ⟨by rfl, rfl⟩) hHeld ?_
                  simp only [Act.put, List.setIfInBounds_toArray, List.set_cons_zero, List.set_cons_succ, List.getElem_toArray, List.getElem_cons_zero, List.getElem_cons_succ]
                  refine' wpAnyH_take (i := 18) (v := _) rfl (by kernel_rfl) (by kernel_rfl) (by kernel_rfl) (fun _ _ _ h => h) (Or.inl ⟨by rfl, ?hy11⟩) hHeld ?hr11
                  case hy11 => (intro w hSw; (try dsimp only at hSw); subst hSw; go_simp; (try with_reducible rfl))
                  simp only [Act.put, List.setIfInBounds_toArray, List.set_cons_zero, List.set_cons_succ, List.getElem_toArray, List.getElem_cons_zero, List.getElem_cons_succ]
                  refine' wpAnyH_take (i := 19) (v := _) rfl (by kernel_rfl) (by kernel_rfl) (by kernel_rfl) (fun _ _ _ h => h) (Or.inl ⟨by rfl, ?hy12⟩) hHeld ?hr12
                  case hy12 => (intro w hSw; (try dsimp only at hSw); subst hSw; go_simp; (try with_reducible rfl))
                  simp only [Act.put, List.setIfInBounds_toArray, List.set_cons_zero, List.set_cons_succ, List.getElem_toArray, List.getElem_cons_zero, List.getElem_cons_succ]
                  refine wpAnyH_take (i := 20) (v := undef) rfl (by kernel_rfl) (by kernel_rfl) (by kernel_rfl) (fun _ _ _ h => h) (Or.inr ⟨by rfl, rfl⟩) hHeld ?_
                  simp only [Act.put, List.setIfInBounds_toArray, List.set_cons_zero, List.set_cons_succ, List.getElem_toArray, List.getElem_cons_zero, List.getElem_cons_succ]
                  refine wpAnyH_take (i := 21) (v := undef) rfl (by kernel_rfl) (by kernel_rfl) (by kernel_rfl) (fun _ _ _ h => h) (Or.inr ⟨by rfl, rfl⟩) hHeld ?_
                  simp only [Act.put, List.setIfInBounds_toArray, List.set_cons_zero, List.set_cons_succ, List.getElem_toArray, List.getElem_cons_zero, List.getElem_cons_succ]
                  refine wpAnyH_take (i := 22) (v := undef) rfl (by kernel_rfl) (by kernel_rfl) (by kernel_rfl) (fun _ _ _ h => h) (Or.inr ⟨by rfl, rfl⟩) hHeld ?_
                  simp only [Act.put, List.setIfInBounds_toArray, List.set_cons_zero, List.set_cons_succ, List.getElem_toArray, List.getElem_cons_zero, List.getElem_cons_succ]
                  refine wpAnyH_take (i := 23) (v := undef) rfl (by kernel_rfl) (by kernel_rfl) (by kernel_rfl) (fun _ _ _ h => h) (Or.inr ⟨by rfl, rfl⟩) hHeld ?_
                  simp only [Act.put, List.setIfInBounds_toArray, List.set_cons_zero, List.set_cons_succ, List.getElem_toArray, List.getElem_cons_zero, List.getElem_cons_succ]
                  refine wpAnyH_take (i := 24) (v := undef) rfl (by kernel_rfl) (by kernel_rfl) (by kernel_rfl) (fun _ _ _ h => h) (Or.inr ⟨by rfl, rfl⟩) hHeld ?_
                  simp only [Act.put, List.setIfInBounds_toArray, List.set_cons_zero, List.set_cons_succ, List.getElem_toArray, List.getElem_cons_zero, List.getElem_cons_succ]
                  refine wpAnyH_take (i := 25) (v := undef) rfl (by kernel_rfl) (by kernel_rfl) (by kernel_rfl) (fun _ _ _ h => h) (Or.inr ⟨by rfl, rfl⟩) hHeld ?_
                  simp only [Act.put, List.setIfInBounds_toArray, List.set_cons_zero, List.set_cons_succ, List.getElem_toArray, List.getElem_cons_zero, List.getElem_cons_succ]
                  refine wpAnyH_take (i := 26) (v := undef) rfl (by kernel_rfl) (by kernel_rfl) (by kernel_rfl) (fun _ _ _ h => h) (Or.inr ⟨by rfl, rfl⟩) hHeld ?_
                  simp only [Act.put, List.setIfInBounds_toArray, List.set_cons_zero, List.set_cons_succ, List.getElem_toArray, List.getElem_cons_zero, List.getElem_cons_succ]
                  refine wpAnyH_take (i := 27) (v := undef) rfl (by kernel_rfl) (by kernel_rfl) (by kernel_rfl) (fun _ _ _ h => h) (Or.inr ⟨by rfl, rfl⟩) hHeld ?_
                  simp only [Act.put, List.setIfInBounds_toArray, List.set_cons_zero, List.set_cons_succ, List.getElem_toArray, List.getElem_cons_zero, List.getElem_cons_succ]
                  refine wpAnyH_take (i := 28) (v := undef) rfl (by kernel_rfl) (by kernel_rfl) (by kernel_rfl) (fun _ _ _ h => h) (Or.inr ⟨by rfl, rfl⟩) hHeld ?_
                  simp only [Act.put, List.setIfInBounds_toArray, List.set_cons_zero, List.set_cons_succ, List.getElem_toArray, List.getElem_cons_zero, List.getElem_cons_succ]
                  refine' wpAnyH_take (i := 29) (v := _) rfl (by kernel_rfl) (by kernel_rfl) (by kernel_rfl) (fun _ _ _ h => h) (Or.inl ⟨by rfl, ?hy13⟩) hHeld ?hr13
                  case hy13 => (intro w hSw; (try dsimp only at hSw); subst hSw; go_simp; (try with_reducible rfl))
                  simp only [Act.put, List.setIfInBounds_toArray, List.set_cons_zero, List.set_cons_succ, List.getElem_toArray, List.getElem_cons_zero, List.getElem_cons_succ]
                  refine wpAnyH_done (by kernel_rfl) ?_ _
                  refine NoPanic.normal ?_
                  go_wp2
                  go_ret
                  first | exact ⟨ret_bool hno.symm, kb2⟩ | exact ⟨rfl, kb2⟩ | exact ⟨rfl, kb2.drew⟩ | exact ⟨ret_bool hno.symm, kb2.drew⟩
                · have b3 : ((j : Int) + 1 == (xs.length : Int)) = false := by simp; omega
                  have hwr : IntKind.i64.wrap ((j : Int) + 1) = (j : Int) + 1 := by simp [IntKind.wrap_i64]; omega
                  have hj1 : j + 1 < xs.length := by omega
                  have hj1i : (j : Int) + 1 < (xs.length : Int) := by omega
                  have hj1z : (0 : Int) ≤ (j : Int) + 1 := by omega
                  obtain ⟨q0, q1, q2, q3, q4, q5, q6⟩ := hsrc (j + 1) hj1
                  by_cases e4 : (atC xs (j + 1)).part = 2
                  · have b4 : ((atC xs (j + 1)).part != 2) = false := by simp [e4]
                    by_cases e5 : (atC xs (j + 1)).st = (atC xs j).st
                    · have b5 : decide ((atC xs (j + 1)).st = (atC xs j).st) = true := decide_eq_true e5
                      have hyes : cellOkB xs j = true := by unfold cellOkB; rw [hso, if_neg e0, if_pos e1, decide_eq_true e2, decide_eq_true hj1, decide_eq_true e4, b5]; rfl
                      have hall' : Hid (∀ k, k < j + 1 → cellOkB xs k = true) := fun k hk => by rcases Nat.lt_succ_iff_lt_or_eq.1 hk with h | rfl; exact hall.out k h; exact hyes
                      clear hall hsrc hyes e2 e5
                      go_wp2
                      refine wp_region_noPanic ?_
                      refine wp_region_held_drew (S := fun W => W = w2.drew) (by kernel_rfl) rfl (fun hHeld => ?_)
                      refine' wpAnyH_take (i := 0) (v := _) rfl (by kernel_rfl) (by kernel_rfl) (by kernel_rfl) (fun _ _ _ h => h) (Or.inl ⟨by rfl, ?hy14⟩) hHeld ?hr14
                      case hy14 => (intro w hSw; (try dsimp only at hSw); subst hSw; go_simp; (try with_reducible rfl))
                      simp only [Act.put, List.setIfInBounds_toArray, List.set_cons_zero, List.set_cons_succ, List.getElem_toArray, List.getElem_cons_zero]
                      refine' wpAnyH_take (i := 1) (v := _) rfl (by kernel_rfl) (by kernel_rfl) (by kernel_rfl) (fun _ _ _ h => h) (Or.inl ⟨by rfl, ?hy15⟩) hHeld ?hr15
                      case hy15 => (intro w hSw; (try dsimp only at hSw); subst hSw; go_simp; (try with_reducible rfl))
                      simp only [Act.put, List.setIfInBounds_toArray, List.set_cons_zero, List.set_cons_succ, List.getElem_toArray, List.getElem_cons_zero, List.getElem_cons_succ]
                      refine wpAnyH_ready (rs := [2]) (by kernel_rfl) (by simp) (AllReadyH.cons rfl (fun K hK => ?_) AllReadyH.nil)
                      go_simp
                      refine (specWidth_any _ _).mono ?_
                      rintro e wk ⟨rfl, hwk⟩
                      subst hwk
                      go_wp2_with fail
                      refine hK.out _ _ (by rfl) (fun hHeld => ?_)
                      clear hK K
                      (try simp only [Act.put, List.setIfInBounds_toArray, List.set_cons_zero, List.set_cons_succ])
                      refine' wpAnyH_take (i := 3) (v := _) rfl (by kernel_rfl) (by kernel_rfl) (by kernel_rfl) (fun _ _ _ h => h) (Or.inl ⟨by rfl, ?hy16⟩) hHeld ?hr16
                      case hy16 => (intro w hSw; (try dsimp only at hSw); subst hSw; go_simp; (try with_reducible rfl))
                      simp only [Act.put, List.setIfInBounds_toArray, List.set_cons_zero, List.set_cons_succ, List.getElem_toArray, List.getElem_cons_zero, List.getElem_cons_succ]
                      refine' wpAnyH_take (i := 4) (v := _) rfl (by kernel_rfl) (by kernel_rfl) (by kernel_rfl) (fun _ _ _ h => h) (Or.inl ⟨by rfl, ?hy17⟩) hHeld ?hr17
                      case hy17 => (intro w hSw; (try dsimp only at hSw); subst hSw; go_simp; (try with_reducible rfl))
                      simp only [Act.put, List.setIfInBounds_toArray, List.set_cons_zero, List.set_cons_succ, List.getElem_toArray, List.getElem_cons_zero, List.getElem_cons_succ]
                      refine' wpAnyH_take (i := 5) (v := _) rfl (by kernel_rfl) (by kernel_rfl) (by kernel_rfl) (fun _ _ _ h => h) (Or.inl ⟨by rfl, ?hy18⟩) hHeld ?hr18
                      case hy18 => (intro w hSw; (try dsimp only at hSw); subst hSw; go_simp; (try with_reducible rfl))
                      simp only [Act.put, List.setIfInBounds_toArray, List.set_cons_zero, List.set_cons_succ, List.getElem_toArray, List.getElem_cons_zero, List.getElem_cons_succ]
                      refine' wpAnyH_take (i := 6) (v := _) rfl (by kernel_rfl) (by kernel_rfl) (by kernel_rfl) (fun _ _ _ h => h) (Or.inl ⟨by rfl, ?hy19⟩) hHeld ?hr19
                      case hy19 => (intro w hSw; (try dsimp only at hSw); subst hSw; go_simp; (try with_reducible rfl))
                      simp only [Act.put, List.setIfInBounds_toArray, List.set_cons_zero, List.set_cons_succ, List.getElem_toArray, List.getElem_cons_zero, List.getElem_cons_succ]
                      refine' wpAnyH_take (i := 7) (v := _) rfl (by kernel_rfl) (by kernel_rfl) (by kernel_rfl) (fun _ _ _ h => h) (Or.inl ⟨by rfl, ?hy20⟩) hHeld ?hr20
                      case hy20 => (intro w hSw; (try dsimp only at hSw); subst hSw; go_simp; (try with_reducible rfl))
                      simp only [Act.put, List.setIfInBounds_toArray, List.set_cons_zero, List.set_cons_succ, List.getElem_toArray, List.getElem_cons_zero, List.getElem_cons_succ]
                      refine' wpAnyH_take (i := 8) (v := _) rfl (by kernel_rfl) (by kernel_rfl) (by kernel_rfl) (fun _ _ _ h => h) (Or.inl ⟨by rfl, ?hy21⟩) hHeld ?hr21
                      case hy21 => (intro w hSw; (try dsimp only at hSw); subst hSw; go_simp; (try with_reducible rfl))
                      simp only [Act.put, List.setIfInBounds_toArray, List.set_cons_zero, List.set_cons_succ, List.getElem_toArray, List.getElem_cons_zero, List.getElem_cons_succ]
                      refine' wpAnyH_take (i := 9) (v := _) rfl (by kernel_rfl) (by kernel_rfl) (by kernel_rfl) (fun _ _ _ h => h) (Or.inl ⟨by rfl, ?hy22⟩) hHeld ?hr22
                      case hy22 => (intro w hSw; (try dsimp only at hSw); subst hSw; go_simp; (try with_reducible rfl))
                      simp only [Act.put, List.setIfInBounds_toArray, List.set_cons_zero, List.set_cons_succ, List.getElem_toArray, List.getElem_cons_zero, List.getElem_cons_succ]
                      refine' wpAnyH_take (i := 10) (v := _) rfl (by kernel_rfl) (by kernel_rfl) (by kernel_rfl) (fun _ _ _ h => h) (Or.inl ⟨by rfl, ?hy23⟩) hHeld ?hr23
                      case hy23 => (intro w hSw; (try dsimp only at hSw); subst hSw; go_simp; (try with_reducible rfl))
                      simp only [Act.put, List.setIfInBounds_toArray, List.set_cons_zero, List.set_cons_succ, List.getElem_toArray, List.getElem_cons_zero, List.getElem_cons_succ]
                      refine' wpAnyH_take (i := 11) (v := _) rfl (by kernel_rfl) (by kernel_rfl) (by kernel_rfl) (fun _ _ _ h => h) (Or.inl ⟨by rfl, ?hy24⟩) hHeld ?hr24
                      case hy24 => (intro w hSw; (try dsimp only at hSw); subst hSw; go_simp; (try with_reducible rfl))
                      simp only [Act.put, List.setIfInBounds_toArray, List.set_cons_zero, List.set_cons_succ, List.getElem_toArray, List.getElem_cons_zero, List.getElem_cons_succ]
                      refine' wpAnyH_take (i := 12) (v := _) rfl (by kernel_rfl) (by kernel_rfl) (by kernel_rfl) (fun _ _ _ h => h) (Or.inl ⟨by rfl, ?hy25⟩) hHeld ?hr25
                      case hy25 => (intro w hSw; (try dsimp only at hSw); subst hSw; go_simp; (try with_reducible rfl))
                      simp only [Act.put, List.setIfInBounds_toArray, List.set_cons_zero, List.set_cons_succ, List.getElem_toArray, List.getElem_cons_zero, List.getElem_cons_succ]
                      refine' wpAnyH_take (i := 13) (v := _) rfl (by kernel_rfl) (by kernel_rfl) (by kernel_rfl) (fun _ _ _ h => h) (Or.inl ⟨by rfl, ?hy26⟩) hHeld ?hr26
                      case hy26 => (intro w hSw; (try dsimp only at hSw); subst hSw; go_simp; (try with_reducible rfl))
                      simp only [Act.put, List.setIfInBounds_toArray, List.set_cons_zero, List.set_cons_succ, List.getElem_toArray, List.getElem_cons_zero, List.getElem_cons_succ]
                      refine' wpAnyH_take (i := 14) (v := _) rfl (by kernel_rfl) (by kernel_rfl) (by kernel_rfl) (fun _ _ _ h => h) (Or.inl ⟨by rfl, ?hy27⟩) hHeld ?hr27
                      case hy27 => (intro w hSw; (try dsimp only at hSw); subst hSw; go_simp; (try with_reducible rfl))
                      simp only [Act.put, List.setIfInBounds_toArray, List.set_cons_zero, List.set_cons_succ, List.getElem_toArray, List.getElem_cons_zero, List.getElem_cons_succ]
                      refine' wpAnyH_take (i := 15) (v := _) rfl (by kernel_rfl) (by kernel_rfl) (by kernel_rfl) (fun _ _ _ h => h) (Or.inl ⟨by rfl, ?hy28⟩) hHeld ?hr28
                      case hy28 => (intro w hSw; (try dsimp only at hSw); subst hSw; go_simp; (try with_reducible rfl))
                      simp only [Act.put, List.setIfInBounds_toArray, List.set_cons_zero, List.set_cons_succ, List.getElem_toArray, List.getElem_cons_zero, List.getElem_cons_succ]
                      refine' wpAnyH_take (i := 16) (v := _) rfl (by kernel_rfl) (by kernel_rfl) (by kernel_rfl) (fun _ _ _ h => h) (Or.inl ⟨by rfl, ?hy29⟩) hHeld ?hr29
                      case hy29 => (intro w hSw; (try dsimp only at hSw); subst hSw; go_simp; (try with_reducible rfl))
                      simp only [Act.put, List.setIfInBounds_toArray, List.set_cons_zero, List.set_cons_succ, List.getElem_toArray, List.getElem_cons_zero, List.getElem_cons_succ]
                      refine' wpAnyH_take (i := 17) (v := _) rfl (by kernel_rfl) (by kernel_rfl) (by kernel_rfl) (fun _ _ _ h => h) (Or.inl ⟨by rfl, ?hy30⟩) hHeld ?hr30
                      case hy30 => (intro w hSw; (try dsimp only at hSw); subst hSw; go_simp; (try with_reducible rfl))
                      simp only [Act.put, List.setIfInBounds_toArray, List.set_cons_zero, List.set_cons_succ, List.getElem_toArray, List.getElem_cons_zero, List.getElem_cons_succ]
                      refine' wpAnyH_take (i := 18) (v := _) rfl (by kernel_rfl) (by kernel_rfl) (by kernel_rfl) (fun _ _ _ h => h) (Or.inl ⟨by rfl, ?hy31⟩) hHeld ?hr31
                      case hy31 => (intro w hSw; (try dsimp only at hSw); subst hSw; go_simp; (try with_reducible rfl))
                      simp only [Act.put, List.setIfInBounds_toArray, List.set_cons_zero, List.set_cons_succ, List.getElem_toArray, List.getElem_cons_zero, List.getElem_cons_succ]
                      refine' wpAnyH_take (i := 19) (v := _) rfl (by kernel_rfl) (by kernel_rfl) (by kernel_rfl) (fun _ _ _ h => h) (Or.inl ⟨by rfl, ?hy32⟩) hHeld ?hr32
                      case hy32 => (intro w hSw; (try dsimp only at hSw); subst hSw; go_simp; (try with_reducible rfl))
                      simp only [Act.put, List.setIfInBounds_toArray, List.set_cons_zero, List.set_cons_succ, List.getElem_toArray, List.getElem_cons_zero, List.getElem_cons_succ]
                      refine' wpAnyH_take (i := 20) (v := _) rfl (by kernel_rfl) (by kernel_rfl) (by kernel_rfl) (fun _ _ _ h => h) (Or.inl ⟨by rfl, ?hy33⟩) hHeld ?hr33
                      case hy33 => (intro w hSw; (try dsimp only at hSw); subst hSw; go_simp; (try with_reducible rfl))
                      simp only [Act.put, List.setIfInBounds_toArray, List.set_cons_zero, List.set_cons_succ, List.getElem_toArray, List.getElem_cons_zero, List.getElem_cons_succ]
                      refine' wpAnyH_take (i := 21) (v := _) rfl (by kernel_rfl) (by kernel_rfl) (by kernel_rfl) (fun _ _ _ h => h) (Or.inl ⟨by rfl, ?hy34⟩) hHeld ?hr34
                      case hy34 => (intro w hSw; (try dsimp only at hSw); subst hSw; go_simp; (try with_reducible rfl))
                      simp only [Act.put, List.setIfInBounds_toArray, List.set_cons_zero, List.set_cons_succ, List.getElem_toArray, List.getElem_cons_zero, List.getElem_cons_succ]
                      refine' wpAnyH_take (i := 22) (v := _) rfl (by kernel_rfl) (by kernel_rfl) (by kernel_rfl) (fun _ _ _ h => h) (Or.inl ⟨by rfl, ?hy35⟩) hHeld ?hr35
                      case hy35 => (intro w hSw; (try dsimp only at hSw); subst hSw; go_simp; (try with_reducible rfl))
                      simp only [Act.put, List.setIfInBounds_toArray, List.set_cons_zero, List.set_cons_succ, List.getElem_toArray, List.getElem_cons_zero, List.getElem_cons_succ]
                      refine' wpAnyH_take (i := 23) (v := _) rfl (by kernel_rfl) (by kernel_rfl) (by kernel_rfl) (fun _ _ _ h => h) (Or.inl ⟨by rfl, ?hy36⟩) hHeld ?hr36
                      case hy36 => (intro w hSw; (try dsimp only at hSw); subst hSw; go_simp; (try with_reducible rfl))
                      simp only [Act.put, List.setIfInBounds_toArray, List.set_cons_zero, List.set_cons_succ, List.getElem_toArray, List.getElem_cons_zero, List.getElem_cons_succ]
                      refine' wpAnyH_take (i := 24) (v := _) rfl (by kernel_rfl) (by kernel_rfl) (by kernel_rfl) (fun _ _ _ h => h) (Or.inl ⟨by rfl, ?hy37⟩) hHeld ?hr37
                      case hy37 => (intro w hSw; (try dsimp only at hSw); subst hSw; go_simp; (try with_reducible rfl))
                      simp only [Act.put, List.setIfInBounds_toArray, List.set_cons_zero, List.set_cons_succ, List.getElem_toArray, List.getElem_cons_zero, List.getElem_cons_succ]
                      refine' wpAnyH_take (i := 25) (v := _) rfl (by kernel_rfl) (by kernel_rfl) (by kernel_rfl) (fun _ _ _ h => h) (Or.inl ⟨by rfl, ?hy38⟩) hHeld ?hr38
                      case hy38 => (intro w hSw; (try dsimp only at hSw); subst hSw; go_simp; (try with_reducible rfl))
                      simp only [Act.put, List.setIfInBounds_toArray, List.set_cons_zero, List.set_cons_succ, List.getElem_toArray, List.getElem_cons_zero, List.getElem_cons_succ]
                      refine' wpAnyH_take (i := 26) (v := _) rfl (by kernel_rfl) (by kernel_rfl) (by kernel_rfl) (fun _ _ _ h => h) (Or.inl ⟨by rfl, ?hy39⟩) hHeld ?hr39
                      case hy39 => (intro w hSw; (try dsimp only at hSw); subst hSw; go_simp; (try with_reducible rfl))
                      simp only [Act.put, List.setIfInBounds_toArray, List.set_cons_zero, List.set_cons_succ, List.getElem_toArray, List.getElem_cons_zero, List.getElem_cons_succ]
                      refine' wpAnyH_take (i := 27) (v := _) rfl (by kernel_rfl) (by kernel_rfl) (by kernel_rfl) (fun _ _ _ h => h) (Or.inl ⟨by rfl, ?hy40⟩) hHeld ?hr40
                      case hy40 => (intro w hSw; (try dsimp only at hSw); subst hSw; go_simp; (try with_reducible rfl))
                      simp only [Act.put, List.setIfInBounds_toArray, List.set_cons_zero, List.set_cons_succ, List.getElem_toArray, List.getElem_cons_zero, List.getElem_cons_succ]
                      refine' wpAnyH_take (i := 28) (v := _) rfl (by kernel_rfl) (by kernel_rfl) (by kernel_rfl) (fun _ _ _ h => h) (Or.inl ⟨by rfl, ?hy41⟩) hHeld ?hr41
                      case hy41 => (intro w hSw; (try dsimp only at hSw); subst hSw; go_simp; (try with_reducible rfl))
                      simp only [Act.put, List.setIfInBounds_toArray, List.set_cons_zero, List.set_cons_succ, List.getElem_toArray, List.getElem_cons_zero, List.getElem_cons_succ]
                      refine' wpAnyH_take (i := 29) (v := _) rfl (by kernel_rfl) (by kernel_rfl) (by kernel_rfl) (fun _ _ _ h => h) (Or.inl ⟨by rfl, ?hy42⟩) hHeld ?hr42
                      case hy42 => (intro w hSw; (try dsimp only at hSw); subst hSw; go_simp; (try with_reducible rfl))
                      simp only [Act.put, List.setIfInBounds_toArray, List.set_cons_zero, List.set_cons_succ, List.getElem_toArray, List.getElem_cons_zero, List.getElem_cons_succ]
                      refine wpAnyH_done (by kernel_rfl) ?_ _
                      refine NoPanic.normal ?_
                      go_wp2
                      go_roundw
                      case rel => exact ⟨j + 1, by go_num, by omega, hall', (by first | exact kb2 | exact kb2.drew)⟩
                      case measure => simp [intOf]; omega
                    · have b5 : decide ((atC xs (j + 1)).st = (atC xs j).st) = false := decide_eq_false e5
                      have hno : rowOkB xs = false := rowOkB_no xs j hlt (by unfold cellOkB; rw [hso, if_neg e0, if_pos e1, b5]; simp)
                      clear hall hsrc e2 e5
                      go_wp2
                      refine wp_region_noPanic ?_
                      refine wp_region_held_drew (S := fun W => W = w2.drew) (by kernel_rfl) rfl (fun hHeld => ?_)
                      refine' wpAnyH_take (i := 0) (v := _) rfl (by kernel_rfl) (by kernel_rfl) (by kernel_rfl) (fun _ _ _ h => h) (Or.inl ⟨by rfl, ?hy43⟩) hHeld ?hr43
                      case hy43 => (intro w hSw; (try dsimp only at hSw); subst hSw; go_simp; (try with_reducible rfl))
                      simp only [Act.put, List.setIfInBounds_toArray, List.set_cons_zero, List.set_cons_succ, List.getElem_toArray, List.getElem_cons_zero]
                      refine' wpAnyH_take (i := 1) (v := _) rfl (by kernel_rfl) (by kernel_rfl) (by kernel_rfl) (fun _ _ _ h => h) (Or.inl ⟨by rfl, ?hy44⟩) hHeld ?hr44
                      case hy44 => (intro w hSw; (try dsimp only at hSw); subst hSw; go_simp; (try with_reducible rfl))
                      simp only [Act.put, List.setIfInBounds_toArray, List.set_cons_zero, List.set_cons_succ, List.getElem_toArray, List.getElem_cons_zero, List.getElem_cons_succ]
                      refine wpAnyH_ready (rs := [2]) (by kernel_rfl) (by simp) (AllReadyH.cons rfl (fun K hK => ?_) AllReadyH.nil)
                      go_simp
                      refine (specWidth_any _ _).mono ?_
                      rintro e wk ⟨rfl, hwk⟩
                      subst hwk
                      go_wp2_with fail
                      refine hK.out _ _ (by rfl) (fun hHeld => ?_)
                      clear hK K
                      (try simp only [Act.put, List.setIfInBounds_toArray, List.set_cons_zero, List.set_cons_succ])
                      refine' wpAnyH_take (i := 3) (v := _) rfl (by kernel_rfl) (by kernel_rfl) (by kernel_rfl) (fun _ _ _ h => h) (Or.inl ⟨by rfl, ?hy45⟩) hHeld ?hr45
                      case hy45 => (intro w hSw; (try dsimp only at hSw); subst hSw; go_simp; (try with_reducible rfl))
                      simp only [Act.put, List.setIfInBounds_toArray, List.set_cons_zero, List.set_cons_succ, List.getElem_toArray, List.getElem_cons_zero, List.getElem_cons_succ]
                      refine' wpAnyH_take (i := 4) (v := _) rfl (by kernel_rfl) (by kernel_rfl) (by kernel_rfl) (fun _ _ _ h => h) (Or.inl ⟨by rfl, ?hy46⟩) hHeld ?hr46
                      case hy46 => (intro w hSw; (try dsimp only at hSw); subst hSw; go_simp; (try with_reducible rfl))
                      simp only [Act.put, List.setIfInBounds_toArray, List.set_cons_zero, List.set_cons_succ, List.getElem_toArray, List.getElem_cons_zero, List.getElem_cons_succ]
                      refine' wpAnyH_take (i := 5) (v := _) rfl (by kernel_rfl) (by kernel_rfl) (by kernel_rfl) (fun _ _ _ h => h) (Or.inl ⟨by rfl, ?hy47⟩) hHeld ?hr47
                      case hy47 => (intro w hSw; (try dsimp only at hSw); subst hSw; go_simp; (try with_reducible rfl))
                      simp only [Act.put, List.setIfInBounds_toArray, List.set_cons_zero, List.set_cons_succ, List.getElem_toArray, List.getElem_cons_zero, List.getElem_cons_succ]
                      refine' wpAnyH_take (i := 6) (v := _) rfl (by kernel_rfl) (by kernel_rfl) (by kernel_rfl) (fun _ _ _ h => h) (Or.inl ⟨by rfl, ?hy48⟩) hHeld ?hr48
                      case hy48 => (intro w hSw; (try dsimp only at hSw); subst hSw; go_simp; (try with_reducible rfl))
                      simp only [Act.put, List.setIfInBounds_toArray, List.set_cons_zero, List.set_cons_succ, List.getElem_toArray, List.getElem_cons_zero, List.getElem_cons_succ]
                      refine' wpAnyH_take (i := 7) (v := _) rfl (by kernel_rfl) (by kernel_rfl) (by kernel_rfl) (fun _ _ _ h => h) (Or.inl ⟨by rfl, ?hy49⟩) hHeld ?hr49
                      case hy49 => (intro w hSw; (try dsimp only at hSw); subst hSw; go_simp; (try with_reducible rfl))
                      simp only [Act.put, List.setIfInBounds_toArray, List.set_cons_zero, List.set_cons_succ, List.getElem_toArray, List.getElem_cons_zero, List.getElem_cons_succ]
                      refine' wpAnyH_take (i := 8) (v := _) rfl (by kernel_rfl) (by kernel_rfl) (by kernel_rfl) (fun _ _ _ h => h) (Or.inl ⟨by rfl, ?hy50⟩) hHeld ?hr50
                      case hy50 => (intro w hSw; (try dsimp only at hSw); subst hSw; go_simp; (try with_reducible rfl))
                      simp only [Act.put, List.setIfInBounds_toArray, List.set_cons_zero, List.set_cons_succ, List.getElem_toArray, List.getElem_cons_zero, List.getElem_cons_succ]
                      refine' wpAnyH_take (i := 9) (v := _) rfl (by kernel_rfl) (by kernel_rfl) (by kernel_rfl) (fun _ _ _ h => h) (Or.inl ⟨by rfl, ?hy51⟩) hHeld ?hr51
                      case hy51 => (intro w hSw; (try dsimp only at hSw); subst hSw; go_simp; (try with_reducible rfl))
                      simp only [Act.put, List.setIfInBounds_toArray, List.set_cons_zero, List.set_cons_succ, List.getElem_toArray, List.getElem_cons_zero, List.getElem_cons_succ]
                      refine' wpAnyH_take (i := 10) (v := _) rfl (by kernel_rfl) (by kernel_rfl) (by kernel_rfl) (fun _ _ _ h => h) (Or.inl ⟨by rfl, ?hy52⟩) hHeld ?hr52
                      case hy52 => (intro w hSw; (try dsimp only at hSw); subst hSw; go_simp; (try with_reducible rfl))
                      simp only [Act.put, List.setIfInBounds_toArray, List.set_cons_zero, List.set_cons_succ, List.getElem_toArray, List.getElem_cons_zero, List.getElem_cons_succ]
                      refine' wpAnyH_take (i := 11) (v := _) rfl (by kernel_rfl) (by kernel_rfl) (by kernel_rfl) (fun _ _ _ h => h) (Or.inl ⟨by rfl, ?hy53⟩) hHeld ?hr53
                      case hy53 => (intro w hSw; (try dsimp only at hSw); subst hSw; go_simp; (try with_reducible rfl))
                      simp only [Act.put, List.setIfInBounds_toArray, List.set_cons_zero, List.set_cons_succ, List.getElem_toArray, List.getElem_cons_zero, List.getElem_cons_succ]
                      refine' wpAnyH_take (i := 12) (v := _) rfl (by kernel_rfl) (by kernel_rfl) (by kernel_rfl) (fun _ _ _ h => h) (Or.inl ⟨by rfl, ?hy54⟩) hHeld ?hr54
                      case hy54 => (intro w hSw; (try dsimp only at hSw); subst hSw; go_simp; (try with_reducible rfl))
                      simp only [Act.put, List.setIfInBounds_toArray, List.set_cons_zero, List.set_cons_succ, List.getElem_toArray, List.getElem_cons_zero, List.getElem_cons_succ]
                      refine' wpAnyH_take (i := 13) (v := _) rfl (by kernel_rfl) (by kernel_rfl) (by kernel_rfl) (fun _ _ _ h => h) (Or.inl ⟨by rfl, ?hy55⟩) hHeld ?hr55
                      case hy55 => (intro w hSw; (try dsimp only at hSw); subst hSw; go_simp; (try with_reducible rfl))
                      simp only [Act.put, List.setIfInBounds_toArray, List.set_cons_zero, List.set_cons_succ, List.getElem_toArray, List.getElem_cons_zero, List.getElem_cons_succ]
                      refine' wpAnyH_take (i := 14) (v := _) rfl (by kernel_rfl) (by kernel_rfl) (by kernel_rfl) (fun _ _ _ h => h) (Or.inl ⟨by rfl, ?hy56⟩) hHeld ?hr56
                      case hy56 => (intro w hSw; (try dsimp only at hSw); subst hSw; go_simp; (try with_reducible rfl))
                      simp only [Act.put, List.setIfInBounds_toArray, List.set_cons_zero, List.set_cons_succ, List.getElem_toArray, List.getElem_cons_zero, List.getElem_cons_succ]
                      refine' wpAnyH_take (i := 15) (v := _) rfl (by kernel_rfl) (by kernel_rfl) (by kernel_rfl) (fun _ _ _ h => h) (Or.inl ⟨by rfl, ?hy57⟩) hHeld ?hr57
                      case hy57 => (intro w hSw; (try dsimp only at hSw); subst hSw; go_simp; (try with_reducible rfl))
                      simp only [Act.put, List.setIfInBounds_toArray, List.set_cons_zero, List.set_cons_succ, List.getElem_toArray, List.getElem_cons_zero, List.getElem_cons_succ]
                      refine' wpAnyH_take (i := 16) (v := _) rfl (by kernel_rfl) (by kernel_rfl) (by kernel_rfl) (fun _ _ _ h => h) (Or.inl ⟨by rfl, ?hy58⟩) hHeld ?hr58
                      case hy58 => (intro w hSw; (try dsimp only at hSw); subst hSw; go_simp; (try with_reducible rfl))
                      simp only [Act.put, List.setIfInBounds_toArray, List.set_cons_zero, List.set_cons_succ, List.getElem_toArray, List.getElem_cons_zero, List.getElem_cons_succ]
                      refine' wpAnyH_take (i := 17) (v := _) rfl (by kernel_rfl) (by kernel_rfl) (by kernel_rfl) (fun _ _ _ h => h) (Or.inl ⟨by rfl, ?hy59⟩) hHeld ?hr59
                      case hy59 => (intro w hSw; (try dsimp only at hSw); subst hSw; go_simp; (try with_reducible rfl))
                      simp only [Act.put, List.setIfInBounds_toArray, List.set_cons_zero, List.set_cons_succ, List.getElem_toArray, List.getElem_cons_zero, List.getElem_cons_succ]
                      refine' wpAnyH_take (i := 18) (v := _) rfl (by kernel_rfl) (by kernel_rfl) (by kernel_rfl) (fun _ _ _ h => h) (Or.inl ⟨by rfl, ?hy60⟩) hHeld ?hr60
                      case hy60 => (intro w hSw; (try dsimp only at hSw); subst hSw; go_simp; (try with_reducible rfl))
                      simp only [Act.put, List.setIfInBounds_toArray, List.set_cons_zero, List.set_cons_succ, List.getElem_toArray, List.getElem_cons_zero, List.getElem_cons_succ]
                      refine' wpAnyH_take (i := 19) (v := _) rfl (by kernel_rfl) (by kernel_rfl) (by kernel_rfl) (fun _ _ _ h => h) (Or.inl ⟨by rfl, ?hy61⟩) hHeld ?hr61
                      case hy61 => (intro w hSw; (try dsimp only at hSw); subst hSw; go_simp; (try with_reducible rfl))
                      simp only [Act.put, List.setIfInBounds_toArray, List.set_cons_zero, List.set_cons_succ, List.getElem_toArray, List.getElem_cons_zero, List.getElem_cons_succ]
                      refine' wpAnyH_take (i := 20) (v := _) rfl (by kernel_rfl) (by kernel_rfl) (by kernel_rfl) (fun _ _ _ h => h) (Or.inl ⟨by rfl, ?hy62⟩) hHeld ?hr62
                      case hy62 => (intro w hSw; (try dsimp only at hSw); subst hSw; go_simp; (try with_reducible rfl))
                      simp only [Act.put, List.setIfInBounds_toArray, List.set_cons_zero, List.set_cons_succ, List.getElem_toArray, List.getElem_cons_zero, List.getElem_cons_succ]
                      refine' wpAnyH_take (i := 21) (v := _) rfl (by kernel_rfl) (by kernel_rfl) (by kernel_rfl) (fun _ _ _ h => h) (Or.inl ⟨by rfl, ?hy63⟩) hHeld ?hr63
                      case hy63 => (intro w hSw; (try dsimp only at hSw); subst hSw; go_simp; (try with_reducible rfl))
                      simp only [Act.put, List.setIfInBounds_toArray, List.set_cons_zero, List.set_cons_succ, List.getElem_toArray, List.getElem_cons_zero, List.getElem_cons_succ]
                      refine' wpAnyH_take (i := 22) (v := _) rfl (by kernel_rfl) (by kernel_rfl) (by kernel_rfl) (fun _ _ _ h => h) (Or.inl ⟨by rfl, ?hy64⟩) hHeld ?hr64
                      case hy64 => (intro w hSw; (try dsimp only at hSw); subst hSw; go_simp; (try with_reducible rfl))
                      simp only [Act.put, List.setIfInBounds_toArray, List.set_cons_zero, List.set_cons_succ, List.getElem_toArray, List.getElem_cons_zero, List.getElem_cons_succ]
                      refine' wpAnyH_take (i := 23) (v := _) rfl (by kernel_rfl) (by kernel_rfl) (by kernel_rfl) (fun _ _ _ h => h) (Or.inl ⟨by rfl, ?hy65⟩) hHeld ?hr65
                      case hy65 => (intro w hSw; (try dsimp only at hSw); subst hSw; go_simp; (try with_reducible rfl))
                      simp only [Act.put, List.setIfInBounds_toArray, List.set_cons_zero, List.set_cons_succ, List.getElem_toArray, List.getElem_cons_zero, List.getElem_cons_succ]
                      refine' wpAnyH_take (i := 24) (v := _) rfl (by kernel_rfl) (by kernel_rfl) (by kernel_rfl) (fun _ _ _ h => h) (Or.inl ⟨by rfl, ?hy66⟩) hHeld ?hr66
                      case hy66 => (intro w hSw; (try dsimp only at hSw); subst hSw; go_simp; (try with_reducible rfl))
                      simp only [Act.put, List.setIfInBounds_toArray, List.set_cons_zero, List.set_cons_succ, List.getElem_toArray, List.getElem_cons_zero, List.getElem_cons_succ]
                      refine' wpAnyH_take (i := 25) (v := _) rfl (by kernel_rfl) (by kernel_rfl) (by kernel_rfl) (fun _ _ _ h => h) (Or.inl ⟨by rfl, ?hy67⟩) hHeld ?hr67
                      case hy67 => (intro w hSw; (try dsimp only at hSw); subst hSw; go_simp; (try with_reducible rfl))
                      simp only [Act.put, List.setIfInBounds_toArray, List.set_cons_zero, List.set_cons_succ, List.getElem_toArray, List.getElem_cons_zero, List.getElem_cons_succ]
                      refine' wpAnyH_take (i := 26) (v := _) rfl (by kernel_rfl) (by kernel_rfl) (by kernel_rfl) (fun _ _ _ h => h) (Or.inl ⟨by rfl, ?hy68⟩) hHeld ?hr68
                      case hy68 => (intro w hSw; (try dsimp only at hSw); subst hSw; go_simp; (try with_reducible rfl))
                      simp only [Act.put, List.setIfInBounds_toArray, List.set_cons_zero, List.set_cons_succ, List.getElem_toArray, List.getElem_cons_zero, List.getElem_cons_succ]
                      refine' wpAnyH_take (i := 27) (v := _) rfl (by kernel_rfl) (by kernel_rfl) (by kernel_rfl) (fun _ _ _ h => h) (Or.inl ⟨by rfl, ?hy69⟩) hHeld ?hr69
                      case hy69 => (intro w hSw; (try dsimp only at hSw); subst hSw; go_simp; (try with_reducible rfl))
                      simp only [Act.put, List.setIfInBounds_toArray, List.set_cons_zero, List.set_cons_succ, List.getElem_toArray, List.getElem_cons_zero, List.getElem_cons_succ]
                      refine' wpAnyH_take (i := 28) (v := _) rfl (by kernel_rfl) (by kernel_rfl) (by kernel_rfl) (fun _ _ _ h => h) (Or.inl ⟨by rfl, ?hy70⟩) hHeld ?hr70
                      case hy70 => (intro w hSw; (try dsimp only at hSw); subst hSw; go_simp; (try with_reducible rfl))
                      simp only [Act.put, List.setIfInBounds_toArray, List.set_cons_zero, List.set_cons_succ, List.getElem_toArray, List.getElem_cons_zero, List.getElem_cons_succ]
                      refine' wpAnyH_take (i := 29) (v := _) rfl (by kernel_rfl) (by kernel_rfl) (by kernel_rfl) (fun _ _ _ h => h) (Or.inl ⟨by rfl, ?hy71⟩) hHeld ?hr71
                      case hy71 => (intro w hSw; (try dsimp only at hSw); subst hSw; go_simp; (try with_reducible rfl))
                      simp only [Act.put, List.setIfInBounds_toArray, List.set_cons_zero, List.set_cons_succ, List.getElem_toArray, List.getElem_cons_zero, List.getElem_cons_succ]
                      refine wpAnyH_done (by kernel_rfl) ?_ _
                      refine NoPanic.normal ?_
                      go_wp2
                      go_ret
                      first | exact ⟨ret_bool hno.symm, kb2⟩ | exact ⟨rfl, kb2⟩ | exact ⟨rfl, kb2.drew⟩ | exact ⟨ret_bool hno.symm, kb2.drew⟩
                  · have b4 : ((atC xs (j + 1)).part != 2) = true := by simp [e4]
                    have hno : rowOkB xs = false := rowOkB_no xs j hlt (by unfold cellOkB; rw [hso, if_neg e0, if_pos e1, decide_eq_false e4]; simp)
                    clear hall hsrc e2
                    go_wp2
                    refine wp_region_noPanic ?_
                    refine wp_region_held_drew (S := fun W => W = w2.drew) (by kernel_rfl) rfl (fun hHeld => ?_)
                    refine' wpAnyH_take (i := 0) (v := _) rfl (by kernel_rfl) (by kernel_rfl) (by kernel_rfl) (fun _ _ _ h => h) (Or.inl ⟨by rfl, ?hy72⟩) hHeld ?hr72
                    case hy72 => (intro w hSw; (try dsimp only at hSw); subst hSw; go_simp; (try with_reducible rfl))
                    simp only [Act.put, List.setIfInBounds_toArray, List.set_cons_zero, List.set_cons_succ, List.getElem_toArray, List.getElem_cons_zero]
                    refine' wpAnyH_take (i := 1) (v := _) rfl (by kernel_rfl) (by kernel_rfl) (by kernel_rfl) (fun _ _ _ h => h) (Or.inl ⟨by rfl, ?hy73⟩) hHeld ?hr73
                    case hy73 => (intro w hSw; (try dsimp only at hSw); subst hSw; go_simp; (try with_reducible rfl))
                    simp only [Act.put, List.setIfInBounds_toArray, List.set_cons_zero, List.set_cons_succ, List.getElem_toArray, List.getElem_cons_zero, List.getElem_cons_succ]
                    refine wpAnyH_ready (rs := [2]) (by kernel_rfl) (by simp) (AllReadyH.cons rfl (fun K hK => ?_) AllReadyH.nil)
                    go_simp
                    refine (specWidth_any _ _).mono ?_
                    rintro e wk ⟨rfl, hwk⟩
                    subst hwk
                    go_wp2_with fail
                    refine hK.out _ _ (by rfl) (fun hHeld => ?_)
                    clear hK K
                    (try simp only [Act.put, List.setIfInBounds_toArray, List.set_cons_zero, List.set_cons_succ])
                    refine' wpAnyH_take (i := 3) (v := _) rfl (by kernel_rfl) (by kernel_rfl) (by kernel_rfl) (fun _ _ _ h => h) (Or.inl ⟨by rfl, ?hy74⟩) hHeld ?hr74
                    case hy74 => (intro w hSw; (try dsimp only at hSw); subst hSw; go_simp; (try with_reducible rfl))
                    simp only [Act.put, List.setIfInBounds_toArray, List.set_cons_zero, List.set_cons_succ, List.getElem_toArray, List.getElem_cons_zero, List.getElem_cons_succ]
                    refine' wpAnyH_take (i := 4) (v := _) rfl (by kernel_rfl) (by kernel_rfl) (by kernel_rfl) (fun _ _ _ h => h) (Or.inl ⟨by rfl, ?hy75⟩) hHeld ?hr75
                    case hy75 => (intro w hSw; (try dsimp only at hSw); subst hSw; go_simp; (try with_reducible rfl))
                    simp only [Act.put, List.setIfInBounds_toArray, List.set_cons_zero, List.set_cons_succ, List.getElem_toArray, List.getElem_cons_zero, List.getElem_cons_succ]
                    refine' wpAnyH_take (i := 5) (v := _) rfl (by kernel_rfl) (by kernel_rfl) (by kernel_rfl) (fun _ _ _ h => h) (Or.inl ⟨by rfl, ?hy76⟩) hHeld ?hr76
                    case hy76 => (intro w hSw; (try dsimp only at hSw); subst hSw; go_simp; (try with_reducible rfl))
                    simp only [Act.put, List.setIfInBounds_toArray, List.set_cons_zero, List.set_cons_succ, List.getElem_toArray, List.getElem_cons_zero, List.getElem_cons_succ]
                    refine' wpAnyH_take (i := 6) (v := _) rfl (by kernel_rfl) (by kernel_rfl) (by kernel_rfl) (fun _ _ _ h => h) (Or.inl ⟨by rfl, ?hy77⟩) hHeld ?hr77
                    case hy77 => (intro w hSw; (try dsimp only at hSw); subst hSw; go_simp; (try with_reducible rfl))
                    simp only [Act.put, List.setIfInBounds_toArray, List.set_cons_zero, List.set_cons_succ, List.getElem_toArray, List.getElem_cons_zero, List.getElem_cons_succ]
                    refine' wpAnyH_take (i := 7) (v := _) rfl (by kernel_rfl) (by kernel_rfl) (by kernel_rfl) (fun _ _ _ h => h) (Or.inl ⟨by rfl, ?hy78⟩) hHeld ?hr78
                    case hy78 => (intro w hSw; (try dsimp only at hSw); subst hSw; go_simp; (try with_reducible rfl))
                    simp only [Act.put, List.setIfInBounds_toArray, List.set_cons_zero, List.set_cons_succ, List.getElem_toArray, List.getElem_cons_zero, List.getElem_cons_succ]
                    refine' wpAnyH_take (i := 8) (v := _) rfl (by kernel_rfl) (by kernel_rfl) (by kernel_rfl) (fun _ _ _ h => h) (Or.inl ⟨by rfl, ?hy79⟩) hHeld ?hr79
                    case hy79 => (intro w hSw; (try dsimp only at hSw); subst hSw; go_simp; (try with_reducible rfl))
                    simp only [Act.put, List.setIfInBounds_toArray, List.set_cons_zero, List.set_cons_succ, List.getElem_toArray, List.getElem_cons_zero, List.getElem_cons_succ]
                    refine' wpAnyH_take (i := 9) (v := _) rfl (by kernel_rfl) (by kernel_rfl) (by kernel_rfl) (fun _ _ _ h => h) (Or.inl ⟨by rfl, ?hy80⟩) hHeld ?hr80
                    case hy80 => (intro w hSw; (try dsimp only at hSw); subst hSw; go_simp; (try with_reducible rfl))
                    simp only [Act.put, List.setIfInBounds_toArray, List.set_cons_zero, List.set_cons_succ, List.getElem_toArray, List.getElem_cons_zero, List.getElem_cons_succ]
                    refine' wpAnyH_take (i := 10) (v := _) rfl (by kernel_rfl) (by kernel_rfl) (by kernel_rfl) (fun _ _ _ h => h) (Or.inl ⟨by rfl, ?hy81⟩) hHeld ?hr81
                    case hy81 => (intro w hSw; (try dsimp only at hSw); subst hSw; go_simp; (try with_reducible rfl))
                    simp only [Act.put, List.setIfInBounds_toArray, List.set_cons_zero, List.set_cons_succ, List.getElem_toArray, List.getElem_cons_zero, List.getElem_cons_succ]
                    refine' wpAnyH_take (i := 11) (v := _) rfl (by kernel_rfl) (by kernel_rfl) (by kernel_rfl) (fun _ _ _ h => h) (Or.inl ⟨by rfl, ?hy82⟩) hHeld ?hr82
                    case hy82 => (intro w hSw; (try dsimp only at hSw); subst hSw; go_simp; (try with_reducible rfl))
                    simp only [Act.put, List.setIfInBounds_toArray, List.set_cons_zero, List.set_cons_succ, List.getElem_toArray, List.getElem_cons_zero, List.getElem_cons_succ]
                    refine' wpAnyH_take (i := 12) (v := _) rfl (by kernel_rfl) (by kernel_rfl) (by kernel_rfl) (fun _ _ _ h => h) (Or.inl ⟨by rfl, ?hy83⟩) hHeld ?hr83
                    case hy83 => (intro w hSw; (try dsimp only at hSw); subst hSw; go_simp; (try with_reducible rfl))
                    simp only [Act.put, List.setIfInBounds_toArray, List.set_cons_zero, List.set_cons_succ, List.getElem_toArray, List.getElem_cons_zero, List.getElem_cons_succ]
                    refine' wpAnyH_take (i := 13) (v := _) rfl (by kernel_rfl) (by kernel_rfl) (by kernel_rfl) (fun _ _ _ h => h) (Or.inl ⟨by rfl, ?hy84⟩) hHeld ?hr84
                    case hy84 => (intro w hSw; (try dsimp only at hSw); subst hSw; go_simp; (try with_reducible rfl))
                    simp only [Act.put, List.setIfInBounds_toArray, List.set_cons_zero, List.set_cons_succ, List.getElem_toArray, List.getElem_cons_zero, List.getElem_cons_succ]
                    refine' wpAnyH_take (i := 14) (v := _) rfl (by kernel_rfl) (by kernel_rfl) (by kernel_rfl) (fun _ _ _ h => h) (Or.inl ⟨by rfl, ?hy85⟩) hHeld ?hr85
                    case hy85 => (intro w hSw; (try dsimp only at hSw); subst hSw; go_simp; (try with_reducible rfl))
                    simp only [Act.put, List.setIfInBounds_toArray, List.set_cons_zero, List.set_cons_succ, List.getElem_toArray, List.getElem_cons_zero, List.getElem_cons_succ]
                    refine' wpAnyH_take (i := 15) (v := _) rfl (by kernel_rfl) (by kernel_rfl) (by kernel_rfl) (fun _ _ _ h => h) (Or.inl ⟨by rfl, ?hy86⟩) hHeld ?hr86
                    case hy86 => (intro w hSw; (try dsimp only at hSw); subst hSw; go_simp; (try with_reducible rfl))
                    simp only [Act.put, List.setIfInBounds_toArray, List.set_cons_zero, List.set_cons_succ, List.getElem_toArray, List.getElem_cons_zero, List.getElem_cons_succ]
                    refine' wpAnyH_take (i := 16) (v := _) rfl (by kernel_rfl) (by kernel_rfl) (by kernel_rfl) (fun _ _ _ h => h) (Or.inl ⟨by rfl, ?hy87⟩) hHeld ?hr87
                    case hy87 => (intro w hSw; (try dsimp only at hSw); subst hSw; go_simp; (try with_reducible rfl))
                    simp only [Act.put, List.setIfInBounds_toArray, List.set_cons_zero, List.set_cons_succ, List.getElem_toArray, List.getElem_cons_zero, List.getElem_cons_succ]
                    refine' wpAnyH_take (i := 17) (v := _) rfl (by kernel_rfl) (by kernel_rfl) (by kernel_rfl) (fun _ _ _ h => h) (Or.inl ⟨by rfl, ?hy88⟩) hHeld ?hr88
                    case hy88 => (intro w hSw; (try dsimp only at hSw); subst hSw; go_simp; (try with_reducible rfl))
                    simp only [Act.put, List.setIfInBounds_toArray, List.set_cons_zero, List.set_cons_succ, List.getElem_toArray, List.getElem_cons_zero, List.getElem_cons_succ]
                    refine' wpAnyH_take (i := 18) (v := _) rfl (by kernel_rfl) (by kernel_rfl) (by kernel_rfl) (fun _ _ _ h => h) (Or.inl ⟨by rfl, ?hy89⟩) hHeld ?hr89
                    case hy89 => (intro w hSw; (try dsimp only at hSw); subst hSw; go_simp; (try with_reducible rfl))
                    simp only [Act.put, List.setIfInBounds_toArray, List.set_cons_zero, List.set_cons_succ, List.getElem_toArray, List.getElem_cons_zero, List.getElem_cons_succ]
                    refine' wpAnyH_take (i := 19) (v := _) rfl (by kernel_rfl) (by kernel_rfl) (by kernel_rfl) (fun _ _ _ h => h) (Or.inl ⟨by rfl, ?hy90⟩) hHeld ?hr90
                    case hy90 => (intro w hSw; (try dsimp only at hSw); subst hSw; go_simp; (try with_reducible rfl))
                    simp only [Act.put, List.setIfInBounds_toArray, List.set_cons_zero, List.set_cons_succ, List.getElem_toArray, List.getElem_cons_zero, List.getElem_cons_succ]
                    refine wpAnyH_take (i := 20) (v := undef) rfl (by kernel_rfl) (by kernel_rfl) (by kernel_rfl) (fun _ _ _ h => h) (Or.inr ⟨by rfl, rfl⟩) hHeld ?_
                    simp only [Act.put, List.setIfInBounds_toArray, List.set_cons_zero, List.set_cons_succ, List.getElem_toArray, List.getElem_cons_zero, List.getElem_cons_succ]
                    refine wpAnyH_take (i := 21) (v := undef) rfl (by kernel_rfl) (by kernel_rfl) (by kernel_rfl) (fun _ _ _ h => h) (Or.inr ⟨by rfl, rfl⟩) hHeld ?_
                    simp only [Act.put, List.setIfInBounds_toArray, List.set_cons_zero, List.set_cons_succ, List.getElem_toArray, List.getElem_cons_zero, List.getElem_cons_succ]
                    refine wpAnyH_take (i := 22) (v := undef) rfl (by kernel_rfl) (by kernel_rfl) (by kernel_rfl) (fun _ _ _ h => h) (Or.inr ⟨by rfl, rfl⟩) hHeld ?_
                    simp only [Act.put, List.setIfInBounds_toArray, List.set_cons_zero, List.set_cons_succ, List.getElem_toArray, List.getElem_cons_zero, List.getElem_cons_succ]
                    refine wpAnyH_take (i := 23) (v := undef) rfl (by kernel_rfl) (by kernel_rfl) (by kernel_rfl) (fun _ _ _ h => h) (Or.inr ⟨by rfl, rfl⟩) hHeld ?_
                    simp only [Act.put, List.setIfInBounds_toArray, List.set_cons_zero, List.set_cons_succ, List.getElem_toArray, List.getElem_cons_zero, List.getElem_cons_succ]
                    refine wpAnyH_take (i := 24) (v := undef) rfl (by kernel_rfl) (by kernel_rfl) (by kernel_rfl) (fun _ _ _ h => h) (Or.inr ⟨by rfl, rfl⟩) hHeld ?_
                    simp only [Act.put, List.setIfInBounds_toArray, List.set_cons_zero, List.set_cons_succ, List.getElem_toArray, List.getElem_cons_zero, List.getElem_cons_succ]
                    refine wpAnyH_take (i := 25) (v := undef) rfl (by kernel_rfl) (by kernel_rfl) (by kernel_rfl) (fun _ _ _ h => h) (Or.inr ⟨by rfl, rfl⟩) hHeld ?_
                    simp only [Act.put, List.setIfInBounds_toArray, List.set_cons_zero, List.set_cons_succ, List.getElem_toArray, List.getElem_cons_zero, List.getElem_cons_succ]
                    refine wpAnyH_take (i := 26) (v := undef) rfl (by kernel_rfl) (by kernel_rfl) (by kernel_rfl) (fun _ _ _ h => h) (Or.inr ⟨by rfl, rfl⟩) hHeld ?_
                    simp only [Act.put, List.setIfInBounds_toArray, List.set_cons_zero, List.set_cons_succ, List.getElem_toArray, List.getElem_cons_zero, List.getElem_cons_succ]
                    refine wpAnyH_take (i := 27) (v := undef) rfl (by kernel_rfl) (by kernel_rfl) (by kernel_rfl) (fun _ _ _ h => h) (Or.inr ⟨by rfl, rfl⟩) hHeld ?_
                    simp only [Act.put, List.setIfInBounds_toArray, List.set_cons_zero, List.set_cons_succ, List.getElem_toArray, List.getElem_cons_zero, List.getElem_cons_succ]
                    refine wpAnyH_take (i := 28) (v := undef) rfl (by kernel_rfl) (by kernel_rfl) (by kernel_rfl) (fun _ _ _ h => h) (Or.inr ⟨by rfl, rfl⟩) hHeld ?_
                    simp only [Act.put, List.setIfInBounds_toArray, List.set_cons_zero, List.set_cons_succ, List.getElem_toArray, List.getElem_cons_zero, List.getElem_cons_succ]
                    refine' wpAnyH_take (i := 29) (v := _) rfl (by kernel_rfl) (by kernel_rfl) (by kernel_rfl) (fun _ _ _ h => h) (Or.inl ⟨by rfl, ?hy91⟩) hHeld ?hr91
                    case hy91 => (intro w hSw; (try dsimp only at hSw); subst hSw; go_simp; (try with_reducible rfl))
                    simp only [Act.put, List.setIfInBounds_toArray, List.set_cons_zero, List.set_cons_succ, List.getElem_toArray, List.getElem_cons_zero, List.getElem_cons_succ]
                    refine wpAnyH_done (by kernel_rfl) ?_ _
                    refine NoPanic.normal ?_
                    go_wp2
                    go_ret
                    first | exact ⟨ret_bool hno.symm, kb2⟩ | exact ⟨rfl, kb2⟩ | exact ⟨rfl, kb2.drew⟩ | exact ⟨ret_bool hno.symm, kb2.drew⟩
              · have b2 : (widthV (atC xs j).rune != 2) = true := by simp [e2]
                have hno : rowOkB xs = false := rowOkB_no xs j hlt (by unfold cellOkB; rw [hso, if_neg e0, if_pos e1, decide_eq_false e2]; simp)
                clear hall hsrc e2
                go_wp2
                refine wp_region_noPanic ?_
                refine wp_region_held_drew (S := fun W => W = w2.drew) (by kernel_rfl) rfl (fun hHeld => ?_)
                refine' wpAnyH_take (i := 0) (v := _) rfl (by kernel_rfl) (by kernel_rfl) (by kernel_rfl) (fun _ _ _ h => h) (Or.inl ⟨by rfl, ?hy92⟩) hHeld ?hr92
                case hy92 => (intro w hSw; (try dsimp only at hSw); subst hSw; go_simp; (try with_reducible rfl))
                simp only [Act.put, List.setIfInBounds_toArray, List.set_cons_zero, List.set_cons_succ, List.getElem_toArray, List.getElem_cons_zero]
                refine' wpAnyH_take (i := 1) (v := _) rfl (by kernel_rfl) (by kernel_rfl) (by kernel_rfl) (fun _ _ _ h => h) (Or.inl ⟨by rfl, ?hy93⟩) hHeld ?hr93
                case hy93 => (intro w hSw; (try dsimp only at hSw); subst hSw; go_simp; (try with_reducible rfl))
                simp only [Act.put, List.setIfInBounds_toArray, List.set_cons_zero, List.set_cons_succ, List.getElem_toArray, List.getElem_cons_zero, List.getElem_cons_succ]
                refine wpAnyH_ready (rs := [2]) (by kernel_rfl) (by simp) (AllReadyH.cons rfl (fun K hK => ?_) AllReadyH.nil)
                go_simp
                refine (specWidth_any _ _).mono ?_
                rintro e wk ⟨rfl, hwk⟩
                subst hwk
                go_wp2_with fail
                refine hK.out _ _ (by rfl) (fun hHeld => ?_)
                clear hK K
                (try simp only [Act.put, List.setIfInBounds_toArray, List.set_cons_zero, List.set_cons_succ])
                refine' wpAnyH_take (i := 3) (v := _) rfl (by kernel_rfl) (by kernel_rfl) (by kernel_rfl) (fun _ _ _ h => h) (Or.inl ⟨by rfl, ?hy94⟩) hHeld ?hr94
                case hy94 => (intro w hSw; (try dsimp only at hSw); subst hSw; go_simp; (try with_reducible rfl))
                simp only [Act.put, List.setIfInBounds_toArray, List.set_cons_zero, List.set_cons_succ, List.getElem_toArray, List.getElem_cons_zero, List.getElem_cons_succ]
                refine' wpAnyH_take (i := 4) (v := _) rfl (by kernel_rfl) (by kernel_rfl) (by kernel_rfl) (fun _ _ _ h => h) (Or.inl ⟨by rfl, ?hy95⟩) hHeld ?hr95
                case hy95 => (intro w hSw; (try dsimp only at hSw); subst hSw; go_simp; (try with_reducible rfl))
                simp only [Act.put, List.setIfInBounds_toArray, List.set_cons_zero, List.set_cons_succ, List.getElem_toArray, List.getElem_cons_zero, List.getElem_cons_succ]
                refine wpAnyH_take (i := 5) (v := undef) rfl (by kernel_rfl) (by kernel_rfl) (by kernel_rfl) (fun _ _ _ h => h) (Or.inr ⟨by rfl, rfl⟩) hHeld ?_
                simp only [Act.put, List.setIfInBounds_toArray, List.set_cons_zero, List.set_cons_succ, List.getElem_toArray, List.getElem_cons_zero, List.getElem_cons_succ]
                refine wpAnyH_take (i := 6) (v := undef) rfl (by kernel_rfl) (by kernel_rfl) (by kernel_rfl) (fun _ _ _ h => h) (Or.inr ⟨by rfl, rfl⟩) hHeld ?_
                simp only [Act.put, List.setIfInBounds_toArray, List.set_cons_zero, List.set_cons_succ, List.getElem_toArray, List.getElem_cons_zero, List.getElem_cons_succ]
                refine wpAnyH_take (i := 7) (v := undef) rfl (by kernel_rfl) (by kernel_rfl) (by kernel_rfl) (fun _ _ _ h => h) (Or.inr ⟨by rfl, rfl⟩) hHeld ?_
                simp only [Act.put, List.setIfInBounds_toArray, List.set_cons_zero, List.set_cons_succ, List.getElem_toArray, List.getElem_cons_zero, List.getElem_cons_succ]
                refine wpAnyH_take (i := 8) (v := undef) rfl (by kernel_rfl) (by kernel_rfl) (by kernel_rfl) (fun _ _ _ h => h) (Or.inr ⟨by rfl, rfl⟩) hHeld ?_
                simp only [Act.put, List.setIfInBounds_toArray, List.set_cons_zero, List.set_cons_succ, List.getElem_toArray, List.getElem_cons_zero, List.getElem_cons_succ]
                refine' wpAnyH_take (i := 9) (v := _) rfl (by kernel_rfl) (by kernel_rfl) (by kernel_rfl) (fun _ _ _ h => h) (Or.inl ⟨by rfl, ?hy96⟩) hHeld ?hr96
                case hy96 => (intro w hSw; (try dsimp only at hSw); subst hSw; go_simp; (try with_reducible rfl))
                simp only [Act.put, List.setIfInBounds_toArray, List.set_cons_zero, List.set_cons_succ, List.getElem_toArray, List.getElem_cons_zero, List.getElem_cons_succ]
                refine' wpAnyH_take (i := 10) (v := _) rfl (by kernel_rfl) (by kernel_rfl) (by kernel_rfl) (fun _ _ _ h => h) (Or.inl ⟨by rfl, ?hy97⟩) hHeld ?hr97
                case hy97 => (intro w hSw; (try dsimp only at hSw); subst hSw; go_simp; (try with_reducible rfl))
                simp only [Act.put, List.setIfInBounds_toArray, List.set_cons_zero, List.set_cons_succ, List.getElem_toArray, List.getElem_cons_zero, List.getElem_cons_succ]
                refine wpAnyH_take (i := 11) (v := undef) rfl (by kernel_rfl) (by kernel_rfl) (by kernel_rfl) (fun _ _ _ h => h) (Or.inr ⟨by rfl, rfl⟩) hHeld ?_
                simp only [Act.put, List.setIfInBounds_toArray, List.set_cons_zero, List.set_cons_succ, List.getElem_toArray, List.getElem_cons_zero, List.getElem_cons_succ]
                refine wpAnyH_take (i := 12) (v := undef) rfl (by kernel_rfl) (by kernel_rfl) (by kernel_rfl) (fun _ _ _ h => h) (Or.inr ⟨by rfl, rfl⟩) hHeld ?_
                simp only [Act.put, List.setIfInBounds_toArray, List.set_cons_zero, List.set_cons_succ, List.getElem_toArray, List.getElem_cons_zero, List.getElem_cons_succ]
                refine wpAnyH_take (i := 13) (v := undef) rfl (by kernel_rfl) (by kernel_rfl) (by kernel_rfl) (fun _ _ _ h => h) (Or.inr ⟨by rfl, rfl⟩) hHeld ?_
                simp only [Act.put, List.setIfInBounds_toArray, List.set_cons_zero, List.set_cons_succ, List.getElem_toArray, List.getElem_cons_zero, List.getElem_cons_succ]
                refine wpAnyH_take (i := 14) (v := undef) rfl (by kernel_rfl) (by kernel_rfl) (by kernel_rfl) (fun _ _ _ h => h) (Or.inr ⟨by rfl, rfl⟩) hHeld ?_
                simp only [Act.put, List.setIfInBounds_toArray, List.set_cons_zero, List.set_cons_succ, List.getElem_toArray, List.getElem_cons_zero, List.getElem_cons_succ]
                refine wpAnyH_take (i := 15) (v := undef) rfl (by kernel_rfl) (by kernel_rfl) (by kernel_rfl) (fun _ _ _ h => h) (Or.inr ⟨by rfl, rfl⟩) hHeld ?_
                simp only [Act.put, List.setIfInBounds_toArray, List.set_cons_zero, List.set_cons_succ, List.getElem_toArray, List.getElem_cons_zero, List.getElem_cons_succ]
                refine wpAnyH_take (i := 16) (v := undef) rfl (by kernel_rfl) (by kernel_rfl) (by kernel_rfl) (fun _ _ _ h => h) (Or.inr ⟨by rfl, rfl⟩) hHeld ?_
                simp only [Act.put, List.setIfInBounds_toArray, List.set_cons_zero, List.set_cons_succ, List.getElem_toArray, List.getElem_cons_zero, List.getElem_cons_succ]
                refine wpAnyH_take (i := 17) (v := undef) rfl (by kernel_rfl) (by kernel_rfl) (by kernel_rfl) (fun _ _ _ h => h) (Or.inr ⟨by rfl, rfl⟩) hHeld ?_
                simp only [Act.put, List.setIfInBounds_toArray, List.set_cons_zero, List.set_cons_succ, List.getElem_toArray, List.getElem_cons_zero, List.getElem_cons_succ]
                refine' wpAnyH_take (i := 18) (v := _) rfl (by kernel_rfl) (by kernel_rfl) (by kernel_rfl) (fun _ _ _ h => h) (Or.inl ⟨by rfl, ?hy98⟩) hHeld ?hr98
                case hy98 => (intro w hSw; (try dsimp only at hSw); subst hSw; go_simp; (try with_reducible rfl))
                simp only [Act.put, List.setIfInBounds_toArray, List.set_cons_zero, List.set_cons_succ, List.getElem_toArray, List.getElem_cons_zero, List.getElem_cons_succ]
                refine' wpAnyH_take (i := 19) (v := _) rfl (by kernel_rfl) (by kernel_rfl) (by kernel_rfl) (fun _ _ _ h => h) (Or.inl ⟨by rfl, ?hy99⟩) hHeld ?hr99
                case hy99 => (intro w hSw; (try dsimp only at hSw); subst hSw; go_simp; (try with_reducible rfl))
                simp only [Act.put, List.setIfInBounds_toArray, List.set_cons_zero, List.set_cons_succ, List.getElem_toArray, List.getElem_cons_zero, List.getElem_cons_succ]
                refine wpAnyH_take (i := 20) (v := undef) rfl (by kernel_rfl) (by kernel_rfl) (by kernel_rfl) (fun _ _ _ h => h) (Or.inr ⟨by rfl, rfl⟩) hHeld ?_
                simp only [Act.put, List.setIfInBounds_toArray, List.set_cons_zero, List.set_cons_succ, List.getElem_toArray, List.getElem_cons_zero, List.getElem_cons_succ]
                refine wpAnyH_take (i := 21) (v := undef) rfl (by kernel_rfl) (by kernel_rfl) (by kernel_rfl) (fun _ _ _ h => h) (Or.inr ⟨by rfl, rfl⟩) hHeld ?_
                simp only [Act.put, List.setIfInBounds_toArray, List.set_cons_zero, List.set_cons_succ, List.getElem_toArray, List.getElem_cons_zero, List.getElem_cons_succ]
                refine wpAnyH_take (i := 22) (v := undef) rfl (by kernel_rfl) (by kernel_rfl) (by kernel_rfl) (fun _ _ _ h => h) (Or.inr ⟨by rfl, rfl⟩) hHeld ?_
                simp only [Act.put, List.setIfInBounds_toArray, List.set_cons_zero, List.set_cons_succ, List.getElem_toArray, List.getElem_cons_zero, List.getElem_cons_succ]
                refine wpAnyH_take (i := 23) (v := undef) rfl (by kernel_rfl) (by kernel_rfl) (by kernel_rfl) (fun _ _ _ h => h) (Or.inr ⟨by rfl, rfl⟩) hHeld ?_
                simp only [Act.put, List.setIfInBounds_toArray, List.set_cons_zero, List.set_cons_succ, List.getElem_toArray, List.getElem_cons_zero, List.getElem_cons_succ]
                refine wpAnyH_take (i := 24) (v := undef) rfl (by kernel_rfl) (by kernel_rfl) (by kernel_rfl) (fun _ _ _ h => h) (Or.inr ⟨by rfl, rfl⟩) hHeld ?_
                simp only [Act.put, List.setIfInBounds_toArray, List.set_cons_zero, List.set_cons_succ, List.getElem_toArray, List.getElem_cons_zero, List.getElem_cons_succ]
                refine wpAnyH_take (i := 25) (v := undef) rfl (by kernel_rfl) (by kernel_rfl) (by kernel_rfl) (fun _ _ _ h => h) (Or.inr ⟨by rfl, rfl⟩) hHeld ?_
                simp only [Act.put, List.setIfInBounds_toArray, List.set_cons_zero, List.set_cons_succ, List.getElem_toArray, List.getElem_cons_zero, List.getElem_cons_succ]
                refine wpAnyH_take (i := 26) (v := undef) rfl (by kernel_rfl) (by kernel_rfl) (by kernel_rfl) (fun _ _ _ h => h) (Or.inr ⟨by rfl, rfl⟩) hHeld ?_
                simp only [Act.put, List.setIfInBounds_toArray, List.set_cons_zero, List.set_cons_succ, List.getElem_toArray, List.getElem_cons_zero, List.getElem_cons_succ]
                refine wpAnyH_take (i := 27) (v := undef) rfl (by kernel_rfl) (by kernel_rfl) (by kernel_rfl) (fun _ _ _ h => h) (Or.inr ⟨by rfl, rfl⟩) hHeld ?_
                simp only [Act.put, List.setIfInBounds_toArray, List.set_cons_zero, List.set_cons_succ, List.getElem_toArray, List.getElem_cons_zero, List.getElem_cons_succ]
                refine wpAnyH_take (i := 28) (v := undef) rfl (by kernel_rfl) (by kernel_rfl) (by kernel_rfl) (fun _ _ _ h => h) (Or.inr ⟨by rfl, rfl⟩) hHeld ?_
                simp only [Act.put, List.setIfInBounds_toArray, List.set_cons_zero, List.set_cons_succ, List.getElem_toArray, List.getElem_cons_zero, List.getElem_cons_succ]
                refine' wpAnyH_take (i := 29) (v := _) rfl (by kernel_rfl) (by kernel_rfl) (by kernel_rfl) (fun _ _ _ h => h) (Or.inl ⟨by rfl, ?hy100⟩) hHeld ?hr100
                case hy100 => (intro w hSw; (try dsimp only at hSw); subst hSw; go_simp; (try with_reducible rfl))
                simp only [Act.put, List.setIfInBounds_toArray, List.set_cons_zero, List.set_cons_succ, List.getElem_toArray, List.getElem_cons_zero, List.getElem_cons_succ]
                refine wpAnyH_done (by kernel_rfl) ?_ _
                refine NoPanic.normal ?_
                go_wp2
                go_ret
                first | exact ⟨ret_bool hno.symm, kb2⟩ | exact ⟨rfl, kb2⟩ | exact ⟨rfl, kb2.drew⟩ | exact ⟨ret_bool hno.symm, kb2.drew⟩
            · have b1 : ((atC xs j).part == 1) = false := by simp [e1]
              by_cases e2 : (atC xs j).part = 2
              · have b2 : ((atC xs j).part == 2) = true := by simp [e2]
                by_cases e3 : (atC xs j).rune = 0
                · have b3 : ((atC xs j).rune != 0) = false := by simp [e3]
                  by_cases e4 : j = 0
                  · have b4 : ((j : Int) == 0) = true := by simp [e4]
                    have hno : rowOkB xs = false := rowOkB_no xs j hlt (by unfold cellOkB; rw [hso, if_neg e0, if_neg e1, if_pos e2, decide_eq_false (show ¬ 0 < j by omega)]; simp)
                    clear hall hsrc e4
                    go_wp2
                    go_ret
                    first | exact ⟨ret_bool hno.symm, kb2⟩ | exact ⟨rfl, kb2⟩ | exact ⟨rfl, kb2.drew⟩ | exact ⟨ret_bool hno.symm, kb2.drew⟩
                  · obtain ⟨m, rfl⟩ : ∃ m, j = m + 1 := ⟨j - 1, by omega⟩
                    have b4 : ((m : Int) + 1 == 0) = false := by simp; omega
                    have hmi : (m : Int) < (xs.length : Int) := by omega
                    obtain ⟨q0, q1, q2, q3, q4, q5, q6⟩ := hsrc m (by omega)
                    by_cases e5 : (atC xs m).part = 1
                    · have b5 : ((atC xs m).part != 1) = false := by simp [e5]
                      have hyes : cellOkB xs (m + 1) = true := by unfold cellOkB; rw [hso, if_neg e0, if_neg e1, if_pos e2, decide_eq_true e3]; simp [e5]
                      have hall' : Hid (∀ k, k < m + 1 + 1 → cellOkB xs k = true) := fun k hk => by rcases Nat.lt_succ_iff_lt_or_eq.1 hk with h | rfl; exact hall.out k h; exact hyes
                      clear hall hsrc hyes
                      go_wp2
                      go_roundw
                      case rel => exact ⟨m + 1 + 1, by go_num, by omega, hall', (by first | exact kb2 | exact kb2.drew)⟩
                      case measure => simp [intOf]; omega
                    · have b5 : ((atC xs m).part != 1) = true := by simp [e5]
                      have hno : rowOkB xs = false := rowOkB_no xs (m + 1) hlt (by unfold cellOkB; rw [hso, if_neg e0, if_neg e1, if_pos e2]; simp [e5])
                      clear hall hsrc
                      go_wp2
                      go_ret
                      first | exact ⟨ret_bool hno.symm, kb2⟩ | exact ⟨rfl, kb2⟩ | exact ⟨rfl, kb2.drew⟩ | exact ⟨ret_bool hno.symm, kb2.drew⟩
                · have b3 : ((atC xs j).rune != 0) = true := by simp [e3]
                  have hno : rowOkB xs = false := rowOkB_no xs j hlt (by unfold cellOkB; rw [hso, if_neg e0, if_neg e1, if_pos e2, decide_eq_false e3]; simp)
                  clear hall hsrc
                  go_wp2
                  go_ret
                  first | exact ⟨ret_bool hno.symm, kb2⟩ | exact ⟨rfl, kb2⟩ | exact ⟨rfl, kb2.drew⟩ | exact ⟨ret_bool hno.symm, kb2.drew⟩
              · have b2 : ((atC xs j).part == 2) = false := by simp [e2]
                have hno : rowOkB xs = false := rowOkB_no xs j hlt (by unfold cellOkB; rw [hso, if_neg e0, if_neg e1, if_neg e2]; rfl)
                clear hall hsrc
                go_wp2
                go_ret
                first | exact ⟨ret_bool hno.symm, kb2⟩ | exact ⟨rfl, kb2⟩ | exact ⟨rfl, kb2.drew⟩ | exact ⟨ret_bool hno.symm, kb2.drew⟩
      · have hjn : j = xs.length := by omega
        have hji : ¬ (j : Int) < (xs.length : Int) := by omega
        subst hjn
        have hyes : rowOkB xs = true := rowOkB_yes xs ⟨hn1, hn2⟩ hall.out
        clear hall hOK hv
        go_wp2
        go_ret
        first | exact ⟨ret_bool hyes.symm, kb⟩ | exact ⟨rfl, kb⟩
  · have hno := rowOkB_len xs hn
    by_cases h0 : xs.length < 1
    · have hi : (xs.length : Int) < 1 := by omega
      go_enter Tryz.func95, Tryz.ntmps95
      go_wp2
      go_ret
      first | exact ⟨ret_bool hno.symm, Below.refl _ _⟩ | exact ⟨rfl, Below.refl _ _⟩
    · have hi : ¬ (xs.length : Int) < 1 := by omega
      have hi2 : 60 < (xs.length : Int) := by omega
      go_enter Tryz.func95, Tryz.ntmps95
      go_wp2
      go_ret
      first | exact ⟨ret_bool hno.symm, Below.refl _ _⟩ | exact ⟨rfl, Below.refl _ _⟩
end Go.Proofs.YtlmnhlfklbgjdaaGreatDoor
namespace Go.Proofs.YtlmnhlfklbgjdaaGreatDoor
open Go.ChangeShapes Go.WideShapes Go.ChangeAt Go.RowKit
/-- What a row's judge leaves. -/
def KG (M : Nat) (w0 : World) (r : Value) (x : List Ce) (W : World) : Prop := SlC W r x ∧ M ≤ W.heap.size ∧ Below w0.heap.size w0 W
theorem KG.below {M : Nat} {w0 : World} {r : Value} {x : List Ce} {W W' : World} (k : KG M w0 r x W) (hb : Below W.heap.size W W') : KG M w0 r x W' :=
  ⟨k.1.below hb, Nat.le_trans k.2.1 hb.size, k.2.2.trans (hb.mono k.2.2.size)⟩
theorem KG.drew {M : Nat} {w0 : World} {r : Value} {x : List Ce} {W : World} (k : KG M w0 r x W) : KG M w0 r x W.drew := k.below (Below.refl _ _).drew
theorem rowOk_gk (M B b o : Nat) (w0 : World) (r : Value) (x : List Ce) (u0 u1 u2 : Value) (hl : x.length ≤ 1048576) (hB : B < M) (hb : b < M) {W : World}
    (h : W.cell? ⟨B, 0, none⟩ = some u0 ∧ W.cell? ⟨B, 1, none⟩ = some u1 ∧ W.cell? ⟨b, o, none⟩ = some u2 ∧ KG M w0 r x W) :
    Calls Tryz.prog 95 #[r] W fun e W' => e = .returned (.bool (rowOkB x)) ∧ (W'.cell? ⟨B, 0, none⟩ = some u0 ∧ W'.cell? ⟨B, 1, none⟩ = some u1 ∧ W'.cell? ⟨b, o, none⟩ = some u2 ∧ KG M w0 r x W') := by
  obtain ⟨h0, h1, h2, k⟩ := h
  refine (specRowOk_any r x W k.1 hl).mono ?_
  rintro e W' ⟨rfl, hw⟩
  have hM := k.2.1
  exact ⟨rfl, (hw.cell (p := ⟨B, 0, none⟩) (show B < _ by omega)).trans h0, (hw.cell (p := ⟨B, 1, none⟩) (show B < _ by omega)).trans h1, (hw.cell (p := ⟨b, o, none⟩) (show b < _ by omega)).trans h2, k.below hw⟩
set_option maxHeartbeats 16000000 in
set_option maxRecDepth 20000 in
theorem specGridOk_any (cols : Int) (v : Value) (rows : List (List Ce)) (w : World) (hv : SlG w v rows) (hl : rows.length ≤ 1048576) (hx : ∀ i, i < rows.length → (rowX rows i).length ≤ 1048576) :
    Calls Tryz.prog 43 #[gridV cols v] w fun e w' => e = .returned (.bool (gridOkB cols rows)) ∧ Below w.heap.size w w' := by
  have hbB := bal' w (Obj.cells #[.int .i64 cols, v] 26)
  have hG := GrN.new w cols v 26
  obtain ⟨a, c, vs, rfl, hcp, _, hr, hs⟩ := id hv
  have hin := fun W => l1In_any cols 1 60 W
  unfold gridV
  by_cases h1 : (1 : Int) ≤ cols ∧ cols ≤ 60
  · have e1 : decide ((1 : Int) ≤ cols ∧ cols ≤ 60) = true := decide_eq_true h1
    rw [e1] at hin
    by_cases hn : 1 ≤ rows.length ∧ rows.length ≤ 30
    · obtain ⟨hn1, hn2⟩ := hn
      have hn1i : ¬ (rows.length : Int) < 1 := by omega
      have hn2i : ¬ 30 < (rows.length : Int) := by omega
      rcases hr with h | ⟨b, off, rfl, hbb, hrc⟩
      · rw [h] at hn1; simp at hn1
      go_enter Tryz.func43, Tryz.ntmps43
      go_wp2_with (go_at_call 45; refine (hin _).mono ?_; rintro e w1 ⟨rfl, hw⟩; subst hw)
      go_loopw [3] (fun i wr => ∃ j : Nat, i = .int .i64 j ∧ j ≤ rows.length ∧ Hid (∀ k, k < j → fitB cols (rowX rows k) = true) ∧ GrN wr w.heap.size cols (.slice (some ⟨b, off, none⟩) rows.length c) ∧ Below w.heap.size w wr) (fun i _ => rows.length - (intOf i).toNat)
      case atStart => exact ⟨0, rfl, Nat.zero_le _, (fun k hk => absurd hk (Nat.not_lt_zero k)), hG, hbB⟩
      case round =>
        clear hG hbB
        obtain ⟨j, rfl, hj, hall, hG, kb⟩ := hrel
        obtain ⟨hB, c0, c1⟩ := id hG
        by_cases hlt : j < rows.length
        · have hji : (j : Int) < (rows.length : Int) := by omega
          have hj0 : (0 : Int) ≤ (j : Int) := by omega
          have c2 := (kb.cell (p := ⟨b, off + j, none⟩) hbb).trans (hrc j hlt)
          have hsj := (hs j hlt).below kb
          obtain ⟨aj, cj, ev, hjc, _, _⟩ := id hsj
          have kg : KG (w.heap.size + 1) w (rowV vs j) (rowX rows j) wr := ⟨hsj, hB, kb⟩
          rw [ev] at c2 kg
          clear hsj hG hrc hs hv ev hin
          by_cases e2 : ((rowX rows j).length : Int) = cols
          · have b1 : (((rowX rows j).length : Int) != cols) = false := by simp [e2]
            cases hro : rowOkB (rowX rows j)
            · have hno : gridOkB cols rows = false := gridOk_no hlt (by show fitB cols (rowX rows j) = false; unfold fitB; rw [hro, Bool.and_false])
              clear hall
              go_wp2
              refine wp_region_noPanic ?_
              refine wp_region_held_drew (S := (fun W => W.cell? ⟨w.heap.size, 0, none⟩ = some (.int .i64 cols) ∧ W.cell? ⟨w.heap.size, 1, none⟩ = some (.slice (some ⟨b, off, none⟩) rows.length c) ∧ W.cell? ⟨b, off + j, none⟩ = some (.slice aj (rowX rows j).length cj) ∧ KG (w.heap.size + 1) w (.slice aj (rowX rows j).length cj) (rowX rows j) W)) (by kernel_rfl) ⟨c0, c1, c2, kg.drew⟩ (fun hHeld => ?_)
              refine' wpAnyH_take (i := 0) (v := _) rfl (by kernel_rfl) (by kernel_rfl) (by kernel_rfl) (fun _ _ _ h => h) (Or.inl ⟨by rfl, ?hy1⟩) hHeld ?hr1
              case hy1 => (intro w hSw; (try dsimp only at hSw); go_simp; (try with_reducible rfl))
              simp only [Act.put, List.setIfInBounds_toArray, List.set_cons_zero, List.set_cons_succ, List.getElem_toArray, List.getElem_cons_zero]
              refine' wpAnyH_take (i := 1) (v := _) rfl (by kernel_rfl) (by kernel_rfl) (by kernel_rfl) (fun _ _ _ h => h) (Or.inl ⟨by rfl, ?hy2⟩) hHeld ?hr2
              case hy2 => (intro w hSw; (try dsimp only at hSw); go_simp; (try with_reducible rfl))
              simp only [Act.put, List.setIfInBounds_toArray, List.set_cons_zero, List.set_cons_succ, List.getElem_toArray, List.getElem_cons_zero, List.getElem_cons_succ]
              refine' wpAnyH_take (i := 2) (v := _) rfl (by kernel_rfl) (by kernel_rfl) (by kernel_rfl) (fun _ _ _ h => h) (Or.inl ⟨by rfl, ?hy3⟩) hHeld ?hr3
              case hy3 => (intro w hSw; (try dsimp only at hSw); go_simp; (try with_reducible rfl))
              simp only [Act.put, List.setIfInBounds_toArray, List.set_cons_zero, List.set_cons_succ, List.getElem_toArray, List.getElem_cons_zero, List.getElem_cons_succ]
              refine' wpAnyH_take (i := 3) (v := _) rfl (by kernel_rfl) (by kernel_rfl) (by kernel_rfl) (fun _ _ _ h => h) (Or.inl ⟨by rfl, ?hy4⟩) hHeld ?hr4
              case hy4 => (intro w hSw; (try dsimp only at hSw); go_simp; (try with_reducible rfl))
              simp only [Act.put, List.setIfInBounds_toArray, List.set_cons_zero, List.set_cons_succ, List.getElem_toArray, List.getElem_cons_zero, List.getElem_cons_succ]
              refine' wpAnyH_take (i := 4) (v := _) rfl (by kernel_rfl) (by kernel_rfl) (by kernel_rfl) (fun _ _ _ h => h) (Or.inl ⟨by rfl, ?hy5⟩) hHeld ?hr5
              case hy5 => (intro w hSw; (try dsimp only at hSw); go_simp; (try with_reducible rfl))
              simp only [Act.put, List.setIfInBounds_toArray, List.set_cons_zero, List.set_cons_succ, List.getElem_toArray, List.getElem_cons_zero, List.getElem_cons_succ]
              refine' wpAnyH_take (i := 5) (v := _) rfl (by kernel_rfl) (by kernel_rfl) (by kernel_rfl) (fun _ _ _ h => h) (Or.inl ⟨by rfl, ?hy6⟩) hHeld ?hr6
              case hy6 => (intro w hSw; (try dsimp only at hSw); go_simp; (try with_reducible rfl))
              simp only [Act.put, List.setIfInBounds_toArray, List.set_cons_zero, List.set_cons_succ, List.getElem_toArray, List.getElem_cons_zero, List.getElem_cons_succ]
              refine' wpAnyH_take (i := 6) (v := _) rfl (by kernel_rfl) (by kernel_rfl) (by kernel_rfl) (fun _ _ _ h => h) (Or.inl ⟨by rfl, ?hy7⟩) hHeld ?hr7
              case hy7 => (intro w hSw; (try dsimp only at hSw); go_simp; (try with_reducible rfl))
              simp only [Act.put, List.setIfInBounds_toArray, List.set_cons_zero, List.set_cons_succ, List.getElem_toArray, List.getElem_cons_zero, List.getElem_cons_succ]
              refine' wpAnyH_take (i := 7) (v := _) rfl (by kernel_rfl) (by kernel_rfl) (by kernel_rfl) (fun _ _ _ h => h) (Or.inl ⟨by rfl, ?hy8⟩) hHeld ?hr8
              case hy8 => (intro w hSw; (try dsimp only at hSw); go_simp; (try with_reducible rfl))
              simp only [Act.put, List.setIfInBounds_toArray, List.set_cons_zero, List.set_cons_succ, List.getElem_toArray, List.getElem_cons_zero, List.getElem_cons_succ]
              refine' wpAnyH_take (i := 8) (v := _) rfl (by kernel_rfl) (by kernel_rfl) (by kernel_rfl) (fun _ _ _ h => h) (Or.inl ⟨by rfl, ?hy9⟩) hHeld ?hr9
              case hy9 => (intro w hSw; (try dsimp only at hSw); go_simp; (try with_reducible rfl))
              simp only [Act.put, List.setIfInBounds_toArray, List.set_cons_zero, List.set_cons_succ, List.getElem_toArray, List.getElem_cons_zero, List.getElem_cons_succ]
              refine' wpAnyH_take (i := 9) (v := _) rfl (by kernel_rfl) (by kernel_rfl) (by kernel_rfl) (fun _ _ _ h => h) (Or.inl ⟨by rfl, ?hy10⟩) hHeld ?hr10
              case hy10 => (intro w hSw; (try dsimp only at hSw); go_simp; (try with_reducible rfl))
              simp only [Act.put, List.setIfInBounds_toArray, List.set_cons_zero, List.set_cons_succ, List.getElem_toArray, List.getElem_cons_zero, List.getElem_cons_succ]
              refine' wpAnyH_take (i := 10) (v := _) rfl (by kernel_rfl) (by kernel_rfl) (by kernel_rfl) (fun _ _ _ h => h) (Or.inl ⟨by rfl, ?hy11⟩) hHeld ?hr11
              case hy11 => (intro w hSw; (try dsimp only at hSw); go_simp; (try with_reducible rfl))
              simp only [Act.put, List.setIfInBounds_toArray, List.set_cons_zero, List.set_cons_succ, List.getElem_toArray, List.getElem_cons_zero, List.getElem_cons_succ]
              refine' wpAnyH_take (i := 11) (v := _) rfl (by kernel_rfl) (by kernel_rfl) (by kernel_rfl) (fun _ _ _ h => h) (Or.inl ⟨by rfl, ?hy12⟩) hHeld ?hr12
              case hy12 => (intro w hSw; (try dsimp only at hSw); go_simp; (try with_reducible rfl))
              simp only [Act.put, List.setIfInBounds_toArray, List.set_cons_zero, List.set_cons_succ, List.getElem_toArray, List.getElem_cons_zero, List.getElem_cons_succ]
              refine' wpAnyH_take (i := 12) (v := _) rfl (by kernel_rfl) (by kernel_rfl) (by kernel_rfl) (fun _ _ _ h => h) (Or.inl ⟨by rfl, ?hy13⟩) hHeld ?hr13
              case hy13 => (intro w hSw; (try dsimp only at hSw); go_simp; (try with_reducible rfl))
              simp only [Act.put, List.setIfInBounds_toArray, List.set_cons_zero, List.set_cons_succ, List.getElem_toArray, List.getElem_cons_zero, List.getElem_cons_succ]
              refine' wpAnyH_take (i := 13) (v := _) rfl (by kernel_rfl) (by kernel_rfl) (by kernel_rfl) (fun _ _ _ h => h) (Or.inl ⟨by rfl, ?hy14⟩) hHeld ?hr14
              case hy14 => (intro w hSw; (try dsimp only at hSw); go_simp; (try with_reducible rfl))
              simp only [Act.put, List.setIfInBounds_toArray, List.set_cons_zero, List.set_cons_succ, List.getElem_toArray, List.getElem_cons_zero, List.getElem_cons_succ]
              refine' wpAnyH_take (i := 14) (v := _) rfl (by kernel_rfl) (by kernel_rfl) (by kernel_rfl) (fun _ _ _ h => h) (Or.inl ⟨by rfl, ?hy15⟩) hHeld ?hr15
              case hy15 => (intro w hSw; (try dsimp only at hSw); go_simp; (try with_reducible rfl))
              simp only [Act.put, List.setIfInBounds_toArray, List.set_cons_zero, List.set_cons_succ, List.getElem_toArray, List.getElem_cons_zero, List.getElem_cons_succ]
              refine wpAnyH_ready (rs := [15]) (by kernel_rfl) (by simp) (AllReadyH.cons rfl (fun K hK => ?_) AllReadyH.nil)
              go_simp
              refine (rowOk_gk (w.heap.size + 1) w.heap.size b (off + j) w _ (rowX rows j) _ _ _ (hx j hlt) (by omega) (by omega) (by assumption)).mono ?_; rintro e wk ⟨rfl, hk⟩
              go_wp2_with fail
              refine hK.out _ _ (by assumption) (fun hHeld => ?_)
              clear hK K
              (try simp only [Act.put, List.setIfInBounds_toArray, List.set_cons_zero, List.set_cons_succ])
              refine' wpAnyH_take (i := 16) (v := _) rfl (by kernel_rfl) (by kernel_rfl) (by kernel_rfl) (fun _ _ _ h => h) (Or.inl ⟨by rfl, ?hy16⟩) hHeld ?hr16
              case hy16 => (intro w hSw; (try dsimp only at hSw); go_simp; (try with_reducible rfl))
              simp only [Act.put, List.setIfInBounds_toArray, List.set_cons_zero, List.set_cons_succ, List.getElem_toArray, List.getElem_cons_zero, List.getElem_cons_succ]
              refine' wpAnyH_take (i := 17) (v := _) rfl (by kernel_rfl) (by kernel_rfl) (by kernel_rfl) (fun _ _ _ h => h) (Or.inl ⟨by rfl, ?hy17⟩) hHeld ?hr17
              case hy17 => (intro w hSw; (try dsimp only at hSw); go_simp; (try with_reducible rfl))
              simp only [Act.put, List.setIfInBounds_toArray, List.set_cons_zero, List.set_cons_succ, List.getElem_toArray, List.getElem_cons_zero, List.getElem_cons_succ]
              refine wpAnyH_done (by kernel_rfl) ?_ _
              refine NoPanic.normal ?_
              have kb2 := hHeld.2.2.2.2.2
              clear hHeld
              go_wp2
              go_ret
              first | exact ⟨ret_bool hno.symm, kb2⟩ | exact ⟨rfl, kb2⟩
            · have hyes : fitB cols (rowX rows j) = true := by unfold fitB; rw [hro, decide_eq_true e2]; rfl
              have hall' : Hid (∀ k, k < j + 1 → fitB cols (rowX rows k) = true) := fun k hk => by rcases Nat.lt_succ_iff_lt_or_eq.1 hk with h | rfl; exact hall.out k h; exact hyes
              clear hall hyes
              go_wp2
              refine wp_region_noPanic ?_
              refine wp_region_held_drew (S := (fun W => W.cell? ⟨w.heap.size, 0, none⟩ = some (.int .i64 cols) ∧ W.cell? ⟨w.heap.size, 1, none⟩ = some (.slice (some ⟨b, off, none⟩) rows.length c) ∧ W.cell? ⟨b, off + j, none⟩ = some (.slice aj (rowX rows j).length cj) ∧ KG (w.heap.size + 1) w (.slice aj (rowX rows j).length cj) (rowX rows j) W)) (by kernel_rfl) ⟨c0, c1, c2, kg.drew⟩ (fun hHeld => ?_)
              refine' wpAnyH_take (i := 0) (v := _) rfl (by kernel_rfl) (by kernel_rfl) (by kernel_rfl) (fun _ _ _ h => h) (Or.inl ⟨by rfl, ?hy18⟩) hHeld ?hr18
              case hy18 => (intro w hSw; (try dsimp only at hSw); go_simp; (try with_reducible rfl))
              simp only [Act.put, List.setIfInBounds_toArray, List.set_cons_zero, List.set_cons_succ, List.getElem_toArray, List.getElem_cons_zero]
              refine' wpAnyH_take (i := 1) (v := _) rfl (by kernel_rfl) (by kernel_rfl) (by kernel_rfl) (fun _ _ _ h => h) (Or.inl ⟨by rfl, ?hy19⟩) hHeld ?hr19
              case hy19 => (intro w hSw; (try dsimp only at hSw); go_simp; (try with_reducible rfl))
              simp only [Act.put, List.setIfInBounds_toArray, List.set_cons_zero, List.set_cons_succ, List.getElem_toArray, List.getElem_cons_zero, List.getElem_cons_succ]
              refine' wpAnyH_take (i := 2) (v := _) rfl (by kernel_rfl) (by kernel_rfl) (by kernel_rfl) (fun _ _ _ h => h) (Or.inl ⟨by rfl, ?hy20⟩) hHeld ?hr20
              case hy20 => (intro w hSw; (try dsimp only at hSw); go_simp; (try with_reducible rfl))
              simp only [Act.put, List.setIfInBounds_toArray, List.set_cons_zero, List.set_cons_succ, List.getElem_toArray, List.getElem_cons_zero, List.getElem_cons_succ]
              refine' wpAnyH_take (i := 3) (v := _) rfl (by kernel_rfl) (by kernel_rfl) (by kernel_rfl) (fun _ _ _ h => h) (Or.inl ⟨by rfl, ?hy21⟩) hHeld ?hr21
              case hy21 => (intro w hSw; (try dsimp only at hSw); go_simp; (try with_reducible rfl))
              simp only [Act.put, List.setIfInBounds_toArray, List.set_cons_zero, List.set_cons_succ, List.getElem_toArray, List.getElem_cons_zero, List.getElem_cons_succ]
              refine' wpAnyH_take (i := 4) (v := _) rfl (by kernel_rfl) (by kernel_rfl) (by kernel_rfl) (fun _ _ _ h => h) (Or.inl ⟨by rfl, ?hy22⟩) hHeld ?hr22
              case hy22 => (intro w hSw; (try dsimp only at hSw); go_simp; (try with_reducible rfl))
              simp only [Act.put, List.setIfInBounds_toArray, List.set_cons_zero, List.set_cons_succ, List.getElem_toArray, List.getElem_cons_zero, List.getElem_cons_succ]
              refine' wpAnyH_take (i := 5) (v := _) rfl (by kernel_rfl) (by kernel_rfl) (by kernel_rfl) (fun _ _ _ h => h) (Or.inl ⟨by rfl, ?hy23⟩) hHeld ?hr23
              case hy23 => (intro w hSw; (try dsimp only at hSw); go_simp; (try with_reducible rfl))
              simp only [Act.put, List.setIfInBounds_toArray, List.set_cons_zero, List.set_cons_succ, List.getElem_toArray, List.getElem_cons_zero, List.getElem_cons_succ]
              refine' wpAnyH_take (i := 6) (v := _) rfl (by kernel_rfl) (by kernel_rfl) (by kernel_rfl) (fun _ _ _ h => h) (Or.inl ⟨by rfl, ?hy24⟩) hHeld ?hr24
              case hy24 => (intro w hSw; (try dsimp only at hSw); go_simp; (try with_reducible rfl))
              simp only [Act.put, List.setIfInBounds_toArray, List.set_cons_zero, List.set_cons_succ, List.getElem_toArray, List.getElem_cons_zero, List.getElem_cons_succ]
              refine' wpAnyH_take (i := 7) (v := _) rfl (by kernel_rfl) (by kernel_rfl) (by kernel_rfl) (fun _ _ _ h => h) (Or.inl ⟨by rfl, ?hy25⟩) hHeld ?hr25
              case hy25 => (intro w hSw; (try dsimp only at hSw); go_simp; (try with_reducible rfl))
              simp only [Act.put, List.setIfInBounds_toArray, List.set_cons_zero, List.set_cons_succ, List.getElem_toArray, List.getElem_cons_zero, List.getElem_cons_succ]
              refine' wpAnyH_take (i := 8) (v := _) rfl (by kernel_rfl) (by kernel_rfl) (by kernel_rfl) (fun _ _ _ h => h) (Or.inl ⟨by rfl, ?hy26⟩) hHeld ?hr26
              case hy26 => (intro w hSw; (try dsimp only at hSw); go_simp; (try with_reducible rfl))
              simp only [Act.put, List.setIfInBounds_toArray, List.set_cons_zero, List.set_cons_succ, List.getElem_toArray, List.getElem_cons_zero, List.getElem_cons_succ]
              refine' wpAnyH_take (i := 9) (v := _) rfl (by kernel_rfl) (by kernel_rfl) (by kernel_rfl) (fun _ _ _ h => h) (Or.inl ⟨by rfl, ?hy27⟩) hHeld ?hr27
              case hy27 => (intro w hSw; (try dsimp only at hSw); go_simp; (try with_reducible rfl))
              simp only [Act.put, List.setIfInBounds_toArray, List.set_cons_zero, List.set_cons_succ, List.getElem_toArray, List.getElem_cons_zero, List.getElem_cons_succ]
              refine' wpAnyH_take (i := 10) (v := _) rfl (by kernel_rfl) (by kernel_rfl) (by kernel_rfl) (fun _ _ _ h => h) (Or.inl ⟨by rfl, ?hy28⟩) hHeld ?hr28
              case hy28 => (intro w hSw; (try dsimp only at hSw); go_simp; (try with_reducible rfl))
              simp only [Act.put, List.setIfInBounds_toArray, List.set_cons_zero, List.set_cons_succ, List.getElem_toArray, List.getElem_cons_zero, List.getElem_cons_succ]
              refine' wpAnyH_take (i := 11) (v := _) rfl (by kernel_rfl) (by kernel_rfl) (by kernel_rfl) (fun _ _ _ h => h) (Or.inl ⟨by rfl, ?hy29⟩) hHeld ?hr29
              case hy29 => (intro w hSw; (try dsimp only at hSw); go_simp; (try with_reducible rfl))
              simp only [Act.put, List.setIfInBounds_toArray, List.set_cons_zero, List.set_cons_succ, List.getElem_toArray, List.getElem_cons_zero, List.getElem_cons_succ]
              refine' wpAnyH_take (i := 12) (v := _) rfl (by kernel_rfl) (by kernel_rfl) (by kernel_rfl) (fun _ _ _ h => h) (Or.inl ⟨by rfl, ?hy30⟩) hHeld ?hr30
              case hy30 => (intro w hSw; (try dsimp only at hSw); go_simp; (try with_reducible rfl))
              simp only [Act.put, List.setIfInBounds_toArray, List.set_cons_zero, List.set_cons_succ, List.getElem_toArray, List.getElem_cons_zero, List.getElem_cons_succ]
              refine' wpAnyH_take (i := 13) (v := _) rfl (by kernel_rfl) (by kernel_rfl) (by kernel_rfl) (fun _ _ _ h => h) (Or.inl ⟨by rfl, ?hy31⟩) hHeld ?hr31
              case hy31 => (intro w hSw; (try dsimp only at hSw); go_simp; (try with_reducible rfl))
              simp only [Act.put, List.setIfInBounds_toArray, List.set_cons_zero, List.set_cons_succ, List.getElem_toArray, List.getElem_cons_zero, List.getElem_cons_succ]
              refine' wpAnyH_take (i := 14) (v := _) rfl (by kernel_rfl) (by kernel_rfl) (by kernel_rfl) (fun _ _ _ h => h) (Or.inl ⟨by rfl, ?hy32⟩) hHeld ?hr32
              case hy32 => (intro w hSw; (try dsimp only at hSw); go_simp; (try with_reducible rfl))
              simp only [Act.put, List.setIfInBounds_toArray, List.set_cons_zero, List.set_cons_succ, List.getElem_toArray, List.getElem_cons_zero, List.getElem_cons_succ]
              refine wpAnyH_ready (rs := [15]) (by kernel_rfl) (by simp) (AllReadyH.cons rfl (fun K hK => ?_) AllReadyH.nil)
              go_simp
              refine (rowOk_gk (w.heap.size + 1) w.heap.size b (off + j) w _ (rowX rows j) _ _ _ (hx j hlt) (by omega) (by omega) (by assumption)).mono ?_; rintro e wk ⟨rfl, hk⟩
              go_wp2_with fail
              refine hK.out _ _ (by assumption) (fun hHeld => ?_)
              clear hK K
              (try simp only [Act.put, List.setIfInBounds_toArray, List.set_cons_zero, List.set_cons_succ])
              refine' wpAnyH_take (i := 16) (v := _) rfl (by kernel_rfl) (by kernel_rfl) (by kernel_rfl) (fun _ _ _ h => h) (Or.inl ⟨by rfl, ?hy33⟩) hHeld ?hr33
              case hy33 => (intro w hSw; (try dsimp only at hSw); go_simp; (try with_reducible rfl))
              simp only [Act.put, List.setIfInBounds_toArray, List.set_cons_zero, List.set_cons_succ, List.getElem_toArray, List.getElem_cons_zero, List.getElem_cons_succ]
              refine' wpAnyH_take (i := 17) (v := _) rfl (by kernel_rfl) (by kernel_rfl) (by kernel_rfl) (fun _ _ _ h => h) (Or.inl ⟨by rfl, ?hy34⟩) hHeld ?hr34
              case hy34 => (intro w hSw; (try dsimp only at hSw); go_simp; (try with_reducible rfl))
              simp only [Act.put, List.setIfInBounds_toArray, List.set_cons_zero, List.set_cons_succ, List.getElem_toArray, List.getElem_cons_zero, List.getElem_cons_succ]
              refine wpAnyH_done (by kernel_rfl) ?_ _
              refine NoPanic.normal ?_
              have kb2 := hHeld.2.2.2.2.2
              have hG2 : GrN _ w.heap.size cols (.slice (some ⟨b, off, none⟩) rows.length c) := ⟨Nat.lt_of_lt_of_le (Nat.lt_succ_self _) hHeld.2.2.2.2.1, hHeld.1, hHeld.2.1⟩
              clear hHeld
              go_wp2
              go_roundw
              case rel => exact ⟨j + 1, by go_num, by omega, hall', hG2, kb2⟩
              case measure => simp [intOf]; omega
          · have b1 : (((rowX rows j).length : Int) != cols) = true := by simp [e2]
            have hno : gridOkB cols rows = false := gridOk_no hlt (by show fitB cols (rowX rows j) = false; unfold fitB; rw [decide_eq_false e2, Bool.false_and])
            clear hall
            go_wp2
            refine wp_region_noPanic ?_
            refine wp_region_held_drew (S := (fun W => W.cell? ⟨w.heap.size, 0, none⟩ = some (.int .i64 cols) ∧ W.cell? ⟨w.heap.size, 1, none⟩ = some (.slice (some ⟨b, off, none⟩) rows.length c) ∧ W.cell? ⟨b, off + j, none⟩ = some (.slice aj (rowX rows j).length cj) ∧ KG (w.heap.size + 1) w (.slice aj (rowX rows j).length cj) (rowX rows j) W)) (by kernel_rfl) ⟨c0, c1, c2, kg.drew⟩ (fun hHeld => ?_)
            refine' wpAnyH_take (i := 0) (v := _) rfl (by kernel_rfl) (by kernel_rfl) (by kernel_rfl) (fun _ _ _ h => h) (Or.inl ⟨by rfl, ?hy35⟩) hHeld ?hr35
            case hy35 => (intro w hSw; (try dsimp only at hSw); go_simp; (try with_reducible rfl))
            simp only [Act.put, List.setIfInBounds_toArray, List.set_cons_zero, List.set_cons_succ, List.getElem_toArray, List.getElem_cons_zero]
            refine' wpAnyH_take (i := 1) (v := _) rfl (by kernel_rfl) (by kernel_rfl) (by kernel_rfl) (fun _ _ _ h => h) (Or.inl ⟨by rfl, ?hy36⟩) hHeld ?hr36
            case hy36 => (intro w hSw; (try dsimp only at hSw); go_simp; (try with_reducible rfl))
            simp only [Act.put, List.setIfInBounds_toArray, List.set_cons_zero, List.set_cons_succ, List.getElem_toArray, List.getElem_cons_zero, List.getElem_cons_succ]
            refine' wpAnyH_take (i := 2) (v := _) rfl (by kernel_rfl) (by kernel_rfl) (by kernel_rfl) (fun _ _ _ h => h) (Or.inl ⟨by rfl, ?hy37⟩) hHeld ?hr37
            case hy37 => (intro w hSw; (try dsimp only at hSw); go_simp; (try with_reducible rfl))
            simp only [Act.put, List.setIfInBounds_toArray, List.set_cons_zero, List.set_cons_succ, List.getElem_toArray, List.getElem_cons_zero, List.getElem_cons_succ]
            refine' wpAnyH_take (i := 3) (v := _) rfl (by kernel_rfl) (by kernel_rfl) (by kernel_rfl) (fun _ _ _ h => h) (Or.inl ⟨by rfl, ?hy38⟩) hHeld ?hr38
            case hy38 => (intro w hSw; (try dsimp only at hSw); go_simp; (try with_reducible rfl))
            simp only [Act.put, List.setIfInBounds_toArray, List.set_cons_zero, List.set_cons_succ, List.getElem_toArray, List.getElem_cons_zero, List.getElem_cons_succ]
            refine' wpAnyH_take (i := 4) (v := _) rfl (by kernel_rfl) (by kernel_rfl) (by kernel_rfl) (fun _ _ _ h => h) (Or.inl ⟨by rfl, ?hy39⟩) hHeld ?hr39
            case hy39 => (intro w hSw; (try dsimp only at hSw); go_simp; (try with_reducible rfl))
            simp only [Act.put, List.setIfInBounds_toArray, List.set_cons_zero, List.set_cons_succ, List.getElem_toArray, List.getElem_cons_zero, List.getElem_cons_succ]
            refine' wpAnyH_take (i := 5) (v := _) rfl (by kernel_rfl) (by kernel_rfl) (by kernel_rfl) (fun _ _ _ h => h) (Or.inl ⟨by rfl, ?hy40⟩) hHeld ?hr40
            case hy40 => (intro w hSw; (try dsimp only at hSw); go_simp; (try with_reducible rfl))
            simp only [Act.put, List.setIfInBounds_toArray, List.set_cons_zero, List.set_cons_succ, List.getElem_toArray, List.getElem_cons_zero, List.getElem_cons_succ]
            refine' wpAnyH_take (i := 6) (v := _) rfl (by kernel_rfl) (by kernel_rfl) (by kernel_rfl) (fun _ _ _ h => h) (Or.inl ⟨by rfl, ?hy41⟩) hHeld ?hr41
            case hy41 => (intro w hSw; (try dsimp only at hSw); go_simp; (try with_reducible rfl))
            simp only [Act.put, List.setIfInBounds_toArray, List.set_cons_zero, List.set_cons_succ, List.getElem_toArray, List.getElem_cons_zero, List.getElem_cons_succ]
            refine' wpAnyH_take (i := 7) (v := _) rfl (by kernel_rfl) (by kernel_rfl) (by kernel_rfl) (fun _ _ _ h => h) (Or.inl ⟨by rfl, ?hy42⟩) hHeld ?hr42
            case hy42 => (intro w hSw; (try dsimp only at hSw); go_simp; (try with_reducible rfl))
            simp only [Act.put, List.setIfInBounds_toArray, List.set_cons_zero, List.set_cons_succ, List.getElem_toArray, List.getElem_cons_zero, List.getElem_cons_succ]
            refine' wpAnyH_take (i := 8) (v := _) rfl (by kernel_rfl) (by kernel_rfl) (by kernel_rfl) (fun _ _ _ h => h) (Or.inl ⟨by rfl, ?hy43⟩) hHeld ?hr43
            case hy43 => (intro w hSw; (try dsimp only at hSw); go_simp; (try with_reducible rfl))
            simp only [Act.put, List.setIfInBounds_toArray, List.set_cons_zero, List.set_cons_succ, List.getElem_toArray, List.getElem_cons_zero, List.getElem_cons_succ]
            refine' wpAnyH_take (i := 9) (v := _) rfl (by kernel_rfl) (by kernel_rfl) (by kernel_rfl) (fun _ _ _ h => h) (Or.inl ⟨by rfl, ?hy44⟩) hHeld ?hr44
            case hy44 => (intro w hSw; (try dsimp only at hSw); go_simp; (try with_reducible rfl))
            simp only [Act.put, List.setIfInBounds_toArray, List.set_cons_zero, List.set_cons_succ, List.getElem_toArray, List.getElem_cons_zero, List.getElem_cons_succ]
            refine wpAnyH_take (i := 10) (v := undef) rfl (by kernel_rfl) (by kernel_rfl) (by kernel_rfl) (fun _ _ _ h => h) (Or.inr ⟨by rfl, rfl⟩) hHeld ?_
            simp only [Act.put, List.setIfInBounds_toArray, List.set_cons_zero, List.set_cons_succ, List.getElem_toArray, List.getElem_cons_zero, List.getElem_cons_succ]
            refine wpAnyH_take (i := 11) (v := undef) rfl (by kernel_rfl) (by kernel_rfl) (by kernel_rfl) (fun _ _ _ h => h) (Or.inr ⟨by rfl, rfl⟩) hHeld ?_
            simp only [Act.put, List.setIfInBounds_toArray, List.set_cons_zero, List.set_cons_succ, List.getElem_toArray, List.getElem_cons_zero, List.getElem_cons_succ]
            refine wpAnyH_take (i := 12) (v := undef) rfl (by kernel_rfl) (by kernel_rfl) (by kernel_rfl) (fun _ _ _ h => h) (Or.inr ⟨by rfl, rfl⟩) hHeld ?_
            simp only [Act.put, List.setIfInBounds_toArray, List.set_cons_zero, List.set_cons_succ, List.getElem_toArray, List.getElem_cons_zero, List.getElem_cons_succ]
            refine wpAnyH_take (i := 13) (v := undef) rfl (by kernel_rfl) (by kernel_rfl) (by kernel_rfl) (fun _ _ _ h => h) (Or.inr ⟨by rfl, rfl⟩) hHeld ?_
            simp only [Act.put, List.setIfInBounds_toArray, List.set_cons_zero, List.set_cons_succ, List.getElem_toArray, List.getElem_cons_zero, List.getElem_cons_succ]
            refine wpAnyH_take (i := 14) (v := undef) rfl (by kernel_rfl) (by kernel_rfl) (by kernel_rfl) (fun _ _ _ h => h) (Or.inr ⟨by rfl, rfl⟩) hHeld ?_
            simp only [Act.put, List.setIfInBounds_toArray, List.set_cons_zero, List.set_cons_succ, List.getElem_toArray, List.getElem_cons_zero, List.getElem_cons_succ]
            refine wpAnyH_take (i := 15) (v := undef) rfl (by kernel_rfl) (by kernel_rfl) (by kernel_rfl) (fun _ _ _ h => h) (Or.inr ⟨by rfl, rfl⟩) hHeld ?_
            simp only [Act.put, List.setIfInBounds_toArray, List.set_cons_zero, List.set_cons_succ, List.getElem_toArray, List.getElem_cons_zero, List.getElem_cons_succ]
            refine wpAnyH_take (i := 16) (v := undef) rfl (by kernel_rfl) (by kernel_rfl) (by kernel_rfl) (fun _ _ _ h => h) (Or.inr ⟨by rfl, rfl⟩) hHeld ?_
            simp only [Act.put, List.setIfInBounds_toArray, List.set_cons_zero, List.set_cons_succ, List.getElem_toArray, List.getElem_cons_zero, List.getElem_cons_succ]
            refine' wpAnyH_take (i := 17) (v := _) rfl (by kernel_rfl) (by kernel_rfl) (by kernel_rfl) (fun _ _ _ h => h) (Or.inl ⟨by rfl, ?hy45⟩) hHeld ?hr45
            case hy45 => (intro w hSw; (try dsimp only at hSw); go_simp; (try with_reducible rfl))
            simp only [Act.put, List.setIfInBounds_toArray, List.set_cons_zero, List.set_cons_succ, List.getElem_toArray, List.getElem_cons_zero, List.getElem_cons_succ]
            refine wpAnyH_done (by kernel_rfl) ?_ _
            refine NoPanic.normal ?_
            have kb2 := hHeld.2.2.2.2.2
            clear hHeld
            go_wp2
            go_ret
            first | exact ⟨ret_bool hno.symm, kb2⟩ | exact ⟨rfl, kb2⟩
        · have hjn : j = rows.length := by omega
          have hji : ¬ (j : Int) < (rows.length : Int) := by omega
          subst hjn
          have hyes : gridOkB cols rows = true := (gridOk_iff cols rows).2 ⟨h1, ⟨hn1, hn2⟩, hall.out⟩
          clear hall hv hin hs
          go_wp2
          go_ret
          first | exact ⟨ret_bool hyes.symm, kb⟩ | exact ⟨rfl, kb⟩
    · have hno := gridOk_len (cols := cols) hn
      clear hs hr
      by_cases h0 : rows.length < 1
      · have hi : (rows.length : Int) < 1 := by omega
        go_enter Tryz.func43, Tryz.ntmps43
        go_wp2_with (go_at_call 45; refine (hin _).mono ?_; rintro e w1 ⟨rfl, hw⟩; subst hw)
        go_ret
        first | exact ⟨ret_bool hno.symm, hbB⟩ | exact ⟨rfl, hbB⟩
      · have hi : ¬ (rows.length : Int) < 1 := by omega
        have hi2 : 30 < (rows.length : Int) := by omega
        go_enter Tryz.func43, Tryz.ntmps43
        go_wp2_with (go_at_call 45; refine (hin _).mono ?_; rintro e w1 ⟨rfl, hw⟩; subst hw)
        go_ret
        first | exact ⟨ret_bool hno.symm, hbB⟩ | exact ⟨rfl, hbB⟩
  · have e1 : decide ((1 : Int) ≤ cols ∧ cols ≤ 60) = false := decide_eq_false h1
    rw [e1] at hin
    have hno := gridOk_cols (rows := rows) h1
    clear e1 h1 hs hr
    go_enter Tryz.func43, Tryz.ntmps43
    go_wp2_with (go_at_call 45; refine (hin _).mono ?_; rintro e w1 ⟨rfl, hw⟩; subst hw)
    go_ret
    first | exact ⟨ret_bool hno.symm, hbB⟩ | exact ⟨rfl, hbB⟩
end Go.Proofs.YtlmnhlfklbgjdaaGreatDoor
namespace Go.Proofs.YtlmnhlfklbgjdaaGreatDoor
open Go.ChangeShapes Go.WideShapes Go.ChangeAt Go.RowKit
theorem ce_iff (r f b : Int) (bo un tu : Bool) (p r' f' b' : Int) (bo' un' tu' : Bool) (p' : Int) : (Ce.mk r ⟨f, b, bo, un, tu⟩ p = Ce.mk r' ⟨f', b', bo', un', tu'⟩ p') ↔ (r = r' ∧ f = f' ∧ b = b' ∧ bo = bo' ∧ un = un' ∧ tu = tu' ∧ p = p') := by
  constructor
  · intro e; cases e; simp
  · rintro ⟨rfl, rfl, rfl, rfl, rfl, rfl, rfl⟩; rfl
set_option maxHeartbeats 4000000 in
theorem eq_ce2 (a b : Ce) (W : World) : (Op.equalIn 10000 75 (.agg #[.int .i64 a.rune, .int .i64 a.st.fore, .int .i64 a.st.back, .bool a.st.bold, .bool a.st.under, .bool a.st.turned, .int .i64 a.part]) (.agg #[.int .i64 b.rune, .int .i64 b.st.fore, .int .i64 b.st.back, .bool b.st.bold, .bool b.st.under, .bool b.st.turned, .int .i64 b.part])).run Tryz.prog W = .ok (decide (a = b)) W := by
  have hu := Tryz.underlying75
  have hs := Tryz.underlying28
  have hi := Tryz.underlying2
  have hb := Tryz.underlying4
  obtain ⟨r, ⟨f, g, bo, un, tu⟩, p⟩ := a
  obtain ⟨r', ⟨f', g', bo', un', tu'⟩, p'⟩ := b
  simp only [ce_iff]
  rw [run_equalIn_struct W 9999 _ _ _ (by simp [Program.fieldsOf, hu]) (by kernel_rfl)]
  by_cases h0 : r = r' <;> by_cases h1 : f = f' <;> by_cases h2 : g = g' <;> by_cases h3 : bo = bo' <;> by_cases h4 : un = un' <;> by_cases h5 : tu = tu' <;> by_cases h6 : p = p' <;> simp [Program.fieldsOf, hu, hi, hb, hs, Op.eqFields, go_sem, h0, h1, h2, h3, h4, h5, h6, Result.andThen]
end Go.Proofs.YtlmnhlfklbgjdaaGreatDoor
namespace Go.Proofs.YtlmnhlfklbgjdaaGreatDoor
theorem atC_ge {l : List Ce} {i : Nat} (h : l.length ≤ i) : atC l i = Ce.zero := by simp [atC, List.getD, List.getElem?_eq_none h]
theorem alone_iff (l : List Ce) (i : Nat) : aloneB l i = true ↔ ((atC l i).part = 1 ∧ (atC l (i + 1)).part ≠ 2) ∨ ((atC l i).part = 2 ∧ (i = 0 ∨ (atC l (i - 1)).part ≠ 1)) := by
  unfold aloneB
  by_cases h : i + 1 = l.length
  · rw [atC_ge (l := l) (i := i + 1) (by omega)]
    simp [Ce.zero, h]
  · simp [h]
/-- A cell that is right by itself. -/
def c1 (c : Ce) : Prop := c.st.ok = true ∧ ((c.part = 0 ∧ widthV c.rune = 1) ∨ (c.part = 1 ∧ widthV c.rune = 2) ∨ (c.part = 2 ∧ c.rune = 0))
def Right (l : List Ce) : Prop :=
  (∀ i, i < l.length → c1 (atC l i)) ∧ (∀ i, (atC l i).part = 1 → (atC l (i + 1)).part = 2 ∧ (atC l (i + 1)).st = (atC l i).st) ∧ (∀ i, (atC l i).part = 2 → 0 < i ∧ (atC l (i - 1)).part = 1)
def Semi (l : List Ce) : Prop :=
  (∀ i, i < l.length → c1 (atC l i)) ∧ (∀ i, (atC l i).part = 1 → (atC l (i + 1)).part = 2 → (atC l (i + 1)).st = (atC l i).st)
theorem part_lt {l : List Ce} {i : Nat} (h : (atC l i).part ≠ 0) : i < l.length := by
  rcases Nat.lt_or_ge i l.length with h1 | h1
  · exact h1
  · rw [atC_ge h1] at h; exact absurd rfl h
theorem right_iff (l : List Ce) : rowOkB l = true ↔ (1 ≤ l.length ∧ l.length ≤ 60) ∧ Right l := by
  rw [rowOkB_iff]
  constructor
  · rintro ⟨hl, h⟩
    refine ⟨hl, ?_, ?_, ?_⟩
    · intro i hi
      have := h i hi
      unfold cellOkB at this
      rw [Bool.and_eq_true] at this
      refine ⟨this.1, ?_⟩
      have h2 := this.2
      by_cases h0 : (atC l i).part = 0
      · rw [if_pos h0] at h2; exact .inl ⟨h0, by simpa using h2⟩
      · rw [if_neg h0] at h2
        by_cases h1 : (atC l i).part = 1
        · rw [if_pos h1] at h2; simp at h2; exact .inr (.inl ⟨h1, h2.1⟩)
        · rw [if_neg h1] at h2
          by_cases h3 : (atC l i).part = 2
          · rw [if_pos h3] at h2; simp at h2; exact .inr (.inr ⟨h3, h2.1⟩)
          · rw [if_neg h3] at h2; cases h2
    · intro i h1
      have hi : i < l.length := part_lt (by rw [h1]; decide)
      have := h i hi
      unfold cellOkB at this
      rw [Bool.and_eq_true, if_neg (by rw [h1]; decide), if_pos h1] at this
      have h2 := this.2; simp at h2
      exact ⟨h2.2.2.1, h2.2.2.2⟩
    · intro i h1
      have hi : i < l.length := part_lt (by rw [h1]; decide)
      have := h i hi
      unfold cellOkB at this
      rw [Bool.and_eq_true, if_neg (by rw [h1]; decide), if_neg (by rw [h1]; decide), if_pos h1] at this
      have h2 := this.2; simp at h2
      exact h2.2
  · rintro ⟨hl, h1, h2, h3⟩
    refine ⟨hl, fun i hi => ?_⟩
    have hc := h1 i hi
    unfold cellOkB
    rw [hc.1, Bool.true_and]
    rcases hc.2 with ⟨e, ew⟩ | ⟨e, ew⟩ | ⟨e, ew⟩
    · rw [if_pos e, ew]; rfl
    · have := h2 i e
      have hlt : i + 1 < l.length := part_lt (by rw [this.1]; decide)
      rw [if_neg (by rw [e]; decide), if_pos e, ew]
      simp [hlt, this.1, this.2]
    · have := h3 i e
      rw [if_neg (by rw [e]; decide), if_neg (by rw [e]; decide), if_pos e, ew]
      simp [this.1, this.2]
theorem Right.alone {l : List Ce} (h : Right l) (i : Nat) : aloneB l i = false := by
  apply Classical.byContradiction
  intro hc
  rcases (alone_iff l i).1 (by simpa using hc) with ⟨p, q⟩ | ⟨p, q⟩
  · exact q (h.2.1 i p).1
  · have := h.2.2 i p
    rcases q with q | q
    · omega
    · exact q this.2
theorem Right.c1 {l : List Ce} (h : Right l) {i : Nat} (hi : i < l.length) : c1 (atC l i) := h.1 i hi
theorem Semi.take {l : List Ce} (h : Semi l) (n : Nat) : Semi (l.take n) := by
  have e : ∀ i, atC (l.take n) i = if i < n then atC l i else Ce.zero := fun i => by
    by_cases hi : i < n
    · rw [if_pos hi, atC_take l n i hi]
    · rw [if_neg hi, atC_ge (by rw [List.length_take]; omega)]
  refine ⟨fun i hi => ?_, fun i h1 h2 => ?_⟩
  · rw [List.length_take] at hi
    rw [e, if_pos (by omega)]
    exact h.1 i (by omega)
  · rw [e] at h1 h2 ⊢
    rw [e]
    split at h1
    · split at h2
      · rename_i q1 q2
        rw [if_pos q2, if_pos q1]
        exact h.2 i h1 h2
      · exact absurd h2 (by decide)
    · exact absurd h1 (by decide)
theorem Semi.drop {l : List Ce} (h : Semi l) (n : Nat) : Semi (l.drop n) := by
  refine ⟨fun i hi => ?_, fun i h1 h2 => ?_⟩
  · rw [List.length_drop] at hi
    rw [atC_drop]; exact h.1 (n + i) (by omega)
  · rw [atC_drop] at h1 h2 ⊢
    rw [atC_drop]
    have := h.2 (n + i) h1 (by rw [Nat.add_assoc]; exact h2)
    rwa [Nat.add_assoc] at this
theorem app_at (l m : List Ce) (i : Nat) : atC (l ++ m) i = if i < l.length then atC l i else atC m (i - l.length) := by
  by_cases h : i < l.length
  · rw [if_pos h, atC_append_left l m i h]
  · rw [if_neg h]
    have := atC_append_right l m (i - l.length)
    rwa [show l.length + (i - l.length) = i by omega] at this
theorem Right.append {l m : List Ce} (h : Right l) (k : Right m) : Right (l ++ m) := by
  refine ⟨fun i hi => ?_, fun i h1 => ?_, fun i h2 => ?_⟩
  · rw [List.length_append] at hi
    rw [app_at]
    split
    · rename_i q; exact h.1 i q
    · exact k.1 _ (by omega)
  · rw [app_at] at h1
    split at h1
    · have := h.2.1 i h1
      have hlt : i + 1 < l.length := part_lt (by rw [this.1]; decide)
      rename_i q
      rw [app_at, app_at, if_pos hlt, if_pos q]; exact this
    · rename_i q
      have := k.2.1 _ h1
      rw [app_at, app_at, if_neg (by omega), if_neg q]
      rwa [show i + 1 - l.length = i - l.length + 1 by omega]
  · rw [app_at] at h2
    split at h2
    · rename_i q
      have := h.2.2 i h2
      rw [app_at, if_pos (by omega)]; exact this
    · rename_i q
      have := k.2.2 _ h2
      rw [app_at, if_neg (by omega)]
      refine ⟨by omega, ?_⟩
      rw [show i - 1 - l.length = i - l.length - 1 by omega]; exact this.2
end Go.Proofs.YtlmnhlfklbgjdaaGreatDoor
namespace Go.Proofs.YtlmnhlfklbgjdaaGreatDoor
open Go.ChangeShapes Go.WideShapes Go.ChangeAt Go.RowKit
theorem colorOk_any (x : Int) (w : World) :
    Calls Tryz.prog 104 #[.int .i64 x] w fun e w' => e = .returned (.bool (decide (0 ≤ x ∧ x ≤ 8))) ∧ w' = w := by
  by_cases h1 : 0 ≤ x
  · go_enter Tryz.func104, Tryz.ntmps104
    go_wp2
    go_ret
    exact ⟨ret_bool (by simp [h1]), rfl⟩
  · go_enter Tryz.func104, Tryz.ntmps104
    go_wp2
    go_ret
    exact ⟨ret_bool (by simp; omega), rfl⟩
set_option maxHeartbeats 400000 in
theorem implStyleOk_any (s : St) (w : World) :
    Calls Tryz.prog 69 #[stV s] w fun e w' => e = .returned (.bool s.ok) ∧ Below w.heap.size w w' := by
  obtain ⟨f, b, bo, un, tu⟩ := s
  have hok : Hid ((St.mk f b bo un tu).ok = decide (0 ≤ f ∧ f ≤ 8 ∧ 0 ≤ b ∧ b ≤ 8)) := rfl
  unfold stV
  simp only
  go_enter Tryz.func69, Tryz.ntmps69
  go_wp2_with (go_at_call 104; refine (colorOk_any _ _).mono ?_; rintro e w' ⟨rfl, hw⟩; subst hw)
  all_goals
    go_ret
    refine ⟨ret_bool ?_, (Below.refl _ _).alloc (Nat.le_refl _) _⟩
    rw [hok.out]
    clear hok
    by_cases h1 : 0 ≤ f ∧ f ≤ 8
    · by_cases h2 : 0 ≤ b ∧ b ≤ 8
      · have h3 : 0 ≤ f ∧ f ≤ 8 ∧ 0 ≤ b ∧ b ≤ 8 := ⟨h1.1, h1.2, h2⟩
        simp_all
      · have h3 : ¬ (0 ≤ f ∧ f ≤ 8 ∧ 0 ≤ b ∧ b ≤ 8) := fun h => h2 h.2.2
        simp_all
        try omega
    · have h3 : ¬ (0 ≤ f ∧ f ≤ 8 ∧ 0 ≤ b ∧ b ≤ 8) := fun h => h1 ⟨h.1, h.2.1⟩
      simp_all
end Go.Proofs.YtlmnhlfklbgjdaaGreatDoor
namespace Go.Proofs.YtlmnhlfklbgjdaaGreatDoor
open Go.ChangeShapes Go.WideShapes Go.ChangeAt Go.RowKit
attribute [local go_sem ↓] eq_st
def c1B (c : Ce) : Bool := c.st.ok && (if c.part = 0 then decide (widthV c.rune = 1) else if c.part = 1 then decide (widthV c.rune = 2) else if c.part = 2 then decide (c.rune = 0) else false)
theorem c1B_iff (c : Ce) : c1B c = true ↔ c1 c := by
  unfold c1B c1
  rw [Bool.and_eq_true]
  constructor
  · rintro ⟨h, h2⟩
    refine ⟨h, ?_⟩
    split at h2
    · rename_i e; exact .inl ⟨e, by simpa using h2⟩
    · split at h2
      · rename_i e; exact .inr (.inl ⟨e, by simpa using h2⟩)
      · split at h2
        · rename_i e; exact .inr (.inr ⟨e, by simpa using h2⟩)
        · cases h2
  · rintro ⟨h, ⟨e, h2⟩ | ⟨e, h2⟩ | ⟨e, h2⟩⟩
    · exact ⟨h, by rw [if_pos e]; simpa using h2⟩
    · exact ⟨h, by rw [if_neg (by rw [e]; decide), if_pos e]; simpa using h2⟩
    · exact ⟨h, by rw [if_neg (by rw [e]; decide), if_neg (by rw [e]; decide), if_pos e]; simpa using h2⟩
def joinB (a c : Ce) : Bool := if a.part = 1 then decide (c.part = 2) && decide (c.st = a.st) else !decide (c.part = 2)
set_option maxHeartbeats 1000000 in
theorem cellOk_any (c : Ce) (w : World) (hS : SpansAt w) :
    Calls Tryz.prog 161 #[ceV c] w fun e w' => e = .returned (.bool (c1B c)) ∧ Below w.heap.size w w' := by
  obtain ⟨r, ⟨f, b, bo, un, tu⟩, p⟩ := c
  have hok := fun W => implStyleOk_any ⟨f, b, bo, un, tu⟩ W
  have hwd := fun W h => implWidth_any r W h
  have hB : Hid (c1B ⟨r, ⟨f, b, bo, un, tu⟩, p⟩ = ((St.mk f b bo un tu).ok && (if p = 0 then decide (widthV r = 1) else if p = 1 then decide (widthV r = 2) else if p = 2 then decide (r = 0) else false))) := rfl
  have hbA := bal' w (Obj.cells #[.int .i64 r, .int .i64 f, .int .i64 b, .bool bo, .bool un, .bool tu, .int .i64 p] 75)
  have hlt := hS.lt
  unfold ceV stV at *
  generalize (St.mk f b bo un tu).ok = ok at *
  generalize widthV r = wd at *
  cases ok
  · go_enter Tryz.func161, Tryz.ntmps161
    go_wp2_with fail
    refine (hok _).mono ?_
    rintro e w1 ⟨rfl, hb1⟩
    go_wp2
    go_ret
    exact ⟨by rw [hB.out]; rfl, hbA.trans (hb1.mono hbA.size)⟩
  · have hsp := hS.below hbA hlt
    have hcp : (w.alloc (Obj.cells #[.int .i64 r, .int .i64 f, .int .i64 b, .bool bo, .bool un, .bool tu, .int .i64 p] 75)).cell? ⟨w.heap.size, 6, none⟩ = some (.int .i64 p) := by simp [go_sem]
    have hcr : (w.alloc (Obj.cells #[.int .i64 r, .int .i64 f, .int .i64 b, .bool bo, .bool un, .bool tu, .int .i64 p] 75)).cell? ⟨w.heap.size, 0, none⟩ = some (.int .i64 r) := by simp [go_sem]
    have hsz : w.heap.size < (w.alloc (Obj.cells #[.int .i64 r, .int .i64 f, .int .i64 b, .bool bo, .bool un, .bool tu, .int .i64 p] 75)).heap.size := by simp
    go_enter Tryz.func161, Tryz.ntmps161
    go_wp2_with fail
    generalize w.alloc (Obj.cells #[.int .i64 r, .int .i64 f, .int .i64 b, .bool bo, .bool un, .bool tu, .int .i64 p] 75) = W0 at *
    refine (hok _).mono ?_
    rintro e w1 ⟨rfl, hb1⟩
    have d6 : w1.cell? ⟨w.heap.size, 6, none⟩ = some (.int .i64 p) := (hb1.cell (p := ⟨w.heap.size, 6, none⟩) hsz).trans hcp
    have d0 : w1.cell? ⟨w.heap.size, 0, none⟩ = some (.int .i64 r) := (hb1.cell (p := ⟨w.heap.size, 0, none⟩) hsz).trans hcr
    have hs1 := hsp.below hb1 hsp.lt
    have kb := hbA.trans (hb1.mono hbA.size)
    clear hb1 hcp hcr hok hsp hbA hsz
    have hwd1 := hwd w1 hs1
    clear hwd hs1 hS
    by_cases p0 : p = 0
    · have e0 : (p == 0) = true := by simp [p0]
      have hB2 : Hid (c1B ⟨r, ⟨f, b, bo, un, tu⟩, p⟩ = decide (wd = 1)) := by show _ = _; rw [hB.out, if_pos p0]; rfl
      clear p0 hB
      go_wp2_with fail
      refine hwd1.mono ?_
      rintro e w2 ⟨rfl, hb2⟩
      go_wp2
      go_ret
      exact ⟨by rw [hB2.out]; first | rfl | (simp; done), kb.trans (hb2.mono kb.size)⟩
    · have e0 : (p == 0) = false := by simp [p0]
      by_cases p1 : p = 1
      · have e1 : (p == 1) = true := by simp [p1]
        have hB2 : Hid (c1B ⟨r, ⟨f, b, bo, un, tu⟩, p⟩ = decide (wd = 2)) := by show _ = _; rw [hB.out, if_neg p0, if_pos p1]; rfl
        clear p0 p1 hB
        go_wp2_with fail
        refine hwd1.mono ?_
        rintro e w2 ⟨rfl, hb2⟩
        go_wp2
        go_ret
        exact ⟨by rw [hB2.out]; first | rfl | (simp; done), kb.trans (hb2.mono kb.size)⟩
      · have e1 : (p == 1) = false := by simp [p1]
        clear hwd1
        by_cases p2 : p = 2
        · have e2 : (p == 2) = true := by simp [p2]
          have hB2 : Hid (c1B ⟨r, ⟨f, b, bo, un, tu⟩, p⟩ = decide (r = 0)) := by show _ = _; rw [hB.out, if_neg p0, if_neg p1, if_pos p2]; rfl
          clear p0 p1 p2 hB
          go_wp2
          go_ret
          exact ⟨by rw [hB2.out]; first | rfl | (simp; done), kb⟩
        · have e2 : (p == 2) = false := by simp [p2]
          have hB2 : Hid (c1B ⟨r, ⟨f, b, bo, un, tu⟩, p⟩ = false) := by show _ = _; rw [hB.out, if_neg p0, if_neg p1, if_neg p2]; rfl
          clear p0 p1 p2 hB
          go_wp2
          go_ret
          exact ⟨by rw [hB2.out]; rfl, kb⟩
set_option maxHeartbeats 1000000 in
theorem joins_any (a c : Ce) (w : World) :
    Calls Tryz.prog 162 #[ceV a, ceV c] w fun e w' => e = .returned (.bool (joinB a c)) ∧ Below w.heap.size w w' := by
  have hB : Hid (joinB a c = if a.part = 1 then decide (c.part = 2) && decide (c.st = a.st) else !decide (c.part = 2)) := rfl
  have kb : Below w.heap.size w ((w.alloc (Obj.cells #[.int .i64 a.rune, .int .i64 a.st.fore, .int .i64 a.st.back, .bool a.st.bold, .bool a.st.under, .bool a.st.turned, .int .i64 a.part] 75)).alloc (Obj.cells #[.int .i64 c.rune, .int .i64 c.st.fore, .int .i64 c.st.back, .bool c.st.bold, .bool c.st.under, .bool c.st.turned, .int .i64 c.part] 75)) := ((Below.refl _ _).alloc (Nat.le_refl _) _).alloc (by simp) _
  unfold ceV
  by_cases h1 : a.part = 1
  · have b1 : (a.part == 1) = true := by simp [h1]
    by_cases h2 : c.part = 2
    · have b2 : (c.part == 2) = true := by simp [h2]
      have hB2 : Hid (joinB a c = decide (c.st = a.st)) := by show _ = _; rw [hB.out, if_pos h1, decide_eq_true h2]; rfl
      clear h1 h2 hB
      go_enter Tryz.func162, Tryz.ntmps162
      go_wp2
      go_ret
      exact ⟨by rw [hB2.out]; first | rfl | (simp; done), kb⟩
    · have b2 : (c.part == 2) = false := by simp [h2]
      have hB2 : Hid (joinB a c = false) := by show _ = _; rw [hB.out, if_pos h1, decide_eq_false h2]; rfl
      clear h1 h2 hB
      go_enter Tryz.func162, Tryz.ntmps162
      go_wp2
      go_ret
      exact ⟨by rw [hB2.out]; first | rfl | (simp; done), kb⟩
  · have b1 : (a.part == 1) = false := by simp [h1]
    have hB2 : Hid (joinB a c = !decide (c.part = 2)) := by show _ = _; rw [hB.out, if_neg h1]
    clear h1 hB
    go_enter Tryz.func162, Tryz.ntmps162
    go_wp2
    go_ret
    exact ⟨by rw [hB2.out]; first | rfl | (simp; done), kb⟩
end Go.Proofs.YtlmnhlfklbgjdaaGreatDoor
