/- strconv.AppendInt of a number from 0 to 99 in base 10, onto a row of the call's own. -/
import Derived.Test.YtjcoebabipmmhaaDoorAI0
import Derived.Lib.AppendStr
import Derived.Lib.SlBytesConst
namespace Go.Proofs.YtjcoebabipmmhaaDoor
open Go.ChangeShapes Go.WideShapes Go.ChangeAt Go.RowKit

theorem info_u8s : (Tryd.prog.info? 5).map (fun i => (i.zero, i.size, i.bytes)) = some (some (.int .u8 0), 1, 1) := by kernel_rfl
theorem strCells_n (s : ByteArray) : Lib.strCells s = (nums s).map (Value.int .u8) := by
  simp [Lib.strCells, nums]
/-- A row of bytes without room (what '[]byte("..")' of a constant lays): its cells can be read, no more is known. -/
def FullB (base : Nat) (v : Value) (L : List Int) (w : World) : Prop := ∃ g, v = .slice (some ⟨g, 0, none⟩) L.length L.length ∧ base ≤ g ∧ g < w.heap.size ∧ ∀ j, j < L.length → w.cell? ⟨g, j, none⟩ = some (.int .u8 (L.getD j 0))
/-- A row of this call's own, or one without room. -/
def RowB (base : Nat) (v : Value) (L : List Int) (w : World) : Prop := w.ownsRow base 5 1 v L.length (L.map (Value.int .u8)) ∨ FullB base v L w
theorem RowB.lt {base : Nat} {v : Value} {L : List Int} {w : World} (h : RowB base v L w) : ∀ g, v.ownBlock = some g → base ≤ g := by
  intro g hg
  rcases h with h | ⟨g', rfl, hb, _⟩
  · exact (h.lt g hg).1
  · simp [Value.ownBlock] at hg; omega
theorem append_full {w : World} {ops : Array Oper} {rest : List Oper} {o : Oper} {a : Act} {Q : Exit → Act → World → Prop} (hgd : o.guard = none) (sl x : Operand)
    (ho : o.op = .call { callee := .builtin .append, args := #[sl, x], argTypes := #[22, 9] })
    (base : Nat) (v : Value) (L : List Int) (hs : a.eval sl = v) (hk : FullB base v L w) (s : ByteArray) (hx : a.eval x = .string s) (h0 : 0 < s.size)
    (hl : L.length + s.size ≤ 140737488355328) (hbase : base ≤ w.heap.size)
    (h : ∀ v' w', w'.ownsRow base 5 1 v' (L.length + s.size) (L.map (Value.int .u8) ++ Lib.strCells s) → w.grownBy w' v.ownBlock → wpList Tryd.prog ops Q rest (a.put o.dst v') w') : wpList Tryd.prog ops Q (o :: rest) a w := by
  obtain ⟨i0, hi, hz0, hz1, hz2⟩ := info_parts info_u8s
  obtain ⟨g, rfl, hb, hg, hc⟩ := hk
  refine wpList_plain hgd fun K hK => ?_
  have holds : ∀ j u, (L.map (Value.int .u8))[j]? = some u → w.cell? ((⟨g, 0, none⟩ : Addr).add j) = some u := by
    intro j u hj
    have hj' : j < L.length := by have := (List.getElem?_eq_some_iff.1 hj).1; simpa using this
    have e : (⟨g, 0, none⟩ : Addr).add j = ⟨g, j, none⟩ := by unfold Addr.add; split <;> simp_all
    rw [e, hc j hj']
    simp [List.getElem?_eq_getElem hj'] at hj
    simp [← hj, List.getD, hj']
  have hr := Lib.run_append_grow_string (P := Tryd.prog) w 22 9 o.type 5 i0 (.int .u8 0) Tryd.underlying22 Tryd.underlying9 hi hz0 ⟨g, 0, none⟩ L.length L.length (L.map (Value.int .u8)) (by rw [hz1]; simp) holds s (by omega) (by omega) (by rw [hz2]; exact growslice_fits (by omega) (by omega))
  unfold Oper.wp execOp
  simp only [ho, resolve, invoke, builtin, Sem.run_bind, Sem.run_pure, Result.andThen_ok, List.map_toArray, List.map_cons, List.map_nil, hs, hx, hr]
  refine hK _ _ (h _ _ ?_ ⟨rfl, rfl, rfl, by simp, fun k hk _ => heap_alloc_old w.drew _ hk⟩)
  have hge := grownCap_ge w (L.length + s.size) L.length 5
  have hcm : grownCap w (L.length + s.size) L.length 5 ≤ maxLen := grownCap_le_maxLen w (L.length + s.size) L.length 5 (by unfold maxLen; omega)
  have hlen : (L.map (Value.int .u8) ++ Lib.strCells s).length = (L.length + s.size) * 1 := by rw [List.length_append, List.length_map, Lib.strCells_length, Nat.mul_one]
  refine ⟨hlen, .inr ⟨w.heap.size, _, _, rfl, hbase, heap_alloc_new w.drew _, hge, hcm, ?_, ?_⟩⟩
  · have hz1 : (Value.int IntKind.u8 0).cells.size = 1 := rfl
    simp only [Array.size_append, List.size_toArray, size_zeroCells, hz1, List.length_map, Lib.strCells_length]
    omega
  · simp only [Array.toList_append, List.append_assoc]
    rw [← List.append_assoc, ← hlen]
    exact List.take_left
theorem append_row {w : World} {ops : Array Oper} {rest : List Oper} {o : Oper} {a : Act} {Q : Exit → Act → World → Prop} (hgd : o.guard = none) (sl x : Operand)
    (ho : o.op = .call { callee := .builtin .append, args := #[sl, x], argTypes := #[22, 9] })
    (base : Nat) (v : Value) (L : List Int) (hs : a.eval sl = v) (hk : RowB base v L w) (s : ByteArray) (hx : a.eval x = .string s) (h0 : 0 < s.size)
    (hl : L.length + s.size ≤ 140737488355328) (hbase : base ≤ w.heap.size)
    (h : ∀ v' w', w'.ownsRow base 5 1 v' (L.length + s.size) (L.map (Value.int .u8) ++ Lib.strCells s) → w.grownBy w' v.ownBlock → wpList Tryd.prog ops Q rest (a.put o.dst v') w') : wpList Tryd.prog ops Q (o :: rest) a w := by
  rcases hk with hk | hk
  · obtain ⟨i0, hi, hz0, hz1, hz2⟩ := info_parts info_u8s
    exact Lib.wpList_append_own_string _ hgd sl x _ _ ho base _ i0 Tryd.underlying22 Tryd.underlying9 hi hz0 hz1 hz2 v L.length _ hs hk s hx (by unfold maxLen; omega) (by omega) hbase (fun v' w' h1 h2 _ => h v' w' h1 h2)
  · exact append_full hgd sl x ho base v L hs hk s hx h0 hl hbase h
set_option maxHeartbeats 1000000 in
theorem appendUint_s (base : Nat) (v : Value) (L : List Int) (n : Int) (w : World) (h : 0 ≤ n ∧ n < 100) (hown : RowB base v L w) (hl : L.length ≤ 1048576) (hb : base ≤ w.heap.size) :
    Calls Tryd.prog 47 #[v, .int .u64 n, .int .i64 10] w fun e w' => ∃ v', e = .returned v' ∧ w'.ownsRow base 5 1 v' (L ++ digL n).length ((L ++ digL n).map (Value.int .u8)) ∧ w.grownBy w' v.ownBlock := by
  obtain ⟨h0, h1⟩ := h
  have hs := fun W => small_any n W ⟨h0, h1⟩
  go_enter Tryd.func47, Tryd.ntmps47
  go_wp2_with fail
  refine (hs _).mono ?_
  rintro e w' ⟨t, rfl, ht, rfl⟩
  have hts : t.size = (digL n).length := by rw [← nums_len, ht]
  have hd2 : (digL n).length ≤ 2 := by unfold digL; split <;> simp
  have HT : Hid (nums t = digL n) := ht
  have HTS : Hid (t.size = (digL n).length) := hts
  have h2 : t.size ≤ 2 := by omega
  have hp : 0 < t.size := by rw [hts]; unfold digL; split <;> simp
  clear hs ht hts hd2
  go_wp2_with (at_builtin; refine append_row rfl _ _ rfl base v L rfl hown t rfl hp (by omega) hb ?_; intro v' w1 hown' hg')
  go_ret
  refine ⟨v', rfl, ?_, hg'⟩
  rw [strCells_n, HT.out, HTS.out, ← List.map_append, ← List.length_append] at hown'
  exact hown'
set_option maxHeartbeats 1000000 in
theorem appendInt_s (base : Nat) (v : Value) (L : List Int) (n : Int) (w : World) (h : 0 ≤ n ∧ n < 100) (hown : RowB base v L w) (hl : L.length ≤ 1048576) (hb : base ≤ w.heap.size) :
    Calls Tryd.prog 35 #[v, .int .i64 n, .int .i64 10] w fun e w' => ∃ v', e = .returned v' ∧ w'.ownsRow base 5 1 v' (L ++ digL n).length ((L ++ digL n).map (Value.int .u8)) ∧ w.grownBy w' v.ownBlock := by
  obtain ⟨h0, h1⟩ := h
  have hu := appendUint_s base v L n w ⟨h0, h1⟩ hown hl hb
  have hw : n % 18446744073709551616 = n := by omega
  go_enter Tryd.func35, Tryd.ntmps35
  go_wp2_with (first
    | (go_at_call 47; refine hu.mono ?_; rintro e w' ⟨v', rfl, ho, hg⟩)
    | (go_at_call 43; go_in))
  go_ret
  exact ⟨v', rfl, ho, hg⟩
end Go.Proofs.YtjcoebabipmmhaaDoor
