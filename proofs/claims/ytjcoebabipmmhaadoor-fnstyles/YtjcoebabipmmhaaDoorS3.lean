/- Contracts of Params as the specification has it. -/
import Derived.Test.YtjcoebabipmmhaaDoorS2
import Derived.Test.YtjcoebabipmmhaaDoorStEq
import Derived.Laws.AppendOwn
import Derived.OwnWalk
namespace Go.Proofs.YtjcoebabipmmhaaDoor
open Go.ChangeShapes Go.WideShapes Go.ChangeAt Go.RowKit

theorem info_int64s : (Tryd.prog.info? 2).map (fun i => (i.zero, i.size, i.bytes)) = some (some (.int .i64 0), 1, 8) := by kernel_rfl
/-- Two styles in memory and a list of this call's own. -/
def PK (base A B : Nat) (a b : St) (v : Value) (L : List Int) (w0 W : World) : Prop :=
  StAt W A a ∧ StAt W B b ∧ W.ownsRow base 2 1 v L.length (L.map (Value.int .i64)) ∧ Below w0.heap.size w0 W ∧ base ≤ W.heap.size ∧ A < base ∧ B < base ∧ w0.heap.size ≤ base ∧ L.length ≤ 1000
theorem append_pk {w : World} {ops : Array Oper} {rest : List Oper} {o : Oper} {ac : Act} {Q : Exit → Act → World → Prop} (hgd : o.guard = none) (s x : Operand)
    (ho : o.op = .call { callee := .builtin .append, args := #[s, x], argTypes := #[26, 26] })
    (base A B : Nat) (a b : St) (v : Value) (L : List Int) (w0 : World) (y : Int) (hs : ac.eval s = v) (k : PK base A B a b v L w0 w) (hl : L.length < 1000)
    (g : Nat) (hg0 : w.heap.size = g) (hx : ac.eval x = .slice (some ⟨g, 0, none⟩) 1 1)
    (h : ∀ v' w', PK base A B a b v' (L ++ [y]) w0 w' → wpList Tryd.prog ops Q rest (ac.put o.dst v') w') :
    wpList Tryd.prog ops Q (o :: rest) ac (w.alloc (.cells #[.int .i64 y] 2)) := by
  subst hg0
  obtain ⟨i0, hi, hz0, hz1, hz2⟩ := info_parts info_int64s
  obtain ⟨ka, kb, ko, kw, k1, k2, k3, k4, k5⟩ := k
  have hb := bal' w (Obj.cells #[.int .i64 y] 2)
  refine wpList_append_own _ hgd s x _ ho base 2 i0 (.int .i64 0) 1 8 Tryd.underlying26 hi hz0 hz1 hz2 rfl (by decide) v L.length _ hs (ko.alloc _) ⟨w.heap.size, 0, none⟩ 1 1 [.int .i64 y] hx rfl ?_ (by intro u hu; simp at hu; subst hu; rfl) (by unfold maxLen; omega) (by omega) (by simp; omega) (fun v' w' ho' hg' _ => ?_)
  · intro j u hj
    match j, hj with
    | 0, hj => simp at hj; subst hj; simp [Addr.add]
  · have hrow : ∀ g, v.ownBlock = some g → base ≤ g := fun g e => (ko.lt g e).1
    refine h v' w' ⟨(ka.below hb).grown hg' (fun e => by have := hrow A e; omega), (kb.below hb).grown hg' (fun e => by have := hrow B e; omega), ?_, (kw.trans (hb.mono kw.size)).grown hg' (kw.trans (hb.mono kw.size)).size (fun g e => by have := hrow g e; omega), by have := hg'.size; have := hb.size; omega, k2, k3, k4, by simp; omega⟩
    rw [List.length_append, List.map_append]
    simpa using ho'

theorem pk_fin {base A B : Nat} {a b : St} {v : Value} {L : List Int} {w0 W : World} (k : PK base A B a b v L w0 W) (hp : paramsL a b = L) :
    ∃ u, Ending.returned v = .returned u ∧ Below w0.heap.size w0 W ∧ W.ownsRow w0.heap.size 2 1 u (paramsL a b).length ((paramsL a b).map (Value.int .i64)) := by
  refine ⟨v, rfl, k.2.2.2.1, ?_⟩
  rw [hp]
  obtain ⟨h1, h2⟩ := k.2.2.1
  refine ⟨h1, ?_⟩
  rcases h2 with h2 | ⟨g, cap, cur, hv, hbg, r⟩
  · exact .inl h2
  · exact .inr ⟨g, cap, cur, hv, Nat.le_trans k.2.2.2.2.2.2.2.1 hbg, r⟩
theorem beq_dec (x : Int) : (x == 0) = decide (x = 0) := by by_cases h : x = 0 <;> simp [h]
theorem pk_start (a b : St) (w : World) : PK (w.heap.size + 1 + 1) w.heap.size (w.heap.size + 1) a b (.slice (some ⟨w.heap.size + 1 + 1, 0, none⟩) 0 0) [] w ((((w.alloc (Obj.cells #[.int .i64 a.fore, .int .i64 a.back, .bool a.bold, .bool a.under, .bool a.turned] 25)).alloc (Obj.cells #[.int .i64 b.fore, .int .i64 b.back, .bool b.bold, .bool b.under, .bool b.turned] 25)).alloc (Obj.cells #[] 2)).alloc (Obj.cells #[.int .i64 0, .int .i64 0, .bool false, .bool false, .bool false] 25)) := by
  have ha := StAt.new w a 25
  have hb := StAt.new (w.alloc (Obj.cells #[.int .i64 a.fore, .int .i64 a.back, .bool a.bold, .bool a.under, .bool a.turned] 25)) b 25
  have e1 : (w.alloc (Obj.cells #[.int .i64 a.fore, .int .i64 a.back, .bool a.bold, .bool a.under, .bool a.turned] 25)).heap.size = w.heap.size + 1 := by simp
  rw [e1] at hb
  refine ⟨((ha.below (bal' _ _)).below (bal' _ _)).below (bal' _ _), (hb.below (bal' _ _)).below (bal' _ _), ?_, ((((Below.refl _ _).alloc (Nat.le_refl _) _).alloc (by simp) _).alloc (by simp; omega) _).alloc (by simp; omega) _, by simp, by omega, by omega, by omega, by simp⟩
  have ho := World.ownsRow_lit (base := w.heap.size + 1 + 1) (e := 2) (size := 1) ((w.alloc (Obj.cells #[.int .i64 a.fore, .int .i64 a.back, .bool a.bold, .bool a.under, .bool a.turned] 25)).alloc (Obj.cells #[.int .i64 b.fore, .int .i64 b.back, .bool b.bold, .bool b.under, .bool b.turned] 25)) #[] 0 (by simp) (Nat.zero_le _) rfl
  have := ho.alloc (Obj.cells #[.int .i64 0, .int .i64 0, .bool false, .bool false, .bool false] 25)
  simpa using this

set_option maxHeartbeats 16000000 in
theorem l3Params_ne (a b : St) (w : World) (hok : b.ok = true) (hz : b ≠ St.zero) :
    Calls Tryd.prog 37 #[stV a, stV b] w fun e w' => ∃ v, e = .returned v ∧ Below w.heap.size w w' ∧ w'.ownsRow w.heap.size 2 1 v (paramsL a b).length ((paramsL a b).map (Value.int .i64)) := by
  have hq : ∀ W, (Op.equalIn 10000 25 (.agg #[.int .i64 b.fore, .int .i64 b.back, .bool b.bold, .bool b.under, .bool b.turned]) (.agg #[.int .i64 0, .int .i64 0, .bool false, .bool false, .bool false])).run Tryd.prog W = .ok false W := fun W => by
    have := eq_st b St.zero W
    rw [decide_eq_false hz] at this
    exact this
  have hk0 := pk_start a b w
  obtain ⟨hf0, hf1, hg0, hg1⟩ := (St.ok_iff b).1 hok
  have HZ : Hid (¬ (b = St.zero ∧ a ≠ St.zero)) := fun h => hz h.1
  clear hok hz
  unfold stV
  cases e1 : (!a.bold == b.bold) <;> cases e2 : (!a.under == b.under) <;> cases e3 : (!a.turned == b.turned) <;> cases e4 : (a.fore != b.fore) <;> cases e5 : (a.back != b.back)
  all_goals
    go_enter Tryd.func37, Tryd.ntmps37
    go_wp2_with (first
      | (go_at_call 45; refine (flag_any _ _ _ _).mono ?_; rintro e wf ⟨rfl, hw⟩; subst hw)
      | (at_builtin; refine append_pk rfl _ _ rfl (w.heap.size + 1 + 1) w.heap.size (w.heap.size + 1) a b _ _ w _ rfl (by assumption) (by simp) _ (by simp) rfl ?_; intro v' w' hk0; have kk := hk0; obtain ⟨⟨_, ⟨c0, c1, c2, c3, c4⟩, _⟩, ⟨_, ⟨d0, d1, d2, d3, d4⟩, _⟩, _⟩ := kk))
    go_ret
    refine pk_fin hk0 ?_
    rw [paramsL, if_neg HZ.out]
    clear hk0 hq HZ
    simp at e1 e2 e3 e4 e5
    simp [e1, e2, e3, e4, e5, beq_dec]
end Go.Proofs.YtjcoebabipmmhaaDoor
