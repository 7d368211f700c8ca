/- The map of changes, at its operations. -/
import Derived.Test.YtjcoebabipmmhaaDoorSI1
namespace Go.Proofs.YtjcoebabipmmhaaDoor
open Go.ChangeShapes Go.WideShapes Go.ChangeAt Go.RowKit
open Go.Maps (Keyed)

theorem keyed64 : Keyed Tryd.prog 2 := Maps.int_keyed Tryd.underlying2
theorem key64 (n : Int) (hw : (Lit.int .i64 n).wf = true) : keyOf Tryd.prog 2 (.int .i64 n) = some (.int .i64 n) := Maps.keyOf_int_mk Tryd.underlying2 hw
/-- The map and the two styles, while the map is filled and read. -/
def MK (Bm B B4 : Nat) (s : St) (w0 W : World) (l : List (Int × Nat)) : Prop :=
  W.ownsMap Tryd.prog 2 heldR Bm l.length (mapD B l) ∧ StAt W B s ∧ StAt W B4 St.zero ∧ Below w0.heap.size w0 W ∧ B < Bm ∧ B4 < Bm ∧ w0.heap.size ≤ B ∧ B ≠ B4
theorem MK.start {B B4 : Nat} {s : St} {w0 W : World} (h1 : StAt W B s) (h2 : StAt W B4 St.zero) (h3 : Below w0.heap.size w0 W) (h4 : w0.heap.size ≤ B) (h5 : B ≠ B4) : MK W.heap.size B B4 s w0 (W.alloc (.map #[] 0)) [] :=
  ⟨World.ownsMap_made _ _ _ _, h1.below (bal' _ _), h2.below (bal' _ _), h3.trans ((bal' _ _).mono h3.size), h1.1, h2.1, h4, h5⟩
theorem MK.ins {Bm B B4 : Nat} {s : St} {w0 : World} {w : World} {l : List (Int × Nat)} {ops : Array Oper} {rest : List Oper} {o : Oper} {a : Act} {Q : Exit → Act → World → Prop}
    (k : MK Bm B B4 s w0 w l) (hg : o.guard = none) (m x v : Operand) (hop : o.op = Op.insert 45 m x v) (hl : l.length < 1000) (hm : a.eval m = .map (some Bm)) (n : Int) (f : Nat) (hx : a.eval x = .int .i64 n) (hw : (Lit.int .i64 n).wf = true) (hv : a.eval v = clo f B)
    (hK : ∀ w', MK Bm B B4 s w0 w' (l ++ [(n, f)]) → wpList Tryd.prog ops Q rest (a.put o.dst undef) w') :
    wpList Tryd.prog ops Q (o :: rest) a w := by
  refine wpList_plain hg fun K' hK' => ?_
  obtain ⟨k1, k2, k3, k4, k5, k6, k7, k8⟩ := k
  obtain ⟨w', hrun, r1, r2⟩ := k1.update keyed64 Tryd.underlying45 (by unfold maxLen; omega) (val := clo f B) (d := .held (clo f B)) (ps := []) (key64 n hw) rfl
  unfold Oper.wp
  simp [execOp, hop, hm, hx, hv, hrun, Result.andThen]
  refine hK' _ _ (hK w' ⟨?_, k2.grown r2 (by simp; omega), k3.grown r2 (by simp; omega), k4.grown r2 k4.size (fun j hj => by cases hj; omega), k5, k6, k7, k8⟩)
  rw [mapD_snoc, List.length_append]; exact r1
theorem MK.look {Bm B B4 : Nat} {s : St} {w0 : World} {w : World} {ops : Array Oper} {rest : List Oper} {o : Oper} {a : Act} {Q : Exit → Act → World → Prop}
    (k : MK Bm B B4 s w0 w CH) (hg : o.guard = none) (m x : Operand) (hop : o.op = Op.lookup 45 m x true) (hm : a.eval m = .map (some Bm)) (n : Int) (v : Value) (b : Bool) (hlk : Look B n v b) (hx : a.eval x = .int .i64 n) (hw : (Lit.int .i64 n).wf = true)
    (hK : wpList Tryd.prog ops Q rest (a.put o.dst (.tuple #[v, .bool b])) w) :
    wpList Tryd.prog ops Q (o :: rest) a w := by
  refine wpList_lookup_own_ok w hg m x _ hop _ _ keyed64 Tryd.underlying45 heldR (zero_fn w) (.held .nilFunc) [] rfl Bm _ _ hm k.1 _ _ hx (key64 n hw) ?_
  intro v' ps hv'
  rw [hlk.1]
  have : v' = v := by
    have h := hlk.2
    simp only [heldR, Option.some.injEq, Prod.mk.injEq] at hv'
    rw [h] at hv'
    exact DataW.held.inj hv'.1
  rw [this]; exact hK
/-- The style's change in one round. -/
theorem MK.chg {Bm B B4 : Nat} {s s' : St} {w0 W W' : World} {l : List (Int × Nat)} (k : MK Bm B B4 s w0 W l) (h : StAt W' B s') (hg : W.grownBy W' (some B)) : MK Bm B B4 s' w0 W' l := by
  obtain ⟨k1, k2, k3, k4, k5, k6, k7, k8⟩ := k
  exact ⟨k1.kept hg (by simp; omega), h, k3.grown hg (by simpa using k8), k4.grown hg k4.size (fun j hj => by cases hj; omega), k5, k6, k7, k8⟩
theorem fold_isMap (B : Nat) (l : List (Int × Nat)) : ∀ D : DataW Value, Maps.IsMap D → Maps.IsMap (l.foldl (fun D p => D.put (.int .i64 p.1) (.held (clo p.2 B))) D) := by
  induction l with
  | nil => intro D h; exact h
  | cons p l ih => intro D h; exact ih _ (h.put _ _)
def putD (B : Nat) (D : DataW Value) (p : Int × Nat) : DataW Value := D.put (.int .i64 p.1) (.held (clo p.2 B))
theorem look_hit (B i : Nat) (n : Int) (f : Nat) (h : CH = CH.take i ++ (n, f) :: CH.drop (i + 1)) (h2 : ∀ p ∈ CH.drop (i + 1), n ≠ p.1) : Look B n (clo f B) true := by
  have e : mapD B CH = (CH.drop (i + 1)).foldl (putD B) (putD B ((CH.take i).foldl (putD B) (DataW.map [])) (n, f)) := by
    show CH.foldl (putD B) (DataW.map []) = _
    conv => lhs; rw [h, List.foldl_append, List.foldl_cons]
  have hm : Maps.IsMap ((CH.take i).foldl (putD B) (DataW.map [])) := fold_isMap B (CH.take i) (.map []) Maps.isMap_empty
  obtain ⟨h3, h4⟩ := fold_miss B n (CH.drop (i + 1)) (putD B ((CH.take i).foldl (putD B) (DataW.map [])) (n, f)) h2
  refine ⟨?_, ?_⟩
  · rw [e]; exact h3.trans (Maps.has_put_same (k := .int .i64 n) hm trivial _)
  · rw [e]; exact (h4 _).trans (Maps.atKey_put_same (k := .int .i64 n) hm trivial _ _)
/-- Each param: what the look-up gives, and what the call of it does. -/
theorem looks (B : Nat) (n : Int) :
    (Look B n .nilFunc false ∧ ∀ s, paramV s n = s) ∨ (∃ f g, Look B n (clo f B) true ∧ Chg f B n g ∧ (∀ s, paramV s n = g s) ∧ f ∈ [22, 23, 24, 25, 26, 27, 28, 29, 30, 31, 32]) := by
  by_cases h0 : n = 0
  · subst h0; exact .inr ⟨_, _, look_hit B 0 0 _ rfl (by decide), chg_zero B 0, fun _ => rfl, by simp⟩
  by_cases h1 : n = 1
  · subst h1; exact .inr ⟨_, _, look_hit B 1 1 _ rfl (by decide), chg_bold B 1, fun _ => rfl, by simp⟩
  by_cases h2 : n = 22
  · subst h2; exact .inr ⟨_, _, look_hit B 2 22 _ rfl (by decide), chg_unbold B 22, fun _ => rfl, by simp⟩
  by_cases h3 : n = 4
  · subst h3; exact .inr ⟨_, _, look_hit B 3 4 _ rfl (by decide), chg_under B 4, fun _ => rfl, by simp⟩
  by_cases h4 : n = 24
  · subst h4; exact .inr ⟨_, _, look_hit B 4 24 _ rfl (by decide), chg_ununder B 24, fun _ => rfl, by simp⟩
  by_cases h5 : n = 7
  · subst h5; exact .inr ⟨_, _, look_hit B 5 7 _ rfl (by decide), chg_turned B 7, fun _ => rfl, by simp⟩
  by_cases h6 : n = 27
  · subst h6; exact .inr ⟨_, _, look_hit B 6 27 _ rfl (by decide), chg_unturned B 27, fun _ => rfl, by simp⟩
  by_cases h7 : n = 39
  · subst h7; exact .inr ⟨_, _, look_hit B 15 39 _ rfl (by decide), chg_fore0 B 39, fun _ => rfl, by simp⟩
  by_cases h8 : n = 49
  · subst h8; exact .inr ⟨_, _, look_hit B 24 49 _ rfl (by decide), chg_back0 B 49, fun _ => rfl, by simp⟩
  by_cases h9 : 30 ≤ n ∧ n ≤ 37
  · have hp : ∀ s, paramV s n = { s with fore := n - 29 } := fun s => by
      unfold paramV
      rw [if_neg (by omega), if_neg (by omega), if_neg (by omega), if_neg (by omega), if_pos (by omega)]
    refine .inr ⟨22, _, ?_, chg_fore B n h9, hp, by simp⟩
    rcases (show n = 30 ∨ n = 31 ∨ n = 32 ∨ n = 33 ∨ n = 34 ∨ n = 35 ∨ n = 36 ∨ n = 37 from by omega) with rfl | rfl | rfl | rfl | rfl | rfl | rfl | rfl
    · exact look_hit B 7 30 _ rfl (by decide)
    · exact look_hit B 8 31 _ rfl (by decide)
    · exact look_hit B 9 32 _ rfl (by decide)
    · exact look_hit B 10 33 _ rfl (by decide)
    · exact look_hit B 11 34 _ rfl (by decide)
    · exact look_hit B 12 35 _ rfl (by decide)
    · exact look_hit B 13 36 _ rfl (by decide)
    · exact look_hit B 14 37 _ rfl (by decide)
  by_cases h10 : 40 ≤ n ∧ n ≤ 47
  · have hp : ∀ s, paramV s n = { s with back := n - 39 } := fun s => by
      unfold paramV
      rw [if_neg (by omega), if_neg (by omega), if_neg (by omega), if_neg (by omega), if_neg (by omega), if_neg (by omega), if_pos (by omega)]
    refine .inr ⟨23, _, ?_, chg_back B n h10, hp, by simp⟩
    rcases (show n = 40 ∨ n = 41 ∨ n = 42 ∨ n = 43 ∨ n = 44 ∨ n = 45 ∨ n = 46 ∨ n = 47 from by omega) with rfl | rfl | rfl | rfl | rfl | rfl | rfl | rfl
    · exact look_hit B 16 40 _ rfl (by decide)
    · exact look_hit B 17 41 _ rfl (by decide)
    · exact look_hit B 18 42 _ rfl (by decide)
    · exact look_hit B 19 43 _ rfl (by decide)
    · exact look_hit B 20 44 _ rfl (by decide)
    · exact look_hit B 21 45 _ rfl (by decide)
    · exact look_hit B 22 46 _ rfl (by decide)
    · exact look_hit B 23 47 _ rfl (by decide)
  refine .inl ⟨look_miss B n ?_, fun s => ?_⟩
  · simp only [CH, List.mem_cons, List.not_mem_nil, or_false]
    rintro p (rfl | rfl | rfl | rfl | rfl | rfl | rfl | rfl | rfl | rfl | rfl | rfl | rfl | rfl | rfl | rfl | rfl | rfl | rfl | rfl | rfl | rfl | rfl | rfl | rfl) <;> simp only <;> omega
  · unfold paramV
    rw [if_neg (by omega), if_neg (by omega), if_neg (by omega), if_neg (by omega), if_neg (by omega), if_neg (by omega), if_neg (by omega), if_neg (by omega)]
end Go.Proofs.YtjcoebabipmmhaaDoor
