/- The program's changes of a style, and the map of them. The map of changes, at its operations. Contract of Styled as the program has it. Contract of Styled as the program has it: all cases. The cursor over the bytes of a draw: what its functions leave. The cursor: made, asked, kept. Styles drawn. A style and params drawn. What the law of styles asks of params and signs. Plain mathematics. What stays while the law of styles runs. Two styles drawn. A law's bytes: how they are read, and whether they are too many. -/
import Derived.Test.YtedbmobjhpgiiaaDoorP1
import Derived.Maps.OwnSet
import Derived.Test.YtedbmobjhpgiiaaDoorRows
import Derived.WalkKit
import Derived.ProofKit
import Derived.OpenShut
import Derived.LoopN
import Derived.WalkSpells
import Derived.Deep.QuietTactic
import Derived.BigQuiet
import Derived.Laws.Bits128
import Derived.OwnWalk
import Derived.Deep.RegionWith
namespace Go.Proofs.YtedbmobjhpgiiaaDoor
open Go.ChangeShapes Go.WideShapes Go.ChangeAt Go.RowKit
open Go.Maps (Keyed)
theorem StAt.fore {w : World} {B : Nat} {s : St} (h : StAt w B s) (x : Int) : StAt (w.setCell ⟨B, 0, none⟩ (.int .i64 x)) B { s with fore := x } := by
  obtain ⟨hlt, ⟨c0, c1, c2, c3, c4⟩, ⟨z0, z1, z2, z3, z4⟩⟩ := h
  exact ⟨by simpa using hlt, ⟨by simp [go_sem, c0], by rw [setCell_ne' _ _ _ _ _ (by decide)]; exact c1, by rw [setCell_ne' _ _ _ _ _ (by decide)]; exact c2, by rw [setCell_ne' _ _ _ _ _ (by decide)]; exact c3, by rw [setCell_ne' _ _ _ _ _ (by decide)]; exact c4⟩, ⟨by simp [go_sem, z0], by simp [go_sem, z1], by simp [go_sem, z2], by simp [go_sem, z3], by simp [go_sem, z4]⟩⟩
theorem StAt.back {w : World} {B : Nat} {s : St} (h : StAt w B s) (x : Int) : StAt (w.setCell ⟨B, 1, none⟩ (.int .i64 x)) B { s with back := x } := by
  obtain ⟨hlt, ⟨c0, c1, c2, c3, c4⟩, ⟨z0, z1, z2, z3, z4⟩⟩ := h
  exact ⟨by simpa using hlt, ⟨by rw [setCell_ne' _ _ _ _ _ (by decide)]; exact c0, by simp [go_sem, c1], by rw [setCell_ne' _ _ _ _ _ (by decide)]; exact c2, by rw [setCell_ne' _ _ _ _ _ (by decide)]; exact c3, by rw [setCell_ne' _ _ _ _ _ (by decide)]; exact c4⟩, ⟨by simp [go_sem, z0], by simp [go_sem, z1], by simp [go_sem, z2], by simp [go_sem, z3], by simp [go_sem, z4]⟩⟩
theorem StAt.bold {w : World} {B : Nat} {s : St} (h : StAt w B s) (x : Bool) : StAt (w.setCell ⟨B, 2, none⟩ (.bool x)) B { s with bold := x } := by
  obtain ⟨hlt, ⟨c0, c1, c2, c3, c4⟩, ⟨z0, z1, z2, z3, z4⟩⟩ := h
  exact ⟨by simpa using hlt, ⟨by rw [setCell_ne' _ _ _ _ _ (by decide)]; exact c0, by rw [setCell_ne' _ _ _ _ _ (by decide)]; exact c1, by simp [go_sem, c2], by rw [setCell_ne' _ _ _ _ _ (by decide)]; exact c3, by rw [setCell_ne' _ _ _ _ _ (by decide)]; exact c4⟩, ⟨by simp [go_sem, z0], by simp [go_sem, z1], by simp [go_sem, z2], by simp [go_sem, z3], by simp [go_sem, z4]⟩⟩
theorem StAt.under {w : World} {B : Nat} {s : St} (h : StAt w B s) (x : Bool) : StAt (w.setCell ⟨B, 3, none⟩ (.bool x)) B { s with under := x } := by
  obtain ⟨hlt, ⟨c0, c1, c2, c3, c4⟩, ⟨z0, z1, z2, z3, z4⟩⟩ := h
  exact ⟨by simpa using hlt, ⟨by rw [setCell_ne' _ _ _ _ _ (by decide)]; exact c0, by rw [setCell_ne' _ _ _ _ _ (by decide)]; exact c1, by rw [setCell_ne' _ _ _ _ _ (by decide)]; exact c2, by simp [go_sem, c3], by rw [setCell_ne' _ _ _ _ _ (by decide)]; exact c4⟩, ⟨by simp [go_sem, z0], by simp [go_sem, z1], by simp [go_sem, z2], by simp [go_sem, z3], by simp [go_sem, z4]⟩⟩
theorem StAt.turned {w : World} {B : Nat} {s : St} (h : StAt w B s) (x : Bool) : StAt (w.setCell ⟨B, 4, none⟩ (.bool x)) B { s with turned := x } := by
  obtain ⟨hlt, ⟨c0, c1, c2, c3, c4⟩, ⟨z0, z1, z2, z3, z4⟩⟩ := h
  exact ⟨by simpa using hlt, ⟨by rw [setCell_ne' _ _ _ _ _ (by decide)]; exact c0, by rw [setCell_ne' _ _ _ _ _ (by decide)]; exact c1, by rw [setCell_ne' _ _ _ _ _ (by decide)]; exact c2, by rw [setCell_ne' _ _ _ _ _ (by decide)]; exact c3, by simp [go_sem, c4]⟩, ⟨by simp [go_sem, z0], by simp [go_sem, z1], by simp [go_sem, z2], by simp [go_sem, z3], by simp [go_sem, z4]⟩⟩

/-- What a change says: the style in block B turns from s to s'. -/
def Chg (f B : Nat) (n : Int) (g : St → St) : Prop := ∀ (s : St) (w : World), StAt w B s →
  Calls Tryd.prog f #[.int .i64 n, .pointer (some ⟨B, 0, none⟩)] w fun e w' => e = .returned (.tuple #[]) ∧ StAt w' B (g s) ∧ w.grownBy w' (some B)
set_option maxRecDepth 20000 in
theorem chg_fore (B : Nat) (n : Int) (hn : 30 ≤ n ∧ n ≤ 37) : Chg 22 B n (fun s => { s with fore := n - 29 }) := by
  intro s w k
  obtain ⟨h1, h2⟩ := hn
  have k' := k.fore (n - 30 + 1)
  obtain ⟨_, ⟨c0, c1, c2, c3, c4⟩, ⟨z0, z1, z2, z3, z4⟩⟩ := k
  have e : n - 30 + 1 = n - 29 := by omega
  go_enter Tryd.func22, Tryd.ntmps22
  go_wp2
  go_end0
  exact ⟨rfl, by rw [← e]; exact k', setCell_gr _ _ _ _⟩
set_option maxRecDepth 20000 in
theorem chg_back (B : Nat) (n : Int) (hn : 40 ≤ n ∧ n ≤ 47) : Chg 23 B n (fun s => { s with back := n - 39 }) := by
  intro s w k
  obtain ⟨h1, h2⟩ := hn
  have k' := k.back (n - 40 + 1)
  obtain ⟨_, ⟨c0, c1, c2, c3, c4⟩, ⟨z0, z1, z2, z3, z4⟩⟩ := k
  have e : n - 40 + 1 = n - 39 := by omega
  go_enter Tryd.func23, Tryd.ntmps23
  go_wp2
  go_end0
  exact ⟨rfl, by rw [← e]; exact k', setCell_gr _ _ _ _⟩
set_option maxRecDepth 20000 in
theorem chg_zero (B : Nat) (n : Int) : Chg 24 B n (fun _ => St.zero) := by
  intro s w k
  have k' := k.put St.zero
  have g' := putSt_grown w B St.zero
  obtain ⟨_, ⟨c0, c1, c2, c3, c4⟩, ⟨z0, z1, z2, z3, z4⟩⟩ := k
  simp only [putSt, St.zero] at k' g'
  go_enter Tryd.func24, Tryd.ntmps24
  go_wp2
  go_end0
  exact ⟨rfl, k', g'⟩
set_option maxRecDepth 20000 in
theorem chg_bold (B : Nat) (n : Int) : Chg 25 B n (fun s => { s with bold := true }) := by
  intro s w k
  have k' := k.bold true
  obtain ⟨_, ⟨c0, c1, c2, c3, c4⟩, ⟨z0, z1, z2, z3, z4⟩⟩ := k
  go_enter Tryd.func25, Tryd.ntmps25
  go_wp2
  go_end0
  exact ⟨rfl, k', setCell_gr _ _ _ _⟩
set_option maxRecDepth 20000 in
theorem chg_unbold (B : Nat) (n : Int) : Chg 26 B n (fun s => { s with bold := false }) := by
  intro s w k
  have k' := k.bold false
  obtain ⟨_, ⟨c0, c1, c2, c3, c4⟩, ⟨z0, z1, z2, z3, z4⟩⟩ := k
  go_enter Tryd.func26, Tryd.ntmps26
  go_wp2
  go_end0
  exact ⟨rfl, k', setCell_gr _ _ _ _⟩
set_option maxRecDepth 20000 in
theorem chg_under (B : Nat) (n : Int) : Chg 27 B n (fun s => { s with under := true }) := by
  intro s w k
  have k' := k.under true
  obtain ⟨_, ⟨c0, c1, c2, c3, c4⟩, ⟨z0, z1, z2, z3, z4⟩⟩ := k
  go_enter Tryd.func27, Tryd.ntmps27
  go_wp2
  go_end0
  exact ⟨rfl, k', setCell_gr _ _ _ _⟩
set_option maxRecDepth 20000 in
theorem chg_ununder (B : Nat) (n : Int) : Chg 28 B n (fun s => { s with under := false }) := by
  intro s w k
  have k' := k.under false
  obtain ⟨_, ⟨c0, c1, c2, c3, c4⟩, ⟨z0, z1, z2, z3, z4⟩⟩ := k
  go_enter Tryd.func28, Tryd.ntmps28
  go_wp2
  go_end0
  exact ⟨rfl, k', setCell_gr _ _ _ _⟩
set_option maxRecDepth 20000 in
theorem chg_turned (B : Nat) (n : Int) : Chg 29 B n (fun s => { s with turned := true }) := by
  intro s w k
  have k' := k.turned true
  obtain ⟨_, ⟨c0, c1, c2, c3, c4⟩, ⟨z0, z1, z2, z3, z4⟩⟩ := k
  go_enter Tryd.func29, Tryd.ntmps29
  go_wp2
  go_end0
  exact ⟨rfl, k', setCell_gr _ _ _ _⟩
set_option maxRecDepth 20000 in
theorem chg_unturned (B : Nat) (n : Int) : Chg 30 B n (fun s => { s with turned := false }) := by
  intro s w k
  have k' := k.turned false
  obtain ⟨_, ⟨c0, c1, c2, c3, c4⟩, ⟨z0, z1, z2, z3, z4⟩⟩ := k
  go_enter Tryd.func30, Tryd.ntmps30
  go_wp2
  go_end0
  exact ⟨rfl, k', setCell_gr _ _ _ _⟩
set_option maxRecDepth 20000 in
theorem chg_fore0 (B : Nat) (n : Int) : Chg 31 B n (fun s => { s with fore := 0 }) := by
  intro s w k
  have k' := k.fore 0
  obtain ⟨_, ⟨c0, c1, c2, c3, c4⟩, ⟨z0, z1, z2, z3, z4⟩⟩ := k
  go_enter Tryd.func31, Tryd.ntmps31
  go_wp2
  go_end0
  exact ⟨rfl, k', setCell_gr _ _ _ _⟩
set_option maxRecDepth 20000 in
theorem chg_back0 (B : Nat) (n : Int) : Chg 32 B n (fun s => { s with back := 0 }) := by
  intro s w k
  have k' := k.back 0
  obtain ⟨_, ⟨c0, c1, c2, c3, c4⟩, ⟨z0, z1, z2, z3, z4⟩⟩ := k
  go_enter Tryd.func32, Tryd.ntmps32
  go_wp2
  go_end0
  exact ⟨rfl, k', setCell_gr _ _ _ _⟩

/-! ### the map -/
def clo (f B : Nat) : Value := .func (.func f) #[] #[.pointer (some ⟨B, 0, none⟩)]
def heldR (v : Value) : Option (DataW Value × List MemPlace) := some (.held v, [])
def CH : List (Int × Nat) := [(0, 24), (1, 25), (22, 26), (4, 27), (24, 28), (7, 29), (27, 30),
  (30, 22), (31, 22), (32, 22), (33, 22), (34, 22), (35, 22), (36, 22), (37, 22), (39, 31),
  (40, 23), (41, 23), (42, 23), (43, 23), (44, 23), (45, 23), (46, 23), (47, 23), (49, 32)]
def mapD (B : Nat) (l : List (Int × Nat)) : DataW Value := l.foldl (fun D p => D.put (.int .i64 p.1) (.held (clo p.2 B))) (.map [])
theorem mapD_snoc (B : Nat) (l : List (Int × Nat)) (n : Int) (f : Nat) : mapD B (l ++ [(n, f)]) = (mapD B l).put (.int .i64 n) (.held (clo f B)) := by simp [mapD, List.foldl_append]
theorem fold_miss (B : Nat) (n : Int) (l : List (Int × Nat)) : ∀ D : DataW Value, (∀ p ∈ l, n ≠ p.1) →
    Maps.has (l.foldl (fun D p => D.put (.int .i64 p.1) (.held (clo p.2 B))) D) (.int .i64 n) = Maps.has D (.int .i64 n) ∧ ∀ z, (l.foldl (fun D p => D.put (.int .i64 p.1) (.held (clo p.2 B))) D).atKey (.int .i64 n) z = D.atKey (.int .i64 n) z := by
  induction l with
  | nil => intro D _; exact ⟨rfl, fun _ => rfl⟩
  | cons p l ih =>
    intro D h
    have hne : Lit.int .i64 n ≠ Lit.int .i64 p.1 := fun e => h p (by simp) (by injection e)
    obtain ⟨h1, h2⟩ := ih (D.put (.int .i64 p.1) (.held (clo p.2 B))) (fun q hq => h q (by simp [hq]))
    exact ⟨h1.trans (Maps.has_put_other hne _), fun z => (h2 z).trans (Maps.atKey_put_other hne _ z)⟩
theorem zero_fn (w : World) : (zeroValue 44).run Tryd.prog w = .ok .nilFunc w := by kernel_rfl
/-- What the look-up of n gives, and what is done with it. -/
def Look (B : Nat) (n : Int) (v : Value) (b : Bool) : Prop := Maps.has (mapD B CH) (.int .i64 n) = b ∧ (mapD B CH).atKey (.int .i64 n) (.held .nilFunc) = .held v
theorem look_miss (B : Nat) (n : Int) (h : ∀ p ∈ CH, n ≠ p.1) : Look B n .nilFunc false := by
  obtain ⟨h1, h2⟩ := fold_miss B n CH (.map []) h
  exact ⟨h1, h2 _⟩
end Go.Proofs.YtedbmobjhpgiiaaDoor
namespace Go.Proofs.YtedbmobjhpgiiaaDoor
open Go.ChangeShapes Go.WideShapes Go.ChangeAt Go.RowKit
open Go.Maps (Keyed)
theorem keyed64 : Keyed Tryd.prog 2 := Maps.int_keyed Tryd.underlying2
theorem key64 (n : Int) (hw : (Lit.int .i64 n).wf = true) : keyOf Tryd.prog 2 (.int .i64 n) = some (.int .i64 n) := Maps.keyOf_int_mk Tryd.underlying2 hw
/-- The map and the two styles, while the map is filled and read. -/
def MK (Bm B B4 : Nat) (s : St) (w0 W : World) (l : List (Int × Nat)) : Prop :=
  W.ownsMap Tryd.prog 2 heldR Bm l.length (mapD B l) ∧ StAt W B s ∧ StAt W B4 St.zero ∧ Below w0.heap.size w0 W ∧ B < Bm ∧ B4 < Bm ∧ w0.heap.size ≤ B ∧ B ≠ B4
theorem MK.start {B B4 : Nat} {s : St} {w0 W : World} (h1 : StAt W B s) (h2 : StAt W B4 St.zero) (h3 : Below w0.heap.size w0 W) (h4 : w0.heap.size ≤ B) (h5 : B ≠ B4) : MK W.heap.size B B4 s w0 (W.alloc (.map #[] 0)) [] :=
  ⟨World.ownsMap_made _ _ _ _, h1.below (bal' _ _), h2.below (bal' _ _), h3.trans ((bal' _ _).mono h3.size), h1.1, h2.1, h4, h5⟩
theorem MK.ins {Bm B B4 : Nat} {s : St} {w0 : World} {w : World} {l : List (Int × Nat)} {ops : Array Oper} {rest : List Oper} {o : Oper} {a : Act} {Q : Exit → Act → World → Prop}
    (k : MK Bm B B4 s w0 w l) (hg : o.guard = none) (m x v : Operand) (hop : o.op = Op.insert 45 m x v) (hl : l.length < 1000) (hm : a.eval m = .map (some Bm)) (n : Int) (f : Nat) (hx : a.eval x = .int .i64 n) (hw : (Lit.int .i64 n).wf = true) (hv : a.eval v = clo f B)
    (hK : ∀ w', MK Bm B B4 s w0 w' (l ++ [(n, f)]) → wpList Tryd.prog ops Q rest (a.put o.dst undef) w') :
    wpList Tryd.prog ops Q (o :: rest) a w := by
  refine wpList_plain hg fun K' hK' => ?_
  obtain ⟨k1, k2, k3, k4, k5, k6, k7, k8⟩ := k
  obtain ⟨w', hrun, r1, r2⟩ := k1.update keyed64 Tryd.underlying45 (by unfold maxLen; omega) (val := clo f B) (d := .held (clo f B)) (ps := []) (key64 n hw) rfl
  unfold Oper.wp
  simp [execOp, hop, hm, hx, hv, hrun, Result.andThen]
  refine hK' _ _ (hK w' ⟨?_, k2.grown r2 (by simp; omega), k3.grown r2 (by simp; omega), k4.grown r2 k4.size (fun j hj => by cases hj; omega), k5, k6, k7, k8⟩)
  rw [mapD_snoc, List.length_append]; exact r1
theorem MK.look {Bm B B4 : Nat} {s : St} {w0 : World} {w : World} {ops : Array Oper} {rest : List Oper} {o : Oper} {a : Act} {Q : Exit → Act → World → Prop}
    (k : MK Bm B B4 s w0 w CH) (hg : o.guard = none) (m x : Operand) (hop : o.op = Op.lookup 45 m x true) (hm : a.eval m = .map (some Bm)) (n : Int) (v : Value) (b : Bool) (hlk : Look B n v b) (hx : a.eval x = .int .i64 n) (hw : (Lit.int .i64 n).wf = true)
    (hK : wpList Tryd.prog ops Q rest (a.put o.dst (.tuple #[v, .bool b])) w) :
    wpList Tryd.prog ops Q (o :: rest) a w := by
  refine wpList_lookup_own_ok w hg m x _ hop _ _ keyed64 Tryd.underlying45 heldR (zero_fn w) (.held .nilFunc) [] rfl Bm _ _ hm k.1 _ _ hx (key64 n hw) ?_
  intro v' ps hv'
  rw [hlk.1]
  have : v' = v := by
    have h := hlk.2
    simp only [heldR, Option.some.injEq, Prod.mk.injEq] at hv'
    rw [h] at hv'
    exact DataW.held.inj hv'.1
  rw [this]; exact hK
/-- The style's change in one round. -/
theorem MK.chg {Bm B B4 : Nat} {s s' : St} {w0 W W' : World} {l : List (Int × Nat)} (k : MK Bm B B4 s w0 W l) (h : StAt W' B s') (hg : W.grownBy W' (some B)) : MK Bm B B4 s' w0 W' l := by
  obtain ⟨k1, k2, k3, k4, k5, k6, k7, k8⟩ := k
  exact ⟨k1.kept hg (by simp; omega), h, k3.grown hg (by simpa using k8), k4.grown hg k4.size (fun j hj => by cases hj; omega), k5, k6, k7, k8⟩
theorem fold_isMap (B : Nat) (l : List (Int × Nat)) : ∀ D : DataW Value, Maps.IsMap D → Maps.IsMap (l.foldl (fun D p => D.put (.int .i64 p.1) (.held (clo p.2 B))) D) := by
  induction l with
  | nil => intro D h; exact h
  | cons p l ih => intro D h; exact ih _ (h.put _ _)
def putD (B : Nat) (D : DataW Value) (p : Int × Nat) : DataW Value := D.put (.int .i64 p.1) (.held (clo p.2 B))
theorem look_hit (B i : Nat) (n : Int) (f : Nat) (h : CH = CH.take i ++ (n, f) :: CH.drop (i + 1)) (h2 : ∀ p ∈ CH.drop (i + 1), n ≠ p.1) : Look B n (clo f B) true := by
  have e : mapD B CH = (CH.drop (i + 1)).foldl (putD B) (putD B ((CH.take i).foldl (putD B) (DataW.map [])) (n, f)) := by
    show CH.foldl (putD B) (DataW.map []) = _
    conv => lhs; rw [h, List.foldl_append, List.foldl_cons]
  have hm : Maps.IsMap ((CH.take i).foldl (putD B) (DataW.map [])) := fold_isMap B (CH.take i) (.map []) Maps.isMap_empty
  obtain ⟨h3, h4⟩ := fold_miss B n (CH.drop (i + 1)) (putD B ((CH.take i).foldl (putD B) (DataW.map [])) (n, f)) h2
  refine ⟨?_, ?_⟩
  · rw [e]; exact h3.trans (Maps.has_put_same (k := .int .i64 n) hm trivial _)
  · rw [e]; exact (h4 _).trans (Maps.atKey_put_same (k := .int .i64 n) hm trivial _ _)
/-- Each param: what the look-up gives, and what the call of it does. -/
theorem looks (B : Nat) (n : Int) :
    (Look B n .nilFunc false ∧ ∀ s, paramV s n = s) ∨ (∃ f g, Look B n (clo f B) true ∧ Chg f B n g ∧ (∀ s, paramV s n = g s) ∧ f ∈ [22, 23, 24, 25, 26, 27, 28, 29, 30, 31, 32]) := by
  by_cases h0 : n = 0
  · subst h0; exact .inr ⟨_, _, look_hit B 0 0 _ rfl (by decide), chg_zero B 0, fun _ => rfl, by simp⟩
  by_cases h1 : n = 1
  · subst h1; exact .inr ⟨_, _, look_hit B 1 1 _ rfl (by decide), chg_bold B 1, fun _ => rfl, by simp⟩
  by_cases h2 : n = 22
  · subst h2; exact .inr ⟨_, _, look_hit B 2 22 _ rfl (by decide), chg_unbold B 22, fun _ => rfl, by simp⟩
  by_cases h3 : n = 4
  · subst h3; exact .inr ⟨_, _, look_hit B 3 4 _ rfl (by decide), chg_under B 4, fun _ => rfl, by simp⟩
  by_cases h4 : n = 24
  · subst h4; exact .inr ⟨_, _, look_hit B 4 24 _ rfl (by decide), chg_ununder B 24, fun _ => rfl, by simp⟩
  by_cases h5 : n = 7
  · subst h5; exact .inr ⟨_, _, look_hit B 5 7 _ rfl (by decide), chg_turned B 7, fun _ => rfl, by simp⟩
  by_cases h6 : n = 27
  · subst h6; exact .inr ⟨_, _, look_hit B 6 27 _ rfl (by decide), chg_unturned B 27, fun _ => rfl, by simp⟩
  by_cases h7 : n = 39
  · subst h7; exact .inr ⟨_, _, look_hit B 15 39 _ rfl (by decide), chg_fore0 B 39, fun _ => rfl, by simp⟩
  by_cases h8 : n = 49
  · subst h8; exact .inr ⟨_, _, look_hit B 24 49 _ rfl (by decide), chg_back0 B 49, fun _ => rfl, by simp⟩
  by_cases h9 : 30 ≤ n ∧ n ≤ 37
  · have hp : ∀ s, paramV s n = { s with fore := n - 29 } := fun s => by
      unfold paramV
      rw [if_neg (by omega), if_neg (by omega), if_neg (by omega), if_neg (by omega), if_pos (by omega)]
    refine .inr ⟨22, _, ?_, chg_fore B n h9, hp, by simp⟩
    rcases (show n = 30 ∨ n = 31 ∨ n = 32 ∨ n = 33 ∨ n = 34 ∨ n = 35 ∨ n = 36 ∨ n = 37 from by omega) with rfl | rfl | rfl | rfl | rfl | rfl | rfl | rfl
    · exact look_hit B 7 30 _ rfl (by decide)
    · exact look_hit B 8 31 _ rfl (by decide)
    · exact look_hit B 9 32 _ rfl (by decide)
    · exact look_hit B 10 33 _ rfl (by decide)
    · exact look_hit B 11 34 _ rfl (by decide)
    · exact look_hit B 12 35 _ rfl (by decide)
    · exact look_hit B 13 36 _ rfl (by decide)
    · exact look_hit B 14 37 _ rfl (by decide)
  by_cases h10 : 40 ≤ n ∧ n ≤ 47
  · have hp : ∀ s, paramV s n = { s with back := n - 39 } := fun s => by
      unfold paramV
      rw [if_neg (by omega), if_neg (by omega), if_neg (by omega), if_neg (by omega), if_neg (by omega), if_neg (by omega), if_pos (by omega)]
    refine .inr ⟨23, _, ?_, chg_back B n h10, hp, by simp⟩
    rcases (show n = 40 ∨ n = 41 ∨ n = 42 ∨ n = 43 ∨ n = 44 ∨ n = 45 ∨ n = 46 ∨ n = 47 from by omega) with rfl | rfl | rfl | rfl | rfl | rfl | rfl | rfl
    · exact look_hit B 16 40 _ rfl (by decide)
    · exact look_hit B 17 41 _ rfl (by decide)
    · exact look_hit B 18 42 _ rfl (by decide)
    · exact look_hit B 19 43 _ rfl (by decide)
    · exact look_hit B 20 44 _ rfl (by decide)
    · exact look_hit B 21 45 _ rfl (by decide)
    · exact look_hit B 22 46 _ rfl (by decide)
    · exact look_hit B 23 47 _ rfl (by decide)
  refine .inl ⟨look_miss B n ?_, fun s => ?_⟩
  · simp only [CH, List.mem_cons, List.not_mem_nil, or_false]
    rintro p (rfl | rfl | rfl | rfl | rfl | rfl | rfl | rfl | rfl | rfl | rfl | rfl | rfl | rfl | rfl | rfl | rfl | rfl | rfl | rfl | rfl | rfl | rfl | rfl | rfl) <;> simp only <;> omega
  · unfold paramV
    rw [if_neg (by omega), if_neg (by omega), if_neg (by omega), if_neg (by omega), if_neg (by omega), if_neg (by omega), if_neg (by omega), if_neg (by omega)]
end Go.Proofs.YtedbmobjhpgiiaaDoor
namespace Go.Proofs.YtedbmobjhpgiiaaDoor
open Go.ChangeShapes Go.WideShapes Go.ChangeAt Go.RowKit
attribute [local go_sem ↓] Go.wp_at_zero Go.wp_at_succ
theorem wf64 (n : Int) (h : -9223372036854775808 ≤ n ∧ n ≤ 9223372036854775807) : (Lit.int .i64 n).wf = true := WalkArith.wf_i64 h
set_option maxHeartbeats 16000000 in
set_option maxRecDepth 20000 in
theorem implStyled_main (s : St) (bb off c : Nat) (xs : List Int) (w : World) (hbb : bb < w.heap.size) (hc : ∀ j, j < xs.length → w.cell? ⟨bb, off + j, none⟩ = some (.int .i64 (xs.getD j 0))) (hwf : ∀ j, j < xs.length → (Lit.int .i64 (xs.getD j 0)).wf = true) (h0 : 0 < xs.length) (h16 : xs.length ≤ 16) (hok : s.ok = true) :
    Calls Tryd.prog 7 #[stV s, .slice (some ⟨bb, off, none⟩) xs.length c] w fun e w' => e = .returned (stV (styledF s xs)) ∧ Below w.heap.size w w' := by
  have hxz : ((xs.length : Int) == 0) = false := by simp; intro e; simp [e] at h0
  have hi16 : ¬ 16 < (xs.length : Int) := by omega
  have hmm := @run_makeMap Tryd.prog
  have h2 := StAt.new w s 25
  have h4 := StAt.new (w.alloc (Obj.cells #[.int .i64 s.fore, .int .i64 s.back, .bool s.bold, .bool s.under, .bool s.turned] 25)) St.zero 25
  have h2' := h2.below (w' := (w.alloc (Obj.cells #[.int .i64 s.fore, .int .i64 s.back, .bool s.bold, .bool s.under, .bool s.turned] 25)).alloc (Obj.cells #[.int .i64 0, .int .i64 0, .bool false, .bool false, .bool false] 25)) ((Below.refl _ _).alloc (Nat.le_refl _) _)
  have e4 : (w.alloc (Obj.cells #[.int .i64 s.fore, .int .i64 s.back, .bool s.bold, .bool s.under, .bool s.turned] 25)).heap.size = w.heap.size + 1 := by simp
  rw [e4] at h4
  have hbA : Below w.heap.size w ((w.alloc (Obj.cells #[.int .i64 s.fore, .int .i64 s.back, .bool s.bold, .bool s.under, .bool s.turned] 25)).alloc (Obj.cells #[.int .i64 0, .int .i64 0, .bool false, .bool false, .bool false] 25)) := ((Below.refl _ _).alloc (Nat.le_refl _) _).alloc (by simp) _
  have hOK := implStyleOk_any s
  rw [hok] at hOK
  unfold stV at *
  go_enter Tryd.func7, Tryd.ntmps7
  go_wp2_with fail
  refine (hOK _).mono ?_
  rintro e w2 ⟨rfl, hb2⟩
  have k2 := h2'.below hb2
  have k4 := h4.below hb2
  have kb := hbA.trans (hb2.mono hbA.size)
  clear h2 h4 h2' e4 hbA hb2 hOK hok
  have hk := MK.start k2 k4 kb (Nat.le_refl _) (by omega)
  clear k2 k4 kb
  go_wp2_with (refine MK.ins hk rfl _ _ _ rfl (by decide) rfl _ _ rfl (by decide) rfl ?_; clear hk; intro w' hk)
  have hk : MK w2.heap.size w.heap.size (w.heap.size + 1) s w w' CH := hk
  generalize w2.heap.size = Bm at *
  clear hmm
  go_loopw [57] (fun i wr => ∃ j : Nat, i = .int .i64 j ∧ j ≤ xs.length ∧ MK Bm w.heap.size (w.heap.size + 1) (styledF s (xs.take j)) w wr CH) (fun i _ => xs.length - (intOf i).toNat)
  case atStart => exact ⟨0, rfl, Nat.zero_le _, hk⟩
  case round =>
    clear hk
    obtain ⟨j, rfl, hj, hk⟩ := hrel
    by_cases hlt : j < xs.length
    · have hji : (j : Int) < (xs.length : Int) := by omega
      have hj0 : (0 : Int) ≤ (j : Int) := by omega
      have hst : Hid (styledF s (xs.take (j + 1)) = paramV (styledF s (xs.take j)) (xs.getD j 0)) := by
        show _ = _
        rw [List.take_succ_eq_append_getElem hlt, styledF, List.foldl_append]
        simp [styledF, hlt]
      have hcj := (hk.2.2.2.1.cell (p := ⟨bb, off + j, none⟩) hbb).trans (hc j hlt)
      have hwj := hwf j hlt
      clear hc hwf
      generalize xs.getD j 0 = n at *
      generalize styledF s (xs.take j) = y at *
      rcases looks w.heap.size n with ⟨hlk, hpv⟩ | ⟨f, g, hlk, hcg, hpv, hf⟩
      · have hst' : Hid (styledF s (xs.take (j + 1)) = y) := by show _ = _; rw [hst.out, hpv]
        clear hst hpv
        go_wp2_with (refine MK.look hk rfl _ _ rfl rfl _ _ _ hlk rfl hwj ?_)
        go_roundw
        case rel => exact ⟨j + 1, by go_num, by omega, by rw [hst'.out]; exact hk⟩
        case measure => simp [intOf]; omega
      · have hst' : Hid (styledF s (xs.take (j + 1)) = g y) := by show _ = _; rw [hst.out, hpv]
        have hcl := fun W h => hcg y W h
        clear hst hpv hcg
        simp only [List.mem_cons, List.not_mem_nil, or_false] at hf
        rcases hf with rfl | rfl | rfl | rfl | rfl | rfl | rfl | rfl | rfl | rfl | rfl
        all_goals
          unfold clo at hlk
          go_wp2_with (refine MK.look hk rfl _ _ rfl rfl _ _ _ hlk rfl hwj ?_)
          refine (hcl _ hk.2.1).mono ?_
          rintro e w3 ⟨rfl, hs3, hg3⟩
          have hk3 := hk.chg hs3 hg3
          clear hk hcl hs3 hg3
          go_wp2
          go_roundw
          case rel => exact ⟨j + 1, by go_num, by omega, by rw [hst'.out]; exact hk3⟩
          case measure => simp [intOf]; omega
    · have hjn : j = xs.length := by omega
      have hji : ¬ (j : Int) < (xs.length : Int) := by omega
      rw [hjn, List.take_length] at hk
      have HY : Hid (∃ y, y = styledF s xs) := ⟨_, rfl⟩
      obtain ⟨y, hy⟩ := HY.out
      rw [← hy] at hk
      have HYY : Hid (y = styledF s xs) := hy
      clear hy HY hc hwf
      obtain ⟨_, k2, k4, kb, _⟩ := hk
      have kP := k4.put y
      have kbP := own_lift kb (putSt_grown wr (w.heap.size + 1) y) (by omega)
      obtain ⟨_, ⟨c0, c1, c2, c3, c4⟩, ⟨z0, z1, z2, z3, z4⟩⟩ := k2
      obtain ⟨_, ⟨d0, d1, d2, d3, d4⟩, ⟨x0, x1, x2, x3, x4⟩⟩ := k4
      obtain ⟨_, ⟨e0, e1, e2, e3, e4⟩, _⟩ := kP
      simp only [putSt] at kbP e0 e1 e2 e3 e4
      go_wp2
      exact bodyPost_ret (v := .agg #[.int .i64 y.fore, .int .i64 y.back, .bool y.bold, .bool y.under, .bool y.turned]) (by simp [results, Tryd.results7, go_sem, e0, e1, e2, e3, e4]) rfl ⟨by rw [← HYY.out], kbP⟩
end Go.Proofs.YtedbmobjhpgiiaaDoor
namespace Go.Proofs.YtedbmobjhpgiiaaDoor
open Go.ChangeShapes Go.WideShapes Go.ChangeAt Go.RowKit
set_option maxRecDepth 20000 in
set_option maxHeartbeats 4000000 in
theorem implStyled_none (s : St) (a : Option Addr) (c : Nat) (xs : List Int) (w : World) (hl : xs.length ≤ 1048576) (hn : ¬ (s.ok = true ∧ xs.length ≤ 16 ∧ xs ≠ [])) :
    Calls Tryd.prog 7 #[stV s, .slice a xs.length c] w fun e w' => e = .returned (stV St.zero) ∧ Below w.heap.size w w' := by
  have h2 := StAt.new w s 25
  have h4 := StAt.new (w.alloc (Obj.cells #[.int .i64 s.fore, .int .i64 s.back, .bool s.bold, .bool s.under, .bool s.turned] 25)) St.zero 25
  have e4 : (w.alloc (Obj.cells #[.int .i64 s.fore, .int .i64 s.back, .bool s.bold, .bool s.under, .bool s.turned] 25)).heap.size = w.heap.size + 1 := by simp
  rw [e4] at h4
  have hbA : Below w.heap.size w ((w.alloc (Obj.cells #[.int .i64 s.fore, .int .i64 s.back, .bool s.bold, .bool s.under, .bool s.turned] 25)).alloc (Obj.cells #[.int .i64 0, .int .i64 0, .bool false, .bool false, .bool false] 25)) := ((Below.refl _ _).alloc (Nat.le_refl _) _).alloc (by simp) _
  have hOK := implStyleOk_any s
  have H3 : s.ok = false ∨ (s.ok = true ∧ (((xs.length : Int) == 0) = true)) ∨ (s.ok = true ∧ (((xs.length : Int) == 0) = false) ∧ 16 < (xs.length : Int)) := by
    cases h : s.ok
    · exact .inl rfl
    · by_cases hx : xs = []
      · exact .inr (.inl ⟨rfl, by simp [hx]⟩)
      · refine .inr (.inr ⟨rfl, by simp; exact hx, ?_⟩)
        have : ¬ xs.length ≤ 16 := fun e => hn ⟨h, e, hx⟩
        omega
  clear hn
  unfold stV at *
  go_enter Tryd.func7, Tryd.ntmps7
  go_wp2_with fail
  refine (hOK _).mono ?_
  rintro e w2 ⟨rfl, hb2⟩
  have k4 := h4.below hb2
  have kb := hbA.trans (hb2.mono hbA.size)
  clear h2 h4 e4 hbA hb2 hOK
  have kP := k4.put St.zero
  have kbP := own_lift kb (putSt_grown w2 (w.heap.size + 1) St.zero) (by omega)
  obtain ⟨_, ⟨d0, d1, d2, d3, d4⟩, ⟨x0, x1, x2, x3, x4⟩⟩ := k4
  obtain ⟨_, ⟨e0, e1, e2, e3, e4⟩, _⟩ := kP
  simp only [putSt, St.zero] at kbP e0 e1 e2 e3 e4 d0 d1 d2 d3 d4
  rcases H3 with h | ⟨h, hz⟩ | ⟨h, hz, hi⟩
  all_goals
    rw [h]
    clear h
    go_wp2
    exact bodyPost_ret (v := .agg #[.int .i64 0, .int .i64 0, .bool false, .bool false, .bool false]) (by simp [results, Tryd.results7, go_sem, e0, e1, e2, e3, e4]) rfl ⟨rfl, kbP⟩
theorem implStyled_any (s : St) (v : Value) (xs : List Int) (w : World) (hv : SlI w v xs) (hwf : ∀ x ∈ xs, -9223372036854775808 ≤ x ∧ x ≤ 9223372036854775807) (hl : xs.length ≤ 1048576) :
    Calls Tryd.prog 7 #[stV s, v] w fun e w' => e = .returned (stV (styledV s xs)) ∧ Below w.heap.size w w' := by
  by_cases hc : s.ok = true ∧ xs.length ≤ 16 ∧ xs ≠ []
  · obtain ⟨h1, h2, h3⟩ := hc
    have hs : styledV s xs = styledF s xs := by unfold styledV; rw [if_pos ⟨h1, h2⟩, if_neg h3]
    obtain ⟨_, c, rfl, e | ⟨bb, off, rfl, hbb, hcl⟩⟩ := hv
    · exact absurd e h3
    · rw [hs]
      exact implStyled_main s bb off c xs w hbb hcl (fun j hj => by
        have e : xs.getD j 0 = xs[j] := by simp [List.getD, hj]
        rw [e]; exact wf64 _ (hwf _ (List.getElem_mem hj))) (List.length_pos_iff.2 h3) h2 h1
  · have hs : styledV s xs = St.zero := by
      unfold styledV
      by_cases hx : xs = []
      · subst hx; by_cases h1 : s.ok = true <;> simp [h1]
      · rw [if_neg (fun h => hc ⟨h.1, h.2, hx⟩)]
    obtain ⟨a, c, rfl, _⟩ := hv
    rw [hs]
    exact implStyled_none s a c xs w hl hc
end Go.Proofs.YtedbmobjhpgiiaaDoor
namespace Go.Proofs.YtedbmobjhpgiiaaDoor
open Go.ChangeShapes Go.WideShapes Go.ChangeAt Go.RowKit
theorem and_mask (n : Int) (k : Nat) (hk : k < 63) (m : Int) (hN : (BitVec.ofInt 64 m).toNat = 2 ^ k - 1) : 0 ≤ bits .and .i64 n m ∧ bits .and .i64 n m < 2 ^ k := by
  have key : (BitVec.ofInt 64 n &&& BitVec.ofInt 64 m).toNat = (n % ((2 ^ 64 : Nat) : Int)).toNat % 2 ^ k := by
    rw [BitVec.toNat_and, BitVec.toNat_ofInt, hN, Nat.and_two_pow_sub_one_eq_mod]
  have e : bits .and .i64 n m = IntKind.i64.wrap ((BitVec.ofInt 64 n &&& BitVec.ofInt 64 m).toNat : Nat) := rfl
  rw [e, key, IntKind.wrap_i64]
  have hlt : (n % ((2 ^ 64 : Nat) : Int)).toNat % 2 ^ k < 2 ^ k := Nat.mod_lt _ (Nat.two_pow_pos k)
  have hp : (2 : Nat) ^ k ≤ 2 ^ 62 := Nat.pow_le_pow_right (by omega) (by omega)
  have hc : ((2 ^ k : Nat) : Int) = (2 : Int) ^ k := by simp
  rw [← hc]
  generalize (n % ((2 ^ 64 : Nat) : Int)).toNat % 2 ^ k = q at *
  generalize 2 ^ k = K at *
  omega
theorem and_255 (n : Int) : 0 ≤ bits .and .i64 n 255 ∧ bits .and .i64 n 255 ≤ 255 := by
  have := and_mask n 8 (by decide) 255 (by decide)
  omega
/-- A slice of bytes that can be read. -/
def SlB (w : World) (v : Value) (xs : List Int) : Prop :=
  ∃ a c, v = .slice a xs.length c ∧ xs.length ≤ 4096 ∧ (∀ x ∈ xs, 0 ≤ x ∧ x < 256) ∧ (xs = [] ∨ ∃ b off, a = some ⟨b, off, none⟩ ∧ b < w.heap.size ∧ ∀ i, i < xs.length → w.cell? ⟨b, off + i, none⟩ = some (.int .u8 (xs.getD i 0)))
theorem SlB.below {w w' : World} {v : Value} {xs : List Int} (h : SlB w v xs) (hb : Below w.heap.size w w') : SlB w' v xs := by
  obtain ⟨a, c, hv, h1, h2, h | ⟨b, off, ha, hlt, hc⟩⟩ := h
  · exact ⟨a, c, hv, h1, h2, .inl h⟩
  · exact ⟨a, c, hv, h1, h2, .inr ⟨b, off, ha, Nat.lt_of_lt_of_le hlt hb.size, fun i hi => (hb.cell (p := ⟨b, off + i, none⟩) hlt).trans (hc i hi)⟩⟩

/-- The cursor's struct lies in block g: the bytes' slice, a place in it, a number. -/
def CurAt (w : World) (g : Nat) (v : Value) (xs : List Int) : Prop :=
  g < w.heap.size ∧ w.frozen? ⟨g, 0, none⟩ = false ∧ w.frozen? ⟨g, 1, none⟩ = false ∧ w.frozen? ⟨g, 2, none⟩ = false ∧ w.cell? ⟨g, 0, none⟩ = some v ∧
  (∃ i : Nat, i ≤ xs.length ∧ w.cell? ⟨g, 1, none⟩ = some (.int .i64 i)) ∧ (∃ h : Int, w.cell? ⟨g, 2, none⟩ = some (.int .i64 h)) ∧
  ∃ a c, v = .slice a xs.length c ∧ xs.length ≤ 4096 ∧ (∀ x ∈ xs, 0 ≤ x ∧ x < 256) ∧ (xs = [] ∨ ∃ b off, a = some ⟨b, off, none⟩ ∧ b < g ∧ ∀ i, i < xs.length → w.cell? ⟨b, off + i, none⟩ = some (.int .u8 (xs.getD i 0)))

theorem CurAt.drewN {w : World} {g : Nat} {v : Value} {xs : List Int} (h : CurAt w g v xs) (n : Nat) : CurAt (w.drewN n) g v xs := h
theorem setCell_cell_ne (w : World) (g a b : Nat) (u : Value) (h : a ≠ b) : (w.setCell ⟨g, b, none⟩ u).cell? ⟨g, a, none⟩ = w.cell? ⟨g, a, none⟩ := by
  simp [World.setCell, World.cell?, Array.getElem?_modify]
  cases hh : w.heap[g]? with
  | none => simp
  | some o => cases o <;> simp [Ne.symm h]
theorem setCell_far (w : World) (p q : Addr) (u : Value) (h : q.block ≠ p.block) : (w.setCell p u).cell? q = w.cell? q :=
  World.cell?_of_block (Below.heap_setCell _ _ _ _ h)
theorem setCell_frozen (w : World) (p q : Addr) (u : Value) : (w.setCell p u).frozen? q = w.frozen? q := by simp [go_sem]
theorem setCell_same (w : World) (p : Addr) (u v : Value) (h : w.cell? p = some v) : (w.setCell p u).cell? p = some u := by simp [go_sem, h]
theorem CurAt.set2 {w : World} {g : Nat} {v : Value} {xs : List Int} (hc : CurAt w g v xs) (H : Int) : CurAt (w.setCell ⟨g, 2, none⟩ (.int .i64 H)) g v xs ∧ w.grownBy (w.setCell ⟨g, 2, none⟩ (.int .i64 H)) (some g) := by
  obtain ⟨hg, z0, z1, z2, c0, ⟨i, hi, c1⟩, ⟨h, c2⟩, a, c, hv, hl, hx, hr⟩ := hc
  refine ⟨⟨by simpa using hg, by rw [setCell_frozen]; exact z0, by rw [setCell_frozen]; exact z1, by rw [setCell_frozen]; exact z2, ?_, ⟨i, hi, ?_⟩, ⟨H, setCell_same _ _ _ _ c2⟩, a, c, hv, hl, hx, ?_⟩, ⟨rfl, rfl, rfl, by simp, fun k _ hk => heap_setCell_other w ⟨g, 2, none⟩ k _ (fun e => hk (by simp [e]))⟩⟩
  · rw [setCell_cell_ne _ _ _ _ _ (by decide)]; exact c0
  · rw [setCell_cell_ne _ _ _ _ _ (by decide)]; exact c1
  · rcases hr with hr | ⟨b, off, ha, hb, hr⟩
    · exact .inl hr
    · exact .inr ⟨b, off, ha, hb, fun j hj => by rw [setCell_far _ _ _ _ (by dsimp only; omega)]; exact hr j hj⟩
theorem CurAt.set1 {w : World} {g : Nat} {v : Value} {xs : List Int} (hc : CurAt w g v xs) (q : Int) (k : Nat) (hq : q = (k : Int)) (hk : k ≤ xs.length) : CurAt (w.setCell ⟨g, 1, none⟩ (.int .i64 q)) g v xs ∧ w.grownBy (w.setCell ⟨g, 1, none⟩ (.int .i64 q)) (some g) := by
  obtain ⟨hg, z0, z1, z2, c0, ⟨i, hi, c1⟩, ⟨h, c2⟩, a, c, hv, hl, hx, hr⟩ := hc
  subst hq
  refine ⟨⟨by simpa using hg, by rw [setCell_frozen]; exact z0, by rw [setCell_frozen]; exact z1, by rw [setCell_frozen]; exact z2, ?_, ⟨k, hk, setCell_same _ _ _ _ c1⟩, ⟨h, ?_⟩, a, c, hv, hl, hx, ?_⟩, ⟨rfl, rfl, rfl, by simp, fun k _ hk => heap_setCell_other w ⟨g, 1, none⟩ k _ (fun e => hk (by simp [e]))⟩⟩
  · rw [setCell_cell_ne _ _ _ _ _ (by decide)]; exact c0
  · rw [setCell_cell_ne _ _ _ _ _ (by decide)]; exact c2
  · rcases hr with hr | ⟨b, off, ha, hb, hr⟩
    · exact .inl hr
    · exact .inr ⟨b, off, ha, hb, fun j hj => by rw [setCell_far _ _ _ _ (by dsimp only; omega)]; exact hr j hj⟩
theorem gtr {a b c : World} {row : Option Nat} (h : a.grownBy b row) (k : b.grownBy c row) : a.grownBy c row :=
  ⟨k.os.trans h.os, k.tape.trans h.tape, k.output.trans h.output, Nat.le_trans h.size k.size, fun i hi hr => (k.block i (Nat.lt_of_lt_of_le hi h.size) hr).trans (h.block i hi hr)⟩
theorem gdr {a b : World} {row : Option Nat} (h : a.grownBy b row) (n : Nat) : a.grownBy (b.drewN n) row := ⟨h.os, h.tape, h.output, h.size, h.block⟩

set_option maxHeartbeats 1000000 in
theorem l1Byte_a (g : Nat) (v : Value) (xs : List Int) (w : World) (hc : CurAt w g v xs) :
    Calls Tryd.prog 42 #[.pointer (some ⟨g, 0, none⟩)] w fun e w' => ∃ x, e = .returned (.int .i64 x) ∧ 0 ≤ x ∧ x ≤ 255 ∧ CurAt w' g v xs ∧ w.grownBy w' (some g) := by
  have HC : Hid (CurAt w g v xs) := hc
  obtain ⟨hg, z0, z1, z2, c0, ⟨i, hi, c1⟩, ⟨h, c2⟩, a, c, rfl, hl, hx, hr⟩ := hc
  by_cases hlt : i < xs.length
  · rcases hr with hr | ⟨b, off, rfl, hbg, hr⟩
    · rw [hr] at hlt; simp at hlt
    · have hbne : b ≠ g := by omega
      have hri := hr i hlt
      have hxi := hx (xs.getD i 0) (by simp [List.getD, hlt])
      generalize xs.getD i 0 = y at *
      have hlti : (i : Int) < (xs.length : Int) := by omega
      go_enter Tryd.func42, Tryd.ntmps42
      go_wp2
      generalize wrap64 (wrap64 (h * 6364136223846793005) + 1442695040888963407) = H
      go_quiet (fail)
      go_wp2
      generalize bits BinOp.and IntKind.i64 (bits BinOp.xor IntKind.i64 (H / 8589934592) (H / 35184372088832)) 255 = X
      go_quiet (fail)
      go_wp2
      go_quiet (fail)
      go_wp2
      go_ret
      have k2 := HC.out.set2 H
      have k1 := fun n => (k2.1.drewN n).set1 ((i : Int) + 1) (i + 1) (by omega) (by omega)
      exact ⟨_, rfl, (and_255 _).1, (and_255 _).2, (k1 _).1, gtr (gdr k2.2 _) (k1 _).2⟩
  · have hlti : ¬ (i : Int) < (xs.length : Int) := by omega
    go_enter Tryd.func42, Tryd.ntmps42
    go_wp2
    generalize wrap64 (wrap64 (h * 6364136223846793005) + 1442695040888963407) = H
    go_quiet (fail)
    go_wp2
    go_quiet (fail)
    go_wp2
    go_ret
    have k2 := HC.out.set2 H
    exact ⟨_, rfl, (and_255 _).1, (and_255 _).2, (k2.1.drewN _).drewN _, gdr (gdr k2.2 _) _⟩

set_option maxHeartbeats 1000000 in
theorem l1Below_a (g : Nat) (v : Value) (xs : List Int) (n : Int) (w : World) (hc : CurAt w g v xs) :
    Calls Tryd.prog 20 #[.pointer (some ⟨g, 0, none⟩), .int .i64 n] w fun e w' => ∃ x, e = .returned (.int .i64 x) ∧ 0 ≤ x ∧ (0 < n → x < n) ∧ (n ≤ 0 → x = 0) ∧ CurAt w' g v xs ∧ w.grownBy w' (some g) := by
  by_cases h0 : n ≤ 0
  · go_enter Tryd.func20, Tryd.ntmps20
    go_wp2
    go_ret
    exact ⟨0, rfl, by omega, by omega, by omega, hc, World.grownBy.refl _ _⟩
  · have hz : (n == 0) = false := by simp; omega
    by_cases h1 : n ≤ 256
    · go_enter Tryd.func20, Tryd.ntmps20
      go_wp2_with fail
      refine (l1Byte_a g v xs _ hc).mono ?_
      rintro e w1 ⟨x, rfl, hx0, hx1, hc1, hg1⟩
      go_wp2
      go_ret
      have hm0 := Int.emod_nonneg x (show n ≠ 0 by omega)
      have hm1 := Int.emod_lt_of_pos x (show 0 < n by omega)
      exact ⟨_, rfl, hm0, fun _ => hm1, fun h => by omega, hc1, hg1⟩
    · go_enter Tryd.func20, Tryd.ntmps20
      go_wp2_with fail
      refine (l1Byte_a g v xs _ hc).mono ?_
      rintro e w1 ⟨x1, rfl, hx10, hx11, hc1, hg1⟩
      go_wp2_with fail
      refine (l1Byte_a g v xs _ hc1).mono ?_
      rintro e w2 ⟨x2, rfl, hx20, hx21, hc2, hg2⟩
      go_wp2_with fail
      refine (l1Byte_a g v xs _ hc2).mono ?_
      rintro e w3 ⟨x3, rfl, hx30, hx31, hc3, hg3⟩
      go_wp2_with fail
      refine (l1Byte_a g v xs _ hc3).mono ?_
      rintro e w4 ⟨x4, rfl, hx40, hx41, hc4, hg4⟩
      go_wp2
      go_ret
      have hm0 := Int.emod_nonneg (x1 * 16777216 + x2 * 65536 + x3 * 256 + x4) (show n ≠ 0 by omega)
      have hm1 := Int.emod_lt_of_pos (x1 * 16777216 + x2 * 65536 + x3 * 256 + x4) (show 0 < n by omega)
      exact ⟨_, rfl, hm0, fun _ => hm1, fun h => by omega, hc4, gtr (gtr (gtr hg1 hg2) hg3) hg4⟩
end Go.Proofs.YtedbmobjhpgiiaaDoor
namespace Go.Proofs.YtedbmobjhpgiiaaDoor
open Go.ChangeShapes Go.WideShapes Go.ChangeAt Go.RowKit
theorem l1Once_a (g : Nat) (v : Value) (xs : List Int) (n : Int) (w : World) (hc : CurAt w g v xs) :
    Calls Tryd.prog 21 #[.pointer (some ⟨g, 0, none⟩), .int .i64 n] w fun e w' => ∃ b : Bool, e = .returned (.bool b) ∧ CurAt w' g v xs ∧ w.grownBy w' (some g) := by
  go_enter Tryd.func21, Tryd.ntmps21
  go_wp2_with fail
  refine (l1Below_a g v xs n _ hc).mono ?_
  rintro e w1 ⟨x, rfl, hx0, _, _, hc1, hg1⟩
  go_wp2
  go_ret
  exact ⟨_, rfl, hc1, hg1⟩

/-- The cursor stays while the world only grows above. -/
theorem CurAt.below {w w' : World} {g : Nat} {v : Value} {xs : List Int} (h : CurAt w g v xs) (hb : Below w.heap.size w w') : CurAt w' g v xs := by
  obtain ⟨hg, z0, z1, z2, c0, ⟨i, hi, c1⟩, ⟨h, c2⟩, a, c, hv, hl, hx, hr⟩ := h
  refine ⟨Nat.lt_of_lt_of_le hg hb.size, (hb.frozen (p := ⟨g, 0, none⟩) hg).trans z0, (hb.frozen (p := ⟨g, 1, none⟩) hg).trans z1, (hb.frozen (p := ⟨g, 2, none⟩) hg).trans z2, (hb.cell (p := ⟨g, 0, none⟩) hg).trans c0, ⟨i, hi, (hb.cell (p := ⟨g, 1, none⟩) hg).trans c1⟩, ⟨h, (hb.cell (p := ⟨g, 2, none⟩) hg).trans c2⟩, a, c, hv, hl, hx, ?_⟩
  rcases hr with hr | ⟨b, off, ha, hb', hr⟩
  · exact .inl hr
  · exact .inr ⟨b, off, ha, hb', fun j hj => (hb.cell (p := ⟨b, off + j, none⟩) (by dsimp only; omega)).trans (hr j hj)⟩
theorem bal (w : World) (o : Obj) : Below w.heap.size w (w.alloc o) := (Below.refl _ _).alloc (Nat.le_refl _) o

theorem lit_cell (w : World) (L : List Int) (K : IntKind) (t : TypeId) (k : Nat) (hk : k < L.length) : (w.alloc (.cells (L.map (Value.int K)).toArray t)).cell? ⟨w.heap.size, k, none⟩ = some (.int K (L.getD k 0)) := by
  rw [cell_of_row _ w.heap.size k _ t (0, 0) (heap_alloc_new w _)]
  simp [hk]
/-- What a drawn number picks out of a row that has just been laid. -/
theorem lit_pick {w w1 : World} {g : Nat} (L : List Int) (K : IntKind) (t : TypeId) (hg : (w.alloc (.cells (L.map (Value.int K)).toArray t)).grownBy w1 (some g)) (hlt : g < w.heap.size) (k : Nat) (hk : k < L.length) : w1.cell? ⟨w.heap.size, k, none⟩ = some (.int K (L.getD k 0)) :=
  hg.cell (lit_cell w L K t k hk) (by simp; omega)
theorem CurAt.new (w : World) (a : Option Addr) (c : Nat) (xs : List Int) (h : Int) (T : TypeId) (hs : SlB w (.slice a xs.length c) xs) : CurAt (w.alloc (.cells #[.slice a xs.length c, .int .i64 0, .int .i64 h] T)) w.heap.size (.slice a xs.length c) xs := by
  obtain ⟨a', c', hv, hl, hx, hr⟩ := hs
  refine ⟨by simp, by simp [go_sem], by simp [go_sem], by simp [go_sem], by simp [go_sem], ⟨0, Nat.zero_le _, by simp [go_sem]⟩, ⟨h, by simp [go_sem]⟩, a', c', hv, hl, hx, ?_⟩
  rcases hr with hr | ⟨b, off, ha, hb, hr⟩
  · exact .inl hr
  · exact .inr ⟨b, off, ha, hb, fun j hj => ((bal w _).cell (p := ⟨b, off + j, none⟩) hb).trans (hr j hj)⟩

set_option maxHeartbeats 1000000 in
theorem l1New_a (v : Value) (xs : List Int) (w : World) (hv : SlB w v xs) :
    Calls Tryd.prog 18 #[v] w fun e w' => e = .returned (.pointer (some ⟨w.heap.size, 0, none⟩)) ∧ CurAt w' w.heap.size v xs ∧ Below w.heap.size w w' := by
  have HV : Hid (SlB w v xs) := hv
  obtain ⟨a, c, rfl, hl, hx, hr⟩ := hv
  go_enter Tryd.func18, Tryd.ntmps18
  go_wp2
  go_loop [3, 4] (fun h i => ∃ (k : Nat) (H : Int), k ≤ xs.length ∧ i = .int .i64 k ∧ h = .int .i64 H) (fun _ i => xs.length - (intOf i).toNat)
  case atStart => exact ⟨0, _, Nat.zero_le _, rfl, rfl⟩
  case round =>
    obtain ⟨k, H, hk, rfl, rfl⟩ := hrel
    by_cases hlt : k < xs.length
    · rcases hr with hr | ⟨b, off, rfl, hb, hr⟩
      · rw [hr] at hlt; simp at hlt
      · have hri := hr k hlt
        generalize hy : xs.getD k 0 = y at hri
        clear hy hr hx
        go_wp2
        go_round
        case rel => exact ⟨k + 1, _, by omega, by go_num, rfl⟩
        case measure => simp [intOf]; omega
    · clear hr hx
      go_wp2
      go_ret
      exact ⟨rfl, CurAt.new w a c xs H _ HV.out, bal w _⟩

theorem own_grow {w w' : World} {base : Nat} {e : TypeId} {size : Nat} {v : Value} {n : Nat} {xs : List Value} {g : Nat} (h : w.ownsRow base e size v n xs) (hg : w.grownBy w' (some g)) (hlt : g < base) : w'.ownsRow base e size v n xs :=
  h.kept hg (by
    cases hv : v.ownBlock with
    | none => exact .inl rfl
    | some b => right; intro e; have := (h.lt b hv).1; cases e; omega)

theorem CurAt.grown_own {w w' : World} {g : Nat} {v : Value} {xs : List Int} {row : Option Nat} (h : CurAt w g v xs) (hg : w.grownBy w' row) (hr : ∀ k, row = some k → g < k) : CurAt w' g v xs := by
  have hb : ∀ k, k ≤ g → w'.heap[k]? = w.heap[k]? := fun k hk => hg.block k (by have := h.1; omega) (fun e => by have := hr k e.symm; omega)
  obtain ⟨hlt, z0, z1, z2, c0, ⟨i, hi, c1⟩, ⟨h, c2⟩, a, c, hv, hl, hx, hrr⟩ := h
  have hbg := hb g (Nat.le_refl _)
  refine ⟨Nat.lt_of_lt_of_le hlt hg.size, (World.frozen?_of_block (w := w) hbg).trans z0, (World.frozen?_of_block (w := w) hbg).trans z1, (World.frozen?_of_block (w := w) hbg).trans z2, (World.cell?_of_block (w := w) hbg).trans c0, ⟨i, hi, (World.cell?_of_block (w := w) hbg).trans c1⟩, ⟨h, (World.cell?_of_block (w := w) hbg).trans c2⟩, a, c, hv, hl, hx, ?_⟩
  rcases hrr with hrr | ⟨b, off, ha, hb', hrr⟩
  · exact .inl hrr
  · exact .inr ⟨b, off, ha, hb', fun j hj => (World.cell?_of_block (w := w) (hb b (by omega))).trans (hrr j hj)⟩
theorem grownBy_own {w w' w0 : World} {g : Nat} {row : Option Nat} (h : w0.grownBy w (some g)) (hg : w.grownBy w' row) (hr : ∀ k, row = some k → w0.heap.size ≤ k) : w0.grownBy w' (some g) :=
  ⟨hg.os.trans h.os, hg.tape.trans h.tape, hg.output.trans h.output, Nat.le_trans h.size hg.size, fun i hi hne => (hg.block i (Nat.lt_of_lt_of_le hi h.size) (fun e => by have := hr i e.symm; omega)).trans (h.block i hi hne)⟩

end Go.Proofs.YtedbmobjhpgiiaaDoor
namespace Go.Proofs.YtedbmobjhpgiiaaDoor
open Go.ChangeShapes Go.WideShapes Go.ChangeAt Go.RowKit
theorem StAt.drawn {w w' : World} {B g : Nat} {s : St} (h : StAt w B s) (hg : w.grownBy w' (some g)) (hne : g ≠ B) : StAt w' B s := h.grown hg (by intro e; cases e; exact hne rfl)
theorem putSt_cur {w : World} {g B : Nat} {v : Value} {xs : List Int} (h : CurAt w g v xs) (hlt : g < B) (s : St) : CurAt (putSt w B s) g v xs := h.grown_own (putSt_grown w B s) (fun k hk => by cases hk; exact hlt)
theorem putSt_up {w0 w : World} {g B : Nat} (h : w0.grownBy w (some g)) (hB : w0.heap.size ≤ B) (s : St) : w0.grownBy (putSt w B s) (some g) := grownBy_own h (putSt_grown w B s) (fun k hk => by cases hk; exact hB)

set_option maxRecDepth 20000 in
set_option maxHeartbeats 2000000 in
theorem l3Draw_a (g : Nat) (v : Value) (xs : List Int) (w : World) (hc : CurAt w g v xs) :
    Calls Tryd.prog 41 #[.pointer (some ⟨g, 0, none⟩)] w fun e w' => ∃ s : St, e = .returned (stV s) ∧ CurAt w' g v xs ∧ w.grownBy w' (some g) := by
  have hlt := hc.1
  have h0 := StAt.new w St.zero 25
  have hg0 := World.grownBy_alloc w (Obj.cells #[.int .i64 0, .int .i64 0, .bool false, .bool false, .bool false] 25) (some g)
  have hc0 := hc.below (bal w (Obj.cells #[.int .i64 0, .int .i64 0, .bool false, .bool false, .bool false] 25))
  go_enter Tryd.func41, Tryd.ntmps41
  go_wp2_with fail
  refine (l1Once_a g v xs 3 _ hc0).mono ?_
  rintro e w1 ⟨b, rfl, hc1, hg1⟩
  have k1 := h0.drawn hg1 (by omega)
  have hu1 := gtr hg0 hg1
  clear h0 hg0 hc0 hg1
  cases b
  · go_wp2_with fail
    refine (l1Below_a g v xs 9 _ hc1).mono ?_
    rintro e w2 ⟨x1, rfl, _, _, _, hc2, hg2⟩
    have k2 := k1.drawn hg2 (by omega)
    have hu2 := gtr hu1 hg2
    clear hg2 k1 hu1 hc1
    go_wp2_with fail
    refine (l1Below_a g v xs 9 _ hc2).mono ?_
    rintro e w3 ⟨x2, rfl, _, _, _, hc3, hg3⟩
    have k3 := k2.drawn hg3 (by omega)
    have hu3 := gtr hu2 hg3
    clear hg3 k2 hu2 hc2
    go_wp2_with fail
    refine (l1Once_a g v xs 3 _ hc3).mono ?_
    rintro e w4 ⟨b3, rfl, hc4, hg4⟩
    have k4 := k3.drawn hg4 (by omega)
    have hu4 := gtr hu3 hg4
    clear hg4 k3 hu3 hc3
    go_wp2_with fail
    refine (l1Once_a g v xs 4 _ hc4).mono ?_
    rintro e w5 ⟨b4, rfl, hc5, hg5⟩
    have k5 := k4.drawn hg5 (by omega)
    have hu5 := gtr hu4 hg5
    clear hg5 k4 hu4 hc4
    go_wp2_with fail
    refine (l1Once_a g v xs 4 _ hc5).mono ?_
    rintro e w6 ⟨b5, rfl, hc6, hg6⟩
    have k6 := k5.drawn hg6 (by omega)
    have hu6 := gtr hu5 hg6
    clear hg6 k5 hu5 hc5
    have kP := k6.put ⟨x1, x2, b3, b4, b5⟩
    have cP := putSt_cur hc6 hlt ⟨x1, x2, b3, b4, b5⟩
    have uP := putSt_up hu6 (Nat.le_refl w.heap.size) ⟨x1, x2, b3, b4, b5⟩
    obtain ⟨_, ⟨d0, d1, d2, d3, d4⟩, ⟨y0, y1, y2, y3, y4⟩⟩ := k6
    obtain ⟨_, ⟨e0, e1, e2, e3, e4⟩, _⟩ := kP
    simp only [putSt] at cP uP e0 e1 e2 e3 e4
    go_wp2
    exact bodyPost_ret (v := .agg #[.int .i64 x1, .int .i64 x2, .bool b3, .bool b4, .bool b5]) (by simp [results, Tryd.results41, go_sem, e0, e1, e2, e3, e4]) rfl ⟨⟨x1, x2, b3, b4, b5⟩, rfl, cP, uP⟩
  · have kP := k1.put St.zero
    have cP := putSt_cur hc1 hlt St.zero
    have uP := putSt_up hu1 (Nat.le_refl w.heap.size) St.zero
    obtain ⟨_, ⟨d0, d1, d2, d3, d4⟩, ⟨y0, y1, y2, y3, y4⟩⟩ := k1
    obtain ⟨_, ⟨e0, e1, e2, e3, e4⟩, _⟩ := kP
    simp only [putSt, St.zero] at cP uP e0 e1 e2 e3 e4 d0 d1 d2 d3 d4
    go_wp2
    exact bodyPost_ret (v := .agg #[.int .i64 0, .int .i64 0, .bool false, .bool false, .bool false]) (by simp [results, Tryd.results41, go_sem, e0, e1, e2, e3, e4]) rfl ⟨St.zero, rfl, cP, uP⟩
theorem StAt.setFore {w : World} {B : Nat} {s : St} (h : StAt w B s) (y : Int) : StAt (w.setCell ⟨B, 0, none⟩ (.int .i64 y)) B { s with fore := y } := by
  obtain ⟨hlt, ⟨c0, c1, c2, c3, c4⟩, ⟨z0, z1, z2, z3, z4⟩⟩ := h
  refine ⟨by simpa using hlt, ⟨by simp [go_sem, c0], ?_, ?_, ?_, ?_⟩, ⟨by simp [go_sem, z0], by simp [go_sem, z1], by simp [go_sem, z2], by simp [go_sem, z3], by simp [go_sem, z4]⟩⟩
  · rw [setCell_ne' _ _ _ _ _ (by decide)]; exact c1
  · rw [setCell_ne' _ _ _ _ _ (by decide)]; exact c2
  · rw [setCell_ne' _ _ _ _ _ (by decide)]; exact c3
  · rw [setCell_ne' _ _ _ _ _ (by decide)]; exact c4
def RF : List Int := [-1, 8, 9, 4611686018427387904]
set_option maxRecDepth 20000 in
set_option maxHeartbeats 2000000 in
theorem l3DrawAny_a (g : Nat) (v : Value) (xs : List Int) (w : World) (hc : CurAt w g v xs) :
    Calls Tryd.prog 19 #[.pointer (some ⟨g, 0, none⟩)] w fun e w' => ∃ s : St, e = .returned (stV s) ∧ CurAt w' g v xs ∧ w.grownBy w' (some g) := by
  have hlt := hc.1
  have h0 := StAt.new w St.zero 25
  have hg0 := World.grownBy_alloc w (Obj.cells #[.int .i64 0, .int .i64 0, .bool false, .bool false, .bool false] 25) (some g)
  have hc0 := hc.below (bal w (Obj.cells #[.int .i64 0, .int .i64 0, .bool false, .bool false, .bool false] 25))
  go_enter Tryd.func19, Tryd.ntmps19
  go_wp2_with fail
  refine (l3Draw_a g v xs _ hc0).mono ?_
  rintro e w1 ⟨s, rfl, hc1, hg1⟩
  have k1 := h0.drawn hg1 (by omega)
  have hu1 := gtr hg0 hg1
  have hl1 : w.heap.size < w1.heap.size := k1.1
  have kA := k1.below (bal w1 (Obj.cells #[.int .i64 s.fore, .int .i64 s.back, .bool s.bold, .bool s.under, .bool s.turned] 25))
  have sA := StAt.new w1 s 25
  have cA := hc1.below (bal w1 (Obj.cells #[.int .i64 s.fore, .int .i64 s.back, .bool s.bold, .bool s.under, .bool s.turned] 25))
  have uA := gtr hu1 (World.grownBy_alloc w1 (Obj.cells #[.int .i64 s.fore, .int .i64 s.back, .bool s.bold, .bool s.under, .bool s.turned] 25) (some g))
  have hg1' : g < w1.heap.size := hc1.1
  clear h0 hg0 hc0 hg1 k1 hu1 hc1
  unfold stV
  go_wp2_with fail
  refine (l1Once_a g v xs 14 _ cA).mono ?_
  rintro e w2 ⟨b, rfl, hc2, hg2⟩
  have k2 := kA.drawn hg2 (by omega)
  have s2 := sA.drawn hg2 (by omega)
  have u2 := gtr uA hg2
  clear kA sA cA uA hg2
  generalize w1.heap.size = B3 at *
  have fin : ∀ (W : World) (y : St), StAt W w.heap.size St.zero → CurAt W g v xs → w.grownBy W (some g) → CurAt (putSt W w.heap.size y) g v xs ∧ w.grownBy (putSt W w.heap.size y) (some g) ∧ StAt (putSt W w.heap.size y) w.heap.size y := fun W y a1 a2 a3 => ⟨putSt_cur a2 hlt y, putSt_up a3 (Nat.le_refl _) y, a1.put y⟩
  cases b
  · obtain ⟨cP, uP, kP⟩ := fin w2 s k2 hc2 u2
    obtain ⟨_, ⟨d0, d1, d2, d3, d4⟩, ⟨y0, y1, y2, y3, y4⟩⟩ := k2
    obtain ⟨_, ⟨f0, f1, f2, f3, f4⟩, _⟩ := s2
    obtain ⟨_, ⟨e0, e1, e2, e3, e4⟩, _⟩ := kP
    simp only [putSt, St.zero] at cP uP e0 e1 e2 e3 e4 d0 d1 d2 d3 d4
    clear fin
    go_wp2
    exact bodyPost_ret (v := .agg #[.int .i64 s.fore, .int .i64 s.back, .bool s.bold, .bool s.under, .bool s.turned]) (by simp [results, Tryd.results19, go_sem, e0, e1, e2, e3, e4]) rfl ⟨s, rfl, cP, uP⟩
  · go_wp2_with fail
    have hl2 : g < w2.heap.size := hc2.1
    refine (l1Below_a g v xs 4 _ (hc2.below (bal w2 _))).mono ?_
    rintro e w3 ⟨x, rfl, hx0, hx1, _, hc3, hg3⟩
    obtain ⟨k, rfl⟩ : ∃ k : Nat, x = k := ⟨x.toNat, by omega⟩
    have hk : k < 4 := by have := hx1 (by omega); omega
    have hki : (k : Int) < 4 := by omega
    have hcell := lit_pick RF .i64 2 hg3 hl2 k hk
    have hgA := gtr (World.grownBy_alloc w2 _ (some g)) hg3
    have k3 := k2.drawn hgA (by omega)
    have s3 := s2.drawn hgA (by omega)
    have u3 := gtr u2 hgA
    generalize RF.getD k 0 = y at *
    have s4 := s3.setFore y
    have g4 := setCell_gr w3 B3 0 (.int .i64 y)
    have k4 := k3.grown g4 (by intro e; cases e; omega)
    have c4 := hc3.grown_own g4 (fun q hq => by cases hq; omega)
    have u4 := grownBy_own u3 g4 (fun q hq => by cases hq; omega)
    obtain ⟨_, ⟨b0, _, _, _, _⟩, ⟨a0, _, _, _, _⟩⟩ := s3
    obtain ⟨cP, uP, kP⟩ := fin _ { s with fore := y } k4 c4 u4
    obtain ⟨_, ⟨d0, d1, d2, d3, d4⟩, ⟨y0, y1, y2, y3, y4⟩⟩ := k4
    obtain ⟨_, ⟨f0, f1, f2, f3, f4⟩, _⟩ := s4
    obtain ⟨_, ⟨e0, e1, e2, e3, e4⟩, _⟩ := kP
    simp only [putSt, St.zero] at cP uP e0 e1 e2 e3 e4 d0 d1 d2 d3 d4
    clear fin hg3 hgA hx1 k2 s2 k3 g4
    go_wp2
    exact bodyPost_ret (v := .agg #[.int .i64 y, .int .i64 s.back, .bool s.bold, .bool s.under, .bool s.turned]) (by simp [results, Tryd.results19, go_sem, e0, e1, e2, e3, e4]) rfl ⟨{ s with fore := y }, rfl, cP, uP⟩
end Go.Proofs.YtedbmobjhpgiiaaDoor
namespace Go.Proofs.YtedbmobjhpgiiaaDoor
open Go.ChangeShapes Go.WideShapes Go.ChangeAt Go.RowKit
theorem below_gr {w0 w w' : World} {g : Nat} (hb : Below w0.heap.size w0 w) (hg : w.grownBy w' (some g)) (h : w0.heap.size ≤ g) : Below w0.heap.size w0 w' :=
  hb.grown hg hb.size (fun k hk => by cases hk; exact h)
def RP : List Int := [0, 1, 4, 7, 22, 24, 27, 30, 37, 38, 39, 40, 47, 48, 49, -1, 99]
/-- What stays while params are drawn: the answer's place, the style, the cursor, the list. -/
def DK (B5 g base : Nat) (s : St) (v : Value) (xs : List Int) (u : Value) (ys : List Int) (w0 W : World) : Prop :=
  StAt W w0.heap.size St.zero ∧ StAt W B5 s ∧ CurAt W g v xs ∧ W.ownsRow base 2 1 u ys.length (ys.map (Value.int .i64)) ∧ Below w0.heap.size w0 W ∧ base ≤ W.heap.size
theorem DK.draw {B5 g base : Nat} {s : St} {v : Value} {xs : List Int} {u : Value} {ys : List Int} {w0 W W' : World} (k : DK B5 g base s v xs u ys w0 W) (h0 : w0.heap.size < g) (h5 : g < B5) (hb : g < base) (hc : CurAt W' g v xs) (hg : W.grownBy W' (some g)) : DK B5 g base s v xs u ys w0 W' :=
  ⟨k.1.drawn hg (by omega), k.2.1.drawn hg (by omega), hc, own_grow k.2.2.2.1 hg hb, below_gr k.2.2.2.2.1 hg (by omega), Nat.le_trans k.2.2.2.2.2 hg.size⟩
theorem DK.below {B5 g base : Nat} {s : St} {v : Value} {xs : List Int} {u : Value} {ys : List Int} {w0 W W' : World} (k : DK B5 g base s v xs u ys w0 W) (hb : Below W.heap.size W W') : DK B5 g base s v xs u ys w0 W' :=
  ⟨k.1.below hb, k.2.1.below hb, k.2.2.1.below hb, k.2.2.2.1.below hb, k.2.2.2.2.1.trans (hb.mono k.2.2.2.2.1.size), Nat.le_trans k.2.2.2.2.2 hb.size⟩
theorem DK.list {B5 g base : Nat} {s : St} {v : Value} {xs : List Int} {u u' : Value} {ys ys' : List Int} {w0 W W' : World} (k : DK B5 g base s v xs u ys w0 W) (h0 : w0.heap.size < g) (h5 : g < B5) (hb5 : B5 < base) (ho : W'.ownsRow base 2 1 u' ys'.length (ys'.map (Value.int .i64))) (hg : W.grownBy W' u.ownBlock) : DK B5 g base s v xs u' ys' w0 W' := by
  have hr : ∀ q, u.ownBlock = some q → base ≤ q := fun q e => (k.2.2.2.1.lt q e).1
  exact ⟨k.1.grown hg (fun e => by have := hr _ e; omega), k.2.1.grown hg (fun e => by have := hr _ e; omega), k.2.2.1.grown_own hg (fun q e => by have := hr q e; omega), ho, k.2.2.2.2.1.grown hg k.2.2.2.2.1.size (fun q e => by have := hr q e; omega), Nat.le_trans k.2.2.2.2.2 hg.size⟩

/-- The answer: the style in its place, the list. -/
theorem DK.fin {B5 g base : Nat} {s : St} {v : Value} {xs : List Int} {u : Value} {ys : List Int} {w0 W : World} (k : DK B5 g base s v xs u ys w0 W) (hb : w0.heap.size < base) :
    (putSt W w0.heap.size s).ownsRow w0.heap.size 2 1 u ys.length (ys.map (Value.int .i64)) ∧ Below w0.heap.size w0 (putSt W w0.heap.size s) ∧ StAt (putSt W w0.heap.size s) w0.heap.size s := by
  have hg := putSt_grown W w0.heap.size s
  have ho := k.2.2.2.1.kept hg (by
    cases hq : u.ownBlock with
    | none => exact .inl rfl
    | some q => right; intro e; have := (k.2.2.2.1.lt q hq).1; cases e; omega)
  refine ⟨⟨ho.1, ?_⟩, own_lift k.2.2.2.2.1 hg (Nat.le_refl _), k.1.put s⟩
  rcases ho.2 with h2 | ⟨q, cap, cur, hv, hbg, r⟩
  · exact .inl h2
  · exact .inr ⟨q, cap, cur, hv, by omega, r⟩
theorem DK.made {B5 g : Nat} {s : St} {v : Value} {xs : List Int} {u u' : Value} {ys : List Int} {w0 W W' : World} {n : Nat} (k : DK B5 g (B5 + 1) s v xs u ys w0 W) (h0 : w0.heap.size < g) (h5 : g < B5)
    (ho : W'.ownsRow (B5 + 1) 2 1 u' n (madeCells (Value.int .i64 0).cells (n * 1)).toList) (hg : W.grownBy W' none) : DK B5 g (B5 + 1) s v xs u' (List.replicate n 0) w0 W' := by
  have e8 : (madeCells (Value.int .i64 0).cells (n * 1)).toList = (List.replicate n (0 : Int)).map (Value.int .i64) := by
    have := toList_madeCells_one (.int .i64 0) (n * 1)
    rw [Nat.mul_one] at this ⊢
    rw [List.map_replicate]
    exact this
  rw [e8] at ho
  exact k.list h0 h5 (Nat.lt_succ_self _) (by rw [List.length_replicate]; exact ho) ⟨hg.os, hg.tape, hg.output, hg.size, fun i h _ => hg.block i h (by simp)⟩
/-- Params that are drawn are small. -/
def RPok (ys : List Int) : Prop := ∀ y ∈ ys, -1 ≤ y ∧ y ≤ 99
theorem RPok.nil : RPok [] := fun y h => by simp at h
theorem RPok.snoc {ys : List Int} {y : Int} (h : RPok ys) (hy : RPok [y]) : RPok (ys ++ [y]) := fun z hz => by
  rcases List.mem_append.1 hz with hz | hz
  · exact h z hz
  · exact hy z hz
theorem RPok.get (q : Nat) (h : q < 17) : RPok [RP.getD q 0] := fun z hz => by
  have : ∀ q, q < 17 → -1 ≤ RP.getD q 0 ∧ RP.getD q 0 ≤ 99 := by decide
  rw [List.mem_singleton.1 hz]; exact this q h
theorem RPok.zeros (n : Nat) : RPok (List.replicate n 0) := fun z hz => by rw [(List.mem_replicate.1 hz).2]; omega
theorem RPok.wf {ys : List Int} (h : RPok ys) : ∀ x ∈ ys, -9223372036854775808 ≤ x ∧ x ≤ 9223372036854775807 := fun x hx => by have := h x hx; omega
set_option maxHeartbeats 4000000 in
set_option maxRecDepth 20000 in
theorem drawStyled_a (v : Value) (xs : List Int) (w : World) (hv : SlB w v xs) :
    Calls Tryd.prog 6 #[v] w fun e w' => ∃ (s : St) (u : Value) (ys : List Int), e = .returned (.tuple #[stV s, u]) ∧ ys.length ≤ 17 ∧ RPok ys ∧ w'.ownsRow w.heap.size 2 1 u ys.length (ys.map (Value.int .i64)) ∧ Below w.heap.size w w' := by
  obtain ⟨i0, hi, hz0, hz1, hz2⟩ := info_parts info_int64s
  have h0 := StAt.new w St.zero 25
  have hbA := bal w (Obj.cells #[.int .i64 0, .int .i64 0, .bool false, .bool false, .bool false] 25)
  have eA : (w.alloc (Obj.cells #[.int .i64 0, .int .i64 0, .bool false, .bool false, .bool false] 25)).heap.size = w.heap.size + 1 := by simp
  go_enter Tryd.func6, Tryd.ntmps6
  go_wp2_with fail
  refine (l1New_a v xs _ (hv.below hbA)).mono ?_
  rintro e w1 ⟨rfl, hc1, hb1⟩
  have k1 := h0.below hb1
  have hb1' := hbA.trans (hb1.mono (by simp))
  rw [eA] at hc1 ⊢
  clear h0 hbA hb1 eA
  go_wp2_with fail
  refine (l3DrawAny_a _ v xs _ hc1).mono ?_
  rintro e w2 ⟨s, rfl, hc2, hg2⟩
  have k2 := k1.drawn hg2 (by omega)
  have hb2 := below_gr hb1' hg2 (by omega)
  have hl2 : w.heap.size + 1 < w2.heap.size := hc2.1
  have kd : DK w2.heap.size (w.heap.size + 1) (w2.heap.size + 1) s v xs (.slice (some ⟨w2.heap.size + 1, 0, none⟩) 0 0) [] w ((w2.alloc (Obj.cells #[.int .i64 s.fore, .int .i64 s.back, .bool s.bold, .bool s.under, .bool s.turned] 25)).alloc (Obj.cells #[] 2)) := by
    refine ⟨(k2.below (bal _ _)).below (bal _ _), (StAt.new w2 s _).below (bal _ _), (hc2.below (bal _ _)).below (bal _ _), ?_, (hb2.trans ((bal _ _).mono hb2.size)).trans ((bal _ _).mono (by simp; omega)), by simp⟩
    have := World.ownsRow_lit (base := w2.heap.size + 1) (e := 2) (size := 1) (w2.alloc (Obj.cells #[.int .i64 s.fore, .int .i64 s.back, .bool s.bold, .bool s.under, .bool s.turned] 25)) #[] 0 (by simp) (Nat.zero_le _) rfl
    simpa using this
  clear k1 hc1 hb1' hg2 k2 hb2 hc2
  unfold stV
  go_wp2_with fail
  generalize (w2.alloc (Obj.cells #[.int .i64 s.fore, .int .i64 s.back, .bool s.bold, .bool s.under, .bool s.turned] 25)).alloc (Obj.cells #[] 2) = W2 at *
  generalize w2.heap.size = B5 at *
  refine (l1Below_a _ v xs 6 _ kd.2.2.1).mono ?_
  rintro e w3 ⟨x, rfl, hx0, hx1, _, hc3, hg3⟩
  have kd3 := kd.draw (by omega) hl2 (by omega) hc3 hg3
  obtain ⟨n, rfl⟩ : ∃ n : Nat, x = n := ⟨x.toNat, by omega⟩
  have hn : n ≤ 5 := by have := hx1 (by omega); omega
  clear kd hc3 hg3 hx1
  go_wp2
  go_loopw [6, 7] (fun u i wr => ∃ (j : Nat) (ys : List Int), i = .int .i64 j ∧ ys.length + j ≤ 5 ∧ RPok ys ∧ DK B5 (w.heap.size + 1) (B5 + 1) s v xs u ys w wr) (fun _ i _ => (intOf i).toNat)
  case atStart => exact ⟨n, [], rfl, by simpa using hn, RPok.nil, kd3⟩
  case round =>
    clear kd3
    obtain ⟨j, ys, rfl, hys, hok, k⟩ := hrel
    by_cases hj : 0 < j
    · have hji : 0 < (j : Int) := by omega
      go_wp2_with fail
      have hlr : w.heap.size + 1 < wr.heap.size := k.2.2.1.1
      refine (l1Below_a _ v xs 17 _ (k.2.2.1.below (bal wr _))).mono ?_
      rintro e w4 ⟨x, rfl, hx0, hx1, _, hc4, hg4⟩
      obtain ⟨q, rfl⟩ : ∃ q : Nat, x = q := ⟨x.toNat, by omega⟩
      have hq : q < 17 := by have := hx1 (by omega); omega
      have hqi : (q : Int) < 17 := by omega
      have hcell := lit_pick RP .i64 2 hg4 hlr q hq
      have k4 := (k.below (bal wr _)).draw (by omega) hl2 (by omega) hc4 hg4
      have hyk := RPok.get q hq
      generalize RP.getD q 0 = y at *
      clear k hg4 hx1 hc4
      go_wp2_with (at_builtin; refine wpList_append_own _ rfl _ _ 26 rfl (B5 + 1) 2 i0 (.int .i64 0) 1 8 Tryd.underlying26 hi hz0 hz1 hz2 rfl (by decide) _ _ _ rfl (k4.2.2.2.1.alloc _) ⟨_, 0, none⟩ 1 1 [.int .i64 y] rfl rfl ?c1 ?c2 ?c3 ?c4 ?c5 ?_)
      case c1 =>
        intro i u hi
        match i, hi with
        | 0, hi => simp at hi; subst hi; simp [Addr.add]
      case c2 => intro u hu; simp at hu; subst hu; rfl
      case c3 => unfold maxLen; omega
      case c4 => omega
      case c5 => have := k4.2.2.2.2.2; simp; omega
      · intro v' w5 ho5 hg5 _
        have k5 := (k4.below (bal w4 (Obj.cells #[.int .i64 y] 2))).list (u' := v') (ys' := ys ++ [y]) (by omega) hl2 (by omega) (by simpa using ho5) hg5
        clear k4 ho5 hg5
        go_wp2
        go_roundw
        case rel => exact ⟨j - 1, ys ++ [y], by go_num, by simp; omega, hok.snoc hyk, k5⟩
        case measure => simp [intOf]; omega
    · have hji : ¬ 0 < (j : Int) := by omega
      go_wp2_with fail
      refine (l1Once_a _ v xs 30 _ k.2.2.1).mono ?_
      rintro e w6 ⟨b, rfl, hc6, hg6⟩
      have k6 := k.draw (by omega) hl2 (by omega) hc6 hg6
      clear k hc6 hg6
      cases b
      · obtain ⟨oP, bP, kP⟩ := k6.fin (by omega)
        obtain ⟨k2, kB, _, _, _, _⟩ := k6
        obtain ⟨_, ⟨d0, d1, d2, d3, d4⟩, ⟨y0, y1, y2, y3, y4⟩⟩ := k2
        obtain ⟨_, ⟨f0, f1, f2, f3, f4⟩, _⟩ := kB
        obtain ⟨_, ⟨e0, e1, e2, e3, e4⟩, _⟩ := kP
        simp only [putSt, St.zero] at oP bP e0 e1 e2 e3 e4 d0 d1 d2 d3 d4
        go_wp2
        exact bodyPost_ret (v := .tuple #[.agg #[.int .i64 s.fore, .int .i64 s.back, .bool s.bold, .bool s.under, .bool s.turned], u6]) (by simp [results, Tryd.results6, go_sem, e0, e1, e2, e3, e4]) rfl ⟨s, u6, ys, rfl, by omega, hok, oP, bP⟩
      · go_wp2_with fail
        refine (l1Below_a _ v xs 2 _ k6.2.2.1).mono ?_
        rintro e w7 ⟨x, rfl, hx0, hx1, _, hc7, hg7⟩
        have k7 := k6.draw (by omega) hl2 (by omega) hc7 hg7
        obtain ⟨q, rfl⟩ : ∃ q : Nat, x = q := ⟨x.toNat, by omega⟩
        have hq : q < 2 := by have := hx1 (by omega); omega
        clear k6 hc7 hg7 hx1
        go_wp2_with (at_make; refine wpList_make_full _ rfl _ _ 26 rfl (B5 + 1) 2 i0 (.int .i64 0) 1 Tryd.underlying26 hi hz0 hz1 .i64 .i64 _ _ (16 + q) rfl rfl (by omega) (by omega) (by rw [hz2]; omega) (by unfold maxLen; omega) (k7.2.2.2.2.2) ?_; intro w8 ho8 hg8; have k8 := DK.made k7 (Nat.lt_succ_self _) hl2 ho8 hg8; have hh := k8; obtain ⟨⟨_, ⟨d0, d1, d2, d3, d4⟩, ⟨y0, y1, y2, y3, y4⟩⟩, ⟨_, ⟨f0, f1, f2, f3, f4⟩, _⟩, _⟩ := hh)
        obtain ⟨oP, bP, kP⟩ := k8.fin (by omega)
        obtain ⟨_, ⟨e0, e1, e2, e3, e4⟩, _⟩ := kP
        have hl8 : (List.replicate (16 + q) (0 : Int)).length ≤ 17 := by rw [List.length_replicate]; omega
        simp only [putSt] at oP bP e0 e1 e2 e3 e4
        exact bodyPost_ret (v := .tuple #[.agg #[.int .i64 s.fore, .int .i64 s.back, .bool s.bold, .bool s.under, .bool s.turned], .slice (some ⟨w7.heap.size, 0, none⟩) (16 + q) (16 + q)]) (by simp [results, Tryd.results6, go_sem, e0, e1, e2, e3, e4]) rfl ⟨s, _, List.replicate (16 + q) 0, rfl, hl8, RPok.zeros _, oP, bP⟩
end Go.Proofs.YtedbmobjhpgiiaaDoor
namespace Go.Proofs.YtedbmobjhpgiiaaDoor
theorem paramsV_none (a b : St) (ha : a.ok = true) (hb : b.ok = true) : (paramsV a b = []) = (a = b) := by
  have e : paramsV a b = paramsL a b := if_pos ⟨ha, hb⟩
  rw [e]
  exact propext ⟨paramsL_nil a b, fun h => by rw [h]; exact paramsL_self b⟩
theorem paramsV_len0 (a b : St) (ha : a.ok = true) (hb : b.ok = true) : ((paramsV a b).length = 0) = (a = b) := by
  rw [← paramsV_none a b ha hb]
  exact propext List.length_eq_zero_iff
theorem paramsV_not (a b : St) (h : ¬ (a.ok = true ∧ b.ok = true)) : paramsV a b = [] := if_neg h
theorem paramsV_len (a b : St) : (paramsV a b).length ≤ 5 := by
  unfold paramsV
  split
  · exact paramsL_len a b
  · simp
theorem styled_back (a b : St) (ha : a.ok = true) (hb : b.ok = true) (hn : a ≠ b) : styledV a (paramsV a b) = b := by
  have e : paramsV a b = paramsL a b := if_pos ⟨ha, hb⟩
  have hl := paramsL_len a b
  rw [e]
  unfold styledV
  rw [if_pos ⟨ha, by omega⟩, if_neg (fun h => hn (paramsL_nil a b h))]
  exact styled_params a b hb
theorem styled_nought (a : St) : styledV a [0] = St.zero := by
  unfold styledV
  split
  · rw [if_neg (by simp)]; rfl
  · rfl
theorem signL_none (l : List Int) : (signL l = []) = (l = []) := by
  unfold signL
  split
  · rename_i h; simp [h]
  · rename_i h; simp [h]
theorem signN_none (a b : St) (ha : a.ok = true) (hb : b.ok = true) : (signN a b = []) = (a = b) := by
  have e : signN a b = signL (paramsL a b) := if_pos ⟨ha, hb⟩
  rw [e, signL_none]
  exact propext ⟨paramsL_nil a b, fun h => by rw [h]; exact paramsL_self b⟩
theorem signN_not (a b : St) (h : ¬ (a.ok = true ∧ b.ok = true)) : signN a b = [] := if_neg h
theorem nums_inj0 (t : ByteArray) : (nums t = []) = (t = ⟨#[]⟩) := by
  refine propext ⟨fun h => ?_, fun h => by rw [h]; rfl⟩
  have hl := nums_len t
  rw [h] at hl
  have h0 : t.data.size = 0 := hl.symm
  cases t with
  | mk d => exact congrArg ByteArray.mk (Array.eq_empty_of_size_eq_zero h0)
end Go.Proofs.YtedbmobjhpgiiaaDoor
namespace Go.Proofs.YtedbmobjhpgiiaaDoor
open Go.ChangeShapes Go.WideShapes Go.ChangeAt Go.RowKit
def KT (B3 B5 B6 B7 : Nat) (s x a b : St) (u p : Value) (xs P : List Int) (w0 W : World) : Prop := StAt W B3 s ∧ StAt W B5 x ∧ StAt W B6 a ∧ StAt W B7 b ∧ SlI W u xs ∧ SlI W p P ∧ Below w0.heap.size w0 W
theorem drewK {B : Nat} {w : World} (n : Nat) : Below B w (w.drewN n) := ⟨rfl, rfl, rfl, Nat.le_refl _, fun _ _ => rfl⟩
theorem KT.below {B3 B5 B6 B7 : Nat} {s x a b : St} {u p : Value} {xs P : List Int} {w0 W W' : World} (k : KT B3 B5 B6 B7 s x a b u p xs P w0 W) (hb : Below W.heap.size W W') : KT B3 B5 B6 B7 s x a b u p xs P w0 W' :=
  ⟨k.1.below hb, k.2.1.below hb, k.2.2.1.below hb, k.2.2.2.1.below hb, k.2.2.2.2.1.below hb, k.2.2.2.2.2.1.below hb, k.2.2.2.2.2.2.trans (hb.mono k.2.2.2.2.2.2.size)⟩
theorem KT.all {B3 B5 B6 B7 : Nat} {s x a b : St} {u p : Value} {xs P : List Int} {w0 W : World} (k : KT B3 B5 B6 B7 s x a b u p xs P w0 W) : W.cell? ⟨B3, 0, none⟩ = some (.int .i64 s.fore) ∧ W.cell? ⟨B3, 1, none⟩ = some (.int .i64 s.back) ∧ W.cell? ⟨B3, 2, none⟩ = some (.bool s.bold) ∧ W.cell? ⟨B3, 3, none⟩ = some (.bool s.under) ∧ W.cell? ⟨B3, 4, none⟩ = some (.bool s.turned) ∧ W.cell? ⟨B5, 0, none⟩ = some (.int .i64 x.fore) ∧ W.cell? ⟨B5, 1, none⟩ = some (.int .i64 x.back) ∧ W.cell? ⟨B5, 2, none⟩ = some (.bool x.bold) ∧ W.cell? ⟨B5, 3, none⟩ = some (.bool x.under) ∧ W.cell? ⟨B5, 4, none⟩ = some (.bool x.turned) ∧ W.cell? ⟨B6, 0, none⟩ = some (.int .i64 a.fore) ∧ W.cell? ⟨B6, 1, none⟩ = some (.int .i64 a.back) ∧ W.cell? ⟨B6, 2, none⟩ = some (.bool a.bold) ∧ W.cell? ⟨B6, 3, none⟩ = some (.bool a.under) ∧ W.cell? ⟨B6, 4, none⟩ = some (.bool a.turned) ∧ W.cell? ⟨B7, 0, none⟩ = some (.int .i64 b.fore) ∧ W.cell? ⟨B7, 1, none⟩ = some (.int .i64 b.back) ∧ W.cell? ⟨B7, 2, none⟩ = some (.bool b.bold) ∧ W.cell? ⟨B7, 3, none⟩ = some (.bool b.under) ∧ W.cell? ⟨B7, 4, none⟩ = some (.bool b.turned) ∧ KT B3 B5 B6 B7 s x a b u p xs P w0 W :=
  ⟨k.1.2.1.1, k.1.2.1.2.1, k.1.2.1.2.2.1, k.1.2.1.2.2.2.1, k.1.2.1.2.2.2.2, k.2.1.2.1.1, k.2.1.2.1.2.1, k.2.1.2.1.2.2.1, k.2.1.2.1.2.2.2.1, k.2.1.2.1.2.2.2.2, k.2.2.1.2.1.1, k.2.2.1.2.1.2.1, k.2.2.1.2.1.2.2.1, k.2.2.1.2.1.2.2.2.1, k.2.2.1.2.1.2.2.2.2, k.2.2.2.1.2.1.1, k.2.2.2.1.2.1.2.1, k.2.2.2.1.2.1.2.2.1, k.2.2.2.1.2.1.2.2.2.1, k.2.2.2.1.2.1.2.2.2.2, k⟩
theorem KT.drew {B3 B5 B6 B7 : Nat} {s x a b : St} {u p : Value} {xs P : List Int} {w0 W : World} (k : KT B3 B5 B6 B7 s x a b u p xs P w0 W) : W.drew.cell? ⟨B3, 0, none⟩ = some (.int .i64 s.fore) ∧ W.drew.cell? ⟨B3, 1, none⟩ = some (.int .i64 s.back) ∧ W.drew.cell? ⟨B3, 2, none⟩ = some (.bool s.bold) ∧ W.drew.cell? ⟨B3, 3, none⟩ = some (.bool s.under) ∧ W.drew.cell? ⟨B3, 4, none⟩ = some (.bool s.turned) ∧ W.drew.cell? ⟨B5, 0, none⟩ = some (.int .i64 x.fore) ∧ W.drew.cell? ⟨B5, 1, none⟩ = some (.int .i64 x.back) ∧ W.drew.cell? ⟨B5, 2, none⟩ = some (.bool x.bold) ∧ W.drew.cell? ⟨B5, 3, none⟩ = some (.bool x.under) ∧ W.drew.cell? ⟨B5, 4, none⟩ = some (.bool x.turned) ∧ W.drew.cell? ⟨B6, 0, none⟩ = some (.int .i64 a.fore) ∧ W.drew.cell? ⟨B6, 1, none⟩ = some (.int .i64 a.back) ∧ W.drew.cell? ⟨B6, 2, none⟩ = some (.bool a.bold) ∧ W.drew.cell? ⟨B6, 3, none⟩ = some (.bool a.under) ∧ W.drew.cell? ⟨B6, 4, none⟩ = some (.bool a.turned) ∧ W.drew.cell? ⟨B7, 0, none⟩ = some (.int .i64 b.fore) ∧ W.drew.cell? ⟨B7, 1, none⟩ = some (.int .i64 b.back) ∧ W.drew.cell? ⟨B7, 2, none⟩ = some (.bool b.bold) ∧ W.drew.cell? ⟨B7, 3, none⟩ = some (.bool b.under) ∧ W.drew.cell? ⟨B7, 4, none⟩ = some (.bool b.turned) ∧ KT B3 B5 B6 B7 s x a b u p xs P w0 W.drew := (k.below (bdr W)).all
theorem KT.alloc {B3 B5 B6 B7 : Nat} {s x a b : St} {u p : Value} {xs P : List Int} {w0 W : World} (k : W.cell? ⟨B3, 0, none⟩ = some (.int .i64 s.fore) ∧ W.cell? ⟨B3, 1, none⟩ = some (.int .i64 s.back) ∧ W.cell? ⟨B3, 2, none⟩ = some (.bool s.bold) ∧ W.cell? ⟨B3, 3, none⟩ = some (.bool s.under) ∧ W.cell? ⟨B3, 4, none⟩ = some (.bool s.turned) ∧ W.cell? ⟨B5, 0, none⟩ = some (.int .i64 x.fore) ∧ W.cell? ⟨B5, 1, none⟩ = some (.int .i64 x.back) ∧ W.cell? ⟨B5, 2, none⟩ = some (.bool x.bold) ∧ W.cell? ⟨B5, 3, none⟩ = some (.bool x.under) ∧ W.cell? ⟨B5, 4, none⟩ = some (.bool x.turned) ∧ W.cell? ⟨B6, 0, none⟩ = some (.int .i64 a.fore) ∧ W.cell? ⟨B6, 1, none⟩ = some (.int .i64 a.back) ∧ W.cell? ⟨B6, 2, none⟩ = some (.bool a.bold) ∧ W.cell? ⟨B6, 3, none⟩ = some (.bool a.under) ∧ W.cell? ⟨B6, 4, none⟩ = some (.bool a.turned) ∧ W.cell? ⟨B7, 0, none⟩ = some (.int .i64 b.fore) ∧ W.cell? ⟨B7, 1, none⟩ = some (.int .i64 b.back) ∧ W.cell? ⟨B7, 2, none⟩ = some (.bool b.bold) ∧ W.cell? ⟨B7, 3, none⟩ = some (.bool b.under) ∧ W.cell? ⟨B7, 4, none⟩ = some (.bool b.turned) ∧ KT B3 B5 B6 B7 s x a b u p xs P w0 W) (o : Obj) : (W.alloc o).cell? ⟨B3, 0, none⟩ = some (.int .i64 s.fore) ∧ (W.alloc o).cell? ⟨B3, 1, none⟩ = some (.int .i64 s.back) ∧ (W.alloc o).cell? ⟨B3, 2, none⟩ = some (.bool s.bold) ∧ (W.alloc o).cell? ⟨B3, 3, none⟩ = some (.bool s.under) ∧ (W.alloc o).cell? ⟨B3, 4, none⟩ = some (.bool s.turned) ∧ (W.alloc o).cell? ⟨B5, 0, none⟩ = some (.int .i64 x.fore) ∧ (W.alloc o).cell? ⟨B5, 1, none⟩ = some (.int .i64 x.back) ∧ (W.alloc o).cell? ⟨B5, 2, none⟩ = some (.bool x.bold) ∧ (W.alloc o).cell? ⟨B5, 3, none⟩ = some (.bool x.under) ∧ (W.alloc o).cell? ⟨B5, 4, none⟩ = some (.bool x.turned) ∧ (W.alloc o).cell? ⟨B6, 0, none⟩ = some (.int .i64 a.fore) ∧ (W.alloc o).cell? ⟨B6, 1, none⟩ = some (.int .i64 a.back) ∧ (W.alloc o).cell? ⟨B6, 2, none⟩ = some (.bool a.bold) ∧ (W.alloc o).cell? ⟨B6, 3, none⟩ = some (.bool a.under) ∧ (W.alloc o).cell? ⟨B6, 4, none⟩ = some (.bool a.turned) ∧ (W.alloc o).cell? ⟨B7, 0, none⟩ = some (.int .i64 b.fore) ∧ (W.alloc o).cell? ⟨B7, 1, none⟩ = some (.int .i64 b.back) ∧ (W.alloc o).cell? ⟨B7, 2, none⟩ = some (.bool b.bold) ∧ (W.alloc o).cell? ⟨B7, 3, none⟩ = some (.bool b.under) ∧ (W.alloc o).cell? ⟨B7, 4, none⟩ = some (.bool b.turned) ∧ KT B3 B5 B6 B7 s x a b u p xs P w0 (W.alloc o) := (k.2.2.2.2.2.2.2.2.2.2.2.2.2.2.2.2.2.2.2.2.below (bal' W o)).all
theorem implOk_kt (B3 B5 B6 B7 : Nat) (s x a b : St) (u p : Value) (xs P : List Int) (w0 W : World) (y : St) (k : W.cell? ⟨B3, 0, none⟩ = some (.int .i64 s.fore) ∧ W.cell? ⟨B3, 1, none⟩ = some (.int .i64 s.back) ∧ W.cell? ⟨B3, 2, none⟩ = some (.bool s.bold) ∧ W.cell? ⟨B3, 3, none⟩ = some (.bool s.under) ∧ W.cell? ⟨B3, 4, none⟩ = some (.bool s.turned) ∧ W.cell? ⟨B5, 0, none⟩ = some (.int .i64 x.fore) ∧ W.cell? ⟨B5, 1, none⟩ = some (.int .i64 x.back) ∧ W.cell? ⟨B5, 2, none⟩ = some (.bool x.bold) ∧ W.cell? ⟨B5, 3, none⟩ = some (.bool x.under) ∧ W.cell? ⟨B5, 4, none⟩ = some (.bool x.turned) ∧ W.cell? ⟨B6, 0, none⟩ = some (.int .i64 a.fore) ∧ W.cell? ⟨B6, 1, none⟩ = some (.int .i64 a.back) ∧ W.cell? ⟨B6, 2, none⟩ = some (.bool a.bold) ∧ W.cell? ⟨B6, 3, none⟩ = some (.bool a.under) ∧ W.cell? ⟨B6, 4, none⟩ = some (.bool a.turned) ∧ W.cell? ⟨B7, 0, none⟩ = some (.int .i64 b.fore) ∧ W.cell? ⟨B7, 1, none⟩ = some (.int .i64 b.back) ∧ W.cell? ⟨B7, 2, none⟩ = some (.bool b.bold) ∧ W.cell? ⟨B7, 3, none⟩ = some (.bool b.under) ∧ W.cell? ⟨B7, 4, none⟩ = some (.bool b.turned) ∧ KT B3 B5 B6 B7 s x a b u p xs P w0 W) :
    Calls Tryd.prog 15 #[.agg #[.int .i64 y.fore, .int .i64 y.back, .bool y.bold, .bool y.under, .bool y.turned]] W fun e w' => e = .returned (.bool y.ok) ∧ (w'.cell? ⟨B3, 0, none⟩ = some (.int .i64 s.fore) ∧ w'.cell? ⟨B3, 1, none⟩ = some (.int .i64 s.back) ∧ w'.cell? ⟨B3, 2, none⟩ = some (.bool s.bold) ∧ w'.cell? ⟨B3, 3, none⟩ = some (.bool s.under) ∧ w'.cell? ⟨B3, 4, none⟩ = some (.bool s.turned) ∧ w'.cell? ⟨B5, 0, none⟩ = some (.int .i64 x.fore) ∧ w'.cell? ⟨B5, 1, none⟩ = some (.int .i64 x.back) ∧ w'.cell? ⟨B5, 2, none⟩ = some (.bool x.bold) ∧ w'.cell? ⟨B5, 3, none⟩ = some (.bool x.under) ∧ w'.cell? ⟨B5, 4, none⟩ = some (.bool x.turned) ∧ w'.cell? ⟨B6, 0, none⟩ = some (.int .i64 a.fore) ∧ w'.cell? ⟨B6, 1, none⟩ = some (.int .i64 a.back) ∧ w'.cell? ⟨B6, 2, none⟩ = some (.bool a.bold) ∧ w'.cell? ⟨B6, 3, none⟩ = some (.bool a.under) ∧ w'.cell? ⟨B6, 4, none⟩ = some (.bool a.turned) ∧ w'.cell? ⟨B7, 0, none⟩ = some (.int .i64 b.fore) ∧ w'.cell? ⟨B7, 1, none⟩ = some (.int .i64 b.back) ∧ w'.cell? ⟨B7, 2, none⟩ = some (.bool b.bold) ∧ w'.cell? ⟨B7, 3, none⟩ = some (.bool b.under) ∧ w'.cell? ⟨B7, 4, none⟩ = some (.bool b.turned) ∧ KT B3 B5 B6 B7 s x a b u p xs P w0 w') :=
  (implStyleOk_any y W).mono fun _ _ ⟨he, hb⟩ => ⟨he, (k.2.2.2.2.2.2.2.2.2.2.2.2.2.2.2.2.2.2.2.2.below hb).all⟩
theorem specOk_kt (B3 B5 B6 B7 : Nat) (s x a b : St) (u p : Value) (xs P : List Int) (w0 W : World) (y : St) (k : W.cell? ⟨B3, 0, none⟩ = some (.int .i64 s.fore) ∧ W.cell? ⟨B3, 1, none⟩ = some (.int .i64 s.back) ∧ W.cell? ⟨B3, 2, none⟩ = some (.bool s.bold) ∧ W.cell? ⟨B3, 3, none⟩ = some (.bool s.under) ∧ W.cell? ⟨B3, 4, none⟩ = some (.bool s.turned) ∧ W.cell? ⟨B5, 0, none⟩ = some (.int .i64 x.fore) ∧ W.cell? ⟨B5, 1, none⟩ = some (.int .i64 x.back) ∧ W.cell? ⟨B5, 2, none⟩ = some (.bool x.bold) ∧ W.cell? ⟨B5, 3, none⟩ = some (.bool x.under) ∧ W.cell? ⟨B5, 4, none⟩ = some (.bool x.turned) ∧ W.cell? ⟨B6, 0, none⟩ = some (.int .i64 a.fore) ∧ W.cell? ⟨B6, 1, none⟩ = some (.int .i64 a.back) ∧ W.cell? ⟨B6, 2, none⟩ = some (.bool a.bold) ∧ W.cell? ⟨B6, 3, none⟩ = some (.bool a.under) ∧ W.cell? ⟨B6, 4, none⟩ = some (.bool a.turned) ∧ W.cell? ⟨B7, 0, none⟩ = some (.int .i64 b.fore) ∧ W.cell? ⟨B7, 1, none⟩ = some (.int .i64 b.back) ∧ W.cell? ⟨B7, 2, none⟩ = some (.bool b.bold) ∧ W.cell? ⟨B7, 3, none⟩ = some (.bool b.under) ∧ W.cell? ⟨B7, 4, none⟩ = some (.bool b.turned) ∧ KT B3 B5 B6 B7 s x a b u p xs P w0 W) :
    Calls Tryd.prog 16 #[.agg #[.int .i64 y.fore, .int .i64 y.back, .bool y.bold, .bool y.under, .bool y.turned]] W fun e w' => e = .returned (.bool y.ok) ∧ (w'.cell? ⟨B3, 0, none⟩ = some (.int .i64 s.fore) ∧ w'.cell? ⟨B3, 1, none⟩ = some (.int .i64 s.back) ∧ w'.cell? ⟨B3, 2, none⟩ = some (.bool s.bold) ∧ w'.cell? ⟨B3, 3, none⟩ = some (.bool s.under) ∧ w'.cell? ⟨B3, 4, none⟩ = some (.bool s.turned) ∧ w'.cell? ⟨B5, 0, none⟩ = some (.int .i64 x.fore) ∧ w'.cell? ⟨B5, 1, none⟩ = some (.int .i64 x.back) ∧ w'.cell? ⟨B5, 2, none⟩ = some (.bool x.bold) ∧ w'.cell? ⟨B5, 3, none⟩ = some (.bool x.under) ∧ w'.cell? ⟨B5, 4, none⟩ = some (.bool x.turned) ∧ w'.cell? ⟨B6, 0, none⟩ = some (.int .i64 a.fore) ∧ w'.cell? ⟨B6, 1, none⟩ = some (.int .i64 a.back) ∧ w'.cell? ⟨B6, 2, none⟩ = some (.bool a.bold) ∧ w'.cell? ⟨B6, 3, none⟩ = some (.bool a.under) ∧ w'.cell? ⟨B6, 4, none⟩ = some (.bool a.turned) ∧ w'.cell? ⟨B7, 0, none⟩ = some (.int .i64 b.fore) ∧ w'.cell? ⟨B7, 1, none⟩ = some (.int .i64 b.back) ∧ w'.cell? ⟨B7, 2, none⟩ = some (.bool b.bold) ∧ w'.cell? ⟨B7, 3, none⟩ = some (.bool b.under) ∧ w'.cell? ⟨B7, 4, none⟩ = some (.bool b.turned) ∧ KT B3 B5 B6 B7 s x a b u p xs P w0 w') :=
  (specStyleOk_any y W).mono fun _ _ ⟨he, hb⟩ => ⟨he, (k.2.2.2.2.2.2.2.2.2.2.2.2.2.2.2.2.2.2.2.2.below hb).all⟩
theorem implOkT_kt (B3 B5 B6 B7 : Nat) (s x a b : St) (u p : Value) (xs P : List Int) (w0 W : World) (y : St) (hy : y.ok = true) (k : W.cell? ⟨B3, 0, none⟩ = some (.int .i64 s.fore) ∧ W.cell? ⟨B3, 1, none⟩ = some (.int .i64 s.back) ∧ W.cell? ⟨B3, 2, none⟩ = some (.bool s.bold) ∧ W.cell? ⟨B3, 3, none⟩ = some (.bool s.under) ∧ W.cell? ⟨B3, 4, none⟩ = some (.bool s.turned) ∧ W.cell? ⟨B5, 0, none⟩ = some (.int .i64 x.fore) ∧ W.cell? ⟨B5, 1, none⟩ = some (.int .i64 x.back) ∧ W.cell? ⟨B5, 2, none⟩ = some (.bool x.bold) ∧ W.cell? ⟨B5, 3, none⟩ = some (.bool x.under) ∧ W.cell? ⟨B5, 4, none⟩ = some (.bool x.turned) ∧ W.cell? ⟨B6, 0, none⟩ = some (.int .i64 a.fore) ∧ W.cell? ⟨B6, 1, none⟩ = some (.int .i64 a.back) ∧ W.cell? ⟨B6, 2, none⟩ = some (.bool a.bold) ∧ W.cell? ⟨B6, 3, none⟩ = some (.bool a.under) ∧ W.cell? ⟨B6, 4, none⟩ = some (.bool a.turned) ∧ W.cell? ⟨B7, 0, none⟩ = some (.int .i64 b.fore) ∧ W.cell? ⟨B7, 1, none⟩ = some (.int .i64 b.back) ∧ W.cell? ⟨B7, 2, none⟩ = some (.bool b.bold) ∧ W.cell? ⟨B7, 3, none⟩ = some (.bool b.under) ∧ W.cell? ⟨B7, 4, none⟩ = some (.bool b.turned) ∧ KT B3 B5 B6 B7 s x a b u p xs P w0 W) :
    Calls Tryd.prog 15 #[.agg #[.int .i64 y.fore, .int .i64 y.back, .bool y.bold, .bool y.under, .bool y.turned]] W fun e w' => e = .returned (.bool true) ∧ (w'.cell? ⟨B3, 0, none⟩ = some (.int .i64 s.fore) ∧ w'.cell? ⟨B3, 1, none⟩ = some (.int .i64 s.back) ∧ w'.cell? ⟨B3, 2, none⟩ = some (.bool s.bold) ∧ w'.cell? ⟨B3, 3, none⟩ = some (.bool s.under) ∧ w'.cell? ⟨B3, 4, none⟩ = some (.bool s.turned) ∧ w'.cell? ⟨B5, 0, none⟩ = some (.int .i64 x.fore) ∧ w'.cell? ⟨B5, 1, none⟩ = some (.int .i64 x.back) ∧ w'.cell? ⟨B5, 2, none⟩ = some (.bool x.bold) ∧ w'.cell? ⟨B5, 3, none⟩ = some (.bool x.under) ∧ w'.cell? ⟨B5, 4, none⟩ = some (.bool x.turned) ∧ w'.cell? ⟨B6, 0, none⟩ = some (.int .i64 a.fore) ∧ w'.cell? ⟨B6, 1, none⟩ = some (.int .i64 a.back) ∧ w'.cell? ⟨B6, 2, none⟩ = some (.bool a.bold) ∧ w'.cell? ⟨B6, 3, none⟩ = some (.bool a.under) ∧ w'.cell? ⟨B6, 4, none⟩ = some (.bool a.turned) ∧ w'.cell? ⟨B7, 0, none⟩ = some (.int .i64 b.fore) ∧ w'.cell? ⟨B7, 1, none⟩ = some (.int .i64 b.back) ∧ w'.cell? ⟨B7, 2, none⟩ = some (.bool b.bold) ∧ w'.cell? ⟨B7, 3, none⟩ = some (.bool b.under) ∧ w'.cell? ⟨B7, 4, none⟩ = some (.bool b.turned) ∧ KT B3 B5 B6 B7 s x a b u p xs P w0 w') :=
  (implStyleOk_any y W).mono fun _ _ ⟨he, hb⟩ => ⟨by rw [he, hy], (k.2.2.2.2.2.2.2.2.2.2.2.2.2.2.2.2.2.2.2.2.below hb).all⟩
theorem specStyled_kt (B3 B5 B6 B7 : Nat) (s x a b : St) (u p : Value) (xs P : List Int) (w0 W : World) (hl : xs.length ≤ 1048576) (hx : styledV s xs = x) (k : W.cell? ⟨B3, 0, none⟩ = some (.int .i64 s.fore) ∧ W.cell? ⟨B3, 1, none⟩ = some (.int .i64 s.back) ∧ W.cell? ⟨B3, 2, none⟩ = some (.bool s.bold) ∧ W.cell? ⟨B3, 3, none⟩ = some (.bool s.under) ∧ W.cell? ⟨B3, 4, none⟩ = some (.bool s.turned) ∧ W.cell? ⟨B5, 0, none⟩ = some (.int .i64 x.fore) ∧ W.cell? ⟨B5, 1, none⟩ = some (.int .i64 x.back) ∧ W.cell? ⟨B5, 2, none⟩ = some (.bool x.bold) ∧ W.cell? ⟨B5, 3, none⟩ = some (.bool x.under) ∧ W.cell? ⟨B5, 4, none⟩ = some (.bool x.turned) ∧ W.cell? ⟨B6, 0, none⟩ = some (.int .i64 a.fore) ∧ W.cell? ⟨B6, 1, none⟩ = some (.int .i64 a.back) ∧ W.cell? ⟨B6, 2, none⟩ = some (.bool a.bold) ∧ W.cell? ⟨B6, 3, none⟩ = some (.bool a.under) ∧ W.cell? ⟨B6, 4, none⟩ = some (.bool a.turned) ∧ W.cell? ⟨B7, 0, none⟩ = some (.int .i64 b.fore) ∧ W.cell? ⟨B7, 1, none⟩ = some (.int .i64 b.back) ∧ W.cell? ⟨B7, 2, none⟩ = some (.bool b.bold) ∧ W.cell? ⟨B7, 3, none⟩ = some (.bool b.under) ∧ W.cell? ⟨B7, 4, none⟩ = some (.bool b.turned) ∧ KT B3 B5 B6 B7 s x a b u p xs P w0 W) :
    Calls Tryd.prog 11 #[.agg #[.int .i64 s.fore, .int .i64 s.back, .bool s.bold, .bool s.under, .bool s.turned], u] W fun e w' => e = .returned (.agg #[.int .i64 x.fore, .int .i64 x.back, .bool x.bold, .bool x.under, .bool x.turned]) ∧ (w'.cell? ⟨B3, 0, none⟩ = some (.int .i64 s.fore) ∧ w'.cell? ⟨B3, 1, none⟩ = some (.int .i64 s.back) ∧ w'.cell? ⟨B3, 2, none⟩ = some (.bool s.bold) ∧ w'.cell? ⟨B3, 3, none⟩ = some (.bool s.under) ∧ w'.cell? ⟨B3, 4, none⟩ = some (.bool s.turned) ∧ w'.cell? ⟨B5, 0, none⟩ = some (.int .i64 x.fore) ∧ w'.cell? ⟨B5, 1, none⟩ = some (.int .i64 x.back) ∧ w'.cell? ⟨B5, 2, none⟩ = some (.bool x.bold) ∧ w'.cell? ⟨B5, 3, none⟩ = some (.bool x.under) ∧ w'.cell? ⟨B5, 4, none⟩ = some (.bool x.turned) ∧ w'.cell? ⟨B6, 0, none⟩ = some (.int .i64 a.fore) ∧ w'.cell? ⟨B6, 1, none⟩ = some (.int .i64 a.back) ∧ w'.cell? ⟨B6, 2, none⟩ = some (.bool a.bold) ∧ w'.cell? ⟨B6, 3, none⟩ = some (.bool a.under) ∧ w'.cell? ⟨B6, 4, none⟩ = some (.bool a.turned) ∧ w'.cell? ⟨B7, 0, none⟩ = some (.int .i64 b.fore) ∧ w'.cell? ⟨B7, 1, none⟩ = some (.int .i64 b.back) ∧ w'.cell? ⟨B7, 2, none⟩ = some (.bool b.bold) ∧ w'.cell? ⟨B7, 3, none⟩ = some (.bool b.under) ∧ w'.cell? ⟨B7, 4, none⟩ = some (.bool b.turned) ∧ KT B3 B5 B6 B7 s x a b u p xs P w0 w') :=
  (specStyled_any s u xs W k.2.2.2.2.2.2.2.2.2.2.2.2.2.2.2.2.2.2.2.2.2.2.2.2.1 hl).mono fun _ _ ⟨he, hb⟩ => ⟨by rw [he, hx]; rfl, (k.2.2.2.2.2.2.2.2.2.2.2.2.2.2.2.2.2.2.2.2.below hb).all⟩
theorem implStyled_kt2 (B3 B5 B6 B7 : Nat) (s x a b : St) (u p : Value) (xs P : List Int) (w0 W : World) (y : St) (hw : RPok P) (hl : P.length ≤ 1048576) (hy : styledV a P = y) (k : W.cell? ⟨B3, 0, none⟩ = some (.int .i64 s.fore) ∧ W.cell? ⟨B3, 1, none⟩ = some (.int .i64 s.back) ∧ W.cell? ⟨B3, 2, none⟩ = some (.bool s.bold) ∧ W.cell? ⟨B3, 3, none⟩ = some (.bool s.under) ∧ W.cell? ⟨B3, 4, none⟩ = some (.bool s.turned) ∧ W.cell? ⟨B5, 0, none⟩ = some (.int .i64 x.fore) ∧ W.cell? ⟨B5, 1, none⟩ = some (.int .i64 x.back) ∧ W.cell? ⟨B5, 2, none⟩ = some (.bool x.bold) ∧ W.cell? ⟨B5, 3, none⟩ = some (.bool x.under) ∧ W.cell? ⟨B5, 4, none⟩ = some (.bool x.turned) ∧ W.cell? ⟨B6, 0, none⟩ = some (.int .i64 a.fore) ∧ W.cell? ⟨B6, 1, none⟩ = some (.int .i64 a.back) ∧ W.cell? ⟨B6, 2, none⟩ = some (.bool a.bold) ∧ W.cell? ⟨B6, 3, none⟩ = some (.bool a.under) ∧ W.cell? ⟨B6, 4, none⟩ = some (.bool a.turned) ∧ W.cell? ⟨B7, 0, none⟩ = some (.int .i64 b.fore) ∧ W.cell? ⟨B7, 1, none⟩ = some (.int .i64 b.back) ∧ W.cell? ⟨B7, 2, none⟩ = some (.bool b.bold) ∧ W.cell? ⟨B7, 3, none⟩ = some (.bool b.under) ∧ W.cell? ⟨B7, 4, none⟩ = some (.bool b.turned) ∧ KT B3 B5 B6 B7 s x a b u p xs P w0 W) :
    Calls Tryd.prog 7 #[.agg #[.int .i64 a.fore, .int .i64 a.back, .bool a.bold, .bool a.under, .bool a.turned], p] W fun e w' => e = .returned (.agg #[.int .i64 y.fore, .int .i64 y.back, .bool y.bold, .bool y.under, .bool y.turned]) ∧ (w'.cell? ⟨B3, 0, none⟩ = some (.int .i64 s.fore) ∧ w'.cell? ⟨B3, 1, none⟩ = some (.int .i64 s.back) ∧ w'.cell? ⟨B3, 2, none⟩ = some (.bool s.bold) ∧ w'.cell? ⟨B3, 3, none⟩ = some (.bool s.under) ∧ w'.cell? ⟨B3, 4, none⟩ = some (.bool s.turned) ∧ w'.cell? ⟨B5, 0, none⟩ = some (.int .i64 x.fore) ∧ w'.cell? ⟨B5, 1, none⟩ = some (.int .i64 x.back) ∧ w'.cell? ⟨B5, 2, none⟩ = some (.bool x.bold) ∧ w'.cell? ⟨B5, 3, none⟩ = some (.bool x.under) ∧ w'.cell? ⟨B5, 4, none⟩ = some (.bool x.turned) ∧ w'.cell? ⟨B6, 0, none⟩ = some (.int .i64 a.fore) ∧ w'.cell? ⟨B6, 1, none⟩ = some (.int .i64 a.back) ∧ w'.cell? ⟨B6, 2, none⟩ = some (.bool a.bold) ∧ w'.cell? ⟨B6, 3, none⟩ = some (.bool a.under) ∧ w'.cell? ⟨B6, 4, none⟩ = some (.bool a.turned) ∧ w'.cell? ⟨B7, 0, none⟩ = some (.int .i64 b.fore) ∧ w'.cell? ⟨B7, 1, none⟩ = some (.int .i64 b.back) ∧ w'.cell? ⟨B7, 2, none⟩ = some (.bool b.bold) ∧ w'.cell? ⟨B7, 3, none⟩ = some (.bool b.under) ∧ w'.cell? ⟨B7, 4, none⟩ = some (.bool b.turned) ∧ KT B3 B5 B6 B7 s x a b u p xs P w0 w') :=
  (implStyled_any a p P W k.2.2.2.2.2.2.2.2.2.2.2.2.2.2.2.2.2.2.2.2.2.2.2.2.2.1 hw.wf hl).mono fun _ _ ⟨he, hb⟩ => ⟨by rw [he, hy]; rfl, (k.2.2.2.2.2.2.2.2.2.2.2.2.2.2.2.2.2.2.2.2.below hb).all⟩
theorem slI_nought (W : World) (t : TypeId) : SlI (W.alloc (Obj.cells #[.int .i64 0] t)) (.slice (some ⟨W.heap.size, 0, none⟩) 1 1) [0] :=
  SlI.of_own (e := t) (by have := World.ownsRow_lit (base := W.heap.size) (e := t) (size := 1) W #[.int .i64 0] 1 (Nat.le_refl _) (by first | exact Nat.le_refl _ | decide) rfl; simpa using this)
theorem implNought_kt (B3 B5 B6 B7 : Nat) (s x a b : St) (u p : Value) (xs P : List Int) (w0 W : World) (t : TypeId) (k : (W.alloc (Obj.cells #[.int .i64 0] t)).cell? ⟨B3, 0, none⟩ = some (.int .i64 s.fore) ∧ (W.alloc (Obj.cells #[.int .i64 0] t)).cell? ⟨B3, 1, none⟩ = some (.int .i64 s.back) ∧ (W.alloc (Obj.cells #[.int .i64 0] t)).cell? ⟨B3, 2, none⟩ = some (.bool s.bold) ∧ (W.alloc (Obj.cells #[.int .i64 0] t)).cell? ⟨B3, 3, none⟩ = some (.bool s.under) ∧ (W.alloc (Obj.cells #[.int .i64 0] t)).cell? ⟨B3, 4, none⟩ = some (.bool s.turned) ∧ (W.alloc (Obj.cells #[.int .i64 0] t)).cell? ⟨B5, 0, none⟩ = some (.int .i64 x.fore) ∧ (W.alloc (Obj.cells #[.int .i64 0] t)).cell? ⟨B5, 1, none⟩ = some (.int .i64 x.back) ∧ (W.alloc (Obj.cells #[.int .i64 0] t)).cell? ⟨B5, 2, none⟩ = some (.bool x.bold) ∧ (W.alloc (Obj.cells #[.int .i64 0] t)).cell? ⟨B5, 3, none⟩ = some (.bool x.under) ∧ (W.alloc (Obj.cells #[.int .i64 0] t)).cell? ⟨B5, 4, none⟩ = some (.bool x.turned) ∧ (W.alloc (Obj.cells #[.int .i64 0] t)).cell? ⟨B6, 0, none⟩ = some (.int .i64 a.fore) ∧ (W.alloc (Obj.cells #[.int .i64 0] t)).cell? ⟨B6, 1, none⟩ = some (.int .i64 a.back) ∧ (W.alloc (Obj.cells #[.int .i64 0] t)).cell? ⟨B6, 2, none⟩ = some (.bool a.bold) ∧ (W.alloc (Obj.cells #[.int .i64 0] t)).cell? ⟨B6, 3, none⟩ = some (.bool a.under) ∧ (W.alloc (Obj.cells #[.int .i64 0] t)).cell? ⟨B6, 4, none⟩ = some (.bool a.turned) ∧ (W.alloc (Obj.cells #[.int .i64 0] t)).cell? ⟨B7, 0, none⟩ = some (.int .i64 b.fore) ∧ (W.alloc (Obj.cells #[.int .i64 0] t)).cell? ⟨B7, 1, none⟩ = some (.int .i64 b.back) ∧ (W.alloc (Obj.cells #[.int .i64 0] t)).cell? ⟨B7, 2, none⟩ = some (.bool b.bold) ∧ (W.alloc (Obj.cells #[.int .i64 0] t)).cell? ⟨B7, 3, none⟩ = some (.bool b.under) ∧ (W.alloc (Obj.cells #[.int .i64 0] t)).cell? ⟨B7, 4, none⟩ = some (.bool b.turned) ∧ KT B3 B5 B6 B7 s x a b u p xs P w0 (W.alloc (Obj.cells #[.int .i64 0] t))) :
    Calls Tryd.prog 7 #[.agg #[.int .i64 a.fore, .int .i64 a.back, .bool a.bold, .bool a.under, .bool a.turned], .slice (some ⟨W.heap.size, 0, none⟩) 1 1] (W.alloc (Obj.cells #[.int .i64 0] t)) fun e w' => e = .returned (.agg #[.int .i64 0, .int .i64 0, .bool false, .bool false, .bool false]) ∧ (w'.cell? ⟨B3, 0, none⟩ = some (.int .i64 s.fore) ∧ w'.cell? ⟨B3, 1, none⟩ = some (.int .i64 s.back) ∧ w'.cell? ⟨B3, 2, none⟩ = some (.bool s.bold) ∧ w'.cell? ⟨B3, 3, none⟩ = some (.bool s.under) ∧ w'.cell? ⟨B3, 4, none⟩ = some (.bool s.turned) ∧ w'.cell? ⟨B5, 0, none⟩ = some (.int .i64 x.fore) ∧ w'.cell? ⟨B5, 1, none⟩ = some (.int .i64 x.back) ∧ w'.cell? ⟨B5, 2, none⟩ = some (.bool x.bold) ∧ w'.cell? ⟨B5, 3, none⟩ = some (.bool x.under) ∧ w'.cell? ⟨B5, 4, none⟩ = some (.bool x.turned) ∧ w'.cell? ⟨B6, 0, none⟩ = some (.int .i64 a.fore) ∧ w'.cell? ⟨B6, 1, none⟩ = some (.int .i64 a.back) ∧ w'.cell? ⟨B6, 2, none⟩ = some (.bool a.bold) ∧ w'.cell? ⟨B6, 3, none⟩ = some (.bool a.under) ∧ w'.cell? ⟨B6, 4, none⟩ = some (.bool a.turned) ∧ w'.cell? ⟨B7, 0, none⟩ = some (.int .i64 b.fore) ∧ w'.cell? ⟨B7, 1, none⟩ = some (.int .i64 b.back) ∧ w'.cell? ⟨B7, 2, none⟩ = some (.bool b.bold) ∧ w'.cell? ⟨B7, 3, none⟩ = some (.bool b.under) ∧ w'.cell? ⟨B7, 4, none⟩ = some (.bool b.turned) ∧ KT B3 B5 B6 B7 s x a b u p xs P w0 w') :=
  (implStyled_any a _ [0] _ (slI_nought W t) (by intro x hx; simp at hx; omega) (by simp)).mono fun _ _ ⟨he, hb⟩ => ⟨by rw [he, styled_nought]; rfl, (k.2.2.2.2.2.2.2.2.2.2.2.2.2.2.2.2.2.2.2.2.below hb).all⟩
theorem eq_zero (W : World) : (Op.equalIn 10000 25 (.agg #[.int .i64 0, .int .i64 0, .bool false, .bool false, .bool false]) (.agg #[.int .i64 0, .int .i64 0, .bool false, .bool false, .bool false])).run Tryd.prog W = .ok true W := by
  have := eq_st St.zero St.zero W
  rw [decide_eq_true rfl] at this
  exact this
theorem specSign_kt (B3 B5 B6 B7 : Nat) (s x a b : St) (u p : Value) (xs P : List Int) (w0 W : World) (g : ByteArray) (hg : nums g = signN a b) (k : W.cell? ⟨B3, 0, none⟩ = some (.int .i64 s.fore) ∧ W.cell? ⟨B3, 1, none⟩ = some (.int .i64 s.back) ∧ W.cell? ⟨B3, 2, none⟩ = some (.bool s.bold) ∧ W.cell? ⟨B3, 3, none⟩ = some (.bool s.under) ∧ W.cell? ⟨B3, 4, none⟩ = some (.bool s.turned) ∧ W.cell? ⟨B5, 0, none⟩ = some (.int .i64 x.fore) ∧ W.cell? ⟨B5, 1, none⟩ = some (.int .i64 x.back) ∧ W.cell? ⟨B5, 2, none⟩ = some (.bool x.bold) ∧ W.cell? ⟨B5, 3, none⟩ = some (.bool x.under) ∧ W.cell? ⟨B5, 4, none⟩ = some (.bool x.turned) ∧ W.cell? ⟨B6, 0, none⟩ = some (.int .i64 a.fore) ∧ W.cell? ⟨B6, 1, none⟩ = some (.int .i64 a.back) ∧ W.cell? ⟨B6, 2, none⟩ = some (.bool a.bold) ∧ W.cell? ⟨B6, 3, none⟩ = some (.bool a.under) ∧ W.cell? ⟨B6, 4, none⟩ = some (.bool a.turned) ∧ W.cell? ⟨B7, 0, none⟩ = some (.int .i64 b.fore) ∧ W.cell? ⟨B7, 1, none⟩ = some (.int .i64 b.back) ∧ W.cell? ⟨B7, 2, none⟩ = some (.bool b.bold) ∧ W.cell? ⟨B7, 3, none⟩ = some (.bool b.under) ∧ W.cell? ⟨B7, 4, none⟩ = some (.bool b.turned) ∧ KT B3 B5 B6 B7 s x a b u p xs P w0 W) :
    Calls Tryd.prog 14 #[.agg #[.int .i64 a.fore, .int .i64 a.back, .bool a.bold, .bool a.under, .bool a.turned], .agg #[.int .i64 b.fore, .int .i64 b.back, .bool b.bold, .bool b.under, .bool b.turned]] W fun e w' => e = .returned (.string g) ∧ (w'.cell? ⟨B3, 0, none⟩ = some (.int .i64 s.fore) ∧ w'.cell? ⟨B3, 1, none⟩ = some (.int .i64 s.back) ∧ w'.cell? ⟨B3, 2, none⟩ = some (.bool s.bold) ∧ w'.cell? ⟨B3, 3, none⟩ = some (.bool s.under) ∧ w'.cell? ⟨B3, 4, none⟩ = some (.bool s.turned) ∧ w'.cell? ⟨B5, 0, none⟩ = some (.int .i64 x.fore) ∧ w'.cell? ⟨B5, 1, none⟩ = some (.int .i64 x.back) ∧ w'.cell? ⟨B5, 2, none⟩ = some (.bool x.bold) ∧ w'.cell? ⟨B5, 3, none⟩ = some (.bool x.under) ∧ w'.cell? ⟨B5, 4, none⟩ = some (.bool x.turned) ∧ w'.cell? ⟨B6, 0, none⟩ = some (.int .i64 a.fore) ∧ w'.cell? ⟨B6, 1, none⟩ = some (.int .i64 a.back) ∧ w'.cell? ⟨B6, 2, none⟩ = some (.bool a.bold) ∧ w'.cell? ⟨B6, 3, none⟩ = some (.bool a.under) ∧ w'.cell? ⟨B6, 4, none⟩ = some (.bool a.turned) ∧ w'.cell? ⟨B7, 0, none⟩ = some (.int .i64 b.fore) ∧ w'.cell? ⟨B7, 1, none⟩ = some (.int .i64 b.back) ∧ w'.cell? ⟨B7, 2, none⟩ = some (.bool b.bold) ∧ w'.cell? ⟨B7, 3, none⟩ = some (.bool b.under) ∧ w'.cell? ⟨B7, 4, none⟩ = some (.bool b.turned) ∧ KT B3 B5 B6 B7 s x a b u p xs P w0 w') :=
  (specSign_any a b W).mono fun _ _ ⟨t, he, ht, hb⟩ => ⟨by rw [he, nums_inj (ht.trans hg.symm)], (k.2.2.2.2.2.2.2.2.2.2.2.2.2.2.2.2.2.2.2.2.below hb).all⟩
theorem specParams_kt (B3 B5 B6 B7 : Nat) (s x a b : St) (u p : Value) (xs P : List Int) (w0 W : World) (hP : paramsV a b = P) (k : W.cell? ⟨B3, 0, none⟩ = some (.int .i64 s.fore) ∧ W.cell? ⟨B3, 1, none⟩ = some (.int .i64 s.back) ∧ W.cell? ⟨B3, 2, none⟩ = some (.bool s.bold) ∧ W.cell? ⟨B3, 3, none⟩ = some (.bool s.under) ∧ W.cell? ⟨B3, 4, none⟩ = some (.bool s.turned) ∧ W.cell? ⟨B5, 0, none⟩ = some (.int .i64 x.fore) ∧ W.cell? ⟨B5, 1, none⟩ = some (.int .i64 x.back) ∧ W.cell? ⟨B5, 2, none⟩ = some (.bool x.bold) ∧ W.cell? ⟨B5, 3, none⟩ = some (.bool x.under) ∧ W.cell? ⟨B5, 4, none⟩ = some (.bool x.turned) ∧ W.cell? ⟨B6, 0, none⟩ = some (.int .i64 a.fore) ∧ W.cell? ⟨B6, 1, none⟩ = some (.int .i64 a.back) ∧ W.cell? ⟨B6, 2, none⟩ = some (.bool a.bold) ∧ W.cell? ⟨B6, 3, none⟩ = some (.bool a.under) ∧ W.cell? ⟨B6, 4, none⟩ = some (.bool a.turned) ∧ W.cell? ⟨B7, 0, none⟩ = some (.int .i64 b.fore) ∧ W.cell? ⟨B7, 1, none⟩ = some (.int .i64 b.back) ∧ W.cell? ⟨B7, 2, none⟩ = some (.bool b.bold) ∧ W.cell? ⟨B7, 3, none⟩ = some (.bool b.under) ∧ W.cell? ⟨B7, 4, none⟩ = some (.bool b.turned) ∧ KT B3 B5 B6 B7 s x a b u p xs P w0 W) :
    Calls Tryd.prog 13 #[.agg #[.int .i64 a.fore, .int .i64 a.back, .bool a.bold, .bool a.under, .bool a.turned], .agg #[.int .i64 b.fore, .int .i64 b.back, .bool b.bold, .bool b.under, .bool b.turned]] W fun e w' => ∃ v, e = .returned v ∧ SlI w' v P ∧ (w'.cell? ⟨B3, 0, none⟩ = some (.int .i64 s.fore) ∧ w'.cell? ⟨B3, 1, none⟩ = some (.int .i64 s.back) ∧ w'.cell? ⟨B3, 2, none⟩ = some (.bool s.bold) ∧ w'.cell? ⟨B3, 3, none⟩ = some (.bool s.under) ∧ w'.cell? ⟨B3, 4, none⟩ = some (.bool s.turned) ∧ w'.cell? ⟨B5, 0, none⟩ = some (.int .i64 x.fore) ∧ w'.cell? ⟨B5, 1, none⟩ = some (.int .i64 x.back) ∧ w'.cell? ⟨B5, 2, none⟩ = some (.bool x.bold) ∧ w'.cell? ⟨B5, 3, none⟩ = some (.bool x.under) ∧ w'.cell? ⟨B5, 4, none⟩ = some (.bool x.turned) ∧ w'.cell? ⟨B6, 0, none⟩ = some (.int .i64 a.fore) ∧ w'.cell? ⟨B6, 1, none⟩ = some (.int .i64 a.back) ∧ w'.cell? ⟨B6, 2, none⟩ = some (.bool a.bold) ∧ w'.cell? ⟨B6, 3, none⟩ = some (.bool a.under) ∧ w'.cell? ⟨B6, 4, none⟩ = some (.bool a.turned) ∧ w'.cell? ⟨B7, 0, none⟩ = some (.int .i64 b.fore) ∧ w'.cell? ⟨B7, 1, none⟩ = some (.int .i64 b.back) ∧ w'.cell? ⟨B7, 2, none⟩ = some (.bool b.bold) ∧ w'.cell? ⟨B7, 3, none⟩ = some (.bool b.under) ∧ w'.cell? ⟨B7, 4, none⟩ = some (.bool b.turned) ∧ KT B3 B5 B6 B7 s x a b u p xs P w0 w') :=
  (specParams_any a b W).mono fun _ _ ⟨v, he, hb, ho⟩ => ⟨v, he, hP ▸ SlI.of_own ho, (k.2.2.2.2.2.2.2.2.2.2.2.2.2.2.2.2.2.2.2.2.below hb).all⟩
theorem like_kt (B3 B5 B6 B7 : Nat) (s x a b : St) (u p : Value) (xs P : List Int) (w0 W : World) (v : Value) (hl : P.length ≤ 1073741824) (hv : SlI W v P) (k : W.cell? ⟨B3, 0, none⟩ = some (.int .i64 s.fore) ∧ W.cell? ⟨B3, 1, none⟩ = some (.int .i64 s.back) ∧ W.cell? ⟨B3, 2, none⟩ = some (.bool s.bold) ∧ W.cell? ⟨B3, 3, none⟩ = some (.bool s.under) ∧ W.cell? ⟨B3, 4, none⟩ = some (.bool s.turned) ∧ W.cell? ⟨B5, 0, none⟩ = some (.int .i64 x.fore) ∧ W.cell? ⟨B5, 1, none⟩ = some (.int .i64 x.back) ∧ W.cell? ⟨B5, 2, none⟩ = some (.bool x.bold) ∧ W.cell? ⟨B5, 3, none⟩ = some (.bool x.under) ∧ W.cell? ⟨B5, 4, none⟩ = some (.bool x.turned) ∧ W.cell? ⟨B6, 0, none⟩ = some (.int .i64 a.fore) ∧ W.cell? ⟨B6, 1, none⟩ = some (.int .i64 a.back) ∧ W.cell? ⟨B6, 2, none⟩ = some (.bool a.bold) ∧ W.cell? ⟨B6, 3, none⟩ = some (.bool a.under) ∧ W.cell? ⟨B6, 4, none⟩ = some (.bool a.turned) ∧ W.cell? ⟨B7, 0, none⟩ = some (.int .i64 b.fore) ∧ W.cell? ⟨B7, 1, none⟩ = some (.int .i64 b.back) ∧ W.cell? ⟨B7, 2, none⟩ = some (.bool b.bold) ∧ W.cell? ⟨B7, 3, none⟩ = some (.bool b.under) ∧ W.cell? ⟨B7, 4, none⟩ = some (.bool b.turned) ∧ KT B3 B5 B6 B7 s x a b u p xs P w0 W) :
    Calls Tryd.prog 12 #[p, v] W fun e w' => e = .returned (.bool true) ∧ (w'.cell? ⟨B3, 0, none⟩ = some (.int .i64 s.fore) ∧ w'.cell? ⟨B3, 1, none⟩ = some (.int .i64 s.back) ∧ w'.cell? ⟨B3, 2, none⟩ = some (.bool s.bold) ∧ w'.cell? ⟨B3, 3, none⟩ = some (.bool s.under) ∧ w'.cell? ⟨B3, 4, none⟩ = some (.bool s.turned) ∧ w'.cell? ⟨B5, 0, none⟩ = some (.int .i64 x.fore) ∧ w'.cell? ⟨B5, 1, none⟩ = some (.int .i64 x.back) ∧ w'.cell? ⟨B5, 2, none⟩ = some (.bool x.bold) ∧ w'.cell? ⟨B5, 3, none⟩ = some (.bool x.under) ∧ w'.cell? ⟨B5, 4, none⟩ = some (.bool x.turned) ∧ w'.cell? ⟨B6, 0, none⟩ = some (.int .i64 a.fore) ∧ w'.cell? ⟨B6, 1, none⟩ = some (.int .i64 a.back) ∧ w'.cell? ⟨B6, 2, none⟩ = some (.bool a.bold) ∧ w'.cell? ⟨B6, 3, none⟩ = some (.bool a.under) ∧ w'.cell? ⟨B6, 4, none⟩ = some (.bool a.turned) ∧ w'.cell? ⟨B7, 0, none⟩ = some (.int .i64 b.fore) ∧ w'.cell? ⟨B7, 1, none⟩ = some (.int .i64 b.back) ∧ w'.cell? ⟨B7, 2, none⟩ = some (.bool b.bold) ∧ w'.cell? ⟨B7, 3, none⟩ = some (.bool b.under) ∧ w'.cell? ⟨B7, 4, none⟩ = some (.bool b.turned) ∧ KT B3 B5 B6 B7 s x a b u p xs P w0 w') :=
  (like_same p v P W k.2.2.2.2.2.2.2.2.2.2.2.2.2.2.2.2.2.2.2.2.2.2.2.2.2.1 hv hl).mono fun _ _ ⟨he, n, hn⟩ => ⟨he, by rw [hn]; exact (k.2.2.2.2.2.2.2.2.2.2.2.2.2.2.2.2.2.2.2.2.below (drewK n)).all⟩
end Go.Proofs.YtedbmobjhpgiiaaDoor
namespace Go.Proofs.YtedbmobjhpgiiaaDoor
open Go.ChangeShapes Go.WideShapes Go.ChangeAt Go.RowKit
theorem below_gr3 {w0 w w' : World} {g : Nat} (hb : Below w0.heap.size w0 w) (hg : w.grownBy w' (some g)) (h : w0.heap.size ≤ g) : Below w0.heap.size w0 w' :=
  hb.grown hg hb.size (fun k hk => by cases hk; exact h)
/-- The two answers' places, the first style, the cursor. -/
def D2 (B5 g : Nat) (s : St) (v : Value) (xs : List Int) (w0 W : World) : Prop :=
  StAt W w0.heap.size St.zero ∧ StAt W (w0.heap.size + 1) St.zero ∧ StAt W B5 s ∧ CurAt W g v xs ∧ Below w0.heap.size w0 W
theorem D2.drew {B5 g : Nat} {s : St} {v : Value} {xs : List Int} {w0 W : World} (k : D2 B5 g s v xs w0 W) : D2 B5 g s v xs w0 W.drew :=
  ⟨k.1.below (bdr W), k.2.1.below (bdr W), k.2.2.1.below (bdr W), k.2.2.2.1.below (bdr W), k.2.2.2.2.trans ((bdr W).mono k.2.2.2.2.size)⟩
theorem l3DrawAny_d2 (B5 g : Nat) (s : St) (v : Value) (xs : List Int) (w0 W : World) (k : D2 B5 g s v xs w0 W) (h0 : w0.heap.size + 1 < g) (h5 : g < B5) :
    Calls Tryd.prog 19 #[.pointer (some ⟨g, 0, none⟩)] W fun e w' => ∃ y : St, e = .returned (.agg #[.int .i64 y.fore, .int .i64 y.back, .bool y.bold, .bool y.under, .bool y.turned]) ∧ D2 B5 g s v xs w0 w' :=
  (l3DrawAny_a g v xs W k.2.2.2.1).mono fun _ _ ⟨y, he, hc, hg⟩ => ⟨y, he, k.1.drawn hg (by omega), k.2.1.drawn hg (by omega), k.2.2.1.drawn hg (by omega), hc, below_gr3 k.2.2.2.2 hg (by omega)⟩
/-- Both styles in their places. -/
theorem D2.fin {B5 g : Nat} {s : St} {v : Value} {xs : List Int} {w0 W : World} (k : D2 B5 g s v xs w0 W) (y : St) :
    StAt (putSt (putSt W w0.heap.size s) (w0.heap.size + 1) y) w0.heap.size s ∧ StAt (putSt (putSt W w0.heap.size s) (w0.heap.size + 1) y) (w0.heap.size + 1) y ∧ Below w0.heap.size w0 (putSt (putSt W w0.heap.size s) (w0.heap.size + 1) y) := by
  have g1 := putSt_grown W w0.heap.size s
  have g2 := putSt_grown (putSt W w0.heap.size s) (w0.heap.size + 1) y
  have k2 := k.2.1.grown g1 (by simp)
  exact ⟨(k.1.put s).grown g2 (by simp), k2.put y, own_lift (own_lift k.2.2.2.2 g1 (Nat.le_refl _)) g2 (by omega)⟩

set_option maxHeartbeats 4000000 in
set_option maxRecDepth 20000 in
theorem drawParams_a (v : Value) (xs : List Int) (w : World) (hv : SlB w v xs) :
    Calls Tryd.prog 8 #[v] w fun e w' => ∃ s y : St, e = .returned (.tuple #[stV s, stV y]) ∧ Below w.heap.size w w' := by
  have h0 := StAt.new w St.zero 25
  have h1 := StAt.new (w.alloc (Obj.cells #[.int .i64 0, .int .i64 0, .bool false, .bool false, .bool false] 25)) St.zero 25
  have e1 : (w.alloc (Obj.cells #[.int .i64 0, .int .i64 0, .bool false, .bool false, .bool false] 25)).heap.size = w.heap.size + 1 := by simp
  rw [e1] at h1
  have h0' := h0.below (bal _ (Obj.cells #[.int .i64 0, .int .i64 0, .bool false, .bool false, .bool false] 25))
  have hbA : Below w.heap.size w ((w.alloc (Obj.cells #[.int .i64 0, .int .i64 0, .bool false, .bool false, .bool false] 25)).alloc (Obj.cells #[.int .i64 0, .int .i64 0, .bool false, .bool false, .bool false] 25)) := (bal _ _).trans ((bal _ _).mono (by simp))
  have eA : ((w.alloc (Obj.cells #[.int .i64 0, .int .i64 0, .bool false, .bool false, .bool false] 25)).alloc (Obj.cells #[.int .i64 0, .int .i64 0, .bool false, .bool false, .bool false] 25)).heap.size = w.heap.size + 1 + 1 := by simp
  go_enter Tryd.func8, Tryd.ntmps8
  go_wp2_with fail
  refine (l1New_a v xs _ (hv.below hbA)).mono ?_
  rintro e w1 ⟨rfl, hc1, hb1⟩
  have k0 := h0'.below hb1
  have k1 := h1.below hb1
  have hb1' := hbA.trans (hb1.mono (by simp; omega))
  rw [eA] at hc1 ⊢
  clear h0 h1 e1 h0' hbA hb1 eA
  go_wp2_with fail
  refine (l3DrawAny_a _ v xs _ hc1).mono ?_
  rintro e w2 ⟨s, rfl, hc2, hg2⟩
  have hl2 : w.heap.size + 1 + 1 < w2.heap.size := hc2.1
  have kd : D2 w2.heap.size (w.heap.size + 1 + 1) s v xs w (w2.alloc (Obj.cells #[.int .i64 s.fore, .int .i64 s.back, .bool s.bold, .bool s.under, .bool s.turned] 25)) := by
    have q := below_gr3 hb1' hg2 (by omega)
    exact ⟨(k0.drawn hg2 (by omega)).below (bal w2 _), (k1.drawn hg2 (by omega)).below (bal w2 _), StAt.new w2 s _, hc2.below (bal w2 _), q.trans ((bal w2 _).mono q.size)⟩
  clear k0 k1 hb1' hc1 hg2 hc2
  unfold stV
  go_wp2
  generalize w2.alloc (Obj.cells #[.int .i64 s.fore, .int .i64 s.back, .bool s.bold, .bool s.under, .bool s.turned] 25) = W2 at *
  generalize w2.heap.size = B5 at *
  obtain ⟨⟨_, ⟨d0, d1, d2, d3, d4⟩, ⟨y0, y1, y2, y3, y4⟩⟩, ⟨_, ⟨f0, f1, f2, f3, f4⟩, ⟨z0, z1, z2, z3, z4⟩⟩, ⟨_, ⟨b0, b1, b2, b3, b4⟩, _⟩, _⟩ := id kd
  go_region_with (first | (go_at_call 19; refine (l3DrawAny_d2 B5 _ s v xs w _ ?_ (by omega) hl2).mono ?_; (first | exact kd | exact kd.drew); rintro e wk ⟨y, rfl, hk⟩; obtain ⟨⟨_, ⟨d0, d1, d2, d3, d4⟩, ⟨y0, y1, y2, y3, y4⟩⟩, ⟨_, ⟨f0, f1, f2, f3, f4⟩, ⟨z0, z1, z2, z3, z4⟩⟩, ⟨_, ⟨b0, b1, b2, b3, b4⟩, _⟩, _⟩ := id hk))
  all_goals
    obtain ⟨⟨_, ⟨a0, a1, a2, a3, a4⟩, _⟩, ⟨_, ⟨e0, e1, e2, e3, e4⟩, _⟩, cb⟩ := hk.fin y
    simp only [putSt] at a0 a1 a2 a3 a4 e0 e1 e2 e3 e4 cb
    go_wp2
    exact bodyPost_ret (v := .tuple #[.agg #[.int .i64 s.fore, .int .i64 s.back, .bool s.bold, .bool s.under, .bool s.turned], .agg #[.int .i64 y.fore, .int .i64 y.back, .bool y.bold, .bool y.under, .bool y.turned]]) (by simp [results, Tryd.results8, go_sem, a0, a1, a2, a3, a4, e0, e1, e2, e3, e4]) rfl ⟨s, y, rfl, cb⟩
end Go.Proofs.YtedbmobjhpgiiaaDoor
namespace Go.Proofs.YtedbmobjhpgiiaaDoor
open Go.ChangeShapes Go.WideShapes Go.ChangeAt Go.RowKit
theorem u8_bd (y : Int) (h : (Lit.int .u8 y).wf = true) : 0 ≤ y ∧ y < 256 := by
  have := bounds_u8 h
  omega
theorem SlB.of_row {w : World} {a : Option Addr} {len cap : Nat} {zs : List Int} (h : IsRow .u8 w a len cap zs) (h4 : len ≤ 4096) : SlB w (.slice a len cap) (zs.take len) ∧ (zs.take len).length = len := by
  rcases h with ⟨rfl, rfl, rfl, rfl⟩ | ⟨x, rfl, hl, hm, hz, hc, hw⟩
  · exact ⟨⟨none, 0, rfl, by simp, by simp, .inl rfl⟩, rfl⟩
  · have hlen : (zs.take len).length = len := by rw [List.length_take]; omega
    refine ⟨⟨some x, cap, by rw [hlen], by rw [hlen]; exact h4, fun y hy => ?_, ?_⟩, hlen⟩
    · have := hw y (List.mem_of_mem_take hy)
      exact u8_bd y this
    · by_cases h0 : len = 0
      · left; subst h0; simp
      · right
        obtain ⟨b, off, spot⟩ := x
        have h1 := hc 0 (by omega)
        have hspot : spot = none := by simpa [Addr.add] using World.cell?_spot h1
        subst hspot
        refine ⟨b, off, rfl, World.block_lt_of_cell? w _ h1, fun i hi => ?_⟩
        rw [hlen] at hi
        have h2 := hc i (by omega)
        have e : (zs.take len).getD i 0 = zs.getD i 0 := by simp [List.getD, hi]
        rw [e, ← h2]
        by_cases hi0 : i = 0
        · subst hi0; simp [Addr.add]
        · simp [Addr.add, hi0]
theorem big_a (a : Option Addr) (len cap : Nat) (w : World) :
    Calls Tryd.prog 5 #[.slice a len cap] w fun e w' => e = .returned (.bool (decide (4096 < (len : Int)))) ∧ w' = w := by
  go_enter Tryd.func5, Tryd.ntmps5
  go_wp2
  go_ret
  exact ⟨rfl, rfl⟩
end Go.Proofs.YtedbmobjhpgiiaaDoor
