/- The program's changes of a style, and the map of them. -/
import Derived.Test.YtjcoebabipmmhaaDoorSI0
import Derived.Test.YtjcoebabipmmhaaDoorS1
import Derived.Maps.OwnSet
namespace Go.Proofs.YtjcoebabipmmhaaDoor
open Go.ChangeShapes Go.WideShapes Go.ChangeAt Go.RowKit
open Go.Maps (Keyed)

theorem StAt.fore {w : World} {B : Nat} {s : St} (h : StAt w B s) (x : Int) : StAt (w.setCell ⟨B, 0, none⟩ (.int .i64 x)) B { s with fore := x } := by
  obtain ⟨hlt, ⟨c0, c1, c2, c3, c4⟩, ⟨z0, z1, z2, z3, z4⟩⟩ := h
  exact ⟨by simpa using hlt, ⟨by simp [go_sem, c0], by rw [setCell_ne' _ _ _ _ _ (by decide)]; exact c1, by rw [setCell_ne' _ _ _ _ _ (by decide)]; exact c2, by rw [setCell_ne' _ _ _ _ _ (by decide)]; exact c3, by rw [setCell_ne' _ _ _ _ _ (by decide)]; exact c4⟩, ⟨by simp [go_sem, z0], by simp [go_sem, z1], by simp [go_sem, z2], by simp [go_sem, z3], by simp [go_sem, z4]⟩⟩
theorem StAt.back {w : World} {B : Nat} {s : St} (h : StAt w B s) (x : Int) : StAt (w.setCell ⟨B, 1, none⟩ (.int .i64 x)) B { s with back := x } := by
  obtain ⟨hlt, ⟨c0, c1, c2, c3, c4⟩, ⟨z0, z1, z2, z3, z4⟩⟩ := h
  exact ⟨by simpa using hlt, ⟨by rw [setCell_ne' _ _ _ _ _ (by decide)]; exact c0, by simp [go_sem, c1], by rw [setCell_ne' _ _ _ _ _ (by decide)]; exact c2, by rw [setCell_ne' _ _ _ _ _ (by decide)]; exact c3, by rw [setCell_ne' _ _ _ _ _ (by decide)]; exact c4⟩, ⟨by simp [go_sem, z0], by simp [go_sem, z1], by simp [go_sem, z2], by simp [go_sem, z3], by simp [go_sem, z4]⟩⟩
theorem StAt.bold {w : World} {B : Nat} {s : St} (h : StAt w B s) (x : Bool) : StAt (w.setCell ⟨B, 2, none⟩ (.bool x)) B { s with bold := x } := by
  obtain ⟨hlt, ⟨c0, c1, c2, c3, c4⟩, ⟨z0, z1, z2, z3, z4⟩⟩ := h
  exact ⟨by simpa using hlt, ⟨by rw [setCell_ne' _ _ _ _ _ (by decide)]; exact c0, by rw [setCell_ne' _ _ _ _ _ (by decide)]; exact c1, by simp [go_sem, c2], by rw [setCell_ne' _ _ _ _ _ (by decide)]; exact c3, by rw [setCell_ne' _ _ _ _ _ (by decide)]; exact c4⟩, ⟨by simp [go_sem, z0], by simp [go_sem, z1], by simp [go_sem, z2], by simp [go_sem, z3], by simp [go_sem, z4]⟩⟩
theorem StAt.under {w : World} {B : Nat} {s : St} (h : StAt w B s) (x : Bool) : StAt (w.setCell ⟨B, 3, none⟩ (.bool x)) B { s with under := x } := by
  obtain ⟨hlt, ⟨c0, c1, c2, c3, c4⟩, ⟨z0, z1, z2, z3, z4⟩⟩ := h
  exact ⟨by simpa using hlt, ⟨by rw [setCell_ne' _ _ _ _ _ (by decide)]; exact c0, by rw [setCell_ne' _ _ _ _ _ (by decide)]; exact c1, by rw [setCell_ne' _ _ _ _ _ (by decide)]; exact c2, by simp [go_sem, c3], by rw [setCell_ne' _ _ _ _ _ (by decide)]; exact c4⟩, ⟨by simp [go_sem, z0], by simp [go_sem, z1], by simp [go_sem, z2], by simp [go_sem, z3], by simp [go_sem, z4]⟩⟩
theorem StAt.turned {w : World} {B : Nat} {s : St} (h : StAt w B s) (x : Bool) : StAt (w.setCell ⟨B, 4, none⟩ (.bool x)) B { s with turned := x } := by
  obtain ⟨hlt, ⟨c0, c1, c2, c3, c4⟩, ⟨z0, z1, z2, z3, z4⟩⟩ := h
  exact ⟨by simpa using hlt, ⟨by rw [setCell_ne' _ _ _ _ _ (by decide)]; exact c0, by rw [setCell_ne' _ _ _ _ _ (by decide)]; exact c1, by rw [setCell_ne' _ _ _ _ _ (by decide)]; exact c2, by rw [setCell_ne' _ _ _ _ _ (by decide)]; exact c3, by simp [go_sem, c4]⟩, ⟨by simp [go_sem, z0], by simp [go_sem, z1], by simp [go_sem, z2], by simp [go_sem, z3], by simp [go_sem, z4]⟩⟩

/-- What a change says: the style in block B turns from s to s'. -/
def Chg (f B : Nat) (n : Int) (g : St → St) : Prop := ∀ (s : St) (w : World), StAt w B s →
  Calls Tryd.prog f #[.int .i64 n, .pointer (some ⟨B, 0, none⟩)] w fun e w' => e = .returned (.tuple #[]) ∧ StAt w' B (g s) ∧ w.grownBy w' (some B)
theorem chg_fore (B : Nat) (n : Int) (hn : 30 ≤ n ∧ n ≤ 37) : Chg 22 B n (fun s => { s with fore := n - 29 }) := by
  intro s w k
  obtain ⟨h1, h2⟩ := hn
  have k' := k.fore (n - 30 + 1)
  obtain ⟨_, ⟨c0, c1, c2, c3, c4⟩, ⟨z0, z1, z2, z3, z4⟩⟩ := k
  have e : n - 30 + 1 = n - 29 := by omega
  go_enter Tryd.func22, Tryd.ntmps22
  go_wp2
  go_end0
  exact ⟨rfl, by rw [← e]; exact k', setCell_gr _ _ _ _⟩
theorem chg_back (B : Nat) (n : Int) (hn : 40 ≤ n ∧ n ≤ 47) : Chg 23 B n (fun s => { s with back := n - 39 }) := by
  intro s w k
  obtain ⟨h1, h2⟩ := hn
  have k' := k.back (n - 40 + 1)
  obtain ⟨_, ⟨c0, c1, c2, c3, c4⟩, ⟨z0, z1, z2, z3, z4⟩⟩ := k
  have e : n - 40 + 1 = n - 39 := by omega
  go_enter Tryd.func23, Tryd.ntmps23
  go_wp2
  go_end0
  exact ⟨rfl, by rw [← e]; exact k', setCell_gr _ _ _ _⟩
theorem chg_zero (B : Nat) (n : Int) : Chg 24 B n (fun _ => St.zero) := by
  intro s w k
  have k' := k.put St.zero
  have g' := putSt_grown w B St.zero
  obtain ⟨_, ⟨c0, c1, c2, c3, c4⟩, ⟨z0, z1, z2, z3, z4⟩⟩ := k
  simp only [putSt, St.zero] at k' g'
  go_enter Tryd.func24, Tryd.ntmps24
  go_wp2
  go_end0
  exact ⟨rfl, k', g'⟩
theorem chg_bold (B : Nat) (n : Int) : Chg 25 B n (fun s => { s with bold := true }) := by
  intro s w k
  have k' := k.bold true
  obtain ⟨_, ⟨c0, c1, c2, c3, c4⟩, ⟨z0, z1, z2, z3, z4⟩⟩ := k
  go_enter Tryd.func25, Tryd.ntmps25
  go_wp2
  go_end0
  exact ⟨rfl, k', setCell_gr _ _ _ _⟩
theorem chg_unbold (B : Nat) (n : Int) : Chg 26 B n (fun s => { s with bold := false }) := by
  intro s w k
  have k' := k.bold false
  obtain ⟨_, ⟨c0, c1, c2, c3, c4⟩, ⟨z0, z1, z2, z3, z4⟩⟩ := k
  go_enter Tryd.func26, Tryd.ntmps26
  go_wp2
  go_end0
  exact ⟨rfl, k', setCell_gr _ _ _ _⟩
theorem chg_under (B : Nat) (n : Int) : Chg 27 B n (fun s => { s with under := true }) := by
  intro s w k
  have k' := k.under true
  obtain ⟨_, ⟨c0, c1, c2, c3, c4⟩, ⟨z0, z1, z2, z3, z4⟩⟩ := k
  go_enter Tryd.func27, Tryd.ntmps27
  go_wp2
  go_end0
  exact ⟨rfl, k', setCell_gr _ _ _ _⟩
theorem chg_ununder (B : Nat) (n : Int) : Chg 28 B n (fun s => { s with under := false }) := by
  intro s w k
  have k' := k.under false
  obtain ⟨_, ⟨c0, c1, c2, c3, c4⟩, ⟨z0, z1, z2, z3, z4⟩⟩ := k
  go_enter Tryd.func28, Tryd.ntmps28
  go_wp2
  go_end0
  exact ⟨rfl, k', setCell_gr _ _ _ _⟩
theorem chg_turned (B : Nat) (n : Int) : Chg 29 B n (fun s => { s with turned := true }) := by
  intro s w k
  have k' := k.turned true
  obtain ⟨_, ⟨c0, c1, c2, c3, c4⟩, ⟨z0, z1, z2, z3, z4⟩⟩ := k
  go_enter Tryd.func29, Tryd.ntmps29
  go_wp2
  go_end0
  exact ⟨rfl, k', setCell_gr _ _ _ _⟩
theorem chg_unturned (B : Nat) (n : Int) : Chg 30 B n (fun s => { s with turned := false }) := by
  intro s w k
  have k' := k.turned false
  obtain ⟨_, ⟨c0, c1, c2, c3, c4⟩, ⟨z0, z1, z2, z3, z4⟩⟩ := k
  go_enter Tryd.func30, Tryd.ntmps30
  go_wp2
  go_end0
  exact ⟨rfl, k', setCell_gr _ _ _ _⟩
theorem chg_fore0 (B : Nat) (n : Int) : Chg 31 B n (fun s => { s with fore := 0 }) := by
  intro s w k
  have k' := k.fore 0
  obtain ⟨_, ⟨c0, c1, c2, c3, c4⟩, ⟨z0, z1, z2, z3, z4⟩⟩ := k
  go_enter Tryd.func31, Tryd.ntmps31
  go_wp2
  go_end0
  exact ⟨rfl, k', setCell_gr _ _ _ _⟩
theorem chg_back0 (B : Nat) (n : Int) : Chg 32 B n (fun s => { s with back := 0 }) := by
  intro s w k
  have k' := k.back 0
  obtain ⟨_, ⟨c0, c1, c2, c3, c4⟩, ⟨z0, z1, z2, z3, z4⟩⟩ := k
  go_enter Tryd.func32, Tryd.ntmps32
  go_wp2
  go_end0
  exact ⟨rfl, k', setCell_gr _ _ _ _⟩

/-! ### the map -/
def clo (f B : Nat) : Value := .func (.func f) #[] #[.pointer (some ⟨B, 0, none⟩)]
def heldR (v : Value) : Option (DataW Value × List MemPlace) := some (.held v, [])
def CH : List (Int × Nat) := [(0, 24), (1, 25), (22, 26), (4, 27), (24, 28), (7, 29), (27, 30),
  (30, 22), (31, 22), (32, 22), (33, 22), (34, 22), (35, 22), (36, 22), (37, 22), (39, 31),
  (40, 23), (41, 23), (42, 23), (43, 23), (44, 23), (45, 23), (46, 23), (47, 23), (49, 32)]
def mapD (B : Nat) (l : List (Int × Nat)) : DataW Value := l.foldl (fun D p => D.put (.int .i64 p.1) (.held (clo p.2 B))) (.map [])
theorem mapD_snoc (B : Nat) (l : List (Int × Nat)) (n : Int) (f : Nat) : mapD B (l ++ [(n, f)]) = (mapD B l).put (.int .i64 n) (.held (clo f B)) := by simp [mapD, List.foldl_append]
theorem fold_miss (B : Nat) (n : Int) (l : List (Int × Nat)) : ∀ D : DataW Value, (∀ p ∈ l, n ≠ p.1) →
    Maps.has (l.foldl (fun D p => D.put (.int .i64 p.1) (.held (clo p.2 B))) D) (.int .i64 n) = Maps.has D (.int .i64 n) ∧ ∀ z, (l.foldl (fun D p => D.put (.int .i64 p.1) (.held (clo p.2 B))) D).atKey (.int .i64 n) z = D.atKey (.int .i64 n) z := by
  induction l with
  | nil => intro D _; exact ⟨rfl, fun _ => rfl⟩
  | cons p l ih =>
    intro D h
    have hne : Lit.int .i64 n ≠ Lit.int .i64 p.1 := fun e => h p (by simp) (by injection e)
    obtain ⟨h1, h2⟩ := ih (D.put (.int .i64 p.1) (.held (clo p.2 B))) (fun q hq => h q (by simp [hq]))
    exact ⟨h1.trans (Maps.has_put_other hne _), fun z => (h2 z).trans (Maps.atKey_put_other hne _ z)⟩
theorem zero_fn (w : World) : (zeroValue 44).run Tryd.prog w = .ok .nilFunc w := by kernel_rfl
/-- What the look-up of n gives, and what is done with it. -/
def Look (B : Nat) (n : Int) (v : Value) (b : Bool) : Prop := Maps.has (mapD B CH) (.int .i64 n) = b ∧ (mapD B CH).atKey (.int .i64 n) (.held .nilFunc) = .held v
theorem look_miss (B : Nat) (n : Int) (h : ∀ p ∈ CH, n ≠ p.1) : Look B n .nilFunc false := by
  obtain ⟨h1, h2⟩ := fold_miss B n CH (.map []) h
  exact ⟨h1, h2 _⟩
end Go.Proofs.YtjcoebabipmmhaaDoor
