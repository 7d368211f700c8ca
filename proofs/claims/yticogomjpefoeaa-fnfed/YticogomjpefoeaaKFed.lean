/- What stays while the law of fed bytes runs. -/
import Derived.Test.YticogomjpefoeaaDraw9
import Derived.Test.YticogomjpefoeaaAppG
namespace Go.Proofs.Yticogomjpefoeaa
open Go.ChangeShapes Go.WideShapes Go.ChangeAt Go.RowKit

theorem drewB {B : Nat} {w : World} (n : Nat) : Below B w (w.drewN n) := ⟨rfl, rfl, rfl, Nat.le_refl _, fun _ _ => rfl⟩
/-- The three structs of the law's first part, the two lists, the old world. -/
def KF (B3 B5 B7 : Nat) (h x : ByteArray) (u2 u3 : Value) (L : List Int) (w0 W : World) : Prop := HeldAt W B3 h ∧ HeldAt W B5 x ∧ HeldAt W B7 x ∧ SlI W u2 L ∧ SlI W u3 L ∧ Below w0.heap.size w0 W
theorem KF.below {B3 B5 B7 : Nat} {h x : ByteArray} {u2 u3 : Value} {L : List Int} {w0 W W' : World} (k : KF B3 B5 B7 h x u2 u3 L w0 W) (hb : Below W.heap.size W W') : KF B3 B5 B7 h x u2 u3 L w0 W' :=
  ⟨k.1.below hb, k.2.1.below hb, k.2.2.1.below hb, k.2.2.2.1.below hb, k.2.2.2.2.1.below hb, k.2.2.2.2.2.trans (hb.mono k.2.2.2.2.2.size)⟩
def SF (B3 B5 B7 : Nat) (h x : ByteArray) (u2 u3 : Value) (L : List Int) (w0 W : World) : Prop :=
  W.cell? ⟨B3, 0, none⟩ = some (.string h) ∧ W.cell? ⟨B5, 0, none⟩ = some (.string x) ∧ W.cell? ⟨B7, 0, none⟩ = some (.string x) ∧ KF B3 B5 B7 h x u2 u3 L w0 W
theorem KF.all {B3 B5 B7 : Nat} {h x : ByteArray} {u2 u3 : Value} {L : List Int} {w0 W : World} (k : KF B3 B5 B7 h x u2 u3 L w0 W) : W.cell? ⟨B3, 0, none⟩ = some (.string h) ∧ W.cell? ⟨B5, 0, none⟩ = some (.string x) ∧ W.cell? ⟨B7, 0, none⟩ = some (.string x) ∧ KF B3 B5 B7 h x u2 u3 L w0 W := ⟨k.1.2.1, k.2.1.2.1, k.2.2.1.2.1, k⟩
theorem KF.drew {B3 B5 B7 : Nat} {h x : ByteArray} {u2 u3 : Value} {L : List Int} {w0 W : World} (k : KF B3 B5 B7 h x u2 u3 L w0 W) : W.drew.cell? ⟨B3, 0, none⟩ = some (.string h) ∧ W.drew.cell? ⟨B5, 0, none⟩ = some (.string x) ∧ W.drew.cell? ⟨B7, 0, none⟩ = some (.string x) ∧ KF B3 B5 B7 h x u2 u3 L w0 W.drew := (k.below (drewB 1)).all
theorem like_kf (B3 B5 B7 : Nat) (h x : ByteArray) (u2 u3 : Value) (L : List Int) (w0 W : World) (hl : L.length ≤ 1073741824) (k : W.cell? ⟨B3, 0, none⟩ = some (.string h) ∧ W.cell? ⟨B5, 0, none⟩ = some (.string x) ∧ W.cell? ⟨B7, 0, none⟩ = some (.string x) ∧ KF B3 B5 B7 h x u2 u3 L w0 W) :
    Calls Try.prog 18 #[u2, u3] W fun e w' => e = .returned (.bool true) ∧ (w'.cell? ⟨B3, 0, none⟩ = some (.string h) ∧ w'.cell? ⟨B5, 0, none⟩ = some (.string x) ∧ w'.cell? ⟨B7, 0, none⟩ = some (.string x) ∧ KF B3 B5 B7 h x u2 u3 L w0 w') :=
  (like_same u2 u3 L W k.2.2.2.2.2.2.1 k.2.2.2.2.2.2.2.1 hl).mono fun _ _ ⟨he, n, hn⟩ => ⟨he, by rw [hn]; exact (k.2.2.2.below (drewB n)).all⟩
theorem implOk_kf (B3 B5 B7 : Nat) (h x : ByteArray) (u2 u3 : Value) (L : List Int) (w0 W : World) (q : ByteArray) (k : W.cell? ⟨B3, 0, none⟩ = some (.string h) ∧ W.cell? ⟨B5, 0, none⟩ = some (.string x) ∧ W.cell? ⟨B7, 0, none⟩ = some (.string x) ∧ KF B3 B5 B7 h x u2 u3 L w0 W) :
    Calls Try.prog 27 #[.agg #[.string q]] W fun e w' => e = .returned (.bool (feedOk q)) ∧ (w'.cell? ⟨B3, 0, none⟩ = some (.string h) ∧ w'.cell? ⟨B5, 0, none⟩ = some (.string x) ∧ w'.cell? ⟨B7, 0, none⟩ = some (.string x) ∧ KF B3 B5 B7 h x u2 u3 L w0 w') :=
  (implFeederOk_any q W).mono fun _ _ ⟨he, hb⟩ => ⟨he, (k.2.2.2.below hb).all⟩
theorem specOk_kf (B3 B5 B7 : Nat) (h x : ByteArray) (u2 u3 : Value) (L : List Int) (w0 W : World) (q : ByteArray) (k : W.cell? ⟨B3, 0, none⟩ = some (.string h) ∧ W.cell? ⟨B5, 0, none⟩ = some (.string x) ∧ W.cell? ⟨B7, 0, none⟩ = some (.string x) ∧ KF B3 B5 B7 h x u2 u3 L w0 W) :
    Calls Try.prog 28 #[.agg #[.string q]] W fun e w' => e = .returned (.bool (feedOk q)) ∧ (w'.cell? ⟨B3, 0, none⟩ = some (.string h) ∧ w'.cell? ⟨B5, 0, none⟩ = some (.string x) ∧ w'.cell? ⟨B7, 0, none⟩ = some (.string x) ∧ KF B3 B5 B7 h x u2 u3 L w0 w') :=
  (specFeederOk_any q W).mono fun _ _ ⟨he, hb⟩ => ⟨he, (k.2.2.2.below hb).all⟩

/-- The loop's: the Feeder in hand, the first one's answer, what is told so far, the old world. -/
def KL (BG B5 base : Nat) (q x : ByteArray) (ut : Value) (T : List Int) (w0 W : World) : Prop := HeldAt W BG q ∧ HeldAt W B5 x ∧ W.ownsRow base 2 1 ut T.length (T.map (Value.int .i64)) ∧ base ≤ W.heap.size ∧ Below w0.heap.size w0 W
theorem KL.below {BG B5 base : Nat} {q x : ByteArray} {ut : Value} {T : List Int} {w0 W W' : World} (k : KL BG B5 base q x ut T w0 W) (hb : Below W.heap.size W W') : KL BG B5 base q x ut T w0 W' :=
  ⟨k.1.below hb, k.2.1.below hb, k.2.2.1.below hb, Nat.le_trans k.2.2.2.1 hb.size, k.2.2.2.2.trans (hb.mono k.2.2.2.2.size)⟩
theorem KL.drew {BG B5 base : Nat} {q x : ByteArray} {ut : Value} {T : List Int} {w0 W : World} (k : KL BG B5 base q x ut T w0 W) : W.drew.cell? ⟨BG, 0, none⟩ = some (.string q) ∧ KL BG B5 base q x ut T w0 W.drew := ⟨(k.below (drewB 1)).1.2.1, k.below (drewB 1)⟩
theorem KL.alloc {BG B5 base : Nat} {q x : ByteArray} {ut : Value} {T : List Int} {w0 W : World} (k : KL BG B5 base q x ut T w0 W) (o : Obj) : (W.alloc o).cell? ⟨BG, 0, none⟩ = some (.string q) ∧ KL BG B5 base q x ut T w0 (W.alloc o) := ⟨(k.below (bal W o)).1.2.1, k.below (bal W o)⟩
theorem KL.drew2 {BG B5 base : Nat} {q x : ByteArray} {ut : Value} {T : List Int} {w0 W : World} (k : W.cell? ⟨BG, 0, none⟩ = some (.string q) ∧ KL BG B5 base q x ut T w0 W) : W.drew.cell? ⟨BG, 0, none⟩ = some (.string q) ∧ KL BG B5 base q x ut T w0 W.drew := k.2.drew
theorem KL.alloc2 {BG B5 base : Nat} {q x : ByteArray} {ut : Value} {T : List Int} {w0 W : World} (k : W.cell? ⟨BG, 0, none⟩ = some (.string q) ∧ KL BG B5 base q x ut T w0 W) (o : Obj) : (W.alloc o).cell? ⟨BG, 0, none⟩ = some (.string q) ∧ KL BG B5 base q x ut T w0 (W.alloc o) := k.2.alloc o
/-- What is written into a block of the loop's own. -/
theorem KL.set {BG B5 base : Nat} {q q' x : ByteArray} {ut ut' : Value} {T T' : List Int} {w0 w W : World} (k0 : KL BG B5 base q' x ut' T' w0 w) (k : KL BG B5 base q x ut T w0 W) (hut : ∀ g, ut.ownBlock = some g → g < w.heap.size) (h5 : B5 < base) (hG : BG < base) (u : Value) :
    (W.setCell ⟨w.heap.size, 0, none⟩ u).cell? ⟨BG, 0, none⟩ = some (.string q) ∧ KL BG B5 base q x ut T w0 (W.setCell ⟨w.heap.size, 0, none⟩ u) := by
  have hg := setCell_grown W w.heap.size 0 u
  have l1 := k0.2.2.2.1
  have h1 := k.1.grown hg (by intro e; cases e; omega)
  refine ⟨h1.2.1, h1, k.2.1.grown hg (by intro e; cases e; omega), k.2.2.1.kept hg ?_, by simpa using k.2.2.2.1, k.2.2.2.2.setCell (p := ⟨w.heap.size, 0, none⟩) k0.2.2.2.2.size _⟩
  cases hq : ut.ownBlock with
  | none => exact .inl rfl
  | some g => right; intro e; have := hut g hq; cases e; omega
theorem KL.set2 {BG B5 base : Nat} {q x : ByteArray} {ut : Value} {T : List Int} {w0 w W : World} (k0 : KL BG B5 base q x ut T w0 w) (h5 : B5 < base) (hG : BG < base) (k : W.cell? ⟨BG, 0, none⟩ = some (.string q) ∧ KL BG B5 base q x ut T w0 W) (u : Value) :
    (W.setCell ⟨w.heap.size, 0, none⟩ u).cell? ⟨BG, 0, none⟩ = some (.string q) ∧ KL BG B5 base q x ut T w0 (W.setCell ⟨w.heap.size, 0, none⟩ u) :=
  KL.set k0 k.2 (fun g e => (k0.2.2.1.lt g e).2) h5 hG u
/-- The Feeder in hand is another one. -/
theorem KL.put {BG B5 base : Nat} {q x : ByteArray} {ut : Value} {T : List Int} {w0 W : World} (k : KL BG B5 base q x ut T w0 W) (h5 : B5 < BG) (hG : BG < base) (h0 : w0.heap.size ≤ BG) (q' : ByteArray) : KL BG B5 base q' x ut T w0 (W.setCell ⟨BG, 0, none⟩ (.string q')) := by
  have hg := setCell_grown W BG 0 (.string q')
  refine ⟨k.1.set q', k.2.1.grown hg (by intro e; cases e; omega), k.2.2.1.kept hg ?_, by simpa using k.2.2.2.1, k.2.2.2.2.setCell (p := ⟨BG, 0, none⟩) h0 _⟩
  cases hq : ut.ownBlock with
  | none => exact .inl rfl
  | some g => right; intro e; have := (k.2.2.1.lt g hq).1; cases e; omega
theorem implFeed_kl (BG B5 base : Nat) (q x : ByteArray) (ut : Value) (T : List Int) (w0 W : World) (b : Int) (k : W.cell? ⟨BG, 0, none⟩ = some (.string q) ∧ KL BG B5 base q x ut T w0 W) :
    Calls Try.prog 25 #[.agg #[.string q], .int .u8 b] W fun e w' => ∃ u, e = .returned (.tuple #[.agg #[.string (fedV q b).2], u]) ∧ (w'.cell? ⟨BG, 0, none⟩ = some (.string q) ∧ KL BG B5 base q x ut T w0 w') ∧ Below W.heap.size W w' ∧ w'.ownsRow W.heap.size 2 1 u (fedV q b).1.length ((fedV q b).1.map (Value.int .i64)) :=
  (implFeed_any q b W).mono fun _ _ ⟨u, he, hb, ho⟩ => ⟨u, he, ⟨(k.2.below hb).1.2.1, k.2.below hb⟩, hb, ho⟩
end Go.Proofs.Yticogomjpefoeaa
