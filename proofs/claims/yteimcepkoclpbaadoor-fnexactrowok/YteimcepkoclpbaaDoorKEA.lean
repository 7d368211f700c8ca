/- What stays while an exact law of rows runs. -/
import Derived.Test.YteimcepkoclpbaaDoorKC2
import Derived.Test.YteimcepkoclpbaaDoorST1
import Derived.Deep.RegionHeld3
namespace Go.Proofs.YteimcepkoclpbaaDoor
open Go.ChangeShapes Go.WideShapes Go.ChangeAt Go.RowKit

/-- A slice of cells whose block lies below B. -/
def SlU (B : Nat) (w : World) (v : Value) (xs : List Ce) : Prop :=
  ∃ a c, v = .slice a xs.length c ∧ xs.length ≤ c ∧ (a = none → c = 0) ∧ (xs = [] ∨ ∃ b off, a = some ⟨b, off, none⟩ ∧ b < B ∧ b < w.heap.size ∧ ∀ i, i < xs.length → CeAt w b (off + i * 7) (atC xs i))
theorem SlU.sl {B : Nat} {w : World} {v : Value} {xs : List Ce} (h : SlU B w v xs) : SlC w v xs := by
  obtain ⟨a, c, hv, hc, hn, h | ⟨b, off, ha, _, hlt, hi⟩⟩ := h
  · exact ⟨a, c, hv, hc, hn, .inl h⟩
  · exact ⟨a, c, hv, hc, hn, .inr ⟨b, off, ha, hlt, hi⟩⟩
theorem SlU.of {w : World} {v : Value} {xs : List Ce} (h : SlC w v xs) : SlU w.heap.size w v xs := by
  obtain ⟨a, c, hv, hc, hn, h | ⟨b, off, ha, hlt, hi⟩⟩ := h
  · exact ⟨a, c, hv, hc, hn, .inl h⟩
  · exact ⟨a, c, hv, hc, hn, .inr ⟨b, off, ha, hlt, hlt, hi⟩⟩
theorem SlU.up {B B' : Nat} {w : World} {v : Value} {xs : List Ce} (h : SlU B w v xs) (hb : B ≤ B') : SlU B' w v xs := by
  obtain ⟨a, c, hv, hc, hn, h | ⟨b, off, ha, h1, hlt, hi⟩⟩ := h
  · exact ⟨a, c, hv, hc, hn, .inl h⟩
  · exact ⟨a, c, hv, hc, hn, .inr ⟨b, off, ha, Nat.lt_of_lt_of_le h1 hb, hlt, hi⟩⟩
theorem SlU.below {B : Nat} {w w' : World} {v : Value} {xs : List Ce} (h : SlU B w v xs) (hb : Below B w w') : SlU B w' v xs := by
  obtain ⟨a, c, hv, hc, hn, h | ⟨b, off, ha, h1, hlt, hi⟩⟩ := h
  · exact ⟨a, c, hv, hc, hn, .inl h⟩
  · refine ⟨a, c, hv, hc, hn, .inr ⟨b, off, ha, h1, Nat.lt_of_lt_of_le hlt hb.size, fun i h => ?_⟩⟩
    have e : ∀ k, w'.cell? ⟨b, k, none⟩ = w.cell? ⟨b, k, none⟩ := fun k => hb.cell (p := ⟨b, k, none⟩) h1
    have := hi i h
    unfold CeAt at *
    rw [e, e, e, e, e, e, e]
    exact this
/-- An argument's row, and a style in a box of this call's own. -/
def KE (B : Nat) (s : St) (v : Value) (xs : List Ce) (w0 W : World) : Prop := StAt W B s ∧ SlU (B + 1) W v xs ∧ Below w0.heap.size w0 W
theorem KE.below {B : Nat} {s : St} {v : Value} {xs : List Ce} {w0 W W' : World} (k : KE B s v xs w0 W) (hb : Below W.heap.size W W') : KE B s v xs w0 W' :=
  ⟨k.1.below hb, k.2.1.below (hb.mono k.1.1), k.2.2.trans (hb.mono k.2.2.size)⟩
/-- A row of this call's own changes. -/
theorem KE.own {B : Nat} {s : St} {v : Value} {xs : List Ce} {w0 W W' : World} {base : Nat} {u : Value} {L : List Ce} (k : KE B s v xs w0 W) (ho : OwnC W base u L) (hB : B < base) (h0 : w0.heap.size ≤ B) (hg : W.grownBy W' u.ownBlock) : KE B s v xs w0 W' := by
  have hb : Below (B + 1) W W' := (Below.refl _ _).grown hg k.1.1 (fun g e => Nat.lt_of_lt_of_le hB (ho.lt g e).1)
  exact ⟨k.1.own ho hB hg, k.2.1.below hb, k.2.2.trans (hb.mono (by omega))⟩
theorem KE.all {B : Nat} {s : St} {v : Value} {xs : List Ce} {w0 W : World} (k : KE B s v xs w0 W) : W.cell? ⟨B, 0, none⟩ = some (.int .i64 s.fore) ∧ W.cell? ⟨B, 1, none⟩ = some (.int .i64 s.back) ∧ W.cell? ⟨B, 2, none⟩ = some (.bool s.bold) ∧ W.cell? ⟨B, 3, none⟩ = some (.bool s.under) ∧ W.cell? ⟨B, 4, none⟩ = some (.bool s.turned) ∧ KE B s v xs w0 W :=
  ⟨k.1.2.1.1, k.1.2.1.2.1, k.1.2.1.2.2.1, k.1.2.1.2.2.2.1, k.1.2.1.2.2.2.2, k⟩
theorem KE.drew {B : Nat} {s : St} {v : Value} {xs : List Ce} {w0 W : World} (k : KE B s v xs w0 W) : W.drew.cell? ⟨B, 0, none⟩ = some (.int .i64 s.fore) ∧ W.drew.cell? ⟨B, 1, none⟩ = some (.int .i64 s.back) ∧ W.drew.cell? ⟨B, 2, none⟩ = some (.bool s.bold) ∧ W.drew.cell? ⟨B, 3, none⟩ = some (.bool s.under) ∧ W.drew.cell? ⟨B, 4, none⟩ = some (.bool s.turned) ∧ KE B s v xs w0 W.drew := (k.below (bdr W)).all
theorem toStyle_ke (B : Nat) (s : St) (v : Value) (xs : List Ce) (w0 W : World) (k : W.cell? ⟨B, 0, none⟩ = some (.int .i64 s.fore) ∧ W.cell? ⟨B, 1, none⟩ = some (.int .i64 s.back) ∧ W.cell? ⟨B, 2, none⟩ = some (.bool s.bold) ∧ W.cell? ⟨B, 3, none⟩ = some (.bool s.under) ∧ W.cell? ⟨B, 4, none⟩ = some (.bool s.turned) ∧ KE B s v xs w0 W) :
    Calls Tryd.prog 32 #[.agg #[.int .i64 s.fore, .int .i64 s.back, .bool s.bold, .bool s.under, .bool s.turned]] W fun e w' => e = .returned (.agg #[.int .i64 s.fore, .int .i64 s.back, .bool s.bold, .bool s.under, .bool s.turned]) ∧ Below W.heap.size W w' ∧ (w'.cell? ⟨B, 0, none⟩ = some (.int .i64 s.fore) ∧ w'.cell? ⟨B, 1, none⟩ = some (.int .i64 s.back) ∧ w'.cell? ⟨B, 2, none⟩ = some (.bool s.bold) ∧ w'.cell? ⟨B, 3, none⟩ = some (.bool s.under) ∧ w'.cell? ⟨B, 4, none⟩ = some (.bool s.turned) ∧ KE B s v xs w0 w') :=
  (toStyle_any s W).mono fun _ _ ⟨he, hb⟩ => ⟨he, hb, (k.2.2.2.2.2.below hb).all⟩
/-- What a call of the program or of the specification on a row leaves. -/
theorem row_ke (B : Nat) (s : St) (v : Value) (xs : List Ce) (w0 W : World) (F : Nat) (args : Array Value) (Y : List Ce) (hc : Calls Tryd.prog F args W fun e w' => ∃ u, e = .returned u ∧ OwnC w' W.heap.size u Y ∧ Below W.heap.size W w')
    (k : W.cell? ⟨B, 0, none⟩ = some (.int .i64 s.fore) ∧ W.cell? ⟨B, 1, none⟩ = some (.int .i64 s.back) ∧ W.cell? ⟨B, 2, none⟩ = some (.bool s.bold) ∧ W.cell? ⟨B, 3, none⟩ = some (.bool s.under) ∧ W.cell? ⟨B, 4, none⟩ = some (.bool s.turned) ∧ KE B s v xs w0 W) :
    Calls Tryd.prog F args W fun e w' => ∃ u, e = .returned u ∧ OwnC w' W.heap.size u Y ∧ Below W.heap.size W w' ∧ (w'.cell? ⟨B, 0, none⟩ = some (.int .i64 s.fore) ∧ w'.cell? ⟨B, 1, none⟩ = some (.int .i64 s.back) ∧ w'.cell? ⟨B, 2, none⟩ = some (.bool s.bold) ∧ w'.cell? ⟨B, 3, none⟩ = some (.bool s.under) ∧ w'.cell? ⟨B, 4, none⟩ = some (.bool s.turned) ∧ KE B s v xs w0 w') :=
  hc.mono fun _ _ ⟨u, he, ho, hb⟩ => ⟨u, he, ho, hb, (k.2.2.2.2.2.below hb).all⟩
theorem OwnC.apart {w w' : World} {base base' : Nat} {v u : Value} {xs ys : List Ce} (h : OwnC w base v xs) (_hu : OwnC w base' u ys) (hB : ∀ g, u.ownBlock = some g → g < base) (hg : w.grownBy w' u.ownBlock) : OwnC w' base v xs := by
  refine World.ownsRow.kept h hg ?_
  cases hv : v.ownBlock with
  | none => exact .inl rfl
  | some g =>
    right
    intro e
    have h1 := (h.lt g hv).1
    have h2 := hB g e.symm
    omega
/-- A row that lies below another's base stays while that one changes. -/
theorem SlU.own {B base : Nat} {w w' : World} {v u : Value} {xs L : List Ce} (h : SlU B w v xs) (ho : OwnC w base u L) (hB : B ≤ base) (hs : B ≤ w.heap.size) (hg : w.grownBy w' u.ownBlock) : SlU B w' v xs :=
  h.below ((Below.refl _ _).grown hg hs (fun g e => Nat.le_trans hB (ho.lt g e).1))
end Go.Proofs.YteimcepkoclpbaaDoor
