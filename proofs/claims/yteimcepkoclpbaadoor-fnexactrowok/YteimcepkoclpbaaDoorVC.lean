/- What an argument that is a row of cells is, once it can be read. -/
import Derived.Test.YteimcepkoclpbaaDoorRC0
import Derived.ChangeOld
import Derived.Below
import Derived.Deep.Slices
namespace Go.Proofs.YteimcepkoclpbaaDoor
open Go.ChangeShapes Go.WideShapes Go.ChangeAt Go.RowKit

section
instance : Inhabited Ce := ⟨Ce.zero⟩
variable {H : Type} {enc : TypeId × Value → H} {w : World} {base : Nat} {spare : Nat → Bool} {held : Bool}
set_option maxRecDepth 20000 in
theorem style_cs {fuel : Nat} {cs : List Value} {x : DataW H × List MemPlace} (hf : DataW.trod enc Tryd.prog w base spare held fuel 43 cs = some x) :
    ∃ s : St, cs = [.int .i64 s.fore, .int .i64 s.back, .bool s.bold, .bool s.under, .bool s.turned] := by
  obtain ⟨xs, n, _, _, hl, hlen, hfs⟩ := DataW.trod_struct Tryd.underlying43 hf
  have e : Tryd.prog.cellsOf 43 = 5 := by kernel_rfl
  have ei : Tryd.prog.cellsOf 2 = 1 := by kernel_rfl
  have eb : Tryd.prog.cellsOf 4 = 1 := by kernel_rfl
  match cs, hl.trans e, xs, hlen with
  | [c0, c1, c2, c3, c4], _, [x0, x1, x2, x3, x4], _ =>
    have h0 := hfs 0 _ rfl
    have h1 := hfs 1 _ rfl
    have h2 := hfs 2 _ rfl
    have h3 := hfs 3 _ rfl
    have h4 := hfs 4 _ rfl
    simp [ei, eb] at h0 h1 h2 h3 h4
    obtain ⟨k0, q0, _, _⟩ := DataW.trod_int Tryd.underlying2 h0
    obtain ⟨k1, q1, _, _⟩ := DataW.trod_int Tryd.underlying2 h1
    obtain ⟨k2, q2, _⟩ := DataW.trod_bool Tryd.underlying4 h2
    obtain ⟨k3, q3, _⟩ := DataW.trod_bool Tryd.underlying4 h3
    obtain ⟨k4, q4, _⟩ := DataW.trod_bool Tryd.underlying4 h4
    simp at q0 q1 q2 q3 q4
    subst q0; subst q1; subst q2; subst q3; subst q4
    exact ⟨⟨k0, k1, k2, k3, k4⟩, rfl⟩
set_option maxRecDepth 20000 in
theorem cell_cs {fuel : Nat} {cs : List Value} {x : DataW H × List MemPlace} (hf : DataW.trod enc Tryd.prog w base spare held fuel 69 cs = some x) :
    ∃ c : Ce, cs = ceL c := by
  obtain ⟨xs, n, _, _, hl, hlen, hfs⟩ := DataW.trod_struct Tryd.underlying69 hf
  have e : Tryd.prog.cellsOf 69 = 7 := by kernel_rfl
  have es : Tryd.prog.cellsOf 43 = 5 := by kernel_rfl
  have ei : Tryd.prog.cellsOf 2 = 1 := by kernel_rfl
  match cs, hl.trans e, xs, hlen with
  | [c0, c1, c2, c3, c4, c5, c6], _, [x0, x1, x2], _ =>
    have h0 := hfs 0 _ rfl
    have h1 := hfs 1 _ rfl
    have h2 := hfs 2 _ rfl
    simp [ei, es] at h0 h1 h2
    obtain ⟨k0, q0, _, _⟩ := DataW.trod_int Tryd.underlying2 h0
    obtain ⟨s, q1⟩ := style_cs h1
    obtain ⟨k2, q2, _, _⟩ := DataW.trod_int Tryd.underlying2 h2
    simp at q0 q1 q2
    obtain ⟨r1, r2, r3, r4, r5⟩ := q1
    subst q0; subst r1; subst r2; subst r3; subst r4; subst r5; subst q2
    exact ⟨⟨k0, s, k2⟩, rfl⟩
set_option maxRecDepth 20000 in
theorem cells_view {b0 : Nat} {r : Reach} {v : Value} {d : DataW H} {p : List MemPlace} (hv : Value.okWide Tryd.prog w r b0 39 v) (h : DataW.Trod enc Tryd.prog w base spare held 39 v d p) :
    ∃ xs : List Ce, SlC w v xs ∧ xs.length ≤ maxLen := by
  obtain ⟨a, len, cap, rfl⟩ := okWide_slice Tryd.underlying39 hv
  obtain ⟨fuel, hf⟩ := h
  have e : Tryd.prog.cellsOf 69 = 7 := by kernel_rfl
  rcases Go.Deep.open_slice Tryd.underlying39 hf with ⟨hcs, _⟩ | ⟨x, l, c, m, n, D, Pl, hcs, _, hl, hm, hmm, _, hx⟩
  · simp [Value.cells] at hcs
    obtain ⟨rfl, rfl, rfl⟩ := hcs
    exact ⟨[], ⟨none, 0, rfl, Nat.le_refl _, fun _ => rfl, .inl rfl⟩, by simp⟩
  · simp [Value.cells] at hcs
    obtain ⟨rfl, rfl, rfl⟩ := hcs
    have hlm : len ≤ m := by rw [hmm]; split <;> omega
    rw [e] at hx
    obtain ⟨f, hfc⟩ := Go.Deep.choose_lt (α := Ce) (n := len) (p := fun i q => w.cells? base (x.add (i * 7)) 7 = some (ceL q)) (fun i hi => by
      obtain ⟨cs', h1, h2⟩ := hx i (by omega)
      obtain ⟨q, rfl⟩ := cell_cs h2
      exact ⟨q, h1⟩)
    have hlen : ((List.range len).map f).length = len := by simp
    refine ⟨(List.range len).map f, ⟨some x, cap, by rw [hlen], by rw [hlen]; exact hl, (fun h => by cases h), ?_⟩, by rw [hlen]; omega⟩
    by_cases h0 : len = 0
    · left; subst h0; rfl
    · right
      have hc : ∀ i, i < len → ∀ k, k < 7 → w.cell? ((x.add (i * 7)).add k) = (ceL (f i))[k]? := fun i hi k hk => by
        obtain ⟨_, hl7, hcell⟩ := World.cells?_some (hfc i hi)
        exact hcell k hk
      obtain ⟨b, off, spot⟩ := x
      have h1 := hc 0 (by omega) 0 (by decide)
      have hspot : spot = none := by
        have h1' : w.cell? ((⟨b, off, spot⟩ : Addr).add 0) = some (.int .i64 (f 0).rune) := by simpa [Addr.add, ceL] using h1
        simpa [Addr.add] using World.cell?_spot h1'
      subst hspot
      refine ⟨b, off, rfl, ?_, fun i hi => ?_⟩
      · have h1' : w.cell? ((⟨b, off, none⟩ : Addr).add 0) = some (.int .i64 (f 0).rune) := by simpa [Addr.add, ceL] using h1
        exact World.block_lt_of_cell? w _ h1'
      · rw [hlen] at hi
        have ef : atC ((List.range len).map f) i = f i := by simp [atC, hi]
        rw [ef]
        have g := fun k hk => hc i hi k hk
        have ea : ∀ k, (((⟨b, off, none⟩ : Addr).add (i * 7)).add k) = ⟨b, off + i * 7 + k, none⟩ := fun k => by rw [Addr.add_mid, Addr.add_mid]
        simp only [ea] at g
        exact ⟨by simpa [ceL] using g 0 (by decide), by simpa [ceL] using g 1 (by decide), by simpa [ceL] using g 2 (by decide), by simpa [ceL] using g 3 (by decide), by simpa [ceL] using g 4 (by decide), by simpa [ceL] using g 5 (by decide), by simpa [ceL] using g 6 (by decide)⟩
end
end Go.Proofs.YteimcepkoclpbaaDoor
