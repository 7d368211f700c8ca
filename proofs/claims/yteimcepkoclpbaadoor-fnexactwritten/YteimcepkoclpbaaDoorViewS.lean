/- What an argument that is a style is, once it can be read. -/
import Derived.Test.YteimcepkoclpbaaDoorS0A
import Derived.ChangeOld
import Derived.Below
namespace Go.Proofs.YteimcepkoclpbaaDoor
open Go.ChangeShapes Go.WideShapes Go.ChangeAt Go.RowKit

set_option maxRecDepth 20000 in
theorem style_view {H : Type} {enc : TypeId × Value → H} {w : World} {base b0 : Nat} {spare : Nat → Bool} {held : Bool} {r : Reach} {v : Value} {d : DataW H} {p : List MemPlace} (hv : Value.okWide Tryd.prog w r b0 43 v) (h : DataW.Trod enc Tryd.prog w base spare held 43 v d p) :
    ∃ s : St, v = stV s := by
  obtain ⟨cs, rfl, hsz⟩ := okWide_struct Tryd.underlying43 hv
  obtain ⟨fuel, hf⟩ := h
  obtain ⟨xs, n, _, _, hl, hlen, hfs⟩ := DataW.trod_struct Tryd.underlying43 hf
  have e : Tryd.prog.cellsOf 43 = 5 := by kernel_rfl
  have ei : Tryd.prog.cellsOf 2 = 1 := by kernel_rfl
  have eb : Tryd.prog.cellsOf 4 = 1 := by kernel_rfl
  obtain ⟨l⟩ := cs
  match l, hsz.trans e, xs, hlen with
  | [c0, c1, c2, c3, c4], _, [x0, x1, x2, x3, x4], _ =>
    have h0 := hfs 0 _ rfl
    have h1 := hfs 1 _ rfl
    have h2 := hfs 2 _ rfl
    have h3 := hfs 3 _ rfl
    have h4 := hfs 4 _ rfl
    simp [Value.cells, ei, eb] at h0 h1 h2 h3 h4
    obtain ⟨k0, q0, _, _⟩ := DataW.trod_int Tryd.underlying2 h0
    obtain ⟨k1, q1, _, _⟩ := DataW.trod_int Tryd.underlying2 h1
    obtain ⟨k2, q2, _⟩ := DataW.trod_bool Tryd.underlying4 h2
    obtain ⟨k3, q3, _⟩ := DataW.trod_bool Tryd.underlying4 h3
    obtain ⟨k4, q4, _⟩ := DataW.trod_bool Tryd.underlying4 h4
    simp at q0 q1 q2 q3 q4
    subst q0; subst q1; subst q2; subst q3; subst q4
    exact ⟨⟨k0, k1, k2, k3, k4⟩, rfl⟩
end Go.Proofs.YteimcepkoclpbaaDoor
