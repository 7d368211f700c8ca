/- The walk of the law of StyleOk. -/
import Derived.Test.YtjcoebabipmmhaaSI0
import Derived.Test.YtjcoebabipmmhaaS1
namespace Go.Proofs.Ytjcoebabipmmhaa
open Go.ChangeShapes Go.WideShapes Go.ChangeAt Go.RowKit
theorem walk_FnExactStyleOk (w : World) (s : St) :
    Calls Try.prog 3 #[stV s] w fun e w' => e = .returned (.bool true) ∧ Below w.heap.size w w' := by
  have hto := toStyle_any s
  have hsp := specStyleOk_any s
  have him := implStyleOk_any s
  obtain ⟨f, b, bo, un, tu⟩ := s
  generalize (St.mk f b bo un tu).ok = ok at *
  unfold stV at *
  simp only at *
  have hbA := bal' w (Obj.cells #[.int .i64 f, .int .i64 b, .bool bo, .bool un, .bool tu] 23)
  have k0 := StAt.new w ⟨f, b, bo, un, tu⟩ 23
  go_enter Try.func3, Try.ntmps3
  go_wp2_with fail
  refine (hto _).mono ?_
  rintro e w1 ⟨rfl, hb1⟩
  have k1 := k0.below hb1
  have kw1 := hbA.trans (hb1.mono hbA.size)
  clear k0 hbA hb1
  go_wp2_with fail
  refine (hsp _).mono ?_
  rintro e w2 ⟨rfl, hb2⟩
  have k2 := k1.below hb2
  have kw2 := kw1.trans (hb2.mono kw1.size)
  clear k1 kw1 hb2 hsp
  obtain ⟨_, ⟨c0, c1, c2, c3, c4⟩, _⟩ := id k2
  go_wp2_with fail
  refine (hto _).mono ?_
  rintro e w3 ⟨rfl, hb3⟩
  have kw3 := kw2.trans (hb3.mono kw2.size)
  clear k2 kw2 hb3 hto c0 c1 c2 c3 c4
  go_wp2_with fail
  refine (him _).mono ?_
  rintro e w4 ⟨rfl, hb4⟩
  have kw4 := kw3.trans (hb4.mono kw3.size)
  clear kw3 hb4 him
  go_wp2
  go_ret
  exact ⟨rfl, kw4⟩
end Go.Proofs.Ytjcoebabipmmhaa
