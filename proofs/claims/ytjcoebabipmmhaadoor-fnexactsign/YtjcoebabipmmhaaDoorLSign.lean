/- The walk of the law of Sign. -/
import Derived.Test.YtjcoebabipmmhaaDoorKQS
namespace Go.Proofs.YtjcoebabipmmhaaDoor
open Go.ChangeShapes Go.WideShapes Go.ChangeAt Go.RowKit
attribute [local go_sem ↓] Go.wp_at_zero Go.wp_at_succ
set_option maxHeartbeats 4000000 in
set_option maxRecDepth 20000 in
theorem walk_FnExactSign (w : World) (a b : St) :
    Calls Tryd.prog 4 #[stV a, stV b] w fun e w' => e = .returned (.bool true) ∧ Below w.heap.size w w' := by
  have k0 := kq_start a b w 36
  unfold stV
  go_enter Tryd.func4, Tryd.ntmps4
  go_wp2
  generalize (w.alloc (Obj.cells #[.int .i64 a.fore, .int .i64 a.back, .bool a.bold, .bool a.under, .bool a.turned] 36)).alloc (Obj.cells #[.int .i64 b.fore, .int .i64 b.back, .bool b.bold, .bool b.under, .bool b.turned] 36) = W0 at *
  go_region_held3 (fun W => W.cell? ⟨w.heap.size, 0, none⟩ = some (.int .i64 a.fore) ∧ W.cell? ⟨w.heap.size, 1, none⟩ = some (.int .i64 a.back) ∧ W.cell? ⟨w.heap.size, 2, none⟩ = some (.bool a.bold) ∧ W.cell? ⟨w.heap.size, 3, none⟩ = some (.bool a.under) ∧ W.cell? ⟨w.heap.size, 4, none⟩ = some (.bool a.turned) ∧ W.cell? ⟨w.heap.size + 1, 0, none⟩ = some (.int .i64 b.fore) ∧ W.cell? ⟨w.heap.size + 1, 1, none⟩ = some (.int .i64 b.back) ∧ W.cell? ⟨w.heap.size + 1, 2, none⟩ = some (.bool b.bold) ∧ W.cell? ⟨w.heap.size + 1, 3, none⟩ = some (.bool b.under) ∧ W.cell? ⟨w.heap.size + 1, 4, none⟩ = some (.bool b.turned) ∧ KQ w.heap.size (w.heap.size + 1) a b w W) (first | assumption | exact k0.drew)
    (first
      | (go_at_call 17; refine (toStyle_kq w.heap.size (w.heap.size + 1) a b _ w _ (by assumption)).mono ?_; rintro e wk ⟨rfl, hk⟩)
      | (go_at_call 14; refine (specSign_kq w.heap.size (w.heap.size + 1) a b w _ (by assumption)).mono ?_; rintro e wk ⟨t1, rfl, ht1, hk⟩))
  have kq := hk.2.2.2.2.2.2.2.2.2.2
  clear hk
  go_wp2
  go_region_held3 (fun W => W.cell? ⟨w.heap.size, 0, none⟩ = some (.int .i64 a.fore) ∧ W.cell? ⟨w.heap.size, 1, none⟩ = some (.int .i64 a.back) ∧ W.cell? ⟨w.heap.size, 2, none⟩ = some (.bool a.bold) ∧ W.cell? ⟨w.heap.size, 3, none⟩ = some (.bool a.under) ∧ W.cell? ⟨w.heap.size, 4, none⟩ = some (.bool a.turned) ∧ W.cell? ⟨w.heap.size + 1, 0, none⟩ = some (.int .i64 b.fore) ∧ W.cell? ⟨w.heap.size + 1, 1, none⟩ = some (.int .i64 b.back) ∧ W.cell? ⟨w.heap.size + 1, 2, none⟩ = some (.bool b.bold) ∧ W.cell? ⟨w.heap.size + 1, 3, none⟩ = some (.bool b.under) ∧ W.cell? ⟨w.heap.size + 1, 4, none⟩ = some (.bool b.turned) ∧ KQ w.heap.size (w.heap.size + 1) a b w W) (first | assumption | exact kq.drew)
    (first
      | (go_at_call 17; refine (toStyle_kq w.heap.size (w.heap.size + 1) a b _ w _ (by assumption)).mono ?_; rintro e wk ⟨rfl, hk⟩)
      | (go_at_call 10; refine (implSign_kq w.heap.size (w.heap.size + 1) a b w _ (by assumption)).mono ?_; rintro e wk ⟨t2, rfl, ht2, hk⟩))
  have he : t2 = t1 := nums_inj (ht2.out.trans ht1.out.symm)
  subst he
  have kz := hk.2.2.2.2.2.2.2.2.2.2.2.2
  clear hk kq ht1 ht2
  go_wp2
  go_ret
  exact ⟨rfl, kz⟩
end Go.Proofs.YtjcoebabipmmhaaDoor
