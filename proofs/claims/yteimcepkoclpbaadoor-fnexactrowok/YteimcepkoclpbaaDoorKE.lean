/- What stays while an exact law of rows runs: a row's copy. -/
import Derived.Test.YteimcepkoclpbaaDoorKEA
import Derived.Test.YteimcepkoclpbaaDoorKC1
namespace Go.Proofs.YteimcepkoclpbaaDoor
open Go.ChangeShapes Go.WideShapes Go.ChangeAt Go.RowKit

theorem toCS_ke (B : Nat) (s : St) (v : Value) (xs : List Ce) (w0 W : World) (hl : xs.length ≤ 1073741824) (k : W.cell? ⟨B, 0, none⟩ = some (.int .i64 s.fore) ∧ W.cell? ⟨B, 1, none⟩ = some (.int .i64 s.back) ∧ W.cell? ⟨B, 2, none⟩ = some (.bool s.bold) ∧ W.cell? ⟨B, 3, none⟩ = some (.bool s.under) ∧ W.cell? ⟨B, 4, none⟩ = some (.bool s.turned) ∧ KE B s v xs w0 W) :
    Calls Tryd.prog 30 #[v] W fun e w' => ∃ u, e = .returned u ∧ OwnC w' W.heap.size u xs ∧ Below W.heap.size W w' ∧ (w'.cell? ⟨B, 0, none⟩ = some (.int .i64 s.fore) ∧ w'.cell? ⟨B, 1, none⟩ = some (.int .i64 s.back) ∧ w'.cell? ⟨B, 2, none⟩ = some (.bool s.bold) ∧ w'.cell? ⟨B, 3, none⟩ = some (.bool s.under) ∧ w'.cell? ⟨B, 4, none⟩ = some (.bool s.turned) ∧ KE B s v xs w0 w') :=
  (toCS_copy v xs W k.2.2.2.2.2.2.1.sl hl).mono fun _ _ ⟨u, he, ho, hb⟩ => ⟨u, he, ho, hb, (k.2.2.2.2.2.below hb).all⟩
end Go.Proofs.YteimcepkoclpbaaDoor
