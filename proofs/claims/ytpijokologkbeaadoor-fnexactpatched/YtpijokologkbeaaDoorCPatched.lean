/- The exact law of Patched answers true: at every grid and patch the program's Patched answers as the specification's, writes into no argument, and its answer owns its memory. -/
import Derived.Test.YtpijokologkbeaaDoorP5
import Derived.Test.YtpijokologkbeaaDoorTie
import Derived.Test.YtpijokologkbeaaDoorCards
import Derived.SevenTiedAt
import Derived.Test.YtpijokologkbeaaDoorTie
import Derived.Test.YtpijokologkbeaaDoorCards
import Derived.SevenTiedAt
namespace Go.Proofs.YtpijokologkbeaaDoor
open Go.ChangeShapes Go.WideShapes Go.ChangeAt Go.RowKit
open Go.ChangeMaps (open_string shut_string)
set_option linter.unusedVariables false
theorem own_fnExactPatched : ownKnob Tryd.prog.godebug = none := by kernel_rfl
theorem laidOut_fnExactPatched : laidOutB Tryd.prog = true := by kernel_rfl

set_option maxRecDepth 100000 in
theorem lifted_fnExactPatched (os : Os) (started : os.Started) (H : Type) (enc : TypeId × Value → H) :
    ReturnsInHanded {} Tryd.checked os 5 .any (fun w args => (Rows.fnExactPatchedSpec.pre enc Tryd.prog Tryd.f5 [] false w args ∧ laidMetH Tryd.prog [("loop.example/g00215/impl.spans", Rows.laid_loop_example_g00215_impl_spans)] w) ∧ sizedMet enc Tryd.prog Tryd.f5 (OpenSpec.ofChange Rows.fnExactPatchedSpec) false w args) (Rows.fnExactPatchedSpec.post enc Tryd.prog Tryd.f5 false true false false) := by
  refine returnsInHanded_of_change_and (C := Tryd.checked) (X := fun w _ => laidMetH Tryd.prog [("loop.example/g00215/impl.spans", Rows.laid_loop_example_g00215_impl_spans)] w) (fun _ _ _ hh h => h.of_heap hh) own_fnExactPatched started (by kernel_rfl) Tryd.func5
    (ChangeSpec.witness_shaped (enc := enc) (C := Tryd.checked) (os := os) (X := fun w _ => laidMetH Tryd.prog [("loop.example/g00215/impl.spans", Rows.laid_loop_example_g00215_impl_spans)] w) false (World.doorLaid Tryd.prog 400 os) #[.agg #[.int .i64 0, .slice none 0 0], .agg #[.int .i64 0, .int .i64 0, .slice none 0 0]] 8 rfl (World.shaped_of_RefB (by kernel_rfl) (by kernel_rfl)) (by kernel_rfl) (by kernel_rfl) (by kernel_rfl) (spans_door os _)) ?_
  intro W base args ds gs before hval0 hW _ _ hL _
  have hval : ∀ (j : Nat) t v, Tryd.f5.params[j]? = some t → args[j]? = some v → Value.okWide Tryd.prog W .any base t v := hval0
  have hW' := hW
  obtain ⟨p, q, hA0, hV, rfl, hfz, hnd⟩ := hW
  have hA : DataW.TrodAll enc Tryd.prog W 0 (fun _ => true) true Tryd.f5.params.toList args.toList ds p := hA0
  rw [Tryd.params5] at hA hval
  obtain ⟨v0, vs0, d0, ds0, p0, q0, hargs, rfl, rfl, h0, r0⟩ := trodAll_cons hA
  obtain ⟨v1, vs1, d1, ds1, p1, q1, rfl, rfl, rfl, h1, r1⟩ := trodAll_cons r0
  obtain ⟨rfl, rfl, rfl⟩ := trodAll_nil r1
  obtain rfl : args = #[v0, v1] := by cases args; simp_all
  have hV0 := hV
  obtain ⟨vg, vt, vcs, vfuel, vd, vp, rfl, hvg, hvt, hvv, hvd, rfl⟩ := trodVars_one hV
  have k0 := h0
  have lt0 : ∀ x ∈ p0, x.block < W.heap.size := by obtain ⟨m, hm⟩ := k0; exact DataW.trod_lt m _ _ _ hm
  obtain ⟨c0, u0, x0, rfl, s0, l0, m0⟩ := grid_view (hval 0 43 v0 rfl rfl) h0
  have k1 := h1
  have lt1 : ∀ x ∈ p1, x.block < W.heap.size := by obtain ⟨m, hm⟩ := k1; exact DataW.trod_lt m _ _ _ hm
  obtain ⟨e1, n1, u1, x1, rfl, s1, l1, m1⟩ := patch_view (hval 1 51 v1 rfl rfl) h1
  have hS := spans_of_laid hL
  clear hA0 hval0 hV
  refine (walk_FnExactPatched W hS c0 u0 x0 s0 l0 m0 e1 n1 u1 x1 s1 l1 m1).mono fun e W' ⟨he, bel⟩ => ?_
  subst he
  exact ⟨_, rfl, _, _, _, [], _, _, hW', trodAll_mk1 (shut_bool Tryd.underlying4 _), (trodAll_cons_mk (Below.trod (laidOut_fnExactPatched) (by kernel_rfl) (of_decide_eq_true (by kernel_rfl)) k0 bel lt0) (trodAll_cons_mk (Below.trod (laidOut_fnExactPatched) (by kernel_rfl) (of_decide_eq_true (by kernel_rfl)) k1 bel lt1) trodAll_mk0)), bel.trodVars laidOut_fnExactPatched (by kernel_rfl) hV0, bel.frame _, fun h => by cases h⟩

theorem over_fnExactPatched : Rows.fnExactPatchedRow.holds Tryd.pinned (OpenSpec.ofChange Rows.fnExactPatchedSpec) :=
  OpenClaim.holds_of_wide 5 Tryd.f5 rfl rfl rfl rfl rfl rfl rfl ⟨rfl, rfl, rfl, rfl, rfl⟩ rfl rfl rfl rfl rfl (by kernel_rfl) Tryd.func5 (by kernel_rfl)
    (of_decide_eq_true (by kernel_rfl)) (by unfold Func.isWrapper; first | (rw [if_pos (by decide +kernel)]; kernel_rfl) | (rw [if_neg (by decide +kernel)]; exact ⟨rfl, rfl⟩))
    (fun os started H enc _ => lifted_fnExactPatched os started H enc)

theorem fnExactPatched_said : Rows.FnExactPatchedSaid :=
  over_fnExactPatched
/-- The tied card: the table is what the program's own text lays. -/
theorem fnExactPatched_holds : Rows.FnExactPatchedCardSaid :=
  Claim7.holds_tied_plain_at .later [] [.data] true _ true
    fnExactPatched_said (fun _ h => by cases h) (by kernel_rfl) (fun _ h => by cases h) fnExactPatched_row_tie rfl ⟨rfl, rfl⟩ (by kernel_rfl) rfl
    (fun f fn hf hfn => by
      obtain rfl : f = 5 := Option.some.inj ((show Tryd.prog.funcNamed "loop.example/g00215/laws.FnExactPatched" = some 5 by kernel_rfl).symm.trans hf) |>.symm
      obtain rfl : fn = Tryd.f5 := (Option.some.inj (Tryd.func5.symm.trans hfn)).symm
      exact ⟨by kernel_rfl, fun j t ht => by
        rw [Tryd.params5] at ht
        have hm : t ∈ [43, 51] := by simpa using Array.mem_of_getElem? ht
        have hall : ([43, 51].all fun u => !Tryd.prog.wantsStandIn u) = true := by kernel_rfl
        exact (show Tryd.prog.wantsStandIn t = false by simpa using List.all_eq_true.1 hall t hm)⟩)
    (by kernel_rfl)
#print axioms fnExactPatched_holds
end Go.Proofs.YtpijokologkbeaaDoor
