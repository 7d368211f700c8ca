/- Contracts of the program's Put. -/
import Derived.Test.YteimcepkoclpbaaDoorJPutA
import Derived.Laws.BytesArg
namespace Go.Proofs.YteimcepkoclpbaaDoor
open Go.ChangeShapes Go.WideShapes Go.ChangeAt Go.RowKit

set_option maxHeartbeats 400000 in
theorem implPut_1 (r : Int) (w : World) (hk : runeOk r = true) (h : r < 128) :
    Calls Tryd.prog 56 #[.int .i64 r] w fun e w' => e = .returned (.string (strOfNums (putL r))) ∧ Below w.heap.size w w' := by
  have hbd := runeOk_bd r hk
  have hpl : Hid (putL r = _) := putL_1 r h
  have hmk := make_1
  have hcv := conv_1
  go_enter Tryd.func56, Tryd.ntmps56
  go_wp2_with (first | (go_at_call 69; refine (implRuneOk_any _ _).mono ?_; rintro e w' ⟨rfl, rfl⟩) | (go_at_call 74; refine (formOf_1 _ _ (by omega)).mono ?_; rintro e w' ⟨rfl, hb⟩))
  refine wp_loop_rounds 1 ?_
  rw [rounds_succ]
  go_wp2
  go_ret
  exact ⟨ret_str (by rw [hpl.out]), ((hb.alloc hb.size _).alloc (by have := hb.size; simp; omega) _)⟩


set_option maxHeartbeats 400000 in
theorem implPut_2 (r : Int) (w : World) (hk : runeOk r = true) (h0 : 128 ≤ r) (h : r < 2048) :
    Calls Tryd.prog 56 #[.int .i64 r] w fun e w' => e = .returned (.string (strOfNums (putL r))) ∧ Below w.heap.size w w' := by
  have hbd := runeOk_bd r hk
  have hpl : Hid (putL r = _) := putL_2 r h0 h
  have hmk := make_2
  have hcv := conv_2
  go_enter Tryd.func56, Tryd.ntmps56
  go_wp2_with (first | (go_at_call 69; refine (implRuneOk_any _ _).mono ?_; rintro e w' ⟨rfl, rfl⟩) | (go_at_call 74; refine (formOf_2 _ _ (by omega) (by omega)).mono ?_; rintro e w' ⟨rfl, hb⟩))
  refine wp_loop_rounds 2 ?_
  rw [rounds_succ]
  go_wp2
  rw [rounds_succ]
  go_wp2
  go_ret
  exact ⟨ret_str (by rw [hpl.out]), ((hb.alloc hb.size _).alloc (by have := hb.size; simp; omega) _)⟩


set_option maxHeartbeats 400000 in
theorem implPut_3 (r : Int) (w : World) (hk : runeOk r = true) (h0 : 2048 ≤ r) (h : r < 65536) :
    Calls Tryd.prog 56 #[.int .i64 r] w fun e w' => e = .returned (.string (strOfNums (putL r))) ∧ Below w.heap.size w w' := by
  have hbd := runeOk_bd r hk
  have hpl : Hid (putL r = _) := putL_3 r h0 h
  have hmk := make_3
  have hcv := conv_3
  go_enter Tryd.func56, Tryd.ntmps56
  go_wp2_with (first | (go_at_call 69; refine (implRuneOk_any _ _).mono ?_; rintro e w' ⟨rfl, rfl⟩) | (go_at_call 74; refine (formOf_3 _ _ (by omega) (by omega)).mono ?_; rintro e w' ⟨rfl, hb⟩))
  refine wp_loop_rounds 3 ?_
  rw [rounds_succ]
  go_wp2
  rw [rounds_succ]
  go_wp2
  rw [rounds_succ]
  go_wp2
  go_ret
  exact ⟨ret_str (by rw [hpl.out]), ((hb.alloc hb.size _).alloc (by have := hb.size; simp; omega) _)⟩


set_option maxHeartbeats 400000 in
theorem implPut_4 (r : Int) (w : World) (hk : runeOk r = true) (h0 : 65536 ≤ r) :
    Calls Tryd.prog 56 #[.int .i64 r] w fun e w' => e = .returned (.string (strOfNums (putL r))) ∧ Below w.heap.size w w' := by
  have hbd := runeOk_bd r hk
  have hpl : Hid (putL r = _) := putL_4 r h0
  have hmk := make_4
  have hcv := conv_4
  go_enter Tryd.func56, Tryd.ntmps56
  go_wp2_with (first | (go_at_call 69; refine (implRuneOk_any _ _).mono ?_; rintro e w' ⟨rfl, rfl⟩) | (go_at_call 74; refine (formOf_4 _ _ (by omega) (by omega)).mono ?_; rintro e w' ⟨rfl, hb⟩))
  refine wp_loop_rounds 4 ?_
  rw [rounds_succ]
  go_wp2
  rw [rounds_succ]
  go_wp2
  rw [rounds_succ]
  go_wp2
  rw [rounds_succ]
  go_wp2
  go_ret
  exact ⟨ret_str (by rw [hpl.out]), ((hb.alloc hb.size _).alloc (by have := hb.size; simp; omega) _)⟩


theorem implPut_any (r : Int) (w : World) :
    Calls Tryd.prog 56 #[.int .i64 r] w fun e w' => e = .returned (.string (putS r)) ∧ Below w.heap.size w w' := by
  by_cases hk : runeOk r = true
  · rw [putS_ok r hk]
    by_cases h1 : r < 128
    · exact implPut_1 r w hk h1
    · by_cases h2 : r < 2048
      · exact implPut_2 r w hk (by omega) h2
      · by_cases h3 : r < 65536
        · exact implPut_3 r w hk (by omega) h3
        · exact implPut_4 r w hk (by omega)
  · have hk' : runeOk r = false := by simpa using hk
    have hp : Hid (putS r = ⟨#[]⟩) := by show _ = _; simp [putS, hk']
    go_enter Tryd.func56, Tryd.ntmps56
    go_wp2_with (go_at_call 69; refine (implRuneOk_any _ _).mono ?_; rintro e w' ⟨rfl, rfl⟩)
    go_ret
    exact ⟨ret_str hp.out.symm, Below.refl _ _⟩

end Go.Proofs.YteimcepkoclpbaaDoor
