/- Contract of impl.cutShort. -/
import Derived.Test.YticogomjpefoeaaGet
namespace Go.Proofs.Yticogomjpefoeaa
open Go.ChangeShapes Go.WideShapes Go.ChangeAt Go.RowKit

def T0 : ByteArray := { data := #[128] }
def T1 : ByteArray := { data := #[191] }
def T2 : ByteArray := { data := #[128, 128] }
def T3 : ByteArray := { data := #[191, 191] }
def T4 : ByteArray := { data := #[128, 128, 128] }
def T5 : ByteArray := { data := #[191, 191, 191] }
theorem T0_size : T0.size = 1 := rfl
theorem T1_size : T1.size = 1 := rfl
theorem T2_size : T2.size = 2 := rfl
theorem T3_size : T3.size = 2 := rfl
theorem T4_size : T4.size = 3 := rfl
theorem T5_size : T5.size = 3 := rfl
theorem tails_at0 (w : World) : (Instr.index 65 (.agg #[.string ⟨#[128]⟩, .string ⟨#[191]⟩, .string ⟨#[128, 128]⟩, .string ⟨#[191, 191]⟩, .string ⟨#[128, 128, 128]⟩, .string ⟨#[191, 191, 191]⟩]) (.int .i64 0)).run Try.prog w = .ok (.string T0) w := by kernel_rfl
theorem tails_at1 (w : World) : (Instr.index 65 (.agg #[.string ⟨#[128]⟩, .string ⟨#[191]⟩, .string ⟨#[128, 128]⟩, .string ⟨#[191, 191]⟩, .string ⟨#[128, 128, 128]⟩, .string ⟨#[191, 191, 191]⟩]) (.int .i64 1)).run Try.prog w = .ok (.string T1) w := by kernel_rfl
theorem tails_at2 (w : World) : (Instr.index 65 (.agg #[.string ⟨#[128]⟩, .string ⟨#[191]⟩, .string ⟨#[128, 128]⟩, .string ⟨#[191, 191]⟩, .string ⟨#[128, 128, 128]⟩, .string ⟨#[191, 191, 191]⟩]) (.int .i64 2)).run Try.prog w = .ok (.string T2) w := by kernel_rfl
theorem tails_at3 (w : World) : (Instr.index 65 (.agg #[.string ⟨#[128]⟩, .string ⟨#[191]⟩, .string ⟨#[128, 128]⟩, .string ⟨#[191, 191]⟩, .string ⟨#[128, 128, 128]⟩, .string ⟨#[191, 191, 191]⟩]) (.int .i64 3)).run Try.prog w = .ok (.string T3) w := by kernel_rfl
theorem tails_at4 (w : World) : (Instr.index 65 (.agg #[.string ⟨#[128]⟩, .string ⟨#[191]⟩, .string ⟨#[128, 128]⟩, .string ⟨#[191, 191]⟩, .string ⟨#[128, 128, 128]⟩, .string ⟨#[191, 191, 191]⟩]) (.int .i64 4)).run Try.prog w = .ok (.string T4) w := by kernel_rfl
theorem tails_at5 (w : World) : (Instr.index 65 (.agg #[.string ⟨#[128]⟩, .string ⟨#[191]⟩, .string ⟨#[128, 128]⟩, .string ⟨#[191, 191]⟩, .string ⟨#[128, 128, 128]⟩, .string ⟨#[191, 191, 191]⟩]) (.int .i64 5)).run Try.prog w = .ok (.string T5) w := by kernel_rfl
def cutB (h : ByteArray) : Bool := ((getV (h ++ T0)).2 == (h.size : Int) + 1) || ((getV (h ++ T1)).2 == (h.size : Int) + 1) || ((getV (h ++ T2)).2 == (h.size : Int) + 2) || ((getV (h ++ T3)).2 == (h.size : Int) + 2) || ((getV (h ++ T4)).2 == (h.size : Int) + 3) || ((getV (h ++ T5)).2 == (h.size : Int) + 3)

set_option maxHeartbeats 1000000 in
theorem cutShort_any (h : ByteArray) (w : World) (hs : h.size ≤ 3) :
    Calls Try.prog 42 #[.string h] w fun e w' => e = .returned (.bool (cutB h)) ∧ Below w.heap.size w w' := by
  have i0 := tails_at0
  have z0 := T0_size
  have i1 := tails_at1
  have z1 := T1_size
  have i2 := tails_at2
  have z2 := T2_size
  have i3 := tails_at3
  have z3 := T3_size
  have i4 := tails_at4
  have z4 := T4_size
  have i5 := tails_at5
  have z5 := T5_size
  have m0 : (h ++ T0).size ≤ maxLen := by rw [ByteArray.size_append]; unfold maxLen; omega
  have m1 : (h ++ T1).size ≤ maxLen := by rw [ByteArray.size_append]; unfold maxLen; omega
  have m2 : (h ++ T2).size ≤ maxLen := by rw [ByteArray.size_append]; unfold maxLen; omega
  have m3 : (h ++ T3).size ≤ maxLen := by rw [ByteArray.size_append]; unfold maxLen; omega
  have m4 : (h ++ T4).size ≤ maxLen := by rw [ByteArray.size_append]; unfold maxLen; omega
  have m5 : (h ++ T5).size ≤ maxLen := by rw [ByteArray.size_append]; unfold maxLen; omega
  have g0 := fun W => implGet_any (h ++ T0) W m0
  have g1 := fun W => implGet_any (h ++ T1) W m1
  have g2 := fun W => implGet_any (h ++ T2) W m2
  have g3 := fun W => implGet_any (h ++ T3) W m3
  have g4 := fun W => implGet_any (h ++ T4) W m4
  have g5 := fun W => implGet_any (h ++ T5) W m5
  have hb0 := fun o => (Below.refl w.heap.size w).alloc (Nat.le_refl _) o
  clear m0 m1 m2 m3 m4 m5
  go_enter Try.func42, Try.ntmps42
  go_wp2
  refine wp_loop_rounds 7 ?_
  rw [rounds_succ]
  go_wp2_with (go_at_call 13; refine (g0 _).mono ?_; rintro e w' ⟨rfl, hb⟩; replace hb := (hb0 _).trans (hb.mono (by simp)))
  · go_ret
    exact ⟨ret_bool (by simp only [cutB, *, Bool.true_or]), hb⟩
  rw [rounds_succ]
  go_wp2_with (go_at_call 13; refine (g1 _).mono ?_; rintro e w' ⟨rfl, hc⟩; replace hb := hb.trans (hc.mono hb.size))
  · go_ret
    exact ⟨ret_bool (by simp only [cutB, *, Bool.true_or, Bool.or_true]), hb⟩
  rw [rounds_succ]
  go_wp2_with (go_at_call 13; refine (g2 _).mono ?_; rintro e w' ⟨rfl, hc⟩; replace hb := hb.trans (hc.mono hb.size))
  · go_ret
    exact ⟨ret_bool (by simp only [cutB, *, Bool.true_or, Bool.false_or, Bool.or_true]), hb⟩
  rw [rounds_succ]
  go_wp2_with (go_at_call 13; refine (g3 _).mono ?_; rintro e w' ⟨rfl, hc⟩; replace hb := hb.trans (hc.mono hb.size))
  · go_ret
    exact ⟨ret_bool (by simp only [cutB, *, Bool.true_or, Bool.false_or, Bool.or_true]), hb⟩
  rw [rounds_succ]
  go_wp2_with (go_at_call 13; refine (g4 _).mono ?_; rintro e w' ⟨rfl, hc⟩; replace hb := hb.trans (hc.mono hb.size))
  · go_ret
    exact ⟨ret_bool (by simp only [cutB, *, Bool.true_or, Bool.false_or, Bool.or_true]), hb⟩
  rw [rounds_succ]
  go_wp2_with (go_at_call 13; refine (g5 _).mono ?_; rintro e w' ⟨rfl, hc⟩; replace hb := hb.trans (hc.mono hb.size))
  · go_ret
    exact ⟨ret_bool (by simp only [cutB, *, Bool.false_or, Bool.or_true]), hb⟩
  rw [rounds_succ]
  go_wp2
  go_ret
  exact ⟨ret_bool (by simp only [cutB, *, Bool.or_false]), hb⟩
end Go.Proofs.Yticogomjpefoeaa
