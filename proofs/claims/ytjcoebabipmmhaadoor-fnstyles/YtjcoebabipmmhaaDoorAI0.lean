/- strconv's small numbers. -/
import Derived.Test.YtjcoebabipmmhaaDoorS2
import Derived.Test.YtjcoebabipmmhaaDoorM2
import Derived.OwnWalk
namespace Go.Proofs.YtjcoebabipmmhaaDoor
open Go.ChangeShapes Go.WideShapes Go.ChangeAt Go.RowKit

set_option maxRecDepth 20000 in
theorem small_1 (n : Int) (w : World) (h : 0 ≤ n ∧ n < 10) :
    Calls Tryd.prog 48 #[.int .i64 n] w fun e w' => ∃ t, e = .returned (.string t) ∧ nums t = digL n ∧ w' = w := by
  obtain ⟨h0, h1⟩ := h
  have hd : Hid (digL n = [48 + n]) := by show _ = _; simp [digL]; omega
  go_enter Tryd.func48, Tryd.ntmps48
  go_wp2
  go_ret
  refine ⟨_, rfl, ?_, rfl⟩
  rw [hd.out]
  obtain ⟨k, rfl⟩ : ∃ k : Nat, n = k := ⟨n.toNat, by omega⟩
  have hk : k < 10 := by omega
  clear hd h0 h1
  rename_i x
  clear x
  revert k
  decide +kernel
set_option maxRecDepth 20000 in
theorem small_2 (n : Int) (w : World) (h : 10 ≤ n ∧ n < 100) :
    Calls Tryd.prog 48 #[.int .i64 n] w fun e w' => ∃ t, e = .returned (.string t) ∧ nums t = digL n ∧ w' = w := by
  obtain ⟨h0, h1⟩ := h
  have hd : Hid (digL n = [48 + n / 10, 48 + n % 10]) := by show _ = _; simp [digL]; omega
  go_enter Tryd.func48, Tryd.ntmps48
  go_wp2
  go_ret
  refine ⟨_, rfl, ?_, rfl⟩
  rw [hd.out]
  obtain ⟨k, rfl⟩ : ∃ k : Nat, n = (k + 10 : Nat) := ⟨(n - 10).toNat, by omega⟩
  have hk : k < 90 := by omega
  clear hd h0 h1
  rename_i x
  clear x
  revert k
  decide +kernel
theorem small_any (n : Int) (w : World) (h : 0 ≤ n ∧ n < 100) :
    Calls Tryd.prog 48 #[.int .i64 n] w fun e w' => ∃ t, e = .returned (.string t) ∧ nums t = digL n ∧ w' = w := by
  by_cases h1 : n < 10
  · exact small_1 n w ⟨h.1, h1⟩
  · exact small_2 n w ⟨by omega, h.2⟩
end Go.Proofs.YtjcoebabipmmhaaDoor
