/- Contracts of the digits as the specification has them. -/
import Derived.Test.YtjcoebabipmmhaaDoorS2
import Derived.Test.YtjcoebabipmmhaaDoorM2
import Derived.OwnWalk
namespace Go.Proofs.YtjcoebabipmmhaaDoor
open Go.ChangeShapes Go.WideShapes Go.ChangeAt Go.RowKit

theorem nums_app5 (a b : ByteArray) : nums (a ++ b) = nums a ++ nums b := by simp [nums, ByteArray.data_append]
theorem empty_of_size (s : ByteArray) (h0 : 0 < s.size) : s.toList.isEmpty = false := by
  rw [ByteArray.toList_eq, List.isEmpty_eq_false_iff]; intro e; have := congrArg List.length e; simp at this; simp [this] at h0
/-- One byte turned to a text. -/
theorem conv1 {w : World} {ops : Array Oper} {rest : List Oper} {o : Oper} {ac : Act} {Q : Exit → Act → World → Prop} (hgd : o.guard = none) (x : Operand)
    (ho : o.op = .convert 22 9 x) (g : Nat) (hg : w.heap.size = g) (y : Int) (hy : 0 ≤ y ∧ y < 256) (hx : ac.eval x = .slice (some ⟨g, 0, none⟩) 1 1)
    (h : ∀ t : ByteArray, Hid (nums t = [y]) → (∀ u : ByteArray, (t ++ u).toList.isEmpty = false) → t.size = 1 → wpList Tryd.prog ops Q rest (ac.put o.dst (.string t)) (w.alloc (.cells #[.int .u8 y] 5))) :
    wpList Tryd.prog ops Q (o :: rest) ac (w.alloc (.cells #[.int .u8 y] 5)) := by
  subst hg
  have hrun := run_convert_bytes_arg (P := Tryd.prog) (w.alloc (.cells #[.int .u8 y] 5)) 22 5 Tryd.underlying22 Tryd.underlying5 w.heap.size 0 1 1 [y] rfl (by
    intro i hi
    have : i = 0 := by omega
    subst this
    rw [cell_of_row _ w.heap.size 0 _ _ (0, 0) (heap_alloc_new w _)]
    rfl) 9 Tryd.underlying9
  have hn : nums (strOfNums [y]) = [y] := nums_str [y] (by intro z hz; simp at hz; omega)
  refine wpList_plain hgd fun K hK => ?_
  unfold Oper.wp
  simp [execOp, ho, hx, hrun, Result.andThen, -World.alloc_eq]
  refine hK _ _ (h _ hn (fun u => empty_of_size _ ?_) (by rw [← nums_len, hn]; rfl))
  have := congrArg List.length (nums_app5 (strOfNums [y]) u)
  rw [nums_len, List.length_append, hn] at this
  rw [this]; simp; omega
set_option maxHeartbeats 1000000 in
theorem l3Int_1 (n : Int) (w : World) (h : 0 ≤ n ∧ n < 10) :
    Calls Tryd.prog 46 #[.int .i64 n] w fun e w' => ∃ t, e = .returned (.string t) ∧ nums t = digL n ∧ Below w.heap.size w w' := by
  obtain ⟨h0, h1⟩ := h
  have hd : Hid (digL n = [48 + n]) := by show _ = _; simp [digL]; omega
  have hm : n % 10 = n := by omega
  have hq : n / 10 = 0 := by omega
  go_enter Tryd.func46, Tryd.ntmps46
  go_wp2
  refine wp_loop_rounds 2 ?_
  rw [rounds_succ]
  go_wp2_with (refine conv1 rfl _ rfl _ rfl (48 + n) (by omega) rfl ?_; intro t ht hte hts)
  have he := hte ⟨#[]⟩
  have hn : Hid (nums (t ++ ⟨#[]⟩) = digL n) := by show _ = _; rw [nums_app5, ht.out, hd.out]; rfl
  rw [rounds_succ]
  go_wp2
  go_ret
  exact ⟨_, rfl, hn.out, (Below.refl _ _).alloc (Nat.le_refl _) _⟩
set_option maxHeartbeats 2000000 in
theorem l3Int_2 (n : Int) (w : World) (h : 10 ≤ n ∧ n < 100) :
    Calls Tryd.prog 46 #[.int .i64 n] w fun e w' => ∃ t, e = .returned (.string t) ∧ nums t = digL n ∧ Below w.heap.size w w' := by
  obtain ⟨h0, h1⟩ := h
  have hd : Hid (digL n = [48 + n / 10, 48 + n % 10]) := by show _ = _; simp [digL]; omega
  have hm0 : 0 ≤ n % 10 := by omega
  have hm1 : n % 10 < 10 := by omega
  have hq0 : 0 < n / 10 := by omega
  have hq1 : n / 10 < 10 := by omega
  have hq2 : n / 10 % 10 = n / 10 := by omega
  have hq3 : n / 10 / 10 = 0 := by omega
  generalize hq : n / 10 = q at *
  generalize hm : n % 10 = m at *
  go_enter Tryd.func46, Tryd.ntmps46
  go_wp2
  refine wp_loop_rounds 3 ?_
  rw [rounds_succ]
  go_wp2_with (refine conv1 rfl _ rfl _ rfl (48 + m) (by omega) rfl ?_; intro t ht hte hts)
  have he := hte ⟨#[]⟩
  have hs1 : (t ++ ⟨#[]⟩).size = 1 := by rw [ByteArray.size_append, hts]; rfl
  rw [rounds_succ]
  go_wp2_with (refine conv1 rfl _ rfl _ (by simp) (48 + q) (by omega) rfl ?_; intro t2 ht2 hte2 hts2)
  have he2 := hte2 (t ++ ⟨#[]⟩)
  have hn : Hid (nums (t2 ++ (t ++ ⟨#[]⟩)) = digL n) := by show _ = _; rw [nums_app5, nums_app5, ht.out, ht2.out, hd.out]; rfl
  rw [rounds_succ]
  go_wp2
  go_ret
  exact ⟨_, rfl, hn.out, ((Below.refl _ _).alloc (Nat.le_refl _) _).alloc (by simp) _⟩
theorem l3Int_any (n : Int) (w : World) (h : 0 ≤ n ∧ n < 100) :
    Calls Tryd.prog 46 #[.int .i64 n] w fun e w' => ∃ t, e = .returned (.string t) ∧ nums t = digL n ∧ Below w.heap.size w w' := by
  by_cases h1 : n < 10
  · exact l3Int_1 n w ⟨h.1, h1⟩
  · exact l3Int_2 n w ⟨by omega, h.2⟩
end Go.Proofs.YtjcoebabipmmhaaDoor
