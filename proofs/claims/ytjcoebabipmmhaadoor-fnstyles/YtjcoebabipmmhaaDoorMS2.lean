/- What the law of styles asks of params and signs. Plain mathematics. -/
import Derived.Test.YtjcoebabipmmhaaDoorS6
namespace Go.Proofs.YtjcoebabipmmhaaDoor
theorem paramsV_none (a b : St) (ha : a.ok = true) (hb : b.ok = true) : (paramsV a b = []) = (a = b) := by
  have e : paramsV a b = paramsL a b := if_pos ⟨ha, hb⟩
  rw [e]
  exact propext ⟨paramsL_nil a b, fun h => by rw [h]; exact paramsL_self b⟩
theorem paramsV_len0 (a b : St) (ha : a.ok = true) (hb : b.ok = true) : ((paramsV a b).length = 0) = (a = b) := by
  rw [← paramsV_none a b ha hb]
  exact propext List.length_eq_zero_iff
theorem paramsV_not (a b : St) (h : ¬ (a.ok = true ∧ b.ok = true)) : paramsV a b = [] := if_neg h
theorem paramsV_len (a b : St) : (paramsV a b).length ≤ 5 := by
  unfold paramsV
  split
  · exact paramsL_len a b
  · simp
theorem styled_back (a b : St) (ha : a.ok = true) (hb : b.ok = true) (hn : a ≠ b) : styledV a (paramsV a b) = b := by
  have e : paramsV a b = paramsL a b := if_pos ⟨ha, hb⟩
  have hl := paramsL_len a b
  rw [e]
  unfold styledV
  rw [if_pos ⟨ha, by omega⟩, if_neg (fun h => hn (paramsL_nil a b h))]
  exact styled_params a b hb
theorem styled_nought (a : St) : styledV a [0] = St.zero := by
  unfold styledV
  split
  · rw [if_neg (by simp)]; rfl
  · rfl
theorem signL_none (l : List Int) : (signL l = []) = (l = []) := by
  unfold signL
  split
  · rename_i h; simp [h]
  · rename_i h; simp [h]
theorem signN_none (a b : St) (ha : a.ok = true) (hb : b.ok = true) : (signN a b = []) = (a = b) := by
  have e : signN a b = signL (paramsL a b) := if_pos ⟨ha, hb⟩
  rw [e, signL_none]
  exact propext ⟨paramsL_nil a b, fun h => by rw [h]; exact paramsL_self b⟩
theorem signN_not (a b : St) (h : ¬ (a.ok = true ∧ b.ok = true)) : signN a b = [] := if_neg h
theorem nums_inj0 (t : ByteArray) : (nums t = []) = (t = ⟨#[]⟩) := by
  refine propext ⟨fun h => ?_, fun h => by rw [h]; rfl⟩
  have hl := nums_len t
  rw [h] at hl
  have h0 : t.data.size = 0 := hl.symm
  cases t with
  | mk d => exact congrArg ByteArray.mk (Array.eq_empty_of_size_eq_zero h0)
end Go.Proofs.YtjcoebabipmmhaaDoor
