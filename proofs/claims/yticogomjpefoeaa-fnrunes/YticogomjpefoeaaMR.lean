/- Runes read are runes, and are put as what is read so again. Plain mathematics. -/
import Derived.Test.YticogomjpefoeaaM7
namespace Go.Proofs.Yticogomjpefoeaa

theorem dec_ok (l : List Int) (h : l ≠ []) (hb : ∀ x ∈ l, 0 ≤ x) : runeOk (dec l).1 = true := by
  match l with
  | [] => exact absurd rfl h
  | b0 :: t =>
    rcases put_dec b0 t (hb b0 (by simp)) with ⟨h1, _, _⟩ | ⟨h1, _⟩
    · exact h1
    · rw [h1]; decide
theorem runesF_ok : ∀ (n : Nat) (l : List Int), (∀ x ∈ l, 0 ≤ x) → ∀ r ∈ runesF n l, runeOk r = true := by
  intro n
  induction n with
  | zero => intro l _ r hr; simp [runesF] at hr
  | succ n ih =>
    intro l hb r hr
    by_cases hl : l = []
    · subst hl; simp [runesF] at hr
    · rw [runesF_step n l hl] at hr
      rcases List.mem_cons.1 hr with rfl | hr
      · exact dec_ok l hl hb
      · exact ih _ (fun x hx => hb x (List.mem_of_mem_drop hx)) r hr
theorem runesV_ok (s : ByteArray) : ∀ r ∈ runesV s, runeOk r = true := runesF_ok _ _ (nums_nonneg s)
theorem map_okR (l : List Int) (h : ∀ r ∈ l, runeOk r = true) : l.map okR = l := by
  induction l with
  | nil => rfl
  | cons r l ih => rw [List.map_cons, okR_yes r (h r (by simp)), ih (fun x hx => h x (by simp [hx]))]
theorem runes_back (l : List Int) : runesV (textV l) = l.map okR := runes_of _ _ (nums_text l)
theorem nums_appR (a b : ByteArray) : nums (a ++ b) = nums a ++ nums b := by simp [nums, ByteArray.data_append]
theorem get_putx (r : Int) (h : runeOk r = true) : getV (putS r ++ ⟨#[120]⟩) = (r, ((putS r).size : Int)) := by
  rw [getV, nums_appR, nums_putS r h, dec_put _ _ h, putS_size r h]
theorem put_first (r : Int) (h : runeOk r = true) : ∃ h0 : 0 < (putS r).size, stB (((putS r)[0]'h0).toNat : Int) = true := by
  obtain ⟨b0, t, hp, hs, _⟩ := put_starts r h
  have hz : 0 < (putS r).size := by rw [putS_size r h, hp]; simp
  refine ⟨hz, ?_⟩
  have := nums_get (putS r) 0 hz
  rw [nums_putS r h, hp] at this
  simp at this
  rw [← this]; exact hs
def okAll (l : List Int) : Bool := l.all runeOk
theorem okAll_snoc (l : List Int) (k : Nat) (h : k < l.length) : okAll (l.take (k + 1)) = (okAll (l.take k) && runeOk (l.getD k 0)) := by
  rw [List.take_succ_eq_append_getElem h, okAll, List.all_append]; simp [okAll, h]
theorem okAll_map (l : List Int) (h : okAll l = true) : l.map okR = l := map_okR l (by simpa [okAll] using h)
theorem textV_len (l : List Int) : (textV l).size ≤ 4 * l.length := by
  have h1 := textL_len l
  have h2 : (textV l).size = (textL l).length := by rw [← nums_text, nums_len]
  omega
end Go.Proofs.Yticogomjpefoeaa
