/- Contract of spec.Runes. -/
import Derived.Test.YticogomjpefoeaaRunes
namespace Go.Proofs.Yticogomjpefoeaa
open Go.ChangeShapes Go.WideShapes Go.ChangeAt Go.RowKit

def strSz : Value → Nat | .string b => b.size | _ => 0
theorem nums_cut (t : ByteArray) (k : Nat) : nums (t.extract k t.size) = (nums t).drop k := by
  rw [nums_extract, ← nums_len t, List.take_length]
theorem size_cut (t : ByteArray) (k : Nat) : (t.extract k t.size).size = t.size - k := by
  rw [← nums_len, nums_cut, List.length_drop, nums_len]
theorem runes_step (s t : ByteArray) (h : 0 < t.size) (hs : t.size ≤ s.size) :
    runesF s.size (nums t) = (getV t).1 :: runesF s.size (nums (t.extract (getV t).2.toNat t.size)) := by
  have hne : nums t ≠ [] := by intro e; have := nums_len t; rw [e, List.length_nil] at this; omega
  obtain ⟨k, hk⟩ : ∃ k, s.size = k + 1 := ⟨s.size - 1, by omega⟩
  have hb := getV_bd t h
  rw [hk, runesF_step k _ hne, nums_cut]
  show _ = (dec (nums t)).1 :: _
  congr 1
  apply runesF_fuel
  · simp only [List.length_drop, nums_len]; unfold getV at hb; omega
  · simp only [List.length_drop, nums_len]; unfold getV at hb; omega
  · intro x hx; exact nums_nonneg t x (List.mem_of_mem_drop hx)

set_option maxHeartbeats 1000000 in
theorem specRunes_any (s : ByteArray) (w : World) (hs : s.size ≤ 1048576) :
    Calls Try.prog 19 #[.string s] w fun e w' => ∃ v, e = .returned v ∧ Below w.heap.size w w' ∧ w'.ownsRow w.heap.size 2 1 v (runesV s).length ((runesV s).map (Value.int .i64)) := by
  obtain ⟨i0, hi, hz0, hz1, hz2⟩ := info_parts info_int64
  go_enter Try.func19, Try.ntmps19
  go_wp2
  go_loopw [0, 3] (fun sv v wr => ∃ (t : ByteArray) (xs : List Int), sv = .string t ∧ xs.length + t.size ≤ s.size ∧ xs ++ runesF s.size (nums t) = runesV s ∧ wr.ownsRow w.heap.size 2 1 v xs.length (xs.map (Value.int .i64)) ∧ Below w.heap.size w wr)
    (fun sv _ _ => strSz sv)
  case atStart =>
    refine ⟨s, [], rfl, by simp, by simp [runesV], ?_, (Below.refl _ _).alloc (Nat.le_refl _) _⟩
    exact World.ownsRow_lit (base := w.heap.size) (e := 2) (size := 1) w #[] 0 (Nat.le_refl _) (Nat.zero_le _) rfl
  case round =>
    obtain ⟨t, xs, rfl, hp, hx, hown, hbel⟩ := hrel
    have hX : Hid (xs ++ runesF s.size (nums t) = runesV s) := hx
    clear hx
    by_cases hlt : 0 < t.size
    · have hst := runes_step s t hlt (by omega)
      have hbd := getV_bd t hlt
      have hge := specGet_any t wr (by unfold maxLen; omega)
      have he := isEmpty_no t hlt
      generalize getV t = d at *
      obtain ⟨c, k⟩ := d
      simp only at hst hbd hge
      have hX2 : Hid ((xs ++ [c]) ++ runesF s.size (nums (t.extract k.toNat t.size)) = runesV s) := by
        have := hX.out; rw [hst] at this; show _ = _; simpa using this
      have hsz := size_cut t k.toNat
      have HS : Hid ((t.extract k.toNat t.size).size = t.size - k.toNat) := hsz
      clear hst hsz
      go_wp2_with (first
        | (go_at_call 15; refine hge.mono ?_; rintro e w1 ⟨rfl, hb1⟩)
        | (at_builtin; refine wpList_append_own _ rfl _ _ 26 rfl w.heap.size 2 i0 (.int .i64 0) 1 8 Try.underlying26 hi hz0 hz1 hz2 rfl (by decide) _ _ _ rfl ((hown.below hb1).alloc _) ⟨w1.heap.size, 0, none⟩ 1 1 [.int .i64 c] rfl rfl ?c1 ?c2 ?c3 ?c4 ?c5 ?_)
        | go_in)
      case c1 =>
        intro j u hj
        match j, hj with
        | 0, hj => simp at hj; subst hj; simp [Addr.add]
      case c2 => intro u hu; simp at hu; subst hu; rfl
      case c3 => unfold maxLen; omega
      case c4 => omega
      case c5 => have := hb1.size; have := hbel.size; simp; omega
      · intro v' w2 hown2 hg2 _
        have hg3 : w1.grownBy w2 u3.ownBlock := World.grownBy.trans_alloc hg2
        have hbel2 : Below w.heap.size w w2 := (hbel.trans (hb1.mono hbel.size)).grown hg3 (Nat.le_trans hbel.size hb1.size) (fun k hk => (hown.lt k hk).1)
        clear hg2 hg3 hown hge
        go_wp2
        go_roundw
        case rel =>
          refine ⟨t.extract k.toNat t.size, xs ++ [c], rfl, by rw [HS.out]; simp; omega, hX2.out, by simpa using hown2, hbel2⟩
        case measure => simp only [strSz]; rw [HS.out]; omega
    · have he := isEmpty_yes t hlt
      have hn : nums t = [] := List.eq_nil_of_length_eq_zero (by rw [nums_len]; omega)
      have hxe : xs = runesV s := by
        have := hX.out
        rw [hn, runesF_nil, List.append_nil] at this
        exact this
      go_wp2
      go_ret
      exact ⟨_, rfl, hbel, by rw [← hxe]; exact hown⟩
end Go.Proofs.Yticogomjpefoeaa
