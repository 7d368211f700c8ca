/- A drawn list of numbers, most of them runes. -/
import Derived.Test.YticogomjpefoeaaDraw2
namespace Go.Proofs.Yticogomjpefoeaa
open Go.ChangeShapes Go.WideShapes Go.ChangeAt Go.RowKit

theorem below_of_grown {w0 w w' : World} {g : Nat} (hb : Below w0.heap.size w0 w) (hg : w.grownBy w' (some g)) (h : w0.heap.size ≤ g) : Below w0.heap.size w0 w' :=
  hb.grown hg hb.size (fun k hk => by cases hk; exact h)
theorem own_base2 {w : World} {base base' : Nat} {e : TypeId} {size : Nat} {v : Value} {n : Nat} {xs : List Value} (h : w.ownsRow base e size v n xs) (hb : base' ≤ base) : w.ownsRow base' e size v n xs := by
  refine ⟨h.1, ?_⟩
  rcases h.2 with h2 | ⟨g, cap, cur, hv, hbg, r⟩
  · exact .inl h2
  · exact .inr ⟨g, cap, cur, hv, Nat.le_trans hb hbg, r⟩
def OS : List Int := [-1, 55296, 1114112, -9223372036854775808]

set_option maxHeartbeats 1000000 in
theorem drawText_a (v : Value) (xs : List Int) (w : World) (hv : SlB w v xs) :
    Calls Try.prog 9 #[v] w fun e w' => ∃ (u : Value) (ys : List Int), e = .returned u ∧ ys.length ≤ 9 ∧ w'.ownsRow w.heap.size 2 1 u ys.length (ys.map (Value.int .i64)) ∧ Below w.heap.size w w' := by
  obtain ⟨i0, hi, hz0, hz1, hz2⟩ := info_parts info_int64d
  go_enter Try.func9, Try.ntmps9
  go_wp2_with fail
  refine (l1New_a v xs _ hv).mono ?_
  rintro e w1 ⟨rfl, hc1, hb1⟩
  go_wp2_with fail
  refine (l1DrawRunes_a _ v xs _ hc1).mono ?_
  rintro e w2 ⟨u, ys, rfl, hl, _, ho2, hc2, hg2⟩
  have hb2 := below_of_grown hb1 hg2 (Nat.le_refl _)
  have ho2' := own_base2 ho2 hb1.size
  have hlt1 : w.heap.size < w1.heap.size := hc1.1
  go_wp2_with fail
  refine (l1Once_a _ v xs 6 _ hc2).mono ?_
  rintro e w3 ⟨b, rfl, hc3, hg3⟩
  have hb3 := below_of_grown hb2 hg3 (Nat.le_refl _)
  have ho3 := own_grow ho2 hg3 hlt1
  have hw13 : w1.heap.size ≤ w3.heap.size := Nat.le_trans hg2.size hg3.size
  clear hg2 hg3 ho2 hc2 hc1 hb1 hb2 ho2'
  cases b
  · go_wp2
    go_ret
    exact ⟨_, ys, rfl, by omega, own_base2 ho3 (Nat.le_of_lt hlt1), hb3⟩
  · go_wp2_with fail
    refine (l1Below_a _ v xs 4 _ (hc3.below (bal w3 _))).mono ?_
    rintro e w4 ⟨x, rfl, hx0, hx1, _, hc4, hg4⟩
    obtain ⟨k, rfl⟩ : ∃ k : Nat, x = k := ⟨x.toNat, by omega⟩
    have hk : k < 4 := by have := hx1 (by omega); omega
    have hcell := lit_pick OS .i64 2 hg4 hc3.1 k hk
    have hki : (k : Int) < 4 := by omega
    have hgr := gtr (World.grownBy_alloc w3 _ (some w.heap.size)) hg4
    have hb4 := below_of_grown hb3 hgr (Nat.le_refl _)
    have ho4 := own_grow ho3 hgr hlt1
    have hs4 := hb4.size
    have hgsz : w1.heap.size ≤ w4.heap.size := Nat.le_trans hw13 hgr.size
    generalize OS.getD k 0 = r at *
    clear hg4 hc3 hx1 hgr ho3 hb3
    go_wp2_with (at_builtin; refine wpList_append_own _ rfl _ _ 26 rfl w1.heap.size 2 i0 (.int .i64 0) 1 8 Try.underlying26 hi hz0 hz1 hz2 rfl (by decide) _ _ _ rfl (ho4.alloc _) ⟨_, 0, none⟩ 1 1 [.int .i64 r] rfl rfl ?c1 ?c2 ?c3 ?c4 ?c5 ?_)
    case c1 =>
      intro j u hj
      match j, hj with
      | 0, hj => simp at hj; subst hj; simp [Addr.add]
    case c2 => intro u hu; simp at hu; subst hu; rfl
    case c3 => unfold maxLen; omega
    case c4 => omega
    case c5 => have := hgsz; simp; omega
    · intro v' w5 ho5 hg5 _
      have hb5 := (hb4.trans ((bal w4 _).mono hs4)).grown hg5 (by simp; omega) (fun k hk => by have := (ho4.lt k hk).1; omega)
      clear hg5 ho4
      go_wp2
      go_ret
      exact ⟨_, ys ++ [r], rfl, by simp; omega, own_base2 (by simpa using ho5) (Nat.le_of_lt hlt1), hb5⟩
end Go.Proofs.Yticogomjpefoeaa
