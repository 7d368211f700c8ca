/- Contracts of Feed. -/
import Derived.Test.YticogomjpefoeaaM6
import Derived.Test.YticogomjpefoeaaRunes
namespace Go.Proofs.Yticogomjpefoeaa
open Go.ChangeShapes Go.WideShapes Go.ChangeAt Go.RowKit

def strSiz : Value → Nat | .string b => b.size | _ => 0
theorem info_int64f : (Try.prog.info? 2).map (fun i => (i.zero, i.size, i.bytes)) = some (some (.int .i64 0), 1, 8) := by kernel_rfl
theorem grown_alloc {w w' : World} {o : Obj} {row : Option Nat} (h : (w.alloc o).grownBy w' row) : w.grownBy w' row :=
  ⟨h.os, h.tape, h.output, by have := h.size; simp at this; omega, fun k hk hr => by
    rw [h.block k (by simp; omega) hr]; exact Below.heap_alloc _ _ _ hk⟩
/-- What feeding answers: the Feeder, and what is told. -/
def fedV (h : ByteArray) (b : Int) : List Int × ByteArray := if feedOk h = true then feedV (h ++ strOfNums [b]) else ([], ⟨#[]⟩)

theorem own_base {w : World} {base base' : Nat} {e : TypeId} {size : Nat} {v : Value} {n : Nat} {xs : List Value} (h : w.ownsRow base e size v n xs) (hb : base' ≤ base) : w.ownsRow base' e size v n xs := by
  refine ⟨h.1, ?_⟩
  rcases h.2 with h2 | ⟨g, cap, cur, hv, hbg, r⟩
  · exact .inl h2
  · exact .inr ⟨g, cap, cur, hv, Nat.le_trans hb hbg, r⟩

set_option maxHeartbeats 1000000 in
theorem implFeed_no (h : ByteArray) (b : Int) (w : World) (hk : feedOk h = false) :
    Calls Try.prog 25 #[.agg #[.string h], .int .u8 b] w fun e w' => ∃ v, e = .returned (.tuple #[.agg #[.string (fedV h b).2], v]) ∧ Below w.heap.size w w' ∧ w'.ownsRow w.heap.size 2 1 v (fedV h b).1.length ((fedV h b).1.map (Value.int .i64)) := by
  have hf : Hid (fedV h b = ([], ⟨#[]⟩)) := by show _ = _; simp [fedV, hk]
  go_enter Try.func25, Try.ntmps25
  go_wp2_with fail
  refine (implFeederOk_any h _).mono ?_
  rw [hk]
  rintro e w1 ⟨rfl, hb1⟩
  have hc : w1.cell? ⟨w.heap.size + 1, 0, none⟩ = some (.string ⟨#[]⟩) := (hb1.cell (p := ⟨w.heap.size + 1, 0, none⟩) (by simp)).trans (by simp [go_sem])
  have hz : w1.frozen? ⟨w.heap.size + 1, 0, none⟩ = false := (hb1.frozen (p := ⟨w.heap.size + 1, 0, none⟩) (by simp)).trans (by simp [go_sem])
  have ho0 := (World.ownsRow_lit (base := w.heap.size + 2) (e := 2) (size := 1) ((w.alloc (Obj.cells #[Value.string h] 38)).alloc (Obj.cells #[Value.string { data := #[] }] 38)) #[] 0 (by simp) (Nat.zero_le _) rfl).below hb1
  have ho := own_base (ownsRow_setCell_below ho0 (a := ⟨w.heap.size + 1, 0, none⟩) (by simp) (Value.string ⟨#[]⟩)) (base' := w.heap.size) (by omega)
  have hb0 := ((((Below.refl w.heap.size w).alloc (Nat.le_refl _) (Obj.cells #[Value.string h] 38)).alloc (by simp) (Obj.cells #[Value.string { data := #[] }] 38)).alloc (by simp; omega) (Obj.cells #[] 2)).trans (hb1.mono (by simp; omega))
  have hb2 := hb0.setCell (p := ⟨w.heap.size + 1, 0, none⟩) (by simp) (Value.string ⟨#[]⟩)
  clear ho0 hb0 hb1
  go_wp2
  refine bodyPost_ret (v := .tuple #[.agg #[.string ⟨#[]⟩], .slice (some ⟨w.heap.size + 1 + 1, 0, none⟩) 0 0]) (by simp [results, Try.results25, go_sem, hc]) rfl ⟨_, by rw [hf.out], hb2, ?_⟩
  rw [hf.out]
  simpa using ho

set_option maxHeartbeats 2000000 in
theorem implFeed_yes (h : ByteArray) (b : Int) (w : World) (hk : feedOk h = true) (h3 : h.size ≤ 3) :
    Calls Try.prog 25 #[.agg #[.string h], .int .u8 b] w fun e w' => ∃ v, e = .returned (.tuple #[.agg #[.string (fedV h b).2], v]) ∧ Below w.heap.size w w' ∧ w'.ownsRow w.heap.size 2 1 v (fedV h b).1.length ((fedV h b).1.map (Value.int .i64)) := by
  obtain ⟨i0, hi, hz0, hz1, hz2⟩ := info_parts info_int64f
  have hf : Hid (fedV h b = feedV (h ++ strOfNums [b])) := by show _ = _; simp [fedV, hk]
  have hcv := conv_1
  have h4 : (h ++ strOfNums [b]).size ≤ 4 := by rw [ByteArray.size_append, strOfNums_size]; simp; omega
  have h4i : ¬ 9223372036854775807 < h.size + (strOfNums [b]).size := by rw [ByteArray.size_append] at h4; omega
  go_enter Try.func25, Try.ntmps25
  go_wp2_with fail
  refine (implFeederOk_any h _).mono ?_
  rw [hk]
  rintro e w1 ⟨rfl, hb1⟩
  have hc0 : w1.cell? ⟨w.heap.size, 0, none⟩ = some (.string h) := (hb1.cell (p := ⟨w.heap.size, 0, none⟩) (by simp; omega)).trans (by simp [go_sem])
  have hc : w1.cell? ⟨w.heap.size + 1, 0, none⟩ = some (.string ⟨#[]⟩) := (hb1.cell (p := ⟨w.heap.size + 1, 0, none⟩) (by simp)).trans (by simp [go_sem])
  have hz : w1.frozen? ⟨w.heap.size + 1, 0, none⟩ = false := (hb1.frozen (p := ⟨w.heap.size + 1, 0, none⟩) (by simp)).trans (by simp [go_sem])
  have ho0 := (World.ownsRow_lit (base := w.heap.size + 2) (e := 2) (size := 1) ((w.alloc (Obj.cells #[Value.string h] 38)).alloc (Obj.cells #[Value.string { data := #[] }] 38)) #[] 0 (by simp) (Nat.zero_le _) rfl).below hb1
  have hb0 := ((((Below.refl w.heap.size w).alloc (Nat.le_refl _) (Obj.cells #[Value.string h] 38)).alloc (by simp) (Obj.cells #[Value.string { data := #[] }] 38)).alloc (by simp; omega) (Obj.cells #[] 2)).trans (hb1.mono (by simp; omega))
  have hs1 : w.heap.size + 2 < w1.heap.size := by have := hb1.size; simp at this; omega
  simp only [World.size_alloc] at ho0
  clear hb1
  go_wp2
  generalize h ++ strOfNums [b] = s at *
  go_loopw [6, 7] (fun v sv wr => ∃ (t : ByteArray) (xs : List Int), sv = .string t ∧ xs.length + t.size ≤ 4 ∧ xs ++ (feedV t).1 = (feedV s).1 ∧ (feedV t).2 = (feedV s).2 ∧ wr.ownsRow (w.heap.size + 2) 2 1 v xs.length (xs.map (Value.int .i64)) ∧ wr.cell? ⟨w.heap.size + 1, 0, none⟩ = some (.string ⟨#[]⟩) ∧ wr.frozen? ⟨w.heap.size + 1, 0, none⟩ = false ∧ w.heap.size + 2 < wr.heap.size ∧ Below w.heap.size w wr)
    (fun _ sv _ => strSiz sv)
  case atStart =>
    refine ⟨s, [], rfl, by simpa using h4, by simp, rfl, ?_, ?_, ?_, by simp; omega, hb0.alloc (by omega) _⟩
    · exact (by simpa using ho0 : w1.ownsRow (w.heap.size + 2) 2 1 _ 0 []).alloc _
    · rw [(Below.refl w1.heap.size w1 |>.alloc (Nat.le_refl _) _).cell (by dsimp only; omega)]; exact hc
    · rw [(Below.refl w1.heap.size w1 |>.alloc (Nat.le_refl _) _).frozen (by dsimp only; omega)]; exact hz
  case round =>
    clear hc0 hc hz ho0 hb0 hs1 hcv h4i
    obtain ⟨t, xs, rfl, hlen, hx1, hx2, hown, hc, hz, hws, hbel⟩ := hrel
    have H1 : Hid (xs ++ (feedV t).1 = (feedV s).1) := hx1
    have H2 : Hid ((feedV t).2 = (feedV s).2) := hx2
    clear hx1 hx2
    by_cases hlt : 0 < t.size
    · have he := isEmpty_no t hlt
      by_cases hk2 : feedOk t = true
      · have hst := feedV_stop t (by simp [hk2])
        have hxe : Hid (xs = (feedV s).1) := by have := H1.out; rw [hst] at this; show _ = _; simpa using this
        have hte : Hid (t = (feedV s).2) := by have := H2.out; rw [hst] at this; exact this
        clear hst H1 H2
        go_wp2_with fail
        refine (implFeederOk_any t _).mono ?_
        rw [hk2]
        rintro e w2 ⟨rfl, hb2⟩
        have ho2 := own_base (ownsRow_setCell_below (hown.below hb2) (a := ⟨w.heap.size + 1, 0, none⟩) (by simp) (Value.string t)) (base' := w.heap.size) (by omega)
        have hbel2 := (hbel.trans (hb2.mono hbel.size)).setCell (p := ⟨w.heap.size + 1, 0, none⟩) (by simp) (Value.string t)
        have hc2 := (hb2.cell (p := ⟨w.heap.size + 1, 0, none⟩) (by dsimp only; omega)).trans hc
        have hz2' := (hb2.frozen (p := ⟨w.heap.size + 1, 0, none⟩) (by dsimp only; omega)).trans hz
        clear hc hz hown hbel
        go_wp2
        refine bodyPost_ret (v := .tuple #[.agg #[.string t], u6]) (by simp [results, Try.results25, go_sem, hc2]) rfl ⟨u6, by rw [hf.out, ← hte.out], hbel2, ?_⟩
        rw [hf.out, ← hxe.out]
        exact ho2
      · have hk2 : feedOk t = false := by simpa using hk2
        have hst := feedV_go t hlt hk2
        have hbd := getV_bd t hlt
        have hge := implGet_any t
        have h12 : Hid ((xs ++ [(getV t).1]) ++ (feedV (t.extract (getV t).2.toNat t.size)).1 = (feedV s).1 ∧ (feedV (t.extract (getV t).2.toNat t.size)).2 = (feedV s).2) := by
          have h1 := H1.out; have h2 := H2.out; rw [hst] at h1 h2; exact ⟨by simpa using h1, h2⟩
        have hsz : Hid ((t.extract (getV t).2.toNat t.size).size = t.size - (getV t).2.toNat) := cut_size _ _
        clear hst H1 H2
        generalize getV t = d at *
        obtain ⟨c, k⟩ := d
        simp only at hbd hge h12 hsz
        have hts : t.size ≤ maxLen := by unfold maxLen; omega
        go_wp2_with (first
          | (go_at_call 27; refine (implFeederOk_any t _).mono ?_; rw [hk2]; rintro e w2 ⟨rfl, hb2⟩)
          | (go_at_call 13; refine (hge _ hts).mono ?_; rintro e w3 ⟨rfl, hb3⟩)
          | (at_builtin; refine wpList_append_own _ rfl _ _ 26 rfl (w.heap.size + 2) 2 i0 (.int .i64 0) 1 8 Try.underlying26 hi hz0 hz1 hz2 rfl (by decide) _ _ _ rfl (((hown.below hb2).below hb3).alloc _) ⟨_, 0, none⟩ 1 1 [.int .i64 c] rfl rfl ?c1 ?c2 ?c3 ?c4 ?c5 ?_))
        case c1 =>
          intro j u hj
          match j, hj with
          | 0, hj => simp at hj; subst hj; simp [Addr.add]
        case c2 => intro u hu; simp at hu; subst hu; rfl
        case c3 => unfold maxLen; omega
        case c4 => omega
        case c5 => have := hb2.size; have := hb3.size; simp; omega
        · intro v' w4 ho4 hg4 _
          have hb23 := (hb2.trans (hb3.mono hb2.size))
          have hg5 := grown_alloc hg4
          have hown3 := (hown.below hb2).below hb3
          have hbel4 := (hbel.trans (hb23.mono hbel.size)).grown hg5 (by have := hbel.size; have := hb23.size; omega) (fun k hk => by have := (hown3.lt k hk).1; omega)
          have hblk : w4.heap[w.heap.size + 1]? = wr.heap[w.heap.size + 1]? := by
            rw [hg5.block (w.heap.size + 1) (by have := hb23.size; omega) (fun e => by have := (hown3.lt _ e.symm).1; omega)]
            exact hb23.block _ (by omega)
          have hc4 : w4.cell? ⟨w.heap.size + 1, 0, none⟩ = some (.string ⟨#[]⟩) := (World.cell?_of_block (w := wr) hblk).trans hc
          have hz4 : w4.frozen? ⟨w.heap.size + 1, 0, none⟩ = false := (World.frozen?_of_block (w := wr) hblk).trans hz
          have hw4 : w.heap.size + 2 < w4.heap.size := by have := hg5.size; have := hb23.size; omega
          clear hg4 hg5 hown hown3 hblk hb23 hc hz hge
          go_wp2
          go_roundw
          case rel => exact ⟨t.extract k.toNat t.size, xs ++ [c], rfl, by rw [hsz.out]; simp; omega, h12.out.1, h12.out.2, by simpa using ho4, hc4, hz4, hw4, hbel4⟩
          case measure => simp only [strSiz]; rw [hsz.out]; omega
    · have he := isEmpty_yes t hlt
      have hst := feedV_stop t (by omega)
      have hxe : Hid (xs = (feedV s).1) := by have := H1.out; rw [hst] at this; show _ = _; simpa using this
      have hte : Hid (t = (feedV s).2) := by have := H2.out; rw [hst] at this; exact this
      clear hst H1 H2
      have ho2 := own_base (ownsRow_setCell_below hown (a := ⟨w.heap.size + 1, 0, none⟩) (by simp) (Value.string t)) (base' := w.heap.size) (by omega)
      have hbel2 := hbel.setCell (p := ⟨w.heap.size + 1, 0, none⟩) (by simp) (Value.string t)
      go_wp2
      refine bodyPost_ret (v := .tuple #[.agg #[.string t], u6]) (by simp [results, Try.results25, go_sem, hc]) rfl ⟨u6, by rw [hf.out, ← hte.out], hbel2, ?_⟩
      rw [hf.out, ← hxe.out]
      exact ho2
end Go.Proofs.Yticogomjpefoeaa
