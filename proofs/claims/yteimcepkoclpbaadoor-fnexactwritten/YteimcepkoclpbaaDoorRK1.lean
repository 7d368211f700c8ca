/- Contracts of the program's blanked windows. -/
import Derived.Test.YteimcepkoclpbaaDoorRK0
namespace Go.Proofs.YteimcepkoclpbaaDoor
open Go.ChangeShapes Go.WideShapes Go.ChangeAt Go.RowKit

/-- A window of k cells, the first j of them blank, the others zero. -/
def zeroUp (L : List Ce) (q k j : Nat) (s : St) : List Ce := genL L.length fun i => if q ≤ i ∧ i < q + j then blankC s else if q ≤ i ∧ i < q + k then Ce.zero else atC L i
theorem zeroUp_len (L : List Ce) (q k j : Nat) (s : St) : (zeroUp L q k j s).length = L.length := genL_len _ _
theorem zeroUp_at (L : List Ce) (q k j : Nat) (s : St) (i : Nat) (h : i < L.length) : atC (zeroUp L q k j s) i = if q ≤ i ∧ i < q + j then blankC s else if q ≤ i ∧ i < q + k then Ce.zero else atC L i := genL_at _ _ _ h
theorem zeroUp_start (L : List Ce) (q k : Nat) (s : St) (h : q + k ≤ L.length) : windL L q (List.replicate k Ce.zero) = zeroUp L q k 0 s := ext_atC _ _ (by rw [windL_len _ _ _ (by simpa using h), zeroUp_len]) fun i hi => by
  rw [windL_len _ _ _ (by simpa using h)] at hi
  rw [windL_at _ _ _ (by simpa using h), zeroUp_at _ _ _ _ _ _ hi, if_neg (show ¬ (q ≤ i ∧ i < q + 0) by omega), List.length_replicate]
  by_cases c : q ≤ i ∧ i < q + k
  · rw [if_pos c, if_pos c, atC_lt (by simp; omega)]; simp
  · rw [if_neg c, if_neg c]
theorem zeroUp_end (L : List Ce) (q k : Nat) (s : St) : zeroUp L q k k s = fillUp L q (q + k) s := ext_atC _ _ (by rw [zeroUp_len, fillUp_len]) fun i hi => by
  rw [zeroUp_len] at hi
  rw [zeroUp_at _ _ _ _ _ _ hi, fillUp_at _ _ _ _ _ hi]
  by_cases c : q ≤ i ∧ i < q + k
  · rw [if_pos c, if_pos c]
  · rw [if_neg c, if_neg c, if_neg c]
theorem zeroUp_step (L : List Ce) (q k j : Nat) (s : St) (hj : j < k) (h : q + k ≤ L.length) : zeroUp L q k (j + 1) s = (zeroUp L q k j s).set (q + j) ⟨32, s, (atC (zeroUp L q k j s) (q + j)).part⟩ := ext_atC _ _ (by simp [zeroUp_len]) fun i hi => by
  rw [zeroUp_len] at hi
  rw [zeroUp_at _ _ _ _ _ _ hi, atC_set, zeroUp_len, zeroUp_at _ _ _ _ _ _ hi, zeroUp_at _ _ _ _ _ (q + j) (by omega), if_neg (show ¬ (q ≤ q + j ∧ q + j < q + j) by omega), if_pos (show q ≤ q + j ∧ q + j < q + k by omega)]
  by_cases e : i = q + j
  · rw [if_pos (show q ≤ i ∧ i < q + (j + 1) by omega), if_pos (show i = q + j ∧ q + j < L.length from ⟨e, by omega⟩)]; rfl
  · rw [if_neg (show ¬ (i = q + j ∧ q + j < L.length) from fun x => e x.1)]
    by_cases c : q ≤ i ∧ i < q + j
    · rw [if_pos c, if_pos (show q ≤ i ∧ i < q + (j + 1) by omega)]
    · rw [if_neg c, if_neg (show ¬ (q ≤ i ∧ i < q + (j + 1)) by omega)]
set_option maxHeartbeats 4000000 in
set_option maxRecDepth 20000 in
theorem blankOut_any (base g n cap q k c off : Nat) (L : List Ce) (s : St) (w : World) (h : OwnC w base (.slice (some ⟨g, 0, none⟩) n cap) L) (hn : L.length = n) (hq : q + k ≤ n) (hk : 0 < k) (hl : n ≤ 1000) (hoff : off = q * 7) :
    Calls Tryd.prog 47 #[.slice (some ⟨g, off, none⟩) k c, stV s] w fun e w' => e = .returned (.tuple #[]) ∧ OwnC w' base (.slice (some ⟨g, 0, none⟩) n cap) (fillUp L q (q + k) s) ∧ w.grownBy w' (some g) := by
  have h2 := StAt.new w s 26
  have hbA := bal' w (Obj.cells #[.int .i64 s.fore, .int .i64 s.back, .bool s.bold, .bool s.under, .bool s.turned] 26)
  have hlt : g < w.heap.size := (h.lt g rfl).2
  have hA := h.below hbA
  have hgA : w.grownBy (w.alloc (Obj.cells #[.int .i64 s.fore, .int .i64 s.back, .bool s.bold, .bool s.under, .bool s.turned] 26)) (some g) := World.grownBy_alloc w _ _
  have hHo : Hid (off = q * 7) := hoff
  have hfin : Hid (zeroUp L q k k s = fillUp L q (q + k) s) := zeroUp_end L q k s
  have hsta : Hid (windL L q (List.replicate k Ce.zero) = zeroUp L q k 0 s) := zeroUp_start L q k s (by omega)
  have hnG : w.heap.size ≠ g := by omega
  clear hbA hoff h
  unfold stV
  go_enter Tryd.func47, Tryd.ntmps47
  go_wp2_with (refine clear_oc rfl _ rfl base g n cap q k c off L hA hn hq hHo.out rfl ?_; intro w1 ho1 hg1)
  have k1 : OwnC w1 base (.slice (some ⟨g, 0, none⟩) n cap) (zeroUp L q k 0 s) := by rw [← hsta.out]; exact ho1
  have hs1 := h2.grown hg1 (by simp; omega)
  have hw1 := grown_tr hgA hg1
  clear ho1 hg1 hA h2 hgA
  go_wp2
  go_loopw [8, 4] (fun i _ wr => ∃ j : Nat, i = .int .i64 j ∧ j ≤ k ∧ OwnC wr base (.slice (some ⟨g, 0, none⟩) n cap) (zeroUp L q k j s) ∧ StAt wr w.heap.size s ∧ w.grownBy wr (some g)) (fun i _ _ => k - (intOf i).toNat)
  case atStart => exact ⟨0, rfl, Nat.zero_le _, k1, hs1, hw1⟩
  case round =>
    clear k1 hs1 hw1
    obtain ⟨j, rfl, hj, ko, hs, hw⟩ := hrel
    by_cases hlt : j < k
    · have hji : (j : Int) < (k : Int) := by omega
      have hj0 : (0 : Int) ≤ (j : Int) := by omega
      have hst : Hid (zeroUp L q k (j + 1) s = (zeroUp L q k j s).set (q + j) ⟨32, s, (atC (zeroUp L q k j s) (q + j)).part⟩) := zeroUp_step L q k j s hlt (by omega)
      have hsz : (zeroUp L q k j s).length = n := by rw [zeroUp_len]; exact hn
      have hp := ko.putRS hsz (q + j) (by omega) 32 s
      have kk : OwnC (putRS wr g ((q + j) * 7) 32 s) base (.slice (some ⟨g, 0, none⟩) n cap) (zeroUp L q k (j + 1) s) := by rw [hst.out]; exact hp.1
      have hsk := hs.grown hp.2 (by simp; omega)
      have hwk := grown_tr hw hp.2
      have hat := ko.at hsz (q + j) (by omega)
      have f0 := ko.frozen hsz ((q + j) * 7)
      have f1 := ko.frozen hsz ((q + j) * 7 + 1)
      have f2 := ko.frozen hsz ((q + j) * 7 + 2)
      have f3 := ko.frozen hsz ((q + j) * 7 + 3)
      have f4 := ko.frozen hsz ((q + j) * 7 + 4)
      have f5 := ko.frozen hsz ((q + j) * 7 + 5)
      have eo : (q + j) * 7 = off + j * 7 := by have := hHo.out; omega
      rw [eo] at f0 f1 f2 f3 f4 f5 kk hsk hwk hat
      obtain ⟨c0, c1, c2, c3, c4, c5, c6⟩ := hat
      obtain ⟨_, ⟨d0, d1, d2, d3, d4⟩, _⟩ := id hs
      clear hp hst ko hs hw eo
      simp only [putRS] at kk hsk hwk
      go_wp2
      go_roundw
      case rel => exact ⟨j + 1, by go_num, by omega, kk, hsk, hwk⟩
      case measure => simp [intOf]; omega
    · have hjn : j = k := by omega
      have hji : ¬ (j : Int) < (k : Int) := by omega
      subst hjn
      go_wp2
      refine bodyPost_end (results_none rfl _ _ _) rfl ?_
      exact ⟨rfl, by rw [← hfin.out]; exact ko, hw⟩
/-- A window is blanked, a style in a box of its own stays. -/
theorem blankOut_box (B base g n cap q k c off : Nat) (L : List Ce) (s : St) (w : World) (hs : StAt w B s) (hBg : B ≠ g) (h : OwnC w base (.slice (some ⟨g, 0, none⟩) n cap) L) (hn : L.length = n) (hq : q + k ≤ n) (hk : 0 < k) (hl : n ≤ 1000) (hoff : off = q * 7) :
    Calls Tryd.prog 47 #[.slice (some ⟨g, off, none⟩) k c, .agg #[.int .i64 s.fore, .int .i64 s.back, .bool s.bold, .bool s.under, .bool s.turned]] w fun e w' => e = .returned (.tuple #[]) ∧ (w'.cell? ⟨B, 0, none⟩ = some (.int .i64 s.fore) ∧ w'.cell? ⟨B, 1, none⟩ = some (.int .i64 s.back) ∧ w'.cell? ⟨B, 2, none⟩ = some (.bool s.bold) ∧ w'.cell? ⟨B, 3, none⟩ = some (.bool s.under) ∧ w'.cell? ⟨B, 4, none⟩ = some (.bool s.turned)) ∧ OwnC w' base (.slice (some ⟨g, 0, none⟩) n cap) (fillUp L q (q + k) s) ∧ w.grownBy w' (some g) :=
  (blankOut_any base g n cap q k c off L s w h hn hq hk hl hoff).mono fun _ _ ⟨he, ho, hg⟩ => ⟨he, (hs.grown hg (by simpa using Ne.symm hBg)).2.1, ho, hg⟩
end Go.Proofs.YteimcepkoclpbaaDoor
