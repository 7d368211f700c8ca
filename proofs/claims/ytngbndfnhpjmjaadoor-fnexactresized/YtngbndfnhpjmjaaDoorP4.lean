/- The laws' own helper: two lists alike. Contract of the program's rows turned. Contract of the program's blanked rows. Contracts of the program's Up and Down. Contracts of the program's cut and copied rows, and of a wide rune parted. Contract of the program's parted wide rune. Contract of the program's Resized. Contract of the program's Resized, whole. The walk of the exact law of Resized. -/
import Derived.Test.YtngbndfnhpjmjaaDoorP3
import Derived.Laws.AppendOwnNone
import Derived.Laws.CopyOwn
import Derived.Deep.RegionHeld3
namespace Go.Proofs.YtngbndfnhpjmjaaDoor
open Go.ChangeShapes Go.WideShapes Go.ChangeAt Go.RowKit
/-- A slice whose cells hold these values, one a place: what append takes its news from. -/
def ReadsRow (w : World) (u : Value) (news : List Value) : Prop :=
  (u = .slice none 0 0 ∧ news = []) ∨ ∃ ad c, u = .slice (some ad) news.length c ∧ ∀ j x, news[j]? = some x → w.cell? (ad.add j) = some x
theorem ReadsRow.of_own {w : World} {base : Nat} {e : TypeId} {v : Value} {n : Nat} {xs : List Value} (h : w.ownsRow base e 1 v n xs) : ReadsRow w v xs := by
  have hl : xs.length = n := by simpa using h.1
  rcases h.2 with ⟨rfl, rfl⟩ | ⟨g, cap, cur, hv, _⟩
  · exact .inl ⟨rfl, List.eq_nil_of_length_eq_zero hl⟩
  · exact .inr ⟨⟨g, 0, none⟩, cap, by rw [hv, hl], h.cells (by rw [hv]; rfl)⟩
theorem ReadsRow.below {w w' : World} {u : Value} {news : List Value} (h : ReadsRow w u news) (hb : Below w.heap.size w w') : ReadsRow w' u news := by
  rcases h with h | ⟨ad, c, hu, hc⟩
  · exact .inl h
  · refine .inr ⟨ad, c, hu, fun j x hx => ?_⟩
    have h1 := hc j x hx
    exact (hb.cell (World.block_lt_of_cell? w _ h1)).trans h1
end Go.Proofs.YtngbndfnhpjmjaaDoor
namespace Go.Proofs.YtngbndfnhpjmjaaDoor
open Go.ChangeShapes Go.WideShapes Go.ChangeAt Go.RowKit
/-- Values laid over a window. -/
def windV (L : List Value) (q : Nat) (M : List Value) : List Value := L.take q ++ M ++ L.drop (q + M.length)
theorem windV_len (L : List Value) (q : Nat) (M : List Value) (h : q + M.length ≤ L.length) : (windV L q M).length = L.length := by unfold windV; simp; omega
theorem windV_at (L : List Value) (q : Nat) (M : List Value) (h : q + M.length ≤ L.length) (i : Nat) (_ : i < L.length) : rowV (windV L q M) i = if q ≤ i ∧ i < q + M.length then rowV M (i - q) else rowV L i := by
  have h1 : (L.take q).length = q := by rw [List.length_take]; omega
  unfold rowV windV
  simp only [List.getD]
  by_cases c1 : i < q
  · rw [if_neg (by omega), List.append_assoc, List.getElem?_append_left (by omega), List.getElem?_take_of_lt c1]
  · by_cases c2 : i < q + M.length
    · rw [if_pos (by omega), List.append_assoc, List.getElem?_append_right (by omega), h1, List.getElem?_append_left (by omega)]
    · rw [if_neg (by omega), List.getElem?_append_right (by rw [List.length_append, h1]; omega), List.length_append, h1, List.getElem?_drop, show q + M.length + (i - (q + M.length)) = i by omega]
/-- The rows of a window, turned. -/
def turnI (a m k i : Nat) : Nat := if a ≤ i ∧ i < a + m then (if i + k < a + m then i + k else i + k - m) else i
def turnR (rows : List (List Ce)) (a m k : Nat) : List (List Ce) := genR rows.length fun i => rowX rows (turnI a m k i)
theorem turnR_len (rows : List (List Ce)) (a m k : Nat) : (turnR rows a m k).length = rows.length := genR_len _ _
theorem turnR_at (rows : List (List Ce)) (a m k i : Nat) (h : i < rows.length) : rowX (turnR rows a m k) i = rowX rows (turnI a m k i) := genR_at _ _ _ h
theorem turnI_lt {a m k i n : Nat} (hk : k ≤ m) (ham : a + m ≤ n) (hi : i < n) : turnI a m k i < n := by unfold turnI; split <;> (try split) <;> omega
theorem turnI_inj {a m k i j : Nat} (hk : k ≤ m) (h : turnI a m k i = turnI a m k j) : i = j := by
  unfold turnI at h
  split at h <;> split at h <;> (try split at h) <;> (try split at h) <;> omega
def turnV (vs : List Value) (a m k : Nat) : List Value := genV (m - k) (fun i => rowV vs (a + k + i)) ++ genV k (fun i => rowV vs (a + i))
theorem turnV_len (vs : List Value) (a m k : Nat) (hk : k ≤ m) : (turnV vs a m k).length = m := by unfold turnV; rw [List.length_append, genV_len, genV_len]; omega
theorem rowV_app (a b : List Value) (i : Nat) : rowV (a ++ b) i = if i < a.length then rowV a i else rowV b (i - a.length) := by
  unfold rowV
  simp only [List.getD]
  by_cases c : i < a.length
  · rw [if_pos c, List.getElem?_append_left c]
  · rw [if_neg c, List.getElem?_append_right (by omega)]
theorem turnV_at (vs : List Value) (a m k i : Nat) (hk : k ≤ m) (hi : i < m) : rowV (turnV vs a m k) i = rowV vs (turnI a m k (a + i)) := by
  unfold turnV turnI
  rw [rowV_app, genV_len, if_pos (show a ≤ a + i ∧ a + i < a + m by omega)]
  by_cases c : i < m - k
  · rw [if_pos c, genV_at _ _ _ c, if_pos (by omega)]
    congr 1; omega
  · rw [if_neg c, genV_at _ _ _ (by omega), if_neg (by omega)]
    congr 1; omega
theorem OwnV.turned {w w' : World} {base B g n cap a m k : Nat} {vs : List Value} {rows : List (List Ce)} (h : OwnV w base B (.slice (some ⟨g, 0, none⟩) n cap) vs rows) (hn : rows.length = n) (ham : a + m ≤ n) (hk : k ≤ m)
    (ho : w'.ownsRow base 43 1 (.slice (some ⟨g, 0, none⟩) n cap) n (windV vs a (turnV vs a m k))) (hg : w.grownBy w' (some g)) : OwnV w' base w'.heap.size (.slice (some ⟨g, 0, none⟩) n cap) (windV vs a (turnV vs a m k)) (turnR rows a m k) := by
  have hvl := h.1
  have hown := h.2.1
  have hl := turnV_len vs a m k hk
  have hat : ∀ i, i < rows.length → rowV (windV vs a (turnV vs a m k)) i = rowV vs (turnI a m k i) := fun i hi => by
    rw [windV_at _ _ _ (by omega) _ (by omega), hl]
    by_cases c : a ≤ i ∧ i < a + m
    · rw [if_pos c, turnV_at _ _ _ _ _ hk (by omega), show a + (i - a) = i by omega]
    · rw [if_neg c]
      unfold turnI
      rw [if_neg c]
  refine h.mixed (fun i => some (turnI a m k i)) _ _ (by rw [windV_len _ _ _ (by omega), turnR_len, hvl]) (turnR_len _ _ _ _) (by rw [hn]; exact ho) (fun p hp => (h.2.2.1 p hp).kept hg (outer_apart hown (h.2.2.1 p hp))) (fun i p hi e => ?_) (fun i j p hij _ e1 e2 => ?_) (fun i _ e => by cases e) (fun i j _ _ e _ => by cases e)
  · cases e
    exact ⟨turnI_lt hk (by omega) hi, hat i hi, turnR_at _ _ _ _ _ hi⟩
  · cases e1
    have := turnI_inj hk (Option.some.inj e2)
    omega
end Go.Proofs.YtngbndfnhpjmjaaDoor
namespace Go.Proofs.YtngbndfnhpjmjaaDoor
open Go.ChangeShapes Go.WideShapes Go.ChangeAt Go.RowKit
theorem StAt.gr {lo hi B : Nat} {w w' : World} {s : St} (h : StAt w B s) (hg : GrB lo hi w w') (hne : B < lo ∨ hi ≤ B) : StAt w' B s := by
  obtain ⟨h0, ⟨c0, c1, c2, c3, c4⟩, z0, z1, z2, z3, z4⟩ := h
  refine ⟨Nat.lt_of_lt_of_le h0 hg.size, ⟨?_, ?_, ?_, ?_, ?_⟩, ?_, ?_, ?_, ?_, ?_⟩
  all_goals first | rw [hg.cell h0 hne] | rw [hg.frozen h0 hne]
  all_goals assumption
end Go.Proofs.YtngbndfnhpjmjaaDoor
namespace Go.Proofs.YtngbndfnhpjmjaaDoor
open Go.ChangeShapes Go.WideShapes Go.ChangeAt Go.RowKit
theorem GrW.gr {lo hi B : Nat} {w w' : World} {cols : Int} {v : Value} (h : GrW w B cols v) (hg : GrB lo hi w w') (hne : B < lo ∨ hi ≤ B) : GrW w' B cols v := by
  obtain ⟨h0, ⟨c0, c1⟩, z0, z1⟩ := h
  refine ⟨Nat.lt_of_lt_of_le h0 hg.size, ⟨?_, ?_⟩, ?_, ?_⟩
  all_goals first | rw [hg.cell h0 hne] | rw [hg.frozen h0 hne]
  all_goals assumption
end Go.Proofs.YtngbndfnhpjmjaaDoor
namespace Go.Proofs.YtngbndfnhpjmjaaDoor
open Go.ChangeShapes Go.WideShapes Go.ChangeAt Go.RowKit
theorem cut_any (g n cap f t : Nat) (w : World) (hft : f < t) (ht : t ≤ n) (hc : n ≤ cap) :
    Calls Tryd.prog 68 #[.slice (some ⟨g, 0, none⟩) n cap, .int .i64 f, .int .i64 t] w fun e w' => e = .returned (.slice (some ⟨g, f * 7, none⟩) (t - f) (t - f)) ∧ w' = w := by
  have h1 : (f : Int) ≤ (t : Int) := by omega
  have h0 : (0 : Int) ≤ (f : Int) := by omega
  have h2 : (t : Int) ≤ (cap : Int) := by omega
  have h3 : ¬ (t - f = 0) := by omega
  go_enter Tryd.func68, Tryd.ntmps68
  go_wp2
  go_ret
  exact ⟨rfl, rfl⟩
end Go.Proofs.YtngbndfnhpjmjaaDoor
namespace Go.Proofs.YtngbndfnhpjmjaaDoor
open Go.ChangeShapes Go.WideShapes Go.ChangeAt Go.RowKit
/-- A row of this call's own, and nothing else has changed. -/
def PW (base g n cap : Nat) (L : List Ce) (w0 W : World) : Prop := OwnC W base (.slice (some ⟨g, 0, none⟩) n cap) L ∧ w0.grownBy W (some g)
theorem PW.below {base g n cap : Nat} {L : List Ce} {w0 W W' : World} (k : PW base g n cap L w0 W) (hb : Below W.heap.size W W') : PW base g n cap L w0 W' :=
  ⟨k.1.below hb, grown_tr k.2 (gbl hb _)⟩
theorem PW.own {base g n cap : Nat} {L L' : List Ce} {w0 W W' : World} (k : PW base g n cap L w0 W) (h : OwnC W' base (.slice (some ⟨g, 0, none⟩) n cap) L') (hg : W.grownBy W' (some g)) : PW base g n cap L' w0 W' :=
  ⟨h, grown_tr k.2 hg⟩
set_option maxHeartbeats 4000000 in
set_option maxRecDepth 20000 in
theorem part_any (base g n cap p : Nat) (L : List Ce) (w : World) (h : OwnC w base (.slice (some ⟨g, 0, none⟩) n cap) L) (hn : L.length = n) (hR : Right L) (hp : p ≤ n) (hl : n ≤ 1000) :
    Calls Tryd.prog 43 #[.slice (some ⟨g, 0, none⟩) n cap, .int .i64 p] w fun e w' => e = .returned (.tuple #[]) ∧ OwnC w' base (.slice (some ⟨g, 0, none⟩) n cap) (partW L p) ∧ w.grownBy w' (some g) := by
  have hp0 : (0 : Int) ≤ (p : Int) := by omega
  obtain ⟨_, _, _, hnc, _⟩ := h.cur hn
  have hG : ∀ W, w.grownBy W (some g) → w.heap.size ≤ W.heap.size := fun W h => h.size
  by_cases hpn : p < n
  · have hpi : (p : Int) < (n : Int) := by omega
    have hat := h.at hn p hpn
    obtain ⟨c0, c1, c2, c3, c4, c5, c6⟩ := hat
    by_cases h2 : (atC L p).part = 2
    · have b2 : ((atC L p).part == 2) = true := by simp [h2]
      obtain ⟨q0, q1, q2, q3⟩ := hR.two h2
      have hV : Hid (partW L p = fillUp L (p - 1) (p - 1 + 2) (atC L p).st) := by show _ = _; unfold partW; rw [if_pos h2, show p - 1 + 2 = p + 1 by omega]
      have hcut := fun W => cut_any g n cap (p - 1) (p + 1) W (by omega) (by omega) hnc
      have e1 : ((p - 1 : Nat) : Int) = (p : Int) - 1 := by omega
      have e2 : ((p + 1 : Nat) : Int) = (p : Int) + 1 := by omega
      have e3 : p + 1 - (p - 1) = 2 := by omega
      rw [e1, e2, e3] at hcut
      have hbo : ∀ W, OwnC W base (.slice (some ⟨g, 0, none⟩) n cap) L → Calls Tryd.prog 67 #[.slice (some ⟨g, (p - 1) * 7, none⟩) 2 2, stV (atC L p).st] W fun e w' => e = .returned (.tuple #[]) ∧ (w'.cell? ⟨g, p * 7 + 1, none⟩ = some (.int .i64 (atC L p).st.fore) ∧ w'.cell? ⟨g, p * 7 + 2, none⟩ = some (.int .i64 (atC L p).st.back) ∧ w'.cell? ⟨g, p * 7 + 3, none⟩ = some (.bool (atC L p).st.bold) ∧ w'.cell? ⟨g, p * 7 + 4, none⟩ = some (.bool (atC L p).st.under) ∧ w'.cell? ⟨g, p * 7 + 5, none⟩ = some (.bool (atC L p).st.turned)) ∧ OwnC w' base (.slice (some ⟨g, 0, none⟩) n cap) (fillUp L (p - 1) (p - 1 + 2) (atC L p).st) ∧ W.grownBy w' (some g) := fun W hW =>
        (blankOut_any base g n cap (p - 1) 2 2 ((p - 1) * 7) L (atC L p).st W hW hn (by omega) (by omega) hl rfl).mono fun e w' ⟨he, ho, hg⟩ => by
          have hz := ho.at (by rw [fillUp_len]; exact hn) p hpn
          rw [fill_at _ _ _ _ _ (by omega), if_pos (by omega)] at hz
          exact ⟨he, ⟨hz.2.1, hz.2.2.1, hz.2.2.2.1, hz.2.2.2.2.1, hz.2.2.2.2.2.1⟩, ho, hg⟩
      have hd := h.below (bdr w)
      have hgd : w.grownBy w.drew (some g) := gbl (bdr w) _
      have hcd : w.drew.cell? ⟨g, p * 7 + 1, none⟩ = some (.int .i64 (atC L p).st.fore) ∧ w.drew.cell? ⟨g, p * 7 + 2, none⟩ = some (.int .i64 (atC L p).st.back) ∧ w.drew.cell? ⟨g, p * 7 + 3, none⟩ = some (.bool (atC L p).st.bold) ∧ w.drew.cell? ⟨g, p * 7 + 4, none⟩ = some (.bool (atC L p).st.under) ∧ w.drew.cell? ⟨g, p * 7 + 5, none⟩ = some (.bool (atC L p).st.turned) := ⟨c1, c2, c3, c4, c5⟩
      have hw1 : IntKind.i64.wrap ((p : Int) - 1) = (p : Int) - 1 := by simp [IntKind.wrap_i64]; omega
      have hw2 : IntKind.i64.wrap ((p : Int) + 1) = (p : Int) + 1 := by simp [IntKind.wrap_i64]; omega
      unfold stV at hbo
      clear e1 e2 e3 h2 q3 q2 hR
      go_enter Tryd.func43, Tryd.ntmps43
      go_wp2
      clear h c0 c1 c2 c3 c4 c5 c6
      go_region_held3 (fun W => W.cell? ⟨g, p * 7 + 1, none⟩ = some (.int .i64 (atC L p).st.fore) ∧ W.cell? ⟨g, p * 7 + 2, none⟩ = some (.int .i64 (atC L p).st.back) ∧ W.cell? ⟨g, p * 7 + 3, none⟩ = some (.bool (atC L p).st.bold) ∧ W.cell? ⟨g, p * 7 + 4, none⟩ = some (.bool (atC L p).st.under) ∧ W.cell? ⟨g, p * 7 + 5, none⟩ = some (.bool (atC L p).st.turned)) (first | with_reducible assumption)
        (first
          | (go_at_call 68; refine (hcut _).mono ?_; rintro e wk ⟨rfl, hwk⟩; subst hwk)
          | (go_at_call 67; refine (hbo _ hd).mono ?_; rintro e wz ⟨rfl, hcz, ho, hg⟩))
      refine bodyPost_end (results_none rfl _ _ _) rfl ?_
      exact ⟨rfl, by rw [hV.out]; exact ho, grown_tr hgd hg⟩
    · have b2 : ((atC L p).part == 2) = false := by simp [h2]
      have hV : Hid (partW L p = L) := by show _ = _; unfold partW; rw [if_neg h2]
      clear h2 hR
      go_enter Tryd.func43, Tryd.ntmps43
      go_wp2
      refine bodyPost_end (results_none rfl _ _ _) rfl ?_
      exact ⟨rfl, by rw [hV.out]; exact h, World.grownBy.refl _ _⟩
  · have hpi : ¬ (p : Int) < (n : Int) := by omega
    have hV : Hid (partW L p = L) := by show _ = _; unfold partW; rw [atC_ge (by omega), if_neg (by decide)]
    clear hR
    go_enter Tryd.func43, Tryd.ntmps43
    go_wp2
    refine bodyPost_end (results_none rfl _ _ _) rfl ?_
    exact ⟨rfl, by rw [hV.out]; exact h, World.grownBy.refl _ _⟩
end Go.Proofs.YtngbndfnhpjmjaaDoor
namespace Go.Proofs.YtngbndfnhpjmjaaDoor
open Go.ChangeShapes Go.WideShapes Go.ChangeAt Go.RowKit
theorem res_way {X : List Ce} (h : Right X) (cn : Nat) : windL (rowL cn St.zero) 0 ((partW X cn).take (min cn X.length)) = mendV (X.take (min cn X.length)) ++ rowL (cn - (mendV (X.take (min cn X.length))).length) St.zero := by
  have hl1 : ((partW X cn).take (min cn X.length)).length = min cn X.length := by rw [List.length_take, partW_len]; omega
  have hl2 : (mendV (X.take (min cn X.length))).length = min cn X.length := by rw [mendV_len, List.length_take]; omega
  refine ext_atC _ _ ?_ fun i hi => ?_
  · rw [windL_len _ _ _ (by rw [hl1, rowL_len]; omega), rowL_len, List.length_append, hl2, rowL_len]; omega
  · rw [windL_len _ _ _ (by rw [hl1, rowL_len]; omega), rowL_len] at hi
    rw [windL_at _ _ _ (by rw [hl1, rowL_len]; omega), hl1, app_at, hl2]
    by_cases c : i < min cn X.length
    · rw [if_pos (by omega), if_pos c, atC_take _ _ _ (by omega), Nat.sub_zero, partW_at h, mendT h _ _ c]
      by_cases d : cn ≤ X.length
      · rw [Nat.min_eq_left d]
        by_cases e : (atC X cn).part = 2 ∧ i + 1 = cn
        · rw [if_pos ⟨e.1, .inl e.2⟩, if_pos e]
        · rw [if_neg (by intro x; exact e ⟨x.1, by omega⟩), if_neg e]
      · rw [Nat.min_eq_right (by omega), atC_ge (show X.length ≤ cn by omega), atC_ge (Nat.le_refl X.length)]
        simp [Ce.zero]
    · rw [if_neg (by omega), if_neg c, rowL_at _ _ _ hi, rowL_at _ _ _ (by omega)]
set_option maxRecDepth 20000 in
theorem part_out (base g n cap p : Nat) (L : List Ce) (w : World) (h : OwnC w base (.slice (some ⟨g, 0, none⟩) n cap) L) (hn : L.length = n) (hp : n ≤ p) :
    Calls Tryd.prog 43 #[.slice (some ⟨g, 0, none⟩) n cap, .int .i64 (p : Int)] w fun e w' => e = .returned (.tuple #[]) ∧ OwnC w' base (.slice (some ⟨g, 0, none⟩) n cap) (partW L p) ∧ w.grownBy w' (some g) := by
  have hlt : ¬ (p : Int) < (n : Int) := by omega
  have hW : Hid (partW L p = L) := by
    show _ = _
    unfold partW
    rw [atC_ge (by omega), if_neg (by decide)]
  go_enter Tryd.func43, Tryd.ntmps43
  go_wp2
  refine bodyPost_end (results_none rfl _ _ _) rfl ?_
  exact ⟨rfl, by rw [hW.out]; exact h, World.grownBy.refl _ _⟩
theorem part_all (base g n cap p : Nat) (L : List Ce) (w : World) (h : OwnC w base (.slice (some ⟨g, 0, none⟩) n cap) L) (hn : L.length = n) (hR : Right L) (hl : n ≤ 1000) :
    Calls Tryd.prog 43 #[.slice (some ⟨g, 0, none⟩) n cap, .int .i64 (p : Int)] w fun e w' => e = .returned (.tuple #[]) ∧ OwnC w' base (.slice (some ⟨g, 0, none⟩) n cap) (partW L p) ∧ w.grownBy w' (some g) := by
  by_cases c : n ≤ p
  · exact part_out base g n cap p L w h hn c
  · exact part_any base g n cap p L w h hn hR (by omega) hl
theorem OwnV.gr {lo hi base B : Nat} {w w' : World} {v : Value} {vs : List Value} {rows : List (List Ce)} (h : OwnV w base B v vs rows) (hv : ∀ g, v.ownBlock = some g → g < B) (hg : GrB lo hi w w') (hne : B ≤ lo ∨ hi ≤ base) : OwnV w' base B v vs rows := by
  obtain ⟨hl, ho, hr, hB, hd⟩ := h
  refine ⟨hl, World.ownsRow.gr ho hg (fun g e => ?_), fun i hi => (hr i hi).gr hg (fun g e => ?_), hB, hd⟩
  · have := hv g e; have := (ho.lt g e).1; omega
  · have := hB i hi g e; have := ((hr i hi).lt g e).1; omega
/-- A slice of rows cut at its head. -/
theorem SlG.drop {w : World} {b off n c : Nat} {rows : List (List Ce)} (h : SlG w (.slice (some ⟨b, off, none⟩) n c) rows) (k : Nat) (hk : k < n) : SlG w (.slice (some ⟨b, off + k, none⟩) (n - k) (c - k)) (rows.drop k) := by
  obtain ⟨a, c', vs, hv, hc, hn, hr, hs⟩ := h
  simp only [Value.slice.injEq] at hv
  obtain ⟨rfl, hnl, rfl⟩ := hv
  subst hnl
  have hx : ∀ i, i < rows.length - k → rowX (rows.drop k) i = rowX rows (k + i) := fun i hi => by simp [rowX, List.getD]
  have hvv : ∀ i, rowV (vs.drop k) i = rowV vs (k + i) := fun i => by simp [rowV, List.getD]
  rcases hr with hr | ⟨b', off', hab, hlt, hi⟩
  · rw [hr] at hk; simp at hk
  · simp only [Option.some.injEq, Addr.mk.injEq, and_true] at hab
    obtain ⟨rfl, rfl⟩ := hab
    refine ⟨_, c - k, vs.drop k, by rw [List.length_drop], by rw [List.length_drop]; omega, (fun e => by cases e), .inr ⟨b, off + k, rfl, hlt, fun i h2 => ?_⟩, fun i h2 => ?_⟩
    · rw [List.length_drop] at h2
      rw [hvv, Nat.add_assoc]; exact hi (k + i) (by omega)
    · rw [List.length_drop] at h2
      rw [hvv, hx i h2]; exact hs (k + i) (by omega)
theorem lowest_any (b off m c n : Nat) (w : World) (hm : 1 ≤ m) (hm2 : m ≤ 1000) (hc : m ≤ c) (hn : 1 ≤ n) (hn2 : n ≤ 1000) :
    Calls Tryd.prog 42 #[.slice (some ⟨b, off, none⟩) m c, .int .i64 (n : Int)] w fun e w' => e = .returned (.slice (some ⟨b, off + (m - n), none⟩) (m - (m - n)) (c - (m - n))) ∧ w' = w := by
  obtain ⟨f, hf⟩ : ∃ f, f = m - n := ⟨_, rfl⟩
  rw [← hf]
  have hfm : f < m := by omega
  have h0 : (0 : Int) ≤ (f : Int) := by omega
  have h1 : (f : Int) ≤ (m : Int) := by omega
  have hfc : ¬ c = f := by omega
  have hfc2 : ¬ (c - f = 0) := by omega
  by_cases hnm : 0 < f
  · have e1 : (m : Int) - (n : Int) = (f : Int) := by omega
    have e2 : (0 : Int) < (f : Int) := by omega
    clear hf
    go_enter Tryd.func42, Tryd.ntmps42
    go_wp2
    go_ret
    exact ⟨rfl, rfl⟩
  · have hf0 : f = 0 := by omega
    subst hf0
    have e1 : (m : Int) - (n : Int) ≤ 0 := by omega
    have e2 : ¬ 0 < (m : Int) - (n : Int) := by omega
    have e3 : ¬ (n : Int) < (m : Int) := by omega
    clear hf
    go_enter Tryd.func42, Tryd.ntmps42
    go_wp2
    go_ret
    exact ⟨by simp, rfl⟩
end Go.Proofs.YtngbndfnhpjmjaaDoor
namespace Go.Proofs.YtngbndfnhpjmjaaDoor
open Go.ChangeShapes Go.WideShapes Go.ChangeAt Go.RowKit
theorem GrN.low {w w' : World} {B K : Nat} {cols : Int} {v : Value} (h : GrN w B cols v) (hb : Below K w w') (hlt : B < K) : GrN w' B cols v :=
  ⟨Nat.lt_of_lt_of_le h.1 hb.size, (hb.cell (p := ⟨B, 0, none⟩) hlt).trans h.2.1, (hb.cell (p := ⟨B, 1, none⟩) hlt).trans h.2.2⟩
theorem genR_set (n : Nat) (f h : Nat → List Ce) (j : Nat) (hj : j < n) : (genR n fun i => if i < j then f i else h i).set j (f j) = genR n fun i => if i < j + 1 then f i else h i :=
  ext_rowX _ _ (by rw [List.length_set, genR_len, genR_len]) fun i hi => by
    rw [List.length_set, genR_len] at hi
    rw [rowX_set (by rw [genR_len]; exact hj), genR_at _ _ _ hi, genR_at _ _ _ hi]
    by_cases e : i = j
    · rw [if_pos e, if_pos (by omega), e]
    · rw [if_neg e]
      by_cases c : i < j
      · rw [if_pos c, if_pos (by omega)]
      · rw [if_neg c, if_neg (by omega)]
theorem genR_start (n : Nat) (f h : Nat → List Ce) : (genR n fun i => if i < 0 then f i else h i) = genR n h :=
  ext_rowX _ _ (by rw [genR_len, genR_len]) fun i hi => by
    rw [genR_len] at hi
    rw [genR_at _ _ _ hi, genR_at _ _ _ hi, if_neg (Nat.not_lt_zero i)]
theorem genR_self (rows : List (List Ce)) : (genR rows.length fun i => rowX rows i) = rows :=
  ext_rowX _ _ (genR_len _ _) fun i hi => by
    rw [genR_len] at hi
    rw [genR_at _ _ _ hi]
/-- The rows resized, as the program makes them. -/
theorem resized_way (rows : List (List Ce)) (gc cn n : Nat) (hR : ∀ i, i < rows.length → Right (rowX rows i)) (hx : ∀ i, i < rows.length → (rowX rows i).length = gc) (hn : 1 ≤ n) :
    (genR n fun i => if i < rows.length - (rows.length - n) then windL (rowL cn St.zero) 0 ((partW (rowX (rows.drop (rows.length - n)) i) cn).take (min cn gc)) else rowL cn St.zero) = resUp rows cn (min cn gc) (rows.length - n) n :=
  ext_rowX _ _ (by rw [genR_len, resUp_len]) fun i hi => by
    rw [genR_len] at hi
    unfold resUp
    rw [genR_at _ _ _ hi, genR_at _ _ _ hi]
    have hdx : rowX (rows.drop (rows.length - n)) i = rowX rows (rows.length - n + i) := by simp [rowX, List.getD]
    unfold resI rowPart
    by_cases c : i < rows.length - (rows.length - n)
    · rw [if_pos c, if_pos (by omega), hdx]
      have h1 := res_way (hR (rows.length - n + i) (by omega)) cn
      rw [hx _ (by omega)] at h1
      exact h1
    · rw [if_neg c, if_neg (by omega)]
      simp
theorem SlC.src' {w : World} {a : Option Addr} {n c : Nat} {xs : List Ce} (h : SlC w (.slice a n c) xs) (h0 : 0 < xs.length) : ∃ b off, a = some ⟨b, off, none⟩ ∧ ∀ i, i < xs.length → CeAt w b (off + i * 7) (atC xs i) := by
  obtain ⟨a', c', hv, _, _, hr⟩ := h
  simp only [Value.slice.injEq] at hv
  obtain ⟨rfl, _, _⟩ := hv
  rcases hr with hr | ⟨b, off, hab, _, hi⟩
  · rw [hr] at h0; simp at h0
  · exact ⟨b, off, hab, hi⟩
set_option maxHeartbeats 16000000 in
set_option maxRecDepth 20000 in
theorem implResized_any (cols : Int) (v : Value) (rows : List (List Ce)) (a0 a1 : Int) (w : World) (hSp : SpansAt w) (hv : SlG w v rows) (hl : rows.length ≤ 1048576) (hx : ∀ i, i < rows.length → (rowX rows i).length ≤ 1048576) :
    Calls Tryd.prog 13 #[gridV cols v, .int .i64 a0, .int .i64 a1] w fun e w' => ∃ u, e = .returned (gridV (resC cols rows a0 a1) u) ∧ OwnG w' w.heap.size w'.heap.size u (resR cols rows a0 a1) ∧ Below w.heap.size w w' := by
  have hG0 := GrN.new w cols v 26
  have hb1 := bal' w (Obj.cells #[.int .i64 cols, v] 26)
  have e1 : (w.alloc (Obj.cells #[.int .i64 cols, v] 26)).heap.size = w.heap.size + 1 := by simp
  have hok := fun W hS h => implGridOk_any cols v rows W hS h hl hx
  have hnew := fun W => implNewGrid_any a0 a1 W
  have hv1 := hv.below hb1
  obtain ⟨pa, pc, pvs, rfl, hpc, _, hpr, _⟩ := id hv
  unfold gridV at *
  generalize hw1 : w.alloc (Obj.cells #[.int .i64 cols, .slice pa rows.length pc] 26) = w1 at *
  have hR3 := GrW.new w1 0 (.slice none 0 0) 26
  have hb3 := bal' w1 (Obj.cells #[Value.int IntKind.i64 0, Value.slice none 0 0] 26)
  rw [e1] at hR3
  have hv3 := hv1.below hb3
  have hG3 := hG0.below hb3
  have kb3 := hb1.trans (hb3.mono hb1.size)
  have hSp3 := hSp.below kb3 hSp.lt
  have hs3 : (w1.alloc (Obj.cells #[Value.int IntKind.i64 0, Value.slice none 0 0] 26)).heap.size = w.heap.size + 2 := by simp; omega
  clear hv hv1 hG0 hb1 hb3
  subst hw1
  clear e1
  have hT : Hid (resOkB cols rows a0 a1 = (gridOkB cols rows && decide (newOk a0 a1))) := by
    show _ = _
    unfold resOkB newOk
    congr 1
    rw [← Bool.decide_and]
  have hno : resOkB cols rows a0 a1 = false → Hid (resC cols rows a0 a1 = 0) ∧ Hid (resR cols rows a0 a1 = []) := fun h => ⟨by show _ = _; unfold resC; rw [h]; rfl, by show _ = _; unfold resR; rw [h]; rfl⟩
  have hFail : ∀ W : World, GrW W (w.heap.size + 1) 0 (.slice none 0 0) → Below w.heap.size w W → (((W.setCell ⟨w.heap.size + 1, 0, none⟩ (.int .i64 0)).setCell ⟨w.heap.size + 1, 1, none⟩ (.slice none 0 0)).cell? ⟨w.heap.size + 1, 0, none⟩ = some (.int .i64 0) ∧ ((W.setCell ⟨w.heap.size + 1, 0, none⟩ (.int .i64 0)).setCell ⟨w.heap.size + 1, 1, none⟩ (.slice none 0 0)).cell? ⟨w.heap.size + 1, 1, none⟩ = some (.slice none 0 0)) ∧ Below w.heap.size w ((W.setCell ⟨w.heap.size + 1, 0, none⟩ (.int .i64 0)).setCell ⟨w.heap.size + 1, 1, none⟩ (.slice none 0 0)) := fun W hR kb => by
    have kF := (hR.put2 0 (.slice none 0 0)).2.1
    have hbF := kb.grown (putG2_grown W (w.heap.size + 1) 0 (.slice none 0 0)) (by have := hR.1; omega) (fun g e => by cases e; omega)
    exact ⟨kF, hbF⟩
  go_enter Tryd.func13, Tryd.ntmps13
  go_wp2_with fail
  refine (hnew _).mono ?_
  rintro e w4 ⟨u, rfl, hu, hb⟩
  rw [hs3] at hu
  have hs4 := hb.size
  rw [hs3] at hs4
  obtain ⟨ua, un, uc, rfl⟩ := slSh (SlG.of_own hu)
  by_cases hnk : newOk a0 a1
  · rw [decide_eq_true hnk]
    rw [if_pos hnk] at hu ⊢
    rw [decide_eq_true hnk, Bool.and_true] at hT
    have hM5 := GrN.new w4 a0 (.slice ua un uc) 26
    have hal := bal' w4 (Obj.cells #[.int .i64 a0, .slice ua un uc] 26)
    have hbb := hb.trans (hal.mono hb.size)
    have hR5 := hR3.below hbb
    have hv5 := hv3.below hbb
    have hG5 := hG3.below hbb
    have kb5 := kb3.trans (hbb.mono kb3.size)
    have hSp5 := hSp3.below hbb hSp3.lt
    obtain ⟨vsM, hu4⟩ := hu.v
    have hu5 : OwnV (w4.alloc (Obj.cells #[.int .i64 a0, .slice ua un uc] 26)) (w.heap.size + 2) w4.heap.size (.slice ua un uc) vsM (newR a0.toNat a1.toNat) := hu4.below hal
    have hug := fun g e => (hu.lt g e).2
    have hs5 : w4.heap.size < (w4.alloc (Obj.cells #[.int .i64 a0, .slice ua un uc] 26)).heap.size := by simp
    clear hR3 hv3 hG3 kb3 hSp3 hb hal hbb hu hu4 hnew hs3
    obtain ⟨_, g0, g1⟩ := id hG5
    go_wp2_with fail
    generalize w4.alloc (Obj.cells #[.int .i64 a0, .slice ua un uc] 26) = w5 at *
    refine (hok _ hSp5 hv5).mono ?_
    rintro e w6 ⟨rfl, hb⟩
    have hR6 := hR5.below hb
    have hv6 := hv5.below hb
    have hG6 := hG5.below hb
    have hM6 := hM5.below hb
    have hu6 := hu5.below hb
    have kb6 := kb5.trans (hb.mono kb5.size)
    have hs6 := hb.size
    clear hR5 hv5 hG5 hM5 hu5 kb5 hSp5 hb hok g0 g1
    cases hg : gridOkB cols rows
    · rw [hg] at hT
      obtain ⟨hC, hR⟩ := hno hT.out
      obtain ⟨_, ⟨d0, d1⟩, ⟨y0, y1⟩⟩ := id hR6
      obtain ⟨⟨f0, f1⟩, hbF⟩ := hFail w6 hR6 kb6
      clear hv6 hG6 hR6 hM6 hu6 kb6 hFail
      go_wp2
      exact bodyPost_ret (v := .agg #[.int .i64 0, .slice none 0 0]) (by simp [results, Tryd.results13, go_sem, f0, f1]) rfl ⟨_, by rw [hC.out], by rw [hR.out]; exact ownG_none _ _ _, hbF⟩
    · rw [hg] at hT
      obtain ⟨⟨hc1, hc2⟩, ⟨hr1, hr2⟩, hfit⟩ := (gridOk_iff cols rows).1 hg
      obtain ⟨⟨q1, q2⟩, q3, q4⟩ := hnk
      obtain ⟨gc, rfl⟩ : ∃ k : Nat, cols = k := ⟨cols.toNat, by omega⟩
      obtain ⟨cn, rfl⟩ : ∃ k : Nat, a0 = k := ⟨a0.toNat, by omega⟩
      obtain ⟨n, rfl⟩ : ∃ k : Nat, a1 = k := ⟨a1.toNat, by omega⟩
      rw [Int.toNat_natCast, Int.toNat_natCast] at hu6
      have hfl : ∀ i, i < rows.length → (rowX rows i).length = gc := fun i hi => by have := fitB_len (hfit i hi); unfold rowX; omega
      have hRr : ∀ i, i < rows.length → Right (rowX rows i) := fun i hi => by
        have h := hfit i hi
        unfold fitB at h
        rw [Bool.and_eq_true] at h
        exact ((right_iff _).1 h.2).2
      have hway := resized_way rows gc cn n hRr hfl (by omega)
      have hC : Hid (resC gc rows cn n = (cn : Int)) := by show _ = _; unfold resC; rw [hT.out]; rfl
      have hR : Hid (resR gc rows cn n = resUp rows cn (min cn gc) (rows.length - n) n) := by show _ = _; unfold resR; rw [hT.out]; rfl
      rcases hpr with h | ⟨b, off, rfl, hbb, _⟩
      · rw [h] at hr1; simp at hr1
      have hlow := fun W => lowest_any b off rows.length pc n W hr1 (by omega) hpc (by omega) (by omega)
      obtain ⟨fr, hfr⟩ : ∃ fr, fr = rows.length - n := ⟨_, rfl⟩
      rw [← hfr] at hway hlow hR
      obtain ⟨m, hm⟩ : ∃ m, m = rows.length - fr := ⟨_, rfl⟩
      rw [← hm] at hway
      have hfrl : fr < rows.length := by omega
      simp only [← hm] at hlow
      have hdrop := hv6.drop fr hfrl
      rw [← hm] at hdrop
      have hdl : (rows.drop fr).length = m := by rw [List.length_drop]; omega
      have hdx : ∀ i, i < m → rowX (rows.drop fr) i = rowX rows (fr + i) := fun i hi => by simp [rowX, List.getD]
      have hDl : ∀ i, i < m → (rowX (rows.drop fr) i).length = gc := fun i hi => by rw [hdx i hi]; exact hfl _ (by omega)
      have hDR : ∀ i, i < m → Right (rowX (rows.drop fr) i) := fun i hi => by rw [hdx i hi]; exact hRr _ (by omega)
      have hcp := copiedG_any _ (rows.drop fr) w6 hdrop (by omega) (fun i hi => by rw [hDl i (by omega)]; omega)
      rw [hdl] at hcp
      have hmn : m ≤ n := by omega
      have hgsome : ∃ gM cM, Value.slice ua un uc = .slice (some ⟨gM, 0, none⟩) n cM ∧ n ≤ cM := by
        rcases hu6.shape with ⟨_, h⟩ | ⟨g, cap, h, _, _, hc⟩
        · have := congrArg List.length h; rw [newR_len] at this; simp at this; omega
        · rw [newR_len] at h hc; exact ⟨g, cap, h, hc⟩
      obtain ⟨gM, cM, hgM, hcM⟩ := hgsome
      rw [hgM] at hu6 hM6 hug
      simp only [Value.slice.injEq] at hgM
      obtain ⟨rfl, hn2, hc3⟩ := hgM
      have hn2 := hn2.symm
      have hc3 := hc3.symm
      subst hn2
      subst hc3
      have hgMlt := hug gM rfl
      obtain ⟨_, g0, g1⟩ := id hG6
      have HM : Hid (m = rows.length - fr) := hm
      clear hfit hfl hRr hg hno hFail hx hl hv6 hdrop hdx hT hfr hm hdl
      go_wp2_with fail
      refine (hlow _).mono ?_
      rintro e w7 ⟨rfl, hw⟩
      subst hw
      go_wp2_with fail
      refine hcp.mono ?_
      rintro e w8 ⟨vsC, rfl, kC, hb⟩
      have hR8 := hR6.below hb
      have hM8 := hM6.below hb
      have hu8 := hu6.below hb
      have kb8 := kb6.trans (hb.mono kb6.size)
      have hs8 := hb.size
      have hs67 : w4.heap.size ≤ w7.heap.size := by omega
      have hs68 : w4.heap.size < w7.heap.size := by omega
      have hs24 : w.heap.size + 2 ≤ w4.heap.size := hs4
      clear hR6 hG6 hM6 hu6 kb6 hb hcp hlow g0 g1
      have hDm : (rows.drop fr).length = m := by rw [List.length_drop, HM.out]
      generalize rows.drop fr = D at *
      obtain ⟨q0, hq0⟩ : ∃ q, q = min cn gc := ⟨_, rfl⟩
      rw [← hq0] at hway hR
      have hC0 : OwnV w8 w7.heap.size w8.heap.size (.slice (some ⟨w7.heap.size, 0, none⟩) m m) vsC (genR m fun i => if i < 0 then partW (rowX D i) cn else rowX D i) := by
        rw [genR_start m (fun i => partW (rowX D i) cn) (fun i => rowX D i), ← hDm, genR_self D, hDm]; exact kC
      have hM0 : OwnV w8 (w.heap.size + 2) w4.heap.size (.slice (some ⟨gM, 0, none⟩) n cM) vsM (genR n fun i => if i < 0 then windL (rowL cn St.zero) 0 ((partW (rowX D i) cn).take q0) else rowL cn St.zero) := by
        rw [genR_start n (fun i => windL (rowL cn St.zero) 0 ((partW (rowX D i) cn).take q0)) (fun _ => rowL cn St.zero)]
        have e : (genR n fun _ => rowL cn St.zero) = newR cn n := ext_rowX _ _ (by rw [genR_len, newR_len]) fun i hi => by
          rw [genR_len] at hi
          rw [genR_at _ _ _ hi, newR_at _ _ _ hi]
        rw [e]; exact hu8
      have hlC : w7.heap.size < w8.heap.size := (World.ownsRow.lt kC.2.1 w7.heap.size rfl).2
      have hq0c : q0 ≤ cn := by omega
      have hq0g : q0 ≤ gc := by omega
      have hq01 : 1 ≤ q0 := by omega
      have HQ : Hid (q0 = min cn gc) := hq0
      have HD : Hid (D.length = m) := hDm
      clear kC hu8 hq0 hDm
      go_wp2
      go_loopw [9, 10, 31] (fun _ _ i wr => ∃ (j : Nat), i = .int .i64 j ∧ j ≤ m ∧ OwnV wr w7.heap.size w8.heap.size (.slice (some ⟨w7.heap.size, 0, none⟩) m m) vsC (genR m fun i => if i < j then partW (rowX D i) cn else rowX D i) ∧ OwnV wr (w.heap.size + 2) w4.heap.size (.slice (some ⟨gM, 0, none⟩) n cM) vsM (genR n fun i => if i < j then windL (rowL cn St.zero) 0 ((partW (rowX D i) cn).take q0) else rowL cn St.zero) ∧ GrW wr (w.heap.size + 1) 0 (.slice none 0 0) ∧ GrN wr w4.heap.size (cn : Int) (.slice (some ⟨gM, 0, none⟩) n cM) ∧ Below w.heap.size w wr ∧ w8.heap.size ≤ wr.heap.size) (fun _ _ i _ => m - (intOf i).toNat)
      case atStart => exact ⟨0, rfl, Nat.zero_le _, hC0, hM0, hR8, hM8, kb8, Nat.le_refl _⟩
      case round =>
        clear hC0 hM0 hR8 hM8 kb8
        obtain ⟨j, rfl, hj, kC, kM, kR, kN, kb, ks⟩ := hrel
        by_cases hlt : j < m
        · have hji : (j : Int) < (m : Int) := by omega
          have hjn : (j : Int) < (n : Int) := by omega
          have hj0 : (0 : Int) ≤ (j : Int) := by omega
          have hCl : (genR m fun i => if i < j then partW (rowX D i) cn else rowX D i).length = m := genR_len _ _
          have hMl : (genR n fun i => if i < j then windL (rowL cn St.zero) 0 ((partW (rowX D i) cn).take q0) else rowL cn St.zero).length = n := genR_len _ _
          have hcC := kC.cell hCl j hlt
          have hrC := kC.2.2.1 j (by omega)
          have hBC := kC.2.2.2.1 j (by omega)
          rw [genR_at _ _ _ hlt, if_neg (Nat.lt_irrefl j)] at hrC
          have hX := hDl j hlt
          have hXR := hDR j hlt
          rcases hrC.shape with ⟨_, h⟩ | ⟨gr, cr, hvC, hgr1, hgr2, hcr⟩
          · rw [h] at hX; simp at hX; omega
          rw [hX] at hvC hcr
          rw [hvC] at hcC hrC hBC
          have hgrB := hBC gr rfl
          have hcM := kM.cell hMl j (by omega)
          have hrM := kM.2.2.1 j (by omega)
          have hBM := kM.2.2.2.1 j (by omega)
          rw [genR_at _ _ _ (by omega), if_neg (Nat.lt_irrefl j)] at hrM
          rcases hrM.shape with ⟨_, h⟩ | ⟨gm, cm, hvM, hgm1, hgm2, hcm⟩
          · have := congrArg List.length h; rw [rowL_len] at this; simp at this; omega
          rw [rowL_len] at hvM hcm
          rw [hvM] at hcM hrM hBM
          have hgmB := hBM gm rfl
          have hpa := part_all w7.heap.size gr gc cr cn (rowX D j) wr hrC hX hXR (by omega)
          have hsetC := fun W' (h1 : OwnC W' w7.heap.size (.slice (some ⟨gr, 0, none⟩) gc cr) (partW (rowX D j) cn)) (h2 : wr.grownBy W' (some gr)) => (show OwnV W' w7.heap.size w8.heap.size (.slice (some ⟨w7.heap.size, 0, none⟩) m m) vsC (genR m fun i => if i < j + 1 then partW (rowX D i) cn else rowX D i) from by
            rw [← genR_set m (fun i => partW (rowX D i) cn) (fun i => rowX D i) j hlt]
            exact kC.rowset (by omega) _ (by rw [hvC]; exact h1) (by rw [hvC]; exact h2))
          obtain ⟨_, g0, g1⟩ := id kN
          clear hrC hBC hBM
          go_wp2_with fail
          refine hpa.mono ?_
          rintro e w9 ⟨rfl, hp9, hg9⟩
          have kC9 := hsetC w9 hp9 hg9
          have hgb := GrB.of_grown (lo := w7.heap.size) (hi := w8.heap.size) hg9 (fun g e => by cases e; exact ⟨hgr1, hgrB⟩)
          have kM9 := kM.gr (fun g e => by cases e; exact hgMlt) hgb (.inl hs67)
          have kR9 := kR.gr hgb (.inl (by omega))
          have kN9 := kN.gr hgb (.inl (by omega))
          have kb9 := kb.trans (hgb.to_below (by omega) kb.size)
          have ks9 := Nat.le_trans ks hgb.size
          have hcM9 := kM9.cell hMl j (by omega)
          have hrM9 := kM9.2.2.1 j (by omega)
          rw [genR_at _ _ _ (by omega), if_neg (Nat.lt_irrefl j)] at hrM9
          rw [hvM] at hcM9 hrM9
          have hPl : (partW (rowX D j) cn).length = gc := by rw [partW_len]; exact hX
          have hTl : ((partW (rowX D j) cn).take q0).length = q0 := by rw [List.length_take, hPl]; omega
          have hmn2 : Hid (((partW (rowX D j) cn).take q0).length = Nat.min gc cn) := by show _ = _; rw [hTl, HQ.out]; exact Nat.min_comm _ _
          have hqn2 : Hid (0 + ((partW (rowX D j) cn).take q0).length ≤ cn) := by show _ ≤ _; rw [hTl]; omega
          have hposs : Hid (0 < ((partW (rowX D j) cn).take q0).length → ∃ b off, some (⟨gr, 0, none⟩ : Addr) = some ⟨b, off, none⟩ ∧ ∀ i, i < ((partW (rowX D j) cn).take q0).length → CeAt w9 b (off + i * 7) (atC ((partW (rowX D j) cn).take q0) i)) := (show 0 < ((partW (rowX D j) cn).take q0).length → ∃ b off, some (⟨gr, 0, none⟩ : Addr) = some ⟨b, off, none⟩ ∧ ∀ i, i < ((partW (rowX D j) cn).take q0).length → CeAt w9 b (off + i * 7) (atC ((partW (rowX D j) cn).take q0) i) from fun _ => by
            obtain ⟨b', off', hab, hce⟩ := (SlC.of_own hp9).src' (by rw [hPl]; omega)
            refine ⟨b', off', hab, fun i hi => ?_⟩
            rw [hTl] at hi
            rw [atC_take _ _ _ hi]
            exact hce i (by rw [hPl]; omega))
          have hrl : Hid ((rowL cn St.zero).length = cn) := rowL_len _ _
          have hsetM := fun W' (h1 : OwnC W' (w.heap.size + 2) (.slice (some ⟨gm, 0, none⟩) cn cm) (windL (rowL cn St.zero) 0 ((partW (rowX D j) cn).take q0))) (h2 : w9.grownBy W' (some gm)) => (show OwnV W' (w.heap.size + 2) w4.heap.size (.slice (some ⟨gM, 0, none⟩) n cM) vsM (genR n fun i => if i < j + 1 then windL (rowL cn St.zero) 0 ((partW (rowX D i) cn).take q0) else rowL cn St.zero) from by
            rw [← genR_set n (fun i => windL (rowL cn St.zero) 0 ((partW (rowX D i) cn).take q0)) (fun _ => rowL cn St.zero) j (by omega)]
            exact kM9.rowset (by omega) _ (by rw [hvM]; exact h1) (by rw [hvM]; exact h2))
          have hX1 := hX
          clear hX hXR hcC hvC hcM hrM hvM hpa hsetC hp9 hg9 hgb kC kM kR kN kb hPl hTl g0 g1 hCl hMl
          generalize (partW (rowX D j) cn).take q0 = MM at *
          obtain ⟨_, g0, g1⟩ := id kN9
          go_wp2_with (refine copy_oc (by rfl) _ _ (by rfl) (w.heap.size + 2) gm cn cm 0 (rowL cn St.zero) MM hrM9 hrl.out (some ⟨gm, 0, none⟩) (some ⟨gr, 0, none⟩) cn cm gc cr (by rfl) (by rfl) hmn2.out hqn2.out (fun h0 => ⟨rfl, hposs.out h0⟩) ?_; intro w10 ho10 hg10)
          have kM10 := hsetM w10 ho10 hg10
          have hgb := GrB.of_grown (lo := w.heap.size + 2) (hi := w4.heap.size) hg10 (fun g e => by cases e; exact ⟨hgm1, hgmB⟩)
          have kC10 := kC9.gr (fun g e => by cases e; exact hlC) hgb (.inr hs67)
          have kR10 := kR9.gr hgb (.inl (by omega))
          have kN10 := kN9.gr hgb (.inr (Nat.le_refl _))
          have kb10 := kb9.trans (hgb.to_below (by omega) kb9.size)
          have ks10 := Nat.le_trans ks9 hgb.size
          clear hsetM ho10 hg10 hgb kM9 kC9 kR9 kN9 kb9 ks9 hposs hmn2 hqn2 hrl hrM9 hcM9 g0 g1
          go_wp2
          go_roundw
          case rel => exact ⟨j + 1, by go_num, by omega, kC10, kM10, kR10, kN10, kb10, ks10⟩
          case measure => simp [intOf]; omega
        · have hjn : j = m := by omega
          have hji : ¬ (j : Int) < (m : Int) := by omega
          subst hjn
          rw [hway] at kM
          have kF := (kR.put2 cn (.slice (some ⟨gM, 0, none⟩) n cM)).2.1
          have hgF := putG2_grown wr (w.heap.size + 1) cn (.slice (some ⟨gM, 0, none⟩) n cM)
          have hoF := ((kM.g.up (by have := kb.size; omega : w4.heap.size ≤ wr.heap.size)).kept hgF (fun g e => by cases e; omega)).up hgF.size
          have hs7 := kb.size
          have hbF := kb.grown hgF (by omega) (fun g e => by cases e; omega)
          obtain ⟨f0, f1⟩ := kF
          obtain ⟨_, ⟨d0, d1⟩, ⟨y0, y1⟩⟩ := kR
          obtain ⟨_, g0, g1⟩ := kN
          simp only [putG2] at f0 f1 hoF hbF
          clear hgF kb kC kM hway hDl hDR
          go_wp2
          exact bodyPost_ret (v := .agg #[.int .i64 cn, .slice (some ⟨gM, 0, none⟩) n cM]) (by simp [results, Tryd.results13, go_sem, f0, f1]) rfl ⟨_, by rw [hC.out], by rw [hR.out]; exact hoF.low (by omega), hbF⟩
  · rw [decide_eq_false hnk]
    rw [decide_eq_false hnk, Bool.and_false] at hT
    obtain ⟨hC, hR⟩ := hno hT.out
    rw [if_neg hnk]
    have hal := bal' w4 (Obj.cells #[.int .i64 0, .slice ua un uc] 26)
    have hbb := hb.trans (hal.mono hb.size)
    have hR5 := hR3.below hbb
    have kb5 := kb3.trans (hbb.mono kb3.size)
    obtain ⟨_, ⟨d0, d1⟩, ⟨y0, y1⟩⟩ := id hR5
    obtain ⟨⟨f0, f1⟩, hbF⟩ := hFail _ hR5 kb5
    clear hok hnew hFail hv3 hG3 hR3 hu hb hal hbb kb3 kb5 hR5 hSp3
    go_wp2
    exact bodyPost_ret (v := .agg #[.int .i64 0, .slice none 0 0]) (by simp [results, Tryd.results13, go_sem, f0, f1]) rfl ⟨_, by rw [hC.out], by rw [hR.out]; exact ownG_none _ _ _, hbF⟩
end Go.Proofs.YtngbndfnhpjmjaaDoor
namespace Go.Proofs.YtngbndfnhpjmjaaDoor
open Go.ChangeShapes Go.WideShapes Go.ChangeAt Go.RowKit
set_option maxHeartbeats 8000000 in
set_option maxRecDepth 20000 in
theorem walk_FnExactResized' (w : World) (cols : Int) (v : Value) (rows : List (List Ce)) (a0 a1 : Int) (C : Int) (Y : List (List Ce)) (hv : SlG w v rows) (hl0 : rows.length ≤ maxLen) (hx0 : ∀ i, i < rows.length → (rowX rows i).length ≤ maxLen) (hYn : Y.length ≤ 60) (hYx : ∀ i, i < Y.length → (rowX Y i).length ≤ 60)
    (hsp : ∀ v W, SlG W v rows → rows.length ≤ 1048576 → (∀ i, i < rows.length → (rowX rows i).length ≤ 1048576) → Calls Tryd.prog 20 #[gridV cols v, .int .i64 a0, .int .i64 a1] W fun e w' => ∃ u, e = .returned (gridV C u) ∧ OwnG w' W.heap.size w'.heap.size u Y ∧ Below W.heap.size W w')
    (him : ∀ v W, Below w.heap.size w W → SlG W v rows → rows.length ≤ 1048576 → (∀ i, i < rows.length → (rowX rows i).length ≤ 1048576) → Calls Tryd.prog 13 #[gridV cols v, .int .i64 a0, .int .i64 a1] W fun e w' => ∃ u, e = .returned (gridV C u) ∧ OwnG w' W.heap.size w'.heap.size u Y ∧ Below W.heap.size W w') :
    Calls Tryd.prog 7 #[gridV cols v, .int .i64 a0, .int .i64 a1] w fun e w' => e = .returned (.bool true) ∧ Below w.heap.size w w' := by
  have hz := fun W h => szGrid_any cols v rows 1048576 W h hl0 hx0 (by decide)
  have hb1 := bal' w (Obj.cells #[.int .i64 cols, v] 46)
  have hG1 := GrN.new w cols v 46
  have e1 : (w.alloc (Obj.cells #[.int .i64 cols, v] 46)).heap.size = w.heap.size + 1 := by simp
  have hGA := hG1
  have kbA := hb1
  have e2 := e1
  obtain ⟨p0, p1, p2, rfl⟩ := slShp hv
  unfold gridV at *
  clear hb1 hG1 e1
  by_cases hL : szG rows 1048576 < 0
  · have hzv : Hid (szG rows 1048576 = -1) := by
      show _ = _
      unfold szG at *
      split at hL
      · rfl
      · omega
    have hvA := hv.below kbA
    have c0 := hGA.2.1
    have c1 := hGA.2.2
    clear hsp him
    go_enter Tryd.func7, Tryd.ntmps7
    go_wp2_with fail
    refine (hz _ hvA).mono ?_
    rintro e w1 ⟨rfl, hb⟩
    go_wp2
    go_ret
    exact ⟨rfl, kbA.trans (hb.mono kbA.size)⟩
  · have hfit : rows.length ≤ 1048576 ∧ (∀ i, i < rows.length → (rowX rows i).length ≤ 1048576) ∧ sumG rows rows.length ≤ 1048576 := by
      unfold szG at hL
      split at hL
      · exact absurd (by decide) hL
      · rename_i m hm; exact ⟨(leftG_le hm).2.1, (leftG_le hm).2.2, by have := leftG_sum hm; omega⟩
    obtain ⟨hl, hx, hsx⟩ := hfit
    have hsY : sumG Y Y.length ≤ 1048576 := by have := sumG_bd Y 60 hYx Y.length (Nat.le_refl _); have := Nat.mul_le_mul_right 60 hYn; omega
    have hsp' := fun v W h => hsp v W h hl hx
    have him' := fun v W hb h => him v W hb h hl hx
    have hto := fun W h => toGrid_copy cols (.slice p0 p1 p2) rows W h (by omega) (fun i hi => by have := hx i hi; omega)
    have heY := fun va vb W h1 h2 => eqGrid_same C va vb Y W h1 h2 (by omega) (fun i hi => by have := hYx i hi; omega)
    have heX := fun va vb W h1 h2 => eqGrid_same cols va vb rows W h1 h2 (by omega) (fun i hi => by have := hx i hi; omega)
    have hmX := fun lo hi v W h => markGrid_own lo hi cols v 1 rows W h (by decide) hsx hl
    have hmY := fun lo hi v W h => markGrid_own lo hi C v 1 Y W h (by decide) hsY (by omega)
    have hhY := fun v W h => heldGrid_marks C v 1 Y W h (by decide) hsY (by omega)
    have hqX : ¬ (((1 + 7 * sumG rows rows.length : Nat) : Int) < 0) := by omega
    have hqY : ¬ (((1 + 7 * sumG Y Y.length : Nat) : Int) < 0) := by omega
    generalize 1 + 7 * sumG rows rows.length = mX at *
    generalize 1 + 7 * sumG Y Y.length = mY at *
    clear hl0 hx0 hYn hYx hsx hsY hl hx hsp him
    unfold gridV at *
    generalize szG rows 1048576 = z at *
    have c0 := hGA.2.1
    have c1 := hGA.2.2
    go_enter Tryd.func7, Tryd.ntmps7
    go_wp2_with fail
    refine (hz _ (hv.below kbA)).mono ?_
    rintro e w1 ⟨rfl, hb⟩
    have hG1 := hGA.below hb
    have kb1 := kbA.trans (hb.mono kbA.size)
    have hs1 := hb.size
    rw [e2] at hs1
    clear hGA kbA hb c0 c1 e2
    have c0 := hG1.2.1
    have c1 := hG1.2.2
    go_wp2_with fail
    refine (hto _ (hv.below kb1)).mono ?_
    rintro e w2 ⟨u2, rfl, ho2, hb2⟩
    obtain ⟨r0, r1, r2, rfl⟩ := slShp (SlG.of_own ho2)
    go_wp2_with fail
    refine (hsp' _ _ (SlG.of_own ho2)).mono ?_
    rintro e w4 ⟨u4, rfl, ho4, hb4⟩
    obtain ⟨q0, q1, q2, rfl⟩ := slShp (SlG.of_own ho4)
    have hal := bal' w4 (Obj.cells #[.int .i64 C, .slice q0 q1 q2] 26)
    have hR5 := GrN.new w4 C (.slice q0 q1 q2) 26
    have hO5 := (OwnR.of ho4).below hal
    have hb5 := (hb2.trans (hb4.mono hb2.size)).trans (hal.mono (Nat.le_trans hb2.size hb4.size))
    have hG5 := hG1.below hb5
    have kb5 := kb1.trans (hb5.mono kb1.size)
    clear hG1 kb1 hs1 ho2 hb2 ho4 hb4 hal hb5 c0 c1
    have c0 := hG5.2.1
    have c1 := hG5.2.2
    go_wp2_with fail
    generalize w4.alloc (Obj.cells #[.int .i64 C, .slice q0 q1 q2] 26) = W5 at *
    refine (hto _ (hv.below kb5)).mono ?_
    rintro e w6 ⟨ux, rfl, hox, hb⟩
    obtain ⟨x0, x1, x2, rfl⟩ := slShp (SlG.of_own hox)
    have hal := bal' w6 (Obj.cells #[.int .i64 cols, .slice x0 x1 x2] 26)
    have hX6 := GrN.new w6 cols (.slice x0 x1 x2) 26
    have hOX6 := (OwnR.of hox).below hal
    have hbb := hb.trans (hal.mono hb.size)
    have n1 := hG5.1
    have n2 := hR5.1
    have n3 := hO5.2.2
    have n4 := hb.size
    have n5 : w6.heap.size < (w6.alloc (Obj.cells #[.int .i64 cols, .slice x0 x1 x2] 26)).heap.size := by simp
    have hG6 := hG5.below hbb
    have hR6 := hR5.below hbb
    have hO6 := hO5.below hbb
    have kb6 := kb5.trans (hbb.mono kb5.size)
    clear hb hal hbb hox hG5 hR5 hO5 kb5 c0 c1
    have c0 := hX6.2.1
    have c1 := hX6.2.2
    go_wp2_with fail
    generalize w6.alloc (Obj.cells #[.int .i64 cols, .slice x0 x1 x2] 26) = W6 at *
    refine (him' _ _ kb6 hOX6.sl).mono ?_
    rintro e w7 ⟨ug, rfl, ho, hb⟩
    obtain ⟨g0, g1, g2, rfl⟩ := slShp (SlG.of_own ho)
    have hal := bal' w7 (Obj.cells #[.int .i64 C, .slice g0 g1 g2] 26)
    have hg7 := GrN.new w7 C (.slice g0 g1 g2) 26
    have hOg7 := (OwnR.of ho).below hal
    have hbb := hb.trans (hal.mono hb.size)
    have m1 := hb.size
    have hG7 := hG6.below hbb
    have hR7 := hR6.below hbb
    have hO7 := hO6.below hbb
    have hX7 := hX6.below hbb
    have hOX7 := hOX6.below hbb
    have kb7 := kb6.trans (hbb.mono kb6.size)
    clear ho hb hal hbb hG6 hR6 hO6 hX6 hOX6 kb6 c0 c1
    have c0 := hg7.2.1
    have c1 := hg7.2.2
    have c2 := hR7.2.1
    have c3 := hR7.2.2
    go_wp2_with fail
    generalize w7.alloc (Obj.cells #[.int .i64 C, .slice g0 g1 g2] 26) = W7 at *
    refine (heY _ _ _ hOg7.sl hO7.sl).mono ?_
    rintro e w8 ⟨rfl, hb⟩
    have hG8 := hG7.below hb
    have hR8 := hR7.below hb
    have hO8 := hO7.below hb
    have hX8 := hX7.below hb
    have hOX8 := hOX7.below hb
    have hg8 := hg7.below hb
    have hOg8 := hOg7.below hb
    have kb8 := kb7.trans (hb.mono kb7.size)
    clear hG7 hR7 hO7 hX7 hOX7 hg7 hOg7 kb7 hb c0 c1 c2 c3
    have hall10 : ∀ W, Below w8.heap.size w8 W → (W.cell? ⟨w6.heap.size, 0, none⟩ = some (.int .i64 cols) ∧ W.cell? ⟨w6.heap.size, 1, none⟩ = some (.slice x0 x1 x2) ∧ W.cell? ⟨w.heap.size, 0, none⟩ = some (.int .i64 cols) ∧ W.cell? ⟨w.heap.size, 1, none⟩ = some (.slice p0 p1 p2) ∧ Below w8.heap.size w8 W) := fun W h => ⟨(hX8.below h).2.1, (hX8.below h).2.2, (hG8.below h).2.1, (hG8.below h).2.2, h⟩
    have hkd10 := hall10 _ (bdr w8)
    have hSX := hOX8.sl
    go_wp2
    go_region_held3 (fun W => W.cell? ⟨w6.heap.size, 0, none⟩ = some (.int .i64 cols) ∧ W.cell? ⟨w6.heap.size, 1, none⟩ = some (.slice x0 x1 x2) ∧ W.cell? ⟨w.heap.size, 0, none⟩ = some (.int .i64 cols) ∧ W.cell? ⟨w.heap.size, 1, none⟩ = some (.slice p0 p1 p2) ∧ Below w8.heap.size w8 W) (with_reducible assumption)
      (first
        | (go_at_call 27; refine (hto _ (hv.below (kb8.trans ((bdr w8).mono kb8.size)))).mono ?_; rintro e wa ⟨uy, rfl, hoy, hb⟩; have hba := (bdr w8).trans hb; have hka := hall10 _ hba; obtain ⟨y0, y1, y2, rfl⟩ := slShp (SlG.of_own hoy))
        | (go_at_call 28; refine (heX _ _ _ (hSX.below hba) (SlG.of_own hoy)).mono ?_; rintro e w9 ⟨rfl, hb'⟩; have hbc := hba.trans (hb'.mono hba.size); have hkb := hall10 _ hbc))
    have hG9 := hG8.below hbc
    have hR9 := hR8.below hbc
    have hO9 := hO8.below hbc
    have hX9 := hX8.below hbc
    have hOX9 := hOX8.below hbc
    have hg9 := hg8.below hbc
    have hOg9 := hOg8.below hbc
    have kb9 := kb8.trans (hbc.mono kb8.size)
    clear hG8 hR8 hO8 hX8 hOX8 hg8 hOg8 kb8 hb hb' hba hbc hka hkb hkd10 hall10 hSX hoy
    have c0 := hX9.2.1
    have c1 := hX9.2.2
    have c2 := hg9.2.1
    have c3 := hg9.2.2
    have c4 := hR9.2.1
    have c5 := hR9.2.2
    go_wp2_with fail
    refine (hmX _ _ _ _ hOX9).mono ?_
    rintro e wA ⟨rfl, hOXA, hgr⟩
    have hGA := hG9.gr hgr (.inl (by omega))
    have hRA := hR9.gr hgr (.inl (by omega))
    have hOA := hO9.gr hgr (.inl (by omega))
    have hgA := hg9.gr hgr (.inr (by omega))
    have hOgA := hOg9.gr hgr (.inr (by omega))
    have kbA := kb9.trans (hgr.to_below (by omega) (by have := kb9.size; omega))
    clear hG9 hR9 hO9 hX9 hOX9 hg9 hOg9 kb9 hgr hOXA c0 c1 c2 c3 c4 c5
    have c0 := hgA.2.1
    have c1 := hgA.2.2
    have c2 := hRA.2.1
    have c3 := hRA.2.2
    go_wp2_with fail
    refine (heY _ _ _ hOgA.sl hOA.sl).mono ?_
    rintro e wB ⟨rfl, hb⟩
    have hGB := hGA.below hb
    have hRB := hRA.below hb
    have hOB := hOA.below hb
    have hgB := hgA.below hb
    have hOgB := hOgA.below hb
    have kbB := kbA.trans (hb.mono kbA.size)
    clear hGA hRA hOA hgA hOgA kbA hb c0 c1 c2 c3
    have c0 := hgB.2.1
    have c1 := hgB.2.2
    go_wp2_with fail
    refine (hmY _ _ _ _ hOgB).mono ?_
    rintro e wC ⟨rfl, hOgC, hgr⟩
    have hGC := hGB.gr hgr (.inl (by omega))
    have hRC := hRB.gr hgr (.inl (by omega))
    have hOC := hOB.gr hgr (.inl (by omega))
    have hgC := hgB.gr hgr (.inr (Nat.le_refl _))
    have kbC := kbB.trans (hgr.to_below (by omega) (by have := kbB.size; omega))
    clear hGB hRB hOB hgB hOgB kbB hgr c0 c1
    have c0 := hgC.2.1
    have c1 := hgC.2.2
    go_wp2_with fail
    refine (hhY _ _ hOgC.sl).mono ?_
    rintro e wD ⟨rfl, hb⟩
    have hGD := hGC.below hb
    have hRD := hRC.below hb
    have hOD := hOC.below hb
    have hgD := hgC.below hb
    have hOgD := hOgC.below hb
    have kbD := kbC.trans (hb.mono kbC.size)
    clear hGC hRC hOC hgC hOgC kbC hb c0 c1
    have c0 := hGD.2.1
    have c1 := hGD.2.2
    go_wp2_with fail
    refine (hto _ (hv.below kbD)).mono ?_
    rintro e w2 ⟨u2, rfl, ho2, hb2⟩
    obtain ⟨r0, r1, r2, rfl⟩ := slShp (SlG.of_own ho2)
    go_wp2_with fail
    refine (him' _ _ (kbD.trans (hb2.mono kbD.size)) (SlG.of_own ho2)).mono ?_
    rintro e w3 ⟨uh, rfl, ho3, hb3⟩
    obtain ⟨h0, h1, h2, rfl⟩ := slShp (SlG.of_own ho3)
    have hal := bal' w3 (Obj.cells #[.int .i64 C, .slice h0 h1 h2] 26)
    have hhE := GrN.new w3 C (.slice h0 h1 h2) 26
    have hOhE := (OwnR.of ho3).below hal
    have hb5 := (hb2.trans (hb3.mono hb2.size)).trans (hal.mono (Nat.le_trans hb2.size hb3.size))
    have hRE := hRD.below hb5
    have hOE := hOD.below hb5
    have hgE := hgD.below hb5
    have hOgE := hOgD.below hb5
    have kbE := kbD.trans (hb5.mono kbD.size)
    clear hGD hRD hOD hgD hOgD kbD ho2 hb2 ho3 hb3 hal hb5 c0 c1
    have c0 := hhE.2.1
    have c1 := hhE.2.2
    have c2 := hRE.2.1
    have c3 := hRE.2.2
    go_wp2_with fail
    generalize w3.alloc (Obj.cells #[.int .i64 C, .slice h0 h1 h2] 26) = WE at *
    refine (heY _ _ _ hOhE.sl hOE.sl).mono ?_
    rintro e wF ⟨rfl, hb⟩
    have hgF := hgE.below hb
    have hOgF := hOgE.below hb
    have kbF := kbE.trans (hb.mono kbE.size)
    clear hRE hOE hgE hOgE hhE hOhE kbE hb c0 c1 c2 c3
    have c0 := hgF.2.1
    have c1 := hgF.2.2
    go_wp2_with fail
    refine (hhY _ _ hOgF.sl).mono ?_
    rintro e wG ⟨rfl, hb⟩
    go_wp2
    go_ret
    exact ⟨rfl, kbF.trans (hb.mono kbF.size)⟩
theorem walk_FnExactResized (w : World) (hS : SpansAt w) (cols : Int) (v : Value) (rows : List (List Ce)) (hv : SlG w v rows) (hl0 : rows.length ≤ maxLen) (hx0 : ∀ i, i < rows.length → (rowX rows i).length ≤ maxLen) (a0 : Int) (_ha0 : (Lit.int .i64 a0).wf = true) (a1 : Int) (_ha1 : (Lit.int .i64 a1).wf = true) :
    Calls Tryd.prog 7 #[gridV cols v, .int .i64 a0, .int .i64 a1] w fun e w' => e = .returned (.bool true) ∧ Below w.heap.size w w' :=
  walk_FnExactResized' w cols v rows a0 a1 (resC cols rows a0 a1) (resR cols rows a0 a1) hv hl0 hx0 (resR_bd cols rows a0 a1).1 (resR_bd cols rows a0 a1).2 (fun v W h hl hx => specResized_any cols v rows a0 a1 W h hl hx) (fun v W hb h hl hx => implResized_any cols v rows a0 a1 W (hS.below hb hS.lt) h hl hx)
end Go.Proofs.YtngbndfnhpjmjaaDoor
