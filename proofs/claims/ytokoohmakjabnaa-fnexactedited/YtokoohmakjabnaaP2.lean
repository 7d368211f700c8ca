/- The specification's Edited. Styles: their params and signs. Plain mathematics. The laws' own helpers on lists of edits: size, copy. The walk of the exact law of Edited. What an argument that is a list of edits is, once it can be read. -/
import Derived.Test.YtokoohmakjabnaaP1
import Derived.Laws.OwnMore
import Derived.ChangeOld
import Derived.Below
import Derived.Deep.Slices
namespace Go.Proofs.Ytokoohmakjabnaa
open Go.ChangeShapes Go.WideShapes Go.ChangeAt Go.RowKit
set_option maxHeartbeats 8000000 in
set_option maxRecDepth 20000 in
theorem specEdited_any (v lv : Value) (xs : List Int) (es : List (Int × Int × Int)) (w : World) (hv : SlN w v xs) (he : SlE w lv es.length (edV es)) :
    Calls Try.prog 12 #[v, lv] w fun e w' => ∃ g cap, e = .returned (.tuple #[.slice (some ⟨g, 0, none⟩) (edOut (edAll xs es)).length cap, .bool (edAns (edAll xs es))]) ∧ OwnI w' w.heap.size (.slice (some ⟨g, 0, none⟩) (edOut (edAll xs es)).length cap) (edOut (edAll xs es)) ∧ Below w.heap.size w w' := by
  obtain ⟨a, c, rfl⟩ := hv.shp
  obtain ⟨_, a', c', rfl, hes⟩ := he
  obtain ⟨i0, hi0, hz0, hz1, hz2'⟩ := info_parts info_i64
  have hnil : ∀ W, Below w.heap.size w W → OwnI (W.alloc (Obj.cells #[] 2)) w.heap.size (.slice (some ⟨W.heap.size, 0, none⟩) 0 0) [] := fun W k => World.ownsRow_lit (base := w.heap.size) (e := 2) (size := 1) W #[] 0 k.size (Nat.zero_le _) rfl
  by_cases h1 : xs.length ≤ 80
  case neg =>
    have hA : edAll xs es = none := if_neg (by omega)
    rw [hA]
    have h1i : (80 : Int) < (xs.length : Int) := by omega
    have hn := hnil w (Below.refl _ _)
    have hb := bal' w (Obj.cells #[] 2)
    replace hn := (show Hid _ from hn)
    clear hv hes hnil hA h1
    go_enter Try.func12, Try.ntmps12
    go_wp2
    exact bodyPost_ret (results_tmp2 rfl _ _ _) rfl ⟨_, _, rfl, hn.out, hb⟩
  by_cases h2 : es.length ≤ 80
  case neg =>
    have hA : edAll xs es = none := if_neg (by omega)
    rw [hA]
    have h1i : ¬ (80 : Int) < (xs.length : Int) := by omega
    have h2i : (80 : Int) < (es.length : Int) := by omega
    have hn := hnil w (Below.refl _ _)
    have hb := bal' w (Obj.cells #[] 2)
    replace hn := (show Hid _ from hn)
    clear hv hes hnil hA h1 h2
    go_enter Try.func12, Try.ntmps12
    go_wp2
    exact bodyPost_ret (results_tmp2 rfl _ _ _) rfl ⟨_, _, rfl, hn.out, hb⟩
  have hA : edAll xs es = edRun xs es := if_pos ⟨h1, h2⟩
  rw [hA]
  have h1i : ¬ (80 : Int) < (xs.length : Int) := by omega
  have h2i : ¬ (80 : Int) < (es.length : Int) := by omega
  have hE : Hid (∀ j, j < es.length → ∃ b, a' = some ⟨b, 0, none⟩ ∧ ∀ W, Below w.heap.size w W → W.cell? ⟨b, j * 3, none⟩ = some (.int .i64 (es.getD j (0, 0, 0)).1) ∧ W.cell? ⟨b, j * 3 + 1, none⟩ = some (.int .i64 (es.getD j (0, 0, 0)).2.1) ∧ W.cell? ⟨b, j * 3 + 2, none⟩ = some (.int .i64 (es.getD j (0, 0, 0)).2.2)) := fun j hj => by
    rcases hes with h | ⟨b, hb, hlt, hc⟩
    · omega
    · refine ⟨b, hb, fun W k => ?_⟩
      have e : ∀ q, W.cell? ⟨b, q, none⟩ = w.cell? ⟨b, q, none⟩ := fun q => k.cell (p := ⟨b, q, none⟩) hlt
      obtain ⟨q0, q1, q2⟩ := edV_at es j hj
      rw [e, e, e, hc _ (by omega), hc _ (by omega), hc _ (by omega), q0, q1, q2]
      exact ⟨rfl, rfl, rfl⟩
  obtain ⟨R, hR⟩ : ∃ R, Hid (R = edRun xs es) := ⟨_, rfl⟩
  rw [← hR.out]
  have hDr : Hid (∀ j, j < es.length → es.drop j = es.getD j (0, 0, 0) :: es.drop (j + 1)) := fun j h => edDrop es j h
  have hDn : Hid (es.drop es.length = []) := List.drop_length
  replace hnil := (show Hid _ from hnil)
  obtain ⟨n, hn⟩ : ∃ n, Hid (n = es.length) := ⟨_, rfl⟩
  rw [← hn.out] at hE hDr hDn h2i ⊢
  have hn80 : n ≤ 80 := by have := hn.out; omega
  clear hes hA h2 hn
  have hxl : xs.length ≤ 1073741824 := by omega
  go_enter Try.func12, Try.ntmps12
  go_wp2_with (refine copy_some (by rfl) _ _ (by rfl) _ xs (by rfl) hv hxl (by rfl) ?_; intro g0 cap0 w1 ho hb hg0)
  have hRun0 : Hid (edRun xs (es.drop 0) = R) := by show _ = _; rw [List.drop_zero]; exact hR.out.symm
  replace ho := (show Hid _ from ho)
  clear hv hR h1i hxl
  go_wp2
  go_loopw [6, 7] (fun mv iv wr => ∃ (j : Nat) (ys : List Int) (g cap : Nat), j ≤ n ∧ iv = .int .i64 j ∧ mv = .slice (some ⟨g, 0, none⟩) ys.length cap ∧ OwnI wr w.heap.size (.slice (some ⟨g, 0, none⟩) ys.length cap) ys ∧ ys.length ≤ 80 ∧ Hid (edRun ys (es.drop j) = R) ∧ Below w.heap.size w wr) (fun _ iv _ => n - (intOf iv).toNat)
  case atStart => exact ⟨0, xs, g0, cap0, Nat.zero_le _, rfl, rfl, ho.out, h1, hRun0, hb⟩
  case round =>
    obtain ⟨j, ys, g, cap, hj, rfl, rfl, hy, hyl, hq, kb⟩ := hrel
    clear ho hb hRun0 h1 hg0
    by_cases hlt : j < n
    · have hi : (j : Int) < (n : Int) := by omega
      obtain ⟨b, hb, hc⟩ := hE.out j hlt
      subst hb
      obtain ⟨⟨k, a2, y⟩, hked⟩ : ∃ e, Hid (e = es.getD j (0, 0, 0)) := ⟨_, rfl⟩
      rw [← hked.out] at hc
      obtain ⟨c0, c1, c2⟩ := hc wr kb
      simp only at c0 c1 c2
      have hrun : Hid ((edOne ys (k, a2, y)).bind (fun m => edRun m (es.drop (j + 1))) = R) := by
        show _ = _
        rw [← hq.out, hDr.out j hlt, edRun_cons, ← hked.out]
      have hba := bal' wr (Obj.cells #[.int .i64 k, .int .i64 a2, .int .i64 y] 56)
      have hXe := BlkC.new wr 56 [.int .i64 k, .int .i64 a2, .int .i64 y]
      have hy1 := hy.below hba
      have kb1 := kb.trans (hba.mono kb.size)
      have hgl := (hy.lt g rfl)
      have hgB : ¬ g = wr.heap.size := by have := hgl.2; omega
      have hyi : (ys.length : Int) ≤ 80 := by omega
      replace hy1 := (show Hid _ from hy1)
      clear hc hked hq hy
      have hnf := hnil.out _ kb1
      have hbf := kb1.trans ((bal' (wr.alloc (Obj.cells #[.int .i64 k, .int .i64 a2, .int .i64 y] 56)) (Obj.cells #[] 2)).mono kb1.size)
      have hsz2 : (wr.alloc (Obj.cells #[.int .i64 k, .int .i64 a2, .int .i64 y] 56)).heap.size = wr.heap.size + 1 := by simp
      rw [hsz2] at hnf
      replace hnf := (show Hid _ from hnf)
      replace hbf := (show Hid _ from hbf)
      replace hsz2 := (show Hid _ from hsz2)
      have hl1 := fun hi W => l1In_any a2 0 hi W
      by_cases h2 : k = 2
      · subst h2
        by_cases p0 : 0 ≤ a2 ∧ a2 ≤ (ys.length : Int)
        · by_cases p1 : ys.length < 80
          · -- a number is put
            obtain ⟨i, rfl⟩ : ∃ i : Nat, a2 = (i : Int) := ⟨a2.toNat, by omega⟩
            have hm := hrun.out
            rw [edOne_put ys i y ⟨p0.1, p0.2, p1⟩] at hm
            replace hm := (show Hid (edRun (ys.take i ++ y :: ys.drop i) (es.drop (j + 1)) = R) from hm)
            have hl := fun W => hl1 (ys.length : Int) W
            rw [decide_eq_true p0] at hl
            clear hl1 hrun hnf hbf
            go_wp2_with fail
            have q1 : (ys.length : Int) < 80 := by omega
            clear c0 c1 c2
            obtain ⟨w2, hw2⟩ : ∃ w2, w2 = wr.alloc (Obj.cells #[.int .i64 2, .int .i64 i, .int .i64 y] 56) := ⟨_, rfl⟩
            rw [← hw2] at hba hXe hy1 kb1 hsz2 ⊢
            clear hw2
            have hz2 := hsz2.out
            obtain ⟨B, hB⟩ : ∃ B, Hid (B = wr.heap.size) := ⟨_, rfl⟩
            rw [← hB.out] at hXe hgB hz2 ⊢
            have hBl : B < w2.heap.size := by omega
            have hnB : ¬ B = w2.heap.size := by omega
            have hg2 : g < w2.heap.size := by have := hB.out; have := hgl.2; omega
            have b0 : w2.cell? ⟨B, 0, none⟩ = some (.int .i64 2) := cell_of_row w2 B 0 _ _ (0, 0) hXe
            have b1 : w2.cell? ⟨B, 1, none⟩ = some (.int .i64 i) := cell_of_row w2 B 1 _ _ (0, 0) hXe
            have b2 : w2.cell? ⟨B, 2, none⟩ = some (.int .i64 y) := cell_of_row w2 B 2 _ _ (0, 0) hXe
            have d1 : (w2.alloc (Obj.cells #[] 2)).cell? ⟨B, 1, none⟩ = some (.int .i64 i) := ((bal' w2 _).cell (p := ⟨B, 1, none⟩) hBl).trans b1
            refine (hl _).mono ?_
            rintro e w2' ⟨rfl, he⟩
            subst he
            have hil : i ≤ ys.length := by omega
            obtain ⟨A, hA⟩ : ∃ A, (if cap = i then some (⟨g, 0, none⟩ : Addr) else some ⟨g, i, none⟩) = some A := by split <;> exact ⟨_, rfl⟩
            have hcp := slN_drop hy1.out i hil
            rw [hA] at hcp
            have hcpl : (ys.drop i).length ≤ 1073741824 := by simp; omega
            have hdl : (ys.drop i).length = ys.length - i := by simp
            have hcapl : ys.length ≤ cap := by obtain ⟨_, _, _, h, _⟩ := own_cur (show w2'.ownsRow _ _ 1 _ ys.length _ from hy1.out); exact h
            have r1 : (0 : Int) ≤ (i : Int) := by omega
            have r2 : (i : Int) ≤ (ys.length : Int) := by omega
            have r7 : (i : Int) ≤ (cap : Int) := by omega
            clear hl hba
            replace hz2 := (show Hid _ from hz2)
            go_wp2_with (refine copy_some (by rfl) _ _ (by rfl) _ (ys.drop i) (by rfl) hcp hcpl (by rfl) ?_; intro g3 cap3 w3 ho3 hb3 hg3)
            have hz3 := hb3.size
            have kb3 := kb1.trans (hb3.mono kb1.size)
            have hy3 := hy1.out.below hb3
            have hX3 := BlkC.below hXe hb3
            have hne3 : ¬ g3 = g := by omega
            have hal := bal' w3 (Obj.cells #[.int .i64 y] 2)
            have hg3l := (ho3.lt g3 rfl).2
            have hpre := own_drew (World.ownsRow.alloc (own_cut (show w3.ownsRow w.heap.size 2 1 (.slice (some ⟨g, 0, none⟩) ys.length cap) ys.length (ys.map (Value.int .i64)) from hy3) hil) (Obj.cells #[.int .i64 y] 2))
            have hX4 := BlkC.below hX3 hal
            have ho4 := ho3.below hal
            have hS3 : w3.drew.cell? ⟨B, 1, none⟩ = some (.int .i64 i) ∧ w3.drew.cell? ⟨B, 2, none⟩ = some (.int .i64 y) := ⟨cell_of_row w3.drew B 1 _ _ (0, 0) hX3, cell_of_row w3.drew B 2 _ _ (0, 0) hX3⟩
            have hS4 : (w3.alloc (Obj.cells #[.int .i64 y] 2)).drew.cell? ⟨B, 1, none⟩ = some (.int .i64 i) ∧ (w3.alloc (Obj.cells #[.int .i64 y] 2)).drew.cell? ⟨B, 2, none⟩ = some (.int .i64 y) := ⟨cell_of_row _ B 1 _ _ (0, 0) hX4, cell_of_row _ B 2 _ _ (0, 0) hX4⟩
            have hn4 : ∀ q u, [Value.int .i64 y][q]? = some u → (w3.alloc (Obj.cells #[.int .i64 y] 2)).drew.cell? ((⟨w3.heap.size, 0, none⟩ : Addr).add q) = some u := fun q u h => by
              rw [Addr.add_lit, Nat.zero_add]
              exact (cell_of_row (w3.alloc (Obj.cells #[.int .i64 y] 2)) w3.heap.size q _ _ (0, 0) (heap_alloc_new w3 _)).trans (by simpa using h)
            have h1y : ∀ u ∈ [Value.int .i64 y], u.oneCell' = true := by intro u hu; simp at hu; subst hu; rfl
            have hk4 : ∀ (W : World), (w3.alloc (Obj.cells #[.int .i64 y] 2)).drew.grownBy W (some g) → (W.cell? ⟨B, 1, none⟩ = some (.int .i64 i) ∧ W.cell? ⟨B, 2, none⟩ = some (.int .i64 y)) ∧ (∀ q u, ((ys.drop i).map (Value.int .i64))[q]? = some u → W.cell? ((⟨g3, 0, none⟩ : Addr).add q) = some u) := fun W hg => by
              have hB4 : BlkC W B 56 [.int .i64 2, .int .i64 i, .int .i64 y] := BlkC.kept (show BlkC (w3.alloc (Obj.cells #[.int .i64 y] 2)).drew B 56 _ from hX4) hg (fun e => by have := Option.some.inj e; omega)
              have ho5 := OwnI.kept (show OwnI (w3.alloc (Obj.cells #[.int .i64 y] 2)).drew _ _ _ from ho4) hg (.inr (fun e => hne3 (Option.some.inj e)))
              refine ⟨⟨cell_of_row W B 1 _ _ (0, 0) hB4, cell_of_row W B 2 _ _ (0, 0) hB4⟩, fun q u h => ?_⟩
              exact World.ownsRow.cells ho5 rfl q u h
            have hk5 : ∀ (W W' : World) (g5 : Nat), (w3.alloc (Obj.cells #[.int .i64 y] 2)).drew.grownBy W (some g) → (g5 = g ∨ g5 = (w3.alloc (Obj.cells #[.int .i64 y] 2)).drew.heap.size) → W.grownBy W' (some g5) → W'.cell? ⟨B, 1, none⟩ = some (.int .i64 i) ∧ W'.cell? ⟨B, 2, none⟩ = some (.int .i64 y) := fun W W' g5 hg hat hg' => by
              have hB4 : BlkC W B 56 [.int .i64 2, .int .i64 i, .int .i64 y] := BlkC.kept (show BlkC (w3.alloc (Obj.cells #[.int .i64 y] 2)).drew B 56 _ from hX4) hg (fun e => by have := Option.some.inj e; omega)
              have hne : ¬ g5 = B := by
                rcases hat with h | h
                · omega
                · have : (w3.alloc (Obj.cells #[.int .i64 y] 2)).drew.heap.size = w3.heap.size + 1 := by simp
                  omega
              have hB5 : BlkC W' B 56 [.int .i64 2, .int .i64 i, .int .i64 y] := BlkC.kept hB4 hg' (fun e => hne (Option.some.inj e))
              exact ⟨cell_of_row W' B 1 _ _ (0, 0) hB5, cell_of_row W' B 2 _ _ (0, 0) hB5⟩
            replace hk5 := (show Hid _ from hk5)
            have hlen3 : ((ys.drop i).map (Value.int .i64)).length = (ys.length - i) * 1 := by simp
            have hgrd : w3.grownBy (w3.alloc (Obj.cells #[.int .i64 y] 2)).drew (some g) := grown_tr (World.grownBy_alloc w3 _ _) (grown_drew _ _)
            have hgr3 : w.heap.size ≤ w3.heap.size := kb3.size
            have hsz4 : (w3.alloc (Obj.cells #[.int .i64 y] 2)).drew.heap.size = w3.heap.size + 1 := by simp
            replace hgrd := (show Hid _ from hgrd)
            replace hk4 := (show Hid _ from hk4)
            replace hpre := (show Hid _ from hpre)
            replace hn4 := (show Hid _ from hn4)
            replace hlen3 := (show Hid _ from hlen3)
            replace hsz4 := (show Hid _ from hsz4)
            clear hy3 hX3 hX4 ho3 ho4 hal d1 b0 b1 b2 hXe hcp hb3
            go_wp2
            go_region_held3 (fun W => W.cell? ⟨B, 1, none⟩ = some (.int .i64 i) ∧ W.cell? ⟨B, 2, none⟩ = some (.int .i64 y)) (first | with_reducible assumption | with_reducible exact hS3 | with_reducible exact hS4)
              (first
                | (refine step_append_some (by rfl) _ _ _ (by rfl) w.heap.size 2 i0 (.int .i64 0) 1 8 under_ints hi0 hz0 hz1 hz2' rfl (by decide) g cap i _ (by rfl) hpre.out ⟨w3.heap.size, 0, none⟩ 1 1 [.int .i64 y] (by rfl) rfl hn4.out h1y (by unfold maxLen; omega) (by omega) (by rw [hsz4.out]; omega) ?_; intro g5 cap5 w5 ho5 hg5 hat5; obtain ⟨hS5, hn5⟩ := hk4.out w5 hg5)
                | (refine step_append_some (by rfl) _ _ _ (by rfl) w.heap.size 2 i0 (.int .i64 0) 1 8 under_ints hi0 hz0 hz1 hz2' rfl (by decide) g5 cap5 (i + 1) _ (by rfl) ho5 ⟨g3, 0, none⟩ (ys.length - i) cap3 _ (by rfl) hlen3.out hn5 (ints_one _) (by unfold maxLen; omega) (by omega) (by have := hg5.size; rw [hsz4.out] at this; omega) ?_; intro g6 cap6 w6 ho6 hg6 hat6; have hS6 := hk5.out w5 w6 g5 hg5 hat5 hg6))
            all_goals
              have kb4 := kb3.grown hgrd.out kb3.size (fun q e => by have := Option.some.inj e; omega)
              have kb5 := kb4.grown hg5 kb4.size (fun q e => by have := Option.some.inj e; omega)
              have kb6 := kb5.grown hg6 kb5.size (fun q e => by have := Option.some.inj e; have := kb4.size; rcases hat5 with h | h <;> omega)
              have e6 : i + 1 + (ys.length - i) = (ys.take i ++ y :: ys.drop i).length := by simp; omega
              have ho7 : OwnI w6 w.heap.size (.slice (some ⟨g6, 0, none⟩) (ys.take i ++ y :: ys.drop i).length cap6) (ys.take i ++ y :: ys.drop i) := by
                unfold OwnI
                rw [← e6]
                have e7 : (ys.take i ++ y :: ys.drop i).map (Value.int .i64) = List.take i (ys.map (Value.int .i64)) ++ [Value.int .i64 y] ++ (ys.drop i).map (Value.int .i64) := by simp
                rw [e7]
                exact ho6
              have hl7 : (ys.take i ++ y :: ys.drop i).length ≤ 80 := by omega
              replace ho7 := (show Hid _ from ho7)
              clear ho6 ho5 hg5 hg6 kb4 kb5 hS6 hS5 hn5 hS3 hS4 hpre hk4 hk5 hn4 hgrd hat5 hat6
              rw [e6]
              replace e6 := (show Hid _ from e6)
              go_wp2
              go_roundw
              case rel => exact ⟨j + 1, _, g6, cap6, by omega, by go_num, rfl, ho7.out, hl7, hm, kb6⟩
              case measure => simp [intOf]; omega
          · -- the list is full
            have hRn : R = none := by rw [← hrun.out, edOne_put' ys a2 y (by omega)]; rfl
            subst hRn
            have hl := fun W => hl1 (ys.length : Int) W
            rw [decide_eq_true p0] at hl
            have q1 : ¬ (ys.length : Int) < 80 := by omega
            clear hl1 hrun hba hXe
            go_wp2_with (go_at_call 38; refine (hl _).mono ?_; rintro e wq ⟨rfl, hwq⟩; subst hwq)
            exact bodyPost_ret (results_tmp2 rfl _ _ _) rfl ⟨_, _, rfl, hnf.out, hbf.out⟩
        · have hRn : R = none := by rw [← hrun.out, edOne_put' ys a2 y (by omega)]; rfl
          subst hRn
          have hl := fun W => hl1 (ys.length : Int) W
          rw [decide_eq_false p0] at hl
          clear hl1 hrun hba hXe
          go_wp2_with (go_at_call 38; refine (hl _).mono ?_; rintro e wq ⟨rfl, hwq⟩; subst hwq)
          exact bodyPost_ret (results_tmp2 rfl _ _ _) rfl ⟨_, _, rfl, hnf.out, hbf.out⟩
      have hw1 : IntKind.i64.wrap ((ys.length : Int) - 1) = (ys.length : Int) - 1 := by rw [IntKind.wrap_i64]; omega
      by_cases h1 : k = 1
      · subst h1
        by_cases p0 : 0 ≤ a2 ∧ a2 ≤ (ys.length : Int) - 1
        · -- a number is taken
          obtain ⟨i, rfl⟩ : ∃ i : Nat, a2 = (i : Int) := ⟨a2.toNat, by omega⟩
          have hm := hrun.out
          rw [edOne_take ys i y ⟨p0.1, by omega⟩] at hm
          replace hm := (show Hid (edRun (ys.take i ++ ys.drop (i + 1)) (es.drop (j + 1)) = R) from hm)
          have hl := fun W => hl1 ((ys.length : Int) - 1) W
          rw [decide_eq_true p0] at hl
          clear hl1 hrun hnf hbf
          go_wp2_with fail
          clear c0 c1 c2
          obtain ⟨w2, hw2⟩ : ∃ w2, w2 = wr.alloc (Obj.cells #[.int .i64 1, .int .i64 i, .int .i64 y] 56) := ⟨_, rfl⟩
          rw [← hw2] at hba hXe hy1 kb1 hsz2 ⊢
          clear hw2
          have hz2 := hsz2.out
          obtain ⟨B, hB⟩ : ∃ B, Hid (B = wr.heap.size) := ⟨_, rfl⟩
          rw [← hB.out] at hXe hgB hz2 ⊢
          have hBl : B < w2.heap.size := by omega
          have hnB : ¬ B = w2.heap.size := by omega
          have hg2 : g < w2.heap.size := by have := hB.out; have := hgl.2; omega
          have b0 : w2.cell? ⟨B, 0, none⟩ = some (.int .i64 1) := cell_of_row w2 B 0 _ _ (0, 0) hXe
          have b1 : w2.cell? ⟨B, 1, none⟩ = some (.int .i64 i) := cell_of_row w2 B 1 _ _ (0, 0) hXe
          refine (hl _).mono ?_
          rintro e w2' ⟨rfl, he⟩
          subst he
          have hil : i < ys.length := by omega
          have hcapl : ys.length ≤ cap := by obtain ⟨_, _, _, h, _⟩ := own_cur (show w2'.ownsRow _ _ 1 _ ys.length _ from hy1.out); exact h
          have r1 : (0 : Int) ≤ (i : Int) := by omega
          have r2 : (i : Int) ≤ (ys.length : Int) := by omega
          have r3 : (i : Int) + 1 ≤ (ys.length : Int) := by omega
          have r4 : IntKind.i64.wrap ((i : Int) + 1) = (i : Int) + 1 := by rw [IntKind.wrap_i64]; omega
          have r5 : (0 : Int) ≤ (i : Int) + 1 := by omega
          have r6 : ((i : Int) + 1).toNat = i + 1 := by omega
          have r7 : (i : Int) ≤ (cap : Int) := by omega
          obtain ⟨A, hA⟩ : ∃ A, (if cap = i + 1 then some (⟨g, 0, none⟩ : Addr) else some ⟨g, i + 1, none⟩) = some A := by split <;> exact ⟨_, rfl⟩
          have hal := bal' w2' (Obj.cells #[] 2)
          have ho0 : (w2'.alloc (Obj.cells #[] 2)).drew.ownsRow w.heap.size 2 1 (.slice (some ⟨w2'.heap.size, 0, none⟩) 0 0) 0 [] := World.ownsRow_lit (base := w.heap.size) (e := 2) (size := 1) w2' #[] 0 kb1.size (Nat.zero_le _) rfl
          have hX4 := BlkC.below hXe hal
          have hy4 := hy1.out.below hal
          have hS3 : w2'.drew.cell? ⟨B, 1, none⟩ = some (.int .i64 i) := b1
          have hS4 : (w2'.alloc (Obj.cells #[] 2)).drew.cell? ⟨B, 1, none⟩ = some (.int .i64 i) := cell_of_row _ B 1 _ _ (0, 0) hX4
          have hn4 : ∀ q u, ((ys.take i).map (Value.int .i64))[q]? = some u → (w2'.alloc (Obj.cells #[] 2)).drew.cell? ((⟨g, 0, none⟩ : Addr).add q) = some u := fun q u h => World.ownsRow.cells (slN_take hy4 i (by omega)) rfl q u h
          have hne : ¬ B = w2'.heap.size := hnB
          have hgne : ¬ g = w2'.heap.size := by omega
          have hk4 : ∀ (W : World), (w2'.alloc (Obj.cells #[] 2)).drew.grownBy W (some w2'.heap.size) → W.cell? ⟨B, 1, none⟩ = some (.int .i64 i) ∧ (∀ q u, ((ys.drop (i + 1)).map (Value.int .i64))[q]? = some u → W.cell? (A.add q) = some u) := fun W hg => by
            have hB4 : BlkC W B 56 [.int .i64 1, .int .i64 i, .int .i64 y] := BlkC.kept (show BlkC (w2'.alloc (Obj.cells #[] 2)).drew B 56 _ from hX4) hg (fun e => hne (Option.some.inj e).symm)
            have ho5 := OwnI.kept (show OwnI (w2'.alloc (Obj.cells #[] 2)).drew _ _ _ from hy4) hg (.inr (fun e => hgne (Option.some.inj e)))
            refine ⟨cell_of_row W B 1 _ _ (0, 0) hB4, fun q u h => ?_⟩
            have hsd := (slN_drop ho5 (i + 1) (by omega)).reads
            rw [hA] at hsd
            rcases hsd with ⟨h1, _⟩ | ⟨ad, c2, h1, h2⟩
            · cases h1
            · simp only [Value.slice.injEq, Option.some.injEq] at h1
              obtain ⟨e1, _, _⟩ := h1
              rw [e1]
              exact h2 q u h
          have hk5 : ∀ (W W' : World) (g5 : Nat), (w2'.alloc (Obj.cells #[] 2)).drew.grownBy W (some w2'.heap.size) → (g5 = w2'.heap.size ∨ g5 = (w2'.alloc (Obj.cells #[] 2)).drew.heap.size) → W.grownBy W' (some g5) → W'.cell? ⟨B, 1, none⟩ = some (.int .i64 i) := fun W W' g5 hg hat hg' => by
            have hB4 : BlkC W B 56 [.int .i64 1, .int .i64 i, .int .i64 y] := BlkC.kept (show BlkC (w2'.alloc (Obj.cells #[] 2)).drew B 56 _ from hX4) hg (fun e => hne (Option.some.inj e).symm)
            have hne5 : ¬ g5 = B := by
              rcases hat with h | h
              · omega
              · have : (w2'.alloc (Obj.cells #[] 2)).drew.heap.size = w2'.heap.size + 1 := by simp
                omega
            have hB5 : BlkC W' B 56 [.int .i64 1, .int .i64 i, .int .i64 y] := BlkC.kept hB4 hg' (fun e => hne5 (Option.some.inj e))
            exact cell_of_row W' B 1 _ _ (0, 0) hB5
          have hlen3 : ((ys.take i).map (Value.int .i64)).length = i * 1 := by simp; omega
          have hlen4 : ((ys.drop (i + 1)).map (Value.int .i64)).length = (ys.length - (i + 1)) * 1 := by simp
          have hgrd : w2'.grownBy (w2'.alloc (Obj.cells #[] 2)).drew none := grown_tr (World.grownBy_alloc w2' _ _) (grown_drew _ _)
          have hsz4 : (w2'.alloc (Obj.cells #[] 2)).drew.heap.size = w2'.heap.size + 1 := by simp
          have hgr3 : w.heap.size ≤ w2'.heap.size := kb1.size
          replace hgrd := (show Hid _ from hgrd)
          replace hk4 := (show Hid _ from hk4)
          replace hk5 := (show Hid _ from hk5)
          replace hn4 := (show Hid _ from hn4)
          replace hlen3 := (show Hid _ from hlen3)
          replace hlen4 := (show Hid _ from hlen4)
          replace hsz4 := (show Hid _ from hsz4)
          replace hz2 := (show Hid _ from hz2)
          clear hl hba hal hX4 hy4 hXe b1 hne
          go_wp2
          go_region_held3 (fun W => W.cell? ⟨B, 1, none⟩ = some (.int .i64 i)) (first | with_reducible assumption | with_reducible exact hS3 | with_reducible exact hS4)
            (first
              | (refine step_append_some (by rfl) _ _ _ (by rfl) w.heap.size 2 i0 (.int .i64 0) 1 8 under_ints hi0 hz0 hz1 hz2' rfl (by decide) w2'.heap.size 0 0 [] (by rfl) ho0 ⟨g, 0, none⟩ i cap _ (by rfl) hlen3.out hn4.out (ints_one _) (by unfold maxLen; omega) (by omega) (by rw [hsz4.out]; omega) ?_; intro g5 cap5 w5 ho5 hg5 hat5; have hkk := hk4.out w5 hg5; have hS5 := hkk.1; replace hkk := (show Hid _ from hkk); replace hat5 := (show Hid _ from hat5))
              | (refine step_append_some (by rfl) _ _ _ (by rfl) w.heap.size 2 i0 (.int .i64 0) 1 8 under_ints hi0 hz0 hz1 hz2' rfl (by decide) g5 cap5 (0 + i) _ (by rfl) ho5 A (ys.length - (i + 1)) (cap - (i + 1)) _ (by rfl) hlen4.out hkk.out.2 (ints_one _) (by unfold maxLen; omega) (by omega) (by have := hg5.size; rw [hsz4.out] at this; omega) ?_; intro g6 cap6 w6 ho6 hg6 hat6; have hS6 := hk5.out w5 w6 g5 hg5 hat5.out hg6))
          all_goals
            have kb4 := kb1.grown hgrd.out kb1.size (fun q e => by cases e)
            have kb5 := kb4.grown hg5 kb4.size (fun q e => by have := Option.some.inj e; omega)
            have kb6 := kb5.grown hg6 kb5.size (fun q e => by have := Option.some.inj e; have := kb4.size; rcases hat5.out with h | h <;> omega)
            have e6 : 0 + i + (ys.length - (i + 1)) = (ys.take i ++ ys.drop (i + 1)).length := by simp; omega
            have ho7 : OwnI w6 w.heap.size (.slice (some ⟨g6, 0, none⟩) (ys.take i ++ ys.drop (i + 1)).length cap6) (ys.take i ++ ys.drop (i + 1)) := by
              unfold OwnI
              rw [← e6, List.map_append]
              simpa using ho6
            have hl7 : (ys.take i ++ ys.drop (i + 1)).length ≤ 80 := by omega
            replace ho7 := (show Hid _ from ho7)
            clear ho6 ho5 hg5 hg6 kb4 kb5 hS6 hS5 hkk hS3 hS4 hk4 hk5 hn4 hgrd hat5 hat6
            rw [e6]
            replace e6 := (show Hid _ from e6)
            go_wp2
            go_roundw
            case rel => exact ⟨j + 1, _, g6, cap6, by omega, by go_num, by rw [← e6.out, Nat.zero_add], ho7.out, hl7, hm, kb6⟩
            case measure => simp [intOf]; omega
        · have hRn : R = none := by rw [← hrun.out, edOne_take' ys a2 y (by omega)]; rfl
          subst hRn
          have hl := fun W => hl1 ((ys.length : Int) - 1) W
          rw [decide_eq_false p0] at hl
          clear hl1 hrun hba hXe
          go_wp2_with (go_at_call 38; refine (hl _).mono ?_; rintro e wq ⟨rfl, hwq⟩; subst hwq)
          exact bodyPost_ret (results_tmp2 rfl _ _ _) rfl ⟨_, _, rfl, hnf.out, hbf.out⟩
      by_cases h3 : k = 3
      · subst h3
        by_cases p0 : 0 ≤ a2 ∧ a2 ≤ (ys.length : Int) - 1
        · -- a number is turned
          obtain ⟨i, rfl⟩ : ∃ i : Nat, a2 = (i : Int) := ⟨a2.toNat, by omega⟩
          have hil : i < ys.length := by omega
          have hm := hrun.out
          rw [edOne_turn ys i y ⟨p0.1, by omega⟩] at hm
          replace hm := (show Hid (edRun (ys.set i y) (es.drop (j + 1)) = R) from hm)
          have hl := fun W => hl1 ((ys.length : Int) - 1) W
          rw [decide_eq_true p0] at hl
          clear hl1 hrun hnf hbf
          go_wp2_with fail
          clear c0 c1 c2
          obtain ⟨w2, hw2⟩ : ∃ w2, w2 = wr.alloc (Obj.cells #[.int .i64 3, .int .i64 i, .int .i64 y] 56) := ⟨_, rfl⟩
          rw [← hw2] at hba hXe hy1 kb1 hsz2 ⊢
          clear hw2
          have hz2 := hsz2.out
          obtain ⟨B, hB⟩ : ∃ B, Hid (B = wr.heap.size) := ⟨_, rfl⟩
          rw [← hB.out] at hXe hgB hz2 ⊢
          have b0 : w2.cell? ⟨B, 0, none⟩ = some (.int .i64 3) := cell_of_row w2 B 0 _ _ (0, 0) hXe
          have b1 : w2.cell? ⟨B, 1, none⟩ = some (.int .i64 i) := cell_of_row w2 B 1 _ _ (0, 0) hXe
          have b2 : w2.cell? ⟨B, 2, none⟩ = some (.int .i64 y) := cell_of_row w2 B 2 _ _ (0, 0) hXe
          refine (hl _).mono ?_
          rintro e w2' ⟨rfl, he⟩
          subst he
          have hown : w2'.ownsRow w.heap.size 2 1 (.slice (some ⟨g, 0, none⟩) ys.length cap) ys.length (ys.map (Value.int .i64)) := hy1.out
          have hcell : w2'.cell? ⟨g, i, none⟩ = some (.int .i64 (ys.getD i 0)) := by
            rw [hown.cellAt i (by omega), List.getElem?_map, List.getElem?_eq_getElem hil]
            simp [hil]
          have hfz := hown.frozenAt i
          obtain ⟨o2, g2⟩ := hown.stored i (.int .i64 y)
          have hres : OwnI (w2'.setCell ⟨g, i, none⟩ (.int .i64 y)) w.heap.size (.slice (some ⟨g, 0, none⟩) (ys.set i y).length cap) (ys.set i y) := by
            unfold OwnI
            rw [List.length_set, List.map_set]
            exact o2
          have kb6 := kb1.grown g2 kb1.size (fun q e => by have := Option.some.inj e; have := hgl.1; omega)
          have r1 : (0 : Int) ≤ (i : Int) := by omega
          have r2 : (i : Int) < (ys.length : Int) := by omega
          have hl7 : (ys.set i y).length ≤ 80 := by rw [List.length_set]; exact hyl
          replace hres := (show Hid _ from hres)
          replace kb6 := (show Hid _ from kb6)
          replace hz2 := (show Hid _ from hz2)
          clear hl hba hXe hown o2 g2 hy1
          go_wp2
          go_roundw
          case rel => exact ⟨j + 1, _, g, cap, by omega, by go_num, by rw [List.length_set], hres.out, hl7, hm, kb6.out⟩
          case measure => simp [intOf]; omega
        · have hRn : R = none := by rw [← hrun.out, edOne_turn' ys a2 y (by omega)]; rfl
          subst hRn
          have hl := fun W => hl1 ((ys.length : Int) - 1) W
          rw [decide_eq_false p0] at hl
          clear hl1 hrun hba hXe
          go_wp2_with (go_at_call 38; refine (hl _).mono ?_; rintro e wq ⟨rfl, hwq⟩; subst hwq)
          exact bodyPost_ret (results_tmp2 rfl _ _ _) rfl ⟨_, _, rfl, hnf.out, hbf.out⟩
      · have hRn : R = none := by rw [← hrun.out, edOne_none ys k a2 y h1 h2 h3]; rfl
        subst hRn
        clear hl1 hrun hba hXe
        go_wp2
        exact bodyPost_ret (results_tmp2 rfl _ _ _) rfl ⟨_, _, rfl, hnf.out, hbf.out⟩
    · have hjn : j = n := by omega
      subst hjn
      have hi : ¬ (j : Int) < (j : Int) := by omega
      have hRs : R = some ys := by rw [← hq.out, hDn.out]; rfl
      subst hRs
      replace hy := (show Hid _ from hy)
      go_wp2
      exact bodyPost_ret (results_tmp2 rfl _ _ _) rfl ⟨_, _, rfl, hy.out, kb⟩
end Go.Proofs.Ytokoohmakjabnaa
namespace Go.Proofs.Ytokoohmakjabnaa
structure St where
  fore : Int
  back : Int
  bold : Bool
  under : Bool
  turned : Bool
deriving DecidableEq
def St.zero : St := ⟨0, 0, false, false, false⟩
def St.ok (s : St) : Bool := decide (0 ≤ s.fore ∧ s.fore ≤ 8 ∧ 0 ≤ s.back ∧ s.back ≤ 8)
end Go.Proofs.Ytokoohmakjabnaa
namespace Go.Proofs.Ytokoohmakjabnaa
open Go.ChangeShapes Go.WideShapes Go.ChangeAt Go.RowKit
/-- A slice of edits that can be read, wherever it lies. -/
def SlX (w : World) (v : Value) (es : List (Int × Int × Int)) : Prop :=
  ∃ a c, v = .slice a es.length c ∧ (es = [] ∨ ∃ b off, a = some ⟨b, off, none⟩ ∧ b < w.heap.size ∧ ∀ i, i < es.length → w.cell? ⟨b, off + i * 3, none⟩ = some (.int .i64 (es.getD i (0, 0, 0)).1) ∧ w.cell? ⟨b, off + i * 3 + 1, none⟩ = some (.int .i64 (es.getD i (0, 0, 0)).2.1) ∧ w.cell? ⟨b, off + i * 3 + 2, none⟩ = some (.int .i64 (es.getD i (0, 0, 0)).2.2))
theorem SlX.below {w w' : World} {v : Value} {es : List (Int × Int × Int)} (h : SlX w v es) (hb : Below w.heap.size w w') : SlX w' v es := by
  obtain ⟨a, c, hv, h | ⟨b, off, ha, hlt, hc⟩⟩ := h
  · exact ⟨a, c, hv, .inl h⟩
  · refine ⟨a, c, hv, .inr ⟨b, off, ha, Nat.lt_of_lt_of_le hlt hb.size, fun i hi => ?_⟩⟩
    have e : ∀ q, w'.cell? ⟨b, q, none⟩ = w.cell? ⟨b, q, none⟩ := fun q => hb.cell (p := ⟨b, q, none⟩) hlt
    rw [e, e, e]
    exact hc i hi
theorem szE_any (v : Value) (es : List (Int × Int × Int)) (left : Nat) (w : World) (hv : SlX w v es) (hl : es.length ≤ maxLen) (hf : left ≤ 4611686018427387904) :
    Calls Try.prog 15 #[v, .int .i64 left] w fun e w' => e = .returned (.int .i64 (if left < es.length then -1 else ((left - es.length : Nat) : Int))) ∧ w' = w := by
  unfold maxLen at hl
  obtain ⟨a, c, rfl, _⟩ := hv
  generalize es.length = n at *
  by_cases h : left < n
  · have h2 : (left : Int) - (n : Int) < 0 := by omega
    rw [if_pos h]
    go_enter Try.func15, Try.ntmps15
    go_wp2
    go_ret
    exact ⟨rfl, rfl⟩
  · have h2 : ¬ (left : Int) - (n : Int) < 0 := by omega
    have h3 : Hid (((left - n : Nat) : Int) = (left : Int) - (n : Int)) := by show _ = _; omega
    rw [if_neg h]
    go_enter Try.func15, Try.ntmps15
    go_wp2
    go_ret
    exact ⟨by rw [h3.out]; rfl, rfl⟩
set_option maxHeartbeats 1000000 in
theorem toEdit_any (x y z : Int) (w : World) :
    Calls Try.prog 39 #[.agg #[.int .i64 x, .int .i64 y, .int .i64 z]] w fun e w' => e = .returned (.agg #[.int .i64 x, .int .i64 y, .int .i64 z]) ∧ Below w.heap.size w w' := by
  have b1 := bal' w (Obj.cells #[.int .i64 x, .int .i64 y, .int .i64 z] 62)
  go_enter Try.func39, Try.ntmps39
  go_wp2
  refine bodyPost_ret (v := .agg #[.int .i64 x, .int .i64 y, .int .i64 z]) (by simp [results, Try.results39, go_sem]) rfl ⟨rfl, ?_⟩
  exact (((Below.refl _ _).alloc (Nat.le_refl _) _).alloc (by simp) _).alloc (by simp; omega) _
/-- Three numbers of a row of edits are written. -/
theorem edits_put {w : World} {base g n cap : Nat} {L : List Value} (h : w.ownsRow base 56 3 (.slice (some ⟨g, 0, none⟩) n cap) n L) (j : Nat) (x y z : Int) :
    (((w.setCell ⟨g, j * 3, none⟩ (.int .i64 x)).setCell ⟨g, j * 3 + 1, none⟩ (.int .i64 y)).setCell ⟨g, j * 3 + 2, none⟩ (.int .i64 z)).ownsRow base 56 3 (.slice (some ⟨g, 0, none⟩) n cap) n (((L.set (j * 3) (.int .i64 x)).set (j * 3 + 1) (.int .i64 y)).set (j * 3 + 2) (.int .i64 z)) ∧ w.grownBy (((w.setCell ⟨g, j * 3, none⟩ (.int .i64 x)).setCell ⟨g, j * 3 + 1, none⟩ (.int .i64 y)).setCell ⟨g, j * 3 + 2, none⟩ (.int .i64 z)) (some g) := by
  obtain ⟨s1, t1⟩ := h.stored (j * 3) (.int .i64 x)
  obtain ⟨s2, t2⟩ := s1.stored (j * 3 + 1) (.int .i64 y)
  obtain ⟨s3, t3⟩ := s2.stored (j * 3 + 2) (.int .i64 z)
  exact ⟨s3, grown_tr t1 (grown_tr t2 t3)⟩
theorem edits_zero (n : Nat) : (madeCells (Value.agg #[.int .i64 0, .int .i64 0, .int .i64 0]).cells (n * 3)).toList.length = n * 3 := by simp [size_madeCells]
set_option maxHeartbeats 2000000 in
set_option maxRecDepth 20000 in
theorem toES_copy (v : Value) (es : List (Int × Int × Int)) (w : World) (hv : SlX w v es) (hl : es.length ≤ 1073741824) :
    Calls Try.prog 17 #[v] w fun e w' => ∃ g, e = .returned (.slice (some ⟨g, 0, none⟩) es.length es.length) ∧ OwnE w' w.heap.size g es.length es ∧ Below w.heap.size w w' := by
  have hto := fun x y z W => toEdit_any x y z W
  obtain ⟨i0, hi0, hz0, hz1, hz2⟩ := info_parts info_ed
  obtain ⟨a, c, rfl, hc0⟩ := id hv
  clear hc0
  have hmk : ∀ w', w'.ownsRow w.heap.size 56 3 (.slice (some ⟨w.heap.size, 0, none⟩) es.length es.length) es.length (madeCells (Value.agg #[.int .i64 0, .int .i64 0, .int .i64 0]).cells (es.length * 3)).toList → w.grownBy w' none → ∃ L : List Value, L.length = es.length * 3 ∧ w'.ownsRow w.heap.size 56 3 (.slice (some ⟨w.heap.size, 0, none⟩) es.length es.length) es.length L ∧ Below w.heap.size w w' := fun w' h hg => ⟨_, edits_zero _, h, (Below.refl _ _).grown hg (Nat.le_refl _) (fun k e => by cases e)⟩
  have hE : Hid (∀ j, j < es.length → ∃ b off, a = some ⟨b, off, none⟩ ∧ ∀ W, Below w.heap.size w W → W.cell? ⟨b, off + j * 3, none⟩ = some (.int .i64 (es.getD j (0, 0, 0)).1) ∧ W.cell? ⟨b, off + j * 3 + 1, none⟩ = some (.int .i64 (es.getD j (0, 0, 0)).2.1) ∧ W.cell? ⟨b, off + j * 3 + 2, none⟩ = some (.int .i64 (es.getD j (0, 0, 0)).2.2)) := fun j hj => by
    obtain ⟨a', c', hv', h | ⟨b, off, ha, hlt, hc⟩⟩ := hv
    · subst h; simp at hj
    · cases hv'
      refine ⟨b, off, ha, fun W k => ?_⟩
      have e : ∀ q, W.cell? ⟨b, q, none⟩ = w.cell? ⟨b, q, none⟩ := fun q => k.cell (p := ⟨b, q, none⟩) hlt
      rw [e, e, e]
      exact hc j hj
  have hfin : Hid (∀ (w' : World) (L : List Value), w'.ownsRow w.heap.size 56 3 (.slice (some ⟨w.heap.size, 0, none⟩) es.length es.length) es.length L → (∀ t, t < es.length * 3 → L[t]? = some (.int .i64 ((edV es).getD t 0))) → OwnE w' w.heap.size w.heap.size es.length es) := fun w' L h ht => by
    have hLl : L.length = es.length * 3 := h.1
    have : L = (edV es).map (Value.int .i64) := by
      apply List.ext_getElem?
      intro t
      by_cases q : t < es.length * 3
      · rw [ht t q, List.getElem?_map, List.getElem?_eq_getElem (by rw [edV_len]; exact q)]
        simp [edV_len, q]
      · rw [List.getElem?_eq_none (by omega), List.getElem?_eq_none (by rw [List.length_map, edV_len]; omega)]
    unfold OwnE
    rw [← this]
    exact h
  have hat : Hid (∀ j, j < es.length → (edV es).getD (j * 3) 0 = (es.getD j (0, 0, 0)).1 ∧ (edV es).getD (j * 3 + 1) 0 = (es.getD j (0, 0, 0)).2.1 ∧ (edV es).getD (j * 3 + 2) 0 = (es.getD j (0, 0, 0)).2.2) := fun j h => edV_at es j h
  replace hmk := (show Hid _ from hmk)
  obtain ⟨n, hn⟩ : ∃ n, Hid (n = es.length) := ⟨_, rfl⟩
  rw [← hn.out] at hE hfin hat hmk hl ⊢
  clear hv hn
  go_enter Try.func17, Try.ntmps17
  go_wp2_with (refine wpList_make_full _ rfl _ _ 27 rfl w.heap.size 56 i0 (.agg #[.int .i64 0, .int .i64 0, .int .i64 0]) 3 under_eds hi0 hz0 hz1 .i64 .i64 (n : Int) (n : Int) n rfl rfl rfl rfl (by rw [hz2]; omega) (by unfold maxLen; omega) (Nat.le_refl _) ?_; intro w1 ho1 hg1)
  obtain ⟨L0, hL0, ho, hb⟩ := hmk.out w1 ho1 hg1
  clear ho1 hg1 hmk
  go_wp2
  go_loopw [4] (fun i wr => ∃ (j : Nat) (L : List Value), i = .int .i64 j ∧ j ≤ n ∧ L.length = n * 3 ∧ Hid (∀ t, t < j * 3 → L[t]? = some (.int .i64 ((edV es).getD t 0))) ∧ wr.ownsRow w.heap.size 56 3 (.slice (some ⟨w.heap.size, 0, none⟩) n n) n L ∧ Below w.heap.size w wr) (fun i _ => n - (intOf i).toNat)
  case atStart => exact ⟨0, L0, rfl, Nat.zero_le _, hL0, (fun t h => absurd h (by omega)), ho, hb⟩
  case round =>
    clear ho hb hL0
    obtain ⟨j, L, rfl, hj, hLl, hys, ho, kb⟩ := hrel
    by_cases hlt : j < n
    · have hji : (j : Int) < (n : Int) := by omega
      have hj0 : (0 : Int) ≤ (j : Int) := by omega
      obtain ⟨b, off, hb, hc⟩ := hE.out j hlt
      subst hb
      obtain ⟨q1, q2, q3⟩ := hat.out j hlt
      obtain ⟨⟨x, y, z⟩, hed⟩ : ∃ e, Hid (e = es.getD j (0, 0, 0)) := ⟨_, rfl⟩
      rw [← hed.out] at hc q1 q2 q3
      simp only at q1 q2 q3
      obtain ⟨c0, c1, c2⟩ := hc wr kb
      simp only at c0 c1 c2
      have q1 := (show Hid _ from q1)
      have q2 := (show Hid _ from q2)
      have q3 := (show Hid _ from q3)
      replace ho := (show Hid (World.ownsRow _ _ _ _ _ _ _) from ho)
      clear hc hed
      go_wp2_with fail
      refine (hto x y z _).mono ?_
      rintro e w2 ⟨rfl, hb2⟩
      have ho2 := World.ownsRow.below (show wr.ownsRow w.heap.size 56 3 (.slice (some ⟨w.heap.size, 0, none⟩) n n) n L from ho.out) hb2
      have kb2 := kb.trans (hb2.mono kb.size)
      obtain ⟨o3, g3⟩ := edits_put ho2 j x y z
      have hls := fun q (hq : q < n * 3) => (show ∃ u, w2.cell? ⟨w.heap.size, q, none⟩ = some u from ⟨_, (ho2.cellAt q hq).trans (List.getElem?_eq_getElem (by omega))⟩)
      obtain ⟨u0, h0⟩ := hls (j * 3) (by omega)
      obtain ⟨u1, h1⟩ := hls (j * 3 + 1) (by omega)
      obtain ⟨u2, h2⟩ := hls (j * 3 + 2) (by omega)
      have f0 := ho2.frozenAt (j * 3)
      have f1 := ho2.frozenAt (j * 3 + 1)
      have f2 := ho2.frozenAt (j * 3 + 2)
      have kb3 := kb2.grown g3 kb2.size (fun k e => by cases e; exact Nat.le_refl _)
      obtain ⟨L2, hL2⟩ : ∃ L2, Hid (L2 = ((L.set (j * 3) (.int .i64 x)).set (j * 3 + 1) (.int .i64 y)).set (j * 3 + 2) (.int .i64 z)) := ⟨_, rfl⟩
      rw [← hL2.out] at o3
      have hys2 : Hid (∀ t, t < (j + 1) * 3 → L2[t]? = some (.int .i64 ((edV es).getD t 0))) := fun t ht => by
        rw [hL2.out]
        by_cases p2 : t = j * 3 + 2
        · subst p2; rw [List.getElem?_set_self (by simp; omega), q3.out]
        rw [List.getElem?_set_ne (fun q => p2 q.symm)]
        by_cases p1 : t = j * 3 + 1
        · subst p1; rw [List.getElem?_set_self (by simp; omega), q2.out]
        rw [List.getElem?_set_ne (fun q => p1 q.symm)]
        by_cases p0 : t = j * 3
        · subst p0; rw [List.getElem?_set_self (by omega), q1.out]
        rw [List.getElem?_set_ne (fun q => p0 q.symm)]
        exact hys.out t (by omega)
      have hL2l : L2.length = n * 3 := by rw [hL2.out]; simpa using hLl
      replace o3 := (show Hid (World.ownsRow _ _ _ _ _ _ _) from o3)
      replace kb3 := (show Hid _ from kb3)
      clear hls ho2 g3 hb2 kb2 kb ho hys c0 c1 c2 q1 q2 q3 hL2 hLl
      go_wp2
      go_roundw
      case rel => exact ⟨j + 1, L2, by go_num, by omega, hL2l, hys2, o3.out, kb3.out⟩
      case measure => simp [intOf]; omega
    · have hjn : j = n := by omega
      have hji : ¬ (j : Int) < (n : Int) := by omega
      subst hjn
      have hE1 := hfin.out wr L ho hys.out
      replace hE1 := (show Hid (OwnE _ _ _ _ _) from hE1)
      clear ho hys hto
      go_wp2
      go_ret
      exact ⟨_, rfl, hE1.out, kb⟩
end Go.Proofs.Ytokoohmakjabnaa
namespace Go.Proofs.Ytokoohmakjabnaa
open Go.ChangeShapes Go.WideShapes Go.ChangeAt Go.RowKit
theorem OwnE.sl' {w : World} {base g cap : Nat} {es : List (Int × Int × Int)} (h : OwnE w base g cap es) : SlE w (.slice (some ⟨g, 0, none⟩) es.length cap) es.length (edV es) := SlE.of_own h
theorem OwnE.keep {w w' : World} {base g cap : Nat} {es : List (Int × Int × Int)} {row : Option Nat} (h : OwnE w base g cap es) (hg : w.grownBy w' row) (hne : row ≠ some g) : OwnE w' base g cap es :=
  World.ownsRow.kept h hg (.inr (fun e => hne (by rw [← e]; rfl)))
theorem bgr {w w' : World} (h : Below w.heap.size w w') (row : Option Nat) : w.grownBy w' row := ⟨h.os, h.tape, h.output, h.size, fun k hk _ => h.block k hk⟩
theorem ownI_keep {w w' : World} {base : Nat} {v : Value} {xs : List Int} {row : Option Nat} (h : OwnI w base v xs) (hg : w.grownBy w' row) (hne : ∀ k, v.ownBlock = some k → row ≠ some k) : OwnI w' base v xs := h.kept hg (by
  cases hx : v.ownBlock with
  | none => exact .inl rfl
  | some k => exact .inr (fun e => hne k hx e.symm))
theorem drwX (w : World) (n : Nat) : Below w.heap.size w (w.drewN n) := ⟨rfl, rfl, rfl, Nat.le_refl _, fun _ _ => rfl⟩
set_option maxHeartbeats 4000000 in
set_option maxRecDepth 20000 in
theorem walk_FnExactEdited (w : World) (a : Option Addr) (len cap : Nat) (zs : List Int) (hr : IsRow .i64 w a len cap zs) (v : Value) (es : List (Int × Int × Int)) (hx : SlX w v es) (hm : es.length ≤ maxLen) :
    Calls Try.prog 4 #[.slice a len cap, v] w fun e w' => e = .returned (.bool true) ∧ Below w.heap.size w w' := by
  obtain ⟨ha, hl⟩ := SlI.of_row hr
  generalize zs.take len = xs at *
  clear hr
  subst hl
  by_cases h1 : xs.length ≤ 1048576
  case neg =>
    have h1i : (1048576 : Int) < (xs.length : Int) := by omega
    go_enter Try.func4, Try.ntmps4
    go_wp2
    go_ret
    exact ⟨rfl, Below.refl _ _⟩
  have h1i : ¬ (1048576 : Int) < (xs.length : Int) := by omega
  have hszE := szE_any v es 1048576 w hx hm (by decide)
  by_cases h2 : es.length ≤ 1048576
  case neg =>
    rw [if_pos (by omega)] at hszE
    go_enter Try.func4, Try.ntmps4
    go_wp2_with fail
    refine hszE.mono ?_
    rintro e w1 ⟨rfl, rfl⟩
    go_wp2
    go_ret
    exact ⟨rfl, Below.refl _ _⟩
  rw [if_neg (by omega)] at hszE
  obtain ⟨lf, hlf⟩ : ∃ lf, Hid (lf = 1048576 - es.length) := ⟨_, rfl⟩
  rw [← hlf.out] at hszE
  have hlfn : ¬ ((lf : Int) < 0) := by omega
  have hxl : xs.length ≤ 1073741824 := by omega
  have hyl : es.length ≤ 1073741824 := by omega
  have hsp := fun va vb W => specEdited_any va vb xs es W
  have him := fun va vb W => implEdited_any va vb xs es W
  have hel := edAll_len xs es
  generalize edOut (edAll xs es) = R at *
  generalize edAns (edAll xs es) = bb at *
  replace hsp := (show Hid _ from hsp)
  replace him := (show Hid _ from him)
  have hRl : R.length ≤ 1073741824 := by omega
  clear hm hlf h1 h2
  go_enter Try.func4, Try.ntmps4
  go_wp2_with fail
  refine hszE.mono ?_
  rintro e w0 ⟨rfl, rfl⟩
  clear hszE
  go_wp2_with fail
  refine (toI_copy _ xs _ ha hxl).mono ?_
  rintro e w1 ⟨u1, rfl, o1, b1⟩
  have hx1 := hx.below b1
  go_wp2_with fail
  refine (toES_copy _ es _ hx1 hyl).mono ?_
  rintro e w2 ⟨g2, rfl, o2, b2⟩
  have k2 := b1.trans (b2.mono b1.size)
  have s1 := SlN.of_own (show OwnI w2 _ u1 xs from (OwnI.below (show OwnI w1 _ u1 xs from o1) b2))
  have s2 := OwnE.sl' o2
  clear o1 o2 b1 b2 hx1
  go_wp2_with fail
  refine (hsp.out _ _ _ s1 s2).mono ?_
  rintro e w3 ⟨gw, cw, rfl, ow, b3⟩
  have k3 := k2.trans (b3.mono k2.size)
  have hgw : ∀ k, (Value.slice (some ⟨gw, 0, none⟩) R.length cw).ownBlock = some k → k < w3.heap.size := fun k e => (ow.lt k e).2
  have ha3 := ha.below k3
  have k23 := k2.size
  clear s1 s2 k2 b3 hsp
  replace ow := (show Hid (OwnI _ _ _ _) from ow)
  go_wp2_with fail
  refine (toI_copy _ xs _ ha3 hxl).mono ?_
  rintro e w4 ⟨x0, rfl, o4, b4⟩
  have k4 := k3.trans (b4.mono k3.size)
  have hx4 := hx.below k4
  have n4 := fun k h => (o4.lt k h)
  go_wp2_with fail
  refine (toES_copy _ es _ hx4 hyl).mono ?_
  rintro e w5 ⟨g5, rfl, o5, b5⟩
  have k5 := k4.trans (b5.mono k4.size)
  have n5 := OwnE.lt o5
  have ow5 : Hid (OwnI w5 _ (.slice (some ⟨gw, 0, none⟩) R.length cw) R) := (ow.out.below b4).below b5
  have z4 := b4.size
  have z5 := b5.size
  have o45 : OwnI w5 w3.heap.size x0 xs := OwnI.below (show OwnI w4 _ x0 xs from o4) b5
  clear ow o4 b4 b5 hx4 ha3
  go_wp2_with fail
  refine (him.out _ _ _ (SlN.of_own o45) (OwnE.sl' o5)).mono ?_
  rintro e w6 ⟨gg, rfl, og, b6⟩
  have k6 := k5.trans (b6.mono k5.size)
  have hgg := fun k h => (og.lt k h)
  have z6 := b6.size
  have p0 := o45.below b6
  have p1 := OwnE.keep o5 (bgr b6 none) (by intro e; cases e)
  have pw := ow5.out.below b6
  obtain ⟨x0a, x0c, hx0s⟩ := own_shp p0
  obtain ⟨gga, ggc, hggs⟩ := own_shp og
  subst hx0s; subst hggs
  clear o45 o5 ow5 b6
  replace pw := (show Hid (OwnI _ _ _ _) from pw)
  replace og := (show Hid (OwnI _ _ _ _) from og)
  replace p0 := (show Hid (OwnI _ _ _ _) from p0)
  replace p1 := (show Hid (OwnE _ _ _ _ _) from p1)
  replace n4 := (show Hid _ from n4)
  replace hgg := (show Hid _ from hgg)
  replace hgw := (show Hid _ from hgw)
  go_wp2_with fail
  refine (eqI_same _ _ R _ (SlI.of_own og.out) (SlI.of_own pw.out) hRl).mono ?_
  rintro e w7 ⟨rfl, q7, hq7⟩
  subst hq7
  have c7 := drwX w6 q7
  go_wp2_with fail
  refine (toI_copy _ xs _ (ha.below (k6.trans (c7.mono k6.size))) hxl).mono ?_
  rintro e w8 ⟨x2, rfl, o8, b8⟩
  have c8 := c7.trans (b8.mono c7.size)
  go_wp2_with fail
  refine (eqI_same _ _ xs _ ((SlI.of_own p0.out).below c8) (SlI.of_own o8) hxl).mono ?_
  rintro e w9 ⟨rfl, q9, hq9⟩
  subst hq9
  have c9 := c8.trans (Below.mono (drwX w8 q9) c8.size)
  have k9 := k6.trans (c9.mono k6.size)
  clear o8 b8 c8 c7
  go_wp2_with fail
  refine (toES_copy _ es _ (hx.below k9) hyl).mono ?_
  rintro e w10 ⟨x3, rfl, o10, b10⟩
  have c10 := c9.trans (b10.mono c9.size)
  go_wp2_with fail
  refine (eqE_same _ _ es.length (edV es) _ ((OwnE.sl' p1.out).below c10) (OwnE.sl' o10) hyl).mono ?_
  rintro e w11 ⟨rfl, b11⟩
  have c11 := c10.trans (b11.mono c10.size)
  have k11 := k6.trans (c11.mono k6.size)
  have q0 := p0.out.below c11
  have q1 := OwnE.keep p1.out (bgr c11 none) (by intro e; cases e)
  have qw := pw.out.below c11
  have qg := og.out.below c11
  have z11 := c11.size
  clear p0 p1 pw og o10 b10 c9 k9 c10 b11 c11 k6
  replace qw := (show Hid (OwnI _ _ _ _) from qw)
  replace qg := (show Hid (OwnI _ _ _ _) from qg)
  replace q1 := (show Hid (OwnE _ _ _ _ _) from q1)
  go_wp2_with fail
  refine (markI_own _ _ 1 xs.length _ _ q0 (by omega) hxl).mono ?_
  rintro e w12 ⟨rfl, r0, g12⟩
  have r1 := OwnE.keep q1.out g12 (fun e => by have := n4.out _ e; omega)
  have rw2 := ownI_keep qw.out g12 (fun k e1 e2 => by have := n4.out _ e2; have := hgw.out _ e1; omega)
  have rg := ownI_keep qg.out g12 (fun k e1 e2 => by have := n4.out _ e2; have := hgg.out _ e1; omega)
  have k12 := k11.grown g12 k11.size (fun k e => by have := n4.out k e; have := k3.size; omega)
  have z12 := g12.size
  clear q0 q1 qw qg g12 k11 r0
  have hm1 : (0 : Int) ≤ 1 + (xs.length : Int) ∧ 1 + (xs.length : Int) ≤ 1073741824 := by omega
  have hm2 : ¬ (1 + (xs.length : Int) + 3 * (es.length : Int) < 0) := by omega
  replace rw2 := (show Hid (OwnI _ _ _ _) from rw2)
  replace rg := (show Hid (OwnI _ _ _ _) from rg)
  go_wp2_with fail
  have hmk := markE_own _ _ (1 + (xs.length : Int)) es.length _ _ r1 hm1 hyl
  obtain ⟨kk, hkk⟩ : ∃ kk, Hid (1 + (xs.length : Int) + 3 * (es.length : Int) = kk) := ⟨_, rfl⟩
  rw [hkk.out] at hmk hm2
  have hkd : decide (kk < 0) = false := decide_eq_false (by omega)
  refine hmk.mono ?_
  rintro e w13 ⟨rfl, r0, g13⟩
  have sw := ownI_keep rw2.out g13 (fun k e1 e2 => by have e3 : some g5 = some k := e2; injection e3 with e3; have := hgw.out _ e1; omega)
  have sg := ownI_keep rg.out g13 (fun k e1 e2 => by have e3 : some g5 = some k := e2; injection e3 with e3; have := hgg.out _ e1; omega)
  have k13 := k12.grown g13 k12.size (fun k e => by have e3 : some g5 = some k := e; injection e3 with e3; have := k3.size; omega)
  have z13 := g13.size
  clear r0 r1 rw2 rg g13 k12 hmk hm1
  replace sw := (show Hid (OwnI _ _ _ _) from sw)
  replace sg := (show Hid (OwnI _ _ _ _) from sg)
  go_wp2_with fail
  refine (eqI_same _ _ R _ (SlI.of_own sg.out) (SlI.of_own sw.out) hRl).mono ?_
  rintro e w14 ⟨rfl, q14, hq14⟩
  subst hq14
  have tw := sw.out.below (drwX w13 q14)
  have tg := sg.out.below (drwX w13 q14)
  have k14 := k13.trans (Below.mono (drwX w13 q14) k13.size)
  have z14 : w13.heap.size ≤ (w13.drewN q14).heap.size := Nat.le_refl _
  generalize w13.drewN q14 = wB at *
  clear sw sg k13
  replace tw := (show Hid (OwnI _ _ _ _) from tw)
  go_wp2_with fail
  refine (markI_own _ _ 1 R.length _ _ tg (by omega) hRl).mono ?_
  rintro e w15 ⟨rfl, mg, g15⟩
  have vw := ownI_keep tw.out g15 (fun k e1 e2 => by have := hgw.out _ e1; have := hgg.out _ e2; omega)
  have k15 := k14.grown g15 k14.size (fun k e => by have := hgg.out _ e; have := k3.size; omega)
  have hsg : SlI w15 _ (marksI 1 R.length) := SlI.of_own (base := w5.heap.size) (e := 2) (by rw [marksI_len]; exact mg)
  clear tw tg g15 k14
  have hm3 : ¬ (1 + (R.length : Int) < 0) := by omega
  replace vw := (show Hid (OwnI _ _ _ _) from vw)
  replace mg := (show Hid (World.ownsRow _ _ _ _ _ _ _) from mg)
  replace hsg := (show Hid (SlI _ _ _) from hsg)
  go_wp2_with fail
  refine (heldI_marks _ 1 R.length _ hsg.out (by omega) hRl).mono ?_
  rintro e w16 ⟨rfl, hw16⟩
  subst hw16
  go_wp2_with fail
  refine (toI_copy _ xs _ (ha.below k15) hxl).mono ?_
  rintro e w17 ⟨y1, rfl, o17, b17⟩
  have k17 := k15.trans (b17.mono k15.size)
  go_wp2_with fail
  refine (toES_copy _ es _ (hx.below k17) hyl).mono ?_
  rintro e w18 ⟨y2, rfl, o18, b18⟩
  have k18 := k17.trans (b18.mono k17.size)
  have c18 := b17.trans (b18.mono b17.size)
  have s17 := SlN.of_own (show OwnI w18 _ y1 xs from OwnI.below (show OwnI w17 _ y1 xs from o17) b18)
  have s18 := OwnE.sl' o18
  clear o17 o18 b17 b18 k17
  go_wp2_with fail
  refine (him.out _ _ _ s17 s18).mono ?_
  rintro e w19 ⟨gh, rfl, oh, b19⟩
  have k19 := k18.trans (b19.mono k18.size)
  have c19 := c18.trans (b19.mono c18.size)
  have xw := vw.out.below c19
  obtain ⟨gha, ghc, hghs⟩ := own_shp oh
  subst hghs
  clear vw s17 s18 b19 c18 k18
  replace oh := (show Hid (OwnI _ _ _ _) from oh)
  replace xw := (show Hid (OwnI _ _ _ _) from xw)
  go_wp2_with fail
  refine (eqI_same _ _ R _ (SlI.of_own oh.out) (SlI.of_own xw.out) hRl).mono ?_
  rintro e w20 ⟨rfl, q20, hq20⟩
  subst hq20
  have k20 := k19.trans (Below.mono (drwX w19 q20) k19.size)
  have c20 := c19.trans (Below.mono (drwX w19 q20) c19.size)
  have hsg2 := SlI.below hsg.out c20
  replace hsg2 := (show Hid (SlI _ _ _) from hsg2)
  clear oh xw c19 k19 hsg mg
  go_wp2_with fail
  refine (heldI_marks _ 1 R.length _ hsg2.out (by omega) hRl).mono ?_
  rintro e w21 ⟨rfl, hw21⟩
  subst hw21
  go_wp2
  go_ret
  exact ⟨rfl, k20⟩
end Go.Proofs.Ytokoohmakjabnaa
namespace Go.Proofs.Ytokoohmakjabnaa
open Go.ChangeShapes Go.WideShapes Go.ChangeAt Go.RowKit
section
variable {H : Type} {enc : TypeId × Value → H} {w : World} {base : Nat} {spare : Nat → Bool} {held : Bool}
set_option maxRecDepth 20000 in
theorem edit_cs {fuel : Nat} {cs : List Value} {x : DataW H × List MemPlace} (hf : DataW.trod enc Try.prog w base spare held fuel 62 cs = some x) :
    ∃ c : Int × Int × Int, cs = [.int .i64 c.1, .int .i64 c.2.1, .int .i64 c.2.2] := by
  obtain ⟨xs, n, _, _, hl, hlen, hfs⟩ := DataW.trod_struct Try.underlying62 hf
  have e : Try.prog.cellsOf 62 = 3 := by kernel_rfl
  have ei : Try.prog.cellsOf 2 = 1 := by kernel_rfl
  match cs, hl.trans e, xs, hlen with
  | [c0, c1, c2], _, [x0, x1, x2], _ =>
    have h0 := hfs 0 _ rfl
    have h1 := hfs 1 _ rfl
    have h2 := hfs 2 _ rfl
    simp [ei] at h0 h1 h2
    obtain ⟨k0, q0, _, _⟩ := DataW.trod_int Try.underlying2 h0
    obtain ⟨k1, q1, _, _⟩ := DataW.trod_int Try.underlying2 h1
    obtain ⟨k2, q2, _, _⟩ := DataW.trod_int Try.underlying2 h2
    simp at q0 q1 q2
    subst q0; subst q1; subst q2
    exact ⟨(k0, k1, k2), rfl⟩
set_option maxRecDepth 20000 in
theorem edits_view {b0 : Nat} {r : Reach} {v : Value} {d : DataW H} {p : List MemPlace} (hv : Value.okWide Try.prog w r b0 37 v) (h : DataW.Trod enc Try.prog w base spare held 37 v d p) :
    ∃ es : List (Int × Int × Int), SlX w v es ∧ es.length ≤ maxLen := by
  obtain ⟨a, len, cap, rfl⟩ := okWide_slice Try.underlying37 hv
  obtain ⟨fuel, hf⟩ := h
  have e : Try.prog.cellsOf 62 = 3 := by kernel_rfl
  rcases Go.Deep.open_slice Try.underlying37 hf with ⟨hcs, _⟩ | ⟨x, l, c, m, n, D, Pl, hcs, _, hl, hm, hmm, _, hx⟩
  · simp [Value.cells] at hcs
    obtain ⟨rfl, rfl, rfl⟩ := hcs
    exact ⟨[], ⟨none, 0, rfl, .inl rfl⟩, by simp⟩
  · simp [Value.cells] at hcs
    obtain ⟨rfl, rfl, rfl⟩ := hcs
    have hlm : len ≤ m := by rw [hmm]; split <;> omega
    rw [e] at hx
    obtain ⟨f, hfc⟩ := Go.Deep.choose_lt (α := Int × Int × Int) (n := len) (p := fun i q => w.cells? base (x.add (i * 3)) 3 = some [.int .i64 q.1, .int .i64 q.2.1, .int .i64 q.2.2]) (fun i hi => by
      obtain ⟨cs', h1, h2⟩ := hx i (by omega)
      obtain ⟨q, rfl⟩ := edit_cs h2
      exact ⟨q, h1⟩)
    have hlen : ((List.range len).map f).length = len := by simp
    refine ⟨(List.range len).map f, ⟨some x, cap, by rw [hlen], ?_⟩, by rw [hlen]; omega⟩
    by_cases h0 : len = 0
    · left; subst h0; rfl
    · right
      have hc : ∀ i, i < len → ∀ k, k < 3 → w.cell? ((x.add (i * 3)).add k) = ([.int .i64 (f i).1, .int .i64 (f i).2.1, .int .i64 (f i).2.2] : List Value)[k]? := fun i hi k hk => by
        obtain ⟨_, hl3, hcell⟩ := World.cells?_some (hfc i hi)
        exact hcell k hk
      obtain ⟨b, off, spot⟩ := x
      have h1 := hc 0 (by omega) 0 (by decide)
      have hspot : spot = none := by
        have h1' : w.cell? ((⟨b, off, spot⟩ : Addr).add 0) = some (.int .i64 (f 0).1) := by simpa [Addr.add] using h1
        simpa [Addr.add] using World.cell?_spot h1'
      subst hspot
      refine ⟨b, off, rfl, ?_, fun i hi => ?_⟩
      · have h1' : w.cell? ((⟨b, off, none⟩ : Addr).add 0) = some (.int .i64 (f 0).1) := by simpa [Addr.add] using h1
        exact World.block_lt_of_cell? w _ h1'
      · rw [hlen] at hi
        have ef : ((List.range len).map f).getD i (0, 0, 0) = f i := by simp [hi]
        rw [ef]
        have g := fun k hk => hc i hi k hk
        have ea : ∀ k, (((⟨b, off, none⟩ : Addr).add (i * 3)).add k) = ⟨b, off + i * 3 + k, none⟩ := fun k => by rw [Addr.add_mid, Addr.add_mid]
        simp only [ea] at g
        exact ⟨by simpa using g 0 (by decide), by simpa using g 1 (by decide), by simpa using g 2 (by decide)⟩
end
end Go.Proofs.Ytokoohmakjabnaa
