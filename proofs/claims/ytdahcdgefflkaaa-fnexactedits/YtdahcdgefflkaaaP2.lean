/- The program's Apart and Shared. The steps from one list to the other. Plain mathematics. The specification's Edits. The program's route: one edit of it. The way that is gone, as the program chooses it. Plain mathematics. The program's route: its edits. -/
import Derived.Test.YtdahcdgefflkaaaP1
import Derived.Deep.AppendLies
namespace Go.Proofs.Ytdahcdgefflkaaa
open Go.ChangeShapes Go.WideShapes Go.ChangeAt Go.RowKit
theorem listsOk_any (va vb : Value) (xs ys : List Int) (w : World) (ha : SlI w va xs) (hb : SlI w vb ys) :
    Calls Try.prog 35 #[va, vb] w fun e w' => e = .returned (.bool (decide (xs.length ≤ 40 ∧ ys.length ≤ 40))) ∧ w' = w := by
  obtain ⟨a, c, rfl, _⟩ := ha
  obtain ⟨a', c', rfl, _⟩ := hb
  obtain ⟨r, hr⟩ : ∃ r, Hid (decide (xs.length ≤ 40 ∧ ys.length ≤ 40) = r) := ⟨_, rfl⟩
  rw [hr.out]
  have hr2 : r = decide (xs.length ≤ 40 ∧ ys.length ≤ 40) := hr.out.symm
  generalize xs.length = m at *
  generalize ys.length = n at *
  clear hr
  go_enter Try.func35, Try.ntmps35
  by_cases h1 : m ≤ 40
  · have h1i : (m : Int) ≤ 40 := by omega
    by_cases h2 : n ≤ 40
    · have h2i : (n : Int) ≤ 40 := by omega
      have hr3 : r = true := by rw [hr2]; exact decide_eq_true ⟨h1, h2⟩
      subst hr3; clear hr2
      go_wp2
      go_ret
      exact ⟨rfl, rfl⟩
    · have h2i : ¬ (n : Int) ≤ 40 := by omega
      have hr3 : r = false := by rw [hr2]; exact decide_eq_false (by omega)
      subst hr3; clear hr2
      go_wp2
      go_ret
      exact ⟨rfl, rfl⟩
  · have h1i : ¬ (m : Int) ≤ 40 := by omega
    have hr3 : r = false := by rw [hr2]; exact decide_eq_false (by omega)
    subst hr3; clear hr2
    go_wp2
    go_ret
    exact ⟨rfl, rfl⟩
theorem waysT_new (w : World) : WyS (w.alloc (Obj.cells #[.int .i64 3, .int .i64 1, .int .i64 1, .int .i64 1, .int .i64 1, .int .i64 0, .int .i64 2, .int .i64 0, .int .i64 1] 54)) (.slice (some ⟨w.heap.size, 0, none⟩) 3 3) (waysL true) := by
  have hc : ∀ k, (w.alloc (Obj.cells #[.int .i64 3, .int .i64 1, .int .i64 1, .int .i64 1, .int .i64 1, .int .i64 0, .int .i64 2, .int .i64 0, .int .i64 1] 54)).cell? ⟨w.heap.size, k, none⟩ = _ := fun k => cell_of_row _ w.heap.size k _ _ (0, 0) (heap_alloc_new w _)
  refine ⟨w.heap.size, 3, rfl, by simp, fun k hk => ?_⟩
  match k, hk with
  | 0, _ => exact ⟨(hc 0).trans rfl, (hc 1).trans rfl, (hc 2).trans rfl⟩
  | 1, _ => exact ⟨(hc 3).trans rfl, (hc 4).trans rfl, (hc 5).trans rfl⟩
  | 2, _ => exact ⟨(hc 6).trans rfl, (hc 7).trans rfl, (hc 8).trans rfl⟩
theorem allWays_any (w : World) :
    Calls Try.prog 37 #[] w fun e w' => ∃ vw, e = .returned vw ∧ WyS w' vw (waysL true) ∧ Below w.heap.size w w' := by
  have h1 := waysT_new w
  have h2 := bal' w (Obj.cells #[.int .i64 3, .int .i64 1, .int .i64 1, .int .i64 1, .int .i64 1, .int .i64 0, .int .i64 2, .int .i64 0, .int .i64 1] 54)
  replace h1 := (show Hid _ from h1)
  replace h2 := (show Hid _ from h2)
  go_enter Try.func37, Try.ntmps37
  go_wp2
  go_ret
  exact ⟨_, rfl, h1.out, h2.out⟩
end Go.Proofs.Ytdahcdgefflkaaa
namespace Go.Proofs.Ytdahcdgefflkaaa
/-- The edits from a place of the table on: kind, place, value. -/
def edE (x y : Nat → Int) : Nat → Nat → List (Int × Int × Int)
  | 0, 0 => []
  | i + 1, 0 => (1, (i : Int), 0) :: edE x y i 0
  | 0, j + 1 => (2, 0, y j) :: edE x y 0 j
  | i + 1, j + 1 =>
    if x i = y j then edE x y i j
    else if edD true x y i j ≤ edD true x y i (j + 1) ∧ edD true x y i j ≤ edD true x y (i + 1) j then (3, (i : Int), y j) :: edE x y i j
    else if edD true x y i (j + 1) ≤ edD true x y (i + 1) j then (1, (i : Int), 0) :: edE x y i (j + 1)
    else (2, (i : Int) + 1, y j) :: edE x y (i + 1) j
termination_by i j => i + j
theorem edE_00 (x y : Nat → Int) : edE x y 0 0 = [] := by rw [edE]
theorem edE_i0 (x y : Nat → Int) (i : Nat) : edE x y (i + 1) 0 = (1, (i : Int), 0) :: edE x y i 0 := by rw [edE]
theorem edE_0j (x y : Nat → Int) (j : Nat) : edE x y 0 (j + 1) = (2, 0, y j) :: edE x y 0 j := by rw [edE]
theorem edE_eq (x y : Nat → Int) (i j : Nat) (h : x i = y j) : edE x y (i + 1) (j + 1) = edE x y i j := by rw [edE, if_pos h]
theorem edE_turn (x y : Nat → Int) (i j : Nat) (h : ¬ x i = y j) (h1 : edD true x y i j ≤ edD true x y i (j + 1) ∧ edD true x y i j ≤ edD true x y (i + 1) j) : edE x y (i + 1) (j + 1) = (3, (i : Int), y j) :: edE x y i j := by rw [edE, if_neg h, if_pos h1]
theorem edE_take (x y : Nat → Int) (i j : Nat) (h : ¬ x i = y j) (h1 : ¬ (edD true x y i j ≤ edD true x y i (j + 1) ∧ edD true x y i j ≤ edD true x y (i + 1) j)) (h2 : edD true x y i (j + 1) ≤ edD true x y (i + 1) j) : edE x y (i + 1) (j + 1) = (1, (i : Int), 0) :: edE x y i (j + 1) := by rw [edE, if_neg h, if_neg h1, if_pos h2]
theorem edE_put (x y : Nat → Int) (i j : Nat) (h : ¬ x i = y j) (h1 : ¬ (edD true x y i j ≤ edD true x y i (j + 1) ∧ edD true x y i j ≤ edD true x y (i + 1) j)) (h2 : ¬ edD true x y i (j + 1) ≤ edD true x y (i + 1) j) : edE x y (i + 1) (j + 1) = (2, (i : Int) + 1, y j) :: edE x y (i + 1) j := by rw [edE, if_neg h, if_neg h1, if_neg h2]
/-- As many edits as the distance tells. -/
theorem edE_len (x y : Nat → Int) : ∀ i j, ((edE x y i j).length : Int) = edD true x y i j := by
  intro i
  induction i with
  | zero =>
    intro j
    induction j with
    | zero => rw [edE_00, edD_0]; rfl
    | succ j jh => rw [edE_0j, edD_0, List.length_cons]; rw [edD_0] at jh; omega
  | succ i ih =>
    intro j
    induction j with
    | zero => rw [edE_i0, edD_i0, List.length_cons]; have := ih 0; rw [edD_i0] at this; omega
    | succ j jh =>
      have h1 := ih j
      have h2 := ih (j + 1)
      by_cases h : x i = y j
      · rw [edE_eq x y i j h, edD_eq _ x y i j h]; exact h1
      · rw [edD_ne _ x y i j h]
        simp only [if_true]
        by_cases c1 : edD true x y i j ≤ edD true x y i (j + 1) ∧ edD true x y i j ≤ edD true x y (i + 1) j
        · rw [edE_turn x y i j h c1, List.length_cons]; omega
        · by_cases c2 : edD true x y i (j + 1) ≤ edD true x y (i + 1) j
          · rw [edE_take x y i j h c1 c2, List.length_cons]; omega
          · rw [edE_put x y i j h c1 c2, List.length_cons]; omega
/-- What the program asks of the three, where the last numbers differ. -/
theorem edD_less (x y : Nat → Int) (i j : Nat) (h : ¬ x i = y j) : (edD true x y i j < edD true x y (i + 1) (j + 1) ↔ (edD true x y i j ≤ edD true x y i (j + 1) ∧ edD true x y i j ≤ edD true x y (i + 1) j)) ∧ (¬ (edD true x y i j ≤ edD true x y i (j + 1) ∧ edD true x y i j ≤ edD true x y (i + 1) j) → (edD true x y i (j + 1) < edD true x y (i + 1) (j + 1) ↔ edD true x y i (j + 1) ≤ edD true x y (i + 1) j)) ∧ (¬ (edD true x y i j ≤ edD true x y i (j + 1) ∧ edD true x y i j ≤ edD true x y (i + 1) j) → ¬ edD true x y i (j + 1) ≤ edD true x y (i + 1) j → edD true x y (i + 1) j < edD true x y (i + 1) (j + 1)) := by
  rw [edD_ne _ x y i j h]
  simp only [if_true]
  omega
theorem edC_less (l d e : Int) (hd : d ≤ l) (hl : l < 160) : edC l e < d ↔ e < d := by
  unfold edC; split <;> omega
/-- Edits as numbers, one behind the other. -/
def edV (es : List (Int × Int × Int)) : List Int := es.flatMap fun e => [e.1, e.2.1, e.2.2]
theorem edV_snoc (es : List (Int × Int × Int)) (k a v : Int) : edV (es ++ [(k, a, v)]) = edV es ++ [k, a, v] := by simp [edV]
end Go.Proofs.Ytdahcdgefflkaaa
namespace Go.Proofs.Ytdahcdgefflkaaa
open Go.ChangeShapes Go.WideShapes Go.ChangeAt Go.RowKit
def editsV (xs ys : List Int) : List (Int × Int × Int) := if xs.length ≤ 40 ∧ ys.length ≤ 40 then edE (fun k => xs.getD k 0) (fun k => ys.getD k 0) xs.length ys.length else []
theorem info_ed : (Try.prog.info? 62).map (fun i => (i.zero, i.size, i.bytes)) = some (some (.agg #[.int .i64 0, .int .i64 0, .int .i64 0]), 3, 24) := by kernel_rfl
theorem under_eds : Try.prog.underlying 30 = some (.slice 62) := by kernel_rfl
/-- A list of edits that one call owns. -/
def OwnE (w : World) (base g cap : Nat) (es : List (Int × Int × Int)) : Prop := w.ownsRow base 62 3 (.slice (some ⟨g, 0, none⟩) es.length cap) es.length ((edV es).map (Value.int .i64))
theorem OwnE.lt {w : World} {base g cap : Nat} {es : List (Int × Int × Int)} (h : OwnE w base g cap es) : base ≤ g ∧ g < w.heap.size := World.ownsRow.lt h g rfl
/-- An edit onto a list of edits. -/
theorem append_ed {w : World} {ops : Array Oper} {rest : List Oper} {o : Oper} {ac : Act} {Q : Exit → Act → World → Prop} (hgd : o.guard = none) (s x : Operand)
    (ho : o.op = .call { callee := .builtin .append, args := #[s, x], argTypes := #[30, 30] })
    (base g cap : Nat) (es : List (Int × Int × Int)) (hes : es.length ≤ 200) (hs : ac.eval s = .slice (some ⟨g, 0, none⟩) es.length cap) (hown : OwnE w base g cap es) (k a y : Int) (hx : ac.eval x = .slice (some ⟨w.heap.size, 0, none⟩) 1 1) (hbase : base ≤ w.heap.size)
    (h : ∀ g' cap' w', OwnE w' base g' cap' (es ++ [(k, a, y)]) → w.grownBy w' (some g) → (g' = g ∨ g' = w.heap.size + 1) → wpList Try.prog ops Q rest (ac.put o.dst (.slice (some ⟨g', 0, none⟩) (es.length + 1) cap')) w') :
    wpList Try.prog ops Q (o :: rest) ac (w.alloc (.cells #[.int .i64 k, .int .i64 a, .int .i64 y] 62)) := by
  obtain ⟨i0, hi, hz0, hz1, hz2⟩ := info_parts info_ed
  have hall := World.grownBy_alloc w (.cells #[.int .i64 k, .int .i64 a, .int .i64 y] 62) (some g)
  refine wpList_append_lies _ hgd s x _ ho base 62 i0 (.agg #[.int .i64 0, .int .i64 0, .int .i64 0]) 3 24 under_eds hi hz0 hz1 hz2 rfl (by decide) _ es.length _ hs (World.ownsRow.alloc hown _) ⟨w.heap.size, 0, none⟩ 1 1 [.int .i64 k, .int .i64 a, .int .i64 y] hx rfl ?_ (by intro u hu; simp at hu; rcases hu with rfl | rfl | rfl <;> rfl) (by decide) (by unfold maxLen; omega) (by omega) (by simp; omega) (w.heap.size + 1) (by simp) (fun g' cap' w' ho' hg' hat _ => ?_)
  · intro j u hj
    have e : (⟨w.heap.size, 0, none⟩ : Addr).add j = ⟨w.heap.size, j, none⟩ := by unfold Addr.add; split <;> simp_all
    rw [e, cell_of_row _ w.heap.size j _ 62 (0, 0) (heap_alloc_new w _)]
    simpa using hj
  · refine h g' cap' w' ?_ (grown_tr hall hg') ?_
    · unfold OwnE
      rw [edV_snoc, List.map_append, List.length_append]
      exact ho'
    · rcases hat with e | e
      · have : g = g' := by simpa [Value.ownBlock] using e
        exact .inl this.symm
      · exact .inr e
set_option maxHeartbeats 8000000 in
set_option maxRecDepth 20000 in
theorem specEdits_any (va vb : Value) (xs ys : List Int) (w : World) (ha : SlI w va xs) (hb : SlI w vb ys) :
    Calls Try.prog 21 #[va, vb] w fun e w' => ∃ g cap, e = .returned (.tuple #[.slice (some ⟨g, 0, none⟩) (editsV xs ys).length cap, .bool (decide (xs.length ≤ 40 ∧ ys.length ≤ 40))]) ∧ OwnE w' w.heap.size g cap (editsV xs ys) ∧ Below w.heap.size w w' := by
  have hh2 := fun W (k : Below w.heap.size w W) => l9Two_any va vb xs ys W (ha.below k) (hb.below k)
  by_cases h : xs.length ≤ 40 ∧ ys.length ≤ 40
  case neg =>
    simp only [decide_eq_false h] at hh2 ⊢
    have hA : editsV xs ys = [] := if_neg h
    rw [hA]
    obtain ⟨a, c, rfl, _⟩ := ha
    obtain ⟨a', c', rfl, _⟩ := hb
    have ho0 : OwnE (w.alloc (Obj.cells #[] 62)) w.heap.size w.heap.size 0 [] := World.ownsRow_lit (base := w.heap.size) (e := 62) (size := 3) w #[] 0 (Nat.le_refl _) (Nat.zero_le _) rfl
    have hbl := bal' w (Obj.cells #[] 62)
    replace ho0 := (show Hid _ from ho0)
    replace hbl := (show Hid _ from hbl)
    replace hh2 := (show Hid _ from hh2)
    clear hA h
    go_enter Try.func21, Try.ntmps21
    go_wp2_with fail
    refine (hh2.out _ hbl.out).mono ?_
    rintro e w1 ⟨rfl, hw1⟩
    subst hw1
    go_wp2
    exact bodyPost_ret (results_tmp2 rfl _ _ _) rfl ⟨_, _, rfl, ho0.out, hbl.out⟩
  have htb := fun W (k : Below w.heap.size w W) => l9Table_any va vb xs ys W (ha.below k) (hb.below k) h.1 h.2
  simp only [decide_eq_true h] at hh2 ⊢
  have hA : editsV xs ys = edE (fun k => xs.getD k 0) (fun k => ys.getD k 0) xs.length ys.length := if_pos h
  rw [hA]
  have hlenE := edE_len (fun k => xs.getD k 0) (fun k => ys.getD k 0) xs.length ys.length
  have hbdE := edD_bd true (fun k => xs.getD k 0) (fun k => ys.getD k 0) xs.length ys.length
  obtain ⟨X, hX⟩ : ∃ X, Hid (X = (fun k => xs.getD k 0)) := ⟨_, rfl⟩
  obtain ⟨Y, hY⟩ : ∃ Y, Hid (Y = (fun k => ys.getD k 0)) := ⟨_, rfl⟩
  rw [← hX.out, ← hY.out] at hlenE hbdE htb ⊢
  obtain ⟨D, hD⟩ : ∃ D, Hid (D = edD true X Y) := ⟨_, rfl⟩
  rw [← hD.out] at hlenE hbdE htb
  obtain ⟨hx, hy⟩ := h
  clear hA
  obtain ⟨a, c, rfl, hca⟩ := ha
  obtain ⟨a', c', rfl, hcb⟩ := hb
  generalize hm : xs.length = m at *
  generalize hn : ys.length = n at *
  replace hm := (show Hid _ from hm)
  replace hn := (show Hid _ from hn)
  obtain ⟨W, hW⟩ : ∃ W, Hid (n + 1 = W) := ⟨_, rfl⟩
  have eW : IntKind.i64.wrap ((n : Int) + 1) = (W : Int) := wid (by have := hW.out; omega) (by omega) (by omega)
  have hE80 : (edE X Y m n).length ≤ 80 := by omega
  obtain ⟨N, hNf⟩ : ∃ N, Hid (N = (m + 1) * W) := ⟨_, rfl⟩
  have hNt : (m + 1) * (n + 1) = N := by rw [hNf.out, hW.out]
  rw [hNt] at htb
  have hN2 : N ≤ 41 * 41 := by rw [← hNt]; exact Nat.mul_le_mul (by omega) (by omega)
  clear hNt
  obtain ⟨E, hE⟩ : ∃ E, Hid (E = edE X Y m n) := ⟨_, rfl⟩
  rw [← hE.out] at hE80 ⊢
  have ho0 : OwnE (w.alloc (Obj.cells #[] 62)) w.heap.size w.heap.size 0 [] := World.ownsRow_lit (base := w.heap.size) (e := 62) (size := 3) w #[] 0 (Nat.le_refl _) (Nat.zero_le _) rfl
  have hbl := bal' w (Obj.cells #[] 62)
  obtain ⟨w0, hw0⟩ : ∃ w0, Hid (w0 = w.alloc (Obj.cells #[] 62)) := ⟨_, rfl⟩
  rw [← hw0.out] at ho0 hbl
  have hz0 : w0.heap.size = w.heap.size + 1 := by rw [hw0.out]; simp
  replace hz0 := (show Hid _ from hz0)
  replace ho0 := (show Hid _ from ho0)
  replace hbl := (show Hid _ from hbl)
  replace hh2 := (show Hid _ from hh2)
  replace htb := (show Hid _ from htb)
  replace hlenE := (show Hid _ from hlenE)
  replace hbdE := (show Hid _ from hbdE)
  replace hca := (show Hid _ from hca)
  replace hcb := (show Hid _ from hcb)
  go_enter Try.func21, Try.ntmps21
  go_wp2_with fail
  rw [← hw0.out]
  refine (hh2.out _ hbl.out).mono ?_
  rintro e w1 ⟨rfl, hw1⟩
  subst hw1
  go_wp2_with fail
  refine (htb.out _ hbl.out).mono ?_
  rintro e w2 ⟨rfl, zs, hoT, hT0, b2⟩
  have kb0 := hbl.out.trans (b2.mono hbl.out.size)
  have hgr0 : w1.grownBy w2 none := ⟨b2.os, b2.tape, b2.output, b2.size, fun k hk _ => b2.block k hk⟩
  have ho1 : OwnE w2 w.heap.size w.heap.size 0 [] := World.ownsRow.kept ho0.out hgr0 (.inr (by simp [Value.ownBlock]))
  have hGl0 : w1.heap.size < w2.heap.size := (hoT.lt _ rfl).2
  have hgG0 : ¬ w.heap.size = w1.heap.size := by have := hz0.out; omega
  have hTc : Hid (∀ i' j', i' ≤ m → j' ≤ n → w2.cell? ⟨w1.heap.size, i' * W + j', none⟩ = some (.int .i64 (D i' j'))) := fun i' j' h1 h2 => by
    have hlt := tab_lt (W := n + 1) (m := m) (i := i') (j := j') h1 (by omega)
    rw [hW.out, ← hNf.out] at hlt
    rw [hW.out] at hT0
    rw [hoT.cellAt (i' * W + j') (by omega)]
    exact hT0.at i' j' (by have := hW.out; omega) h1 (by omega)
  generalize hG : w1.heap.size = G at *
  clear hoT hT0 b2 hbl hgr0 ho0 hh2 htb hz0 hw0 hG
  replace ho1 := (show Hid _ from ho1)
  go_wp2
  go_loopw [6, 9, 10, 11, 12, 13] (fun ov iv jv _ _ _ wr => ∃ (i j : Nat) (es : List (Int × Int × Int)) (g cap : Nat), i ≤ m ∧ j ≤ n ∧ iv = .int .i64 i ∧ jv = .int .i64 j ∧ ov = .slice (some ⟨g, 0, none⟩) es.length cap ∧ OwnE wr w.heap.size g cap es ∧ Hid (es ++ edE X Y i j = E) ∧ Below w.heap.size w wr ∧ Hid (∀ i' j', i' ≤ m → j' ≤ n → wr.cell? ⟨G, i' * W + j', none⟩ = some (.int .i64 (D i' j'))) ∧ (¬ g = G) ∧ G < wr.heap.size) (fun _ iv jv _ _ _ _ => (intOf iv).toNat + (intOf jv).toNat)
  case atStart => exact ⟨m, n, [], w.heap.size, 0, Nat.le_refl _, Nat.le_refl _, rfl, rfl, rfl, ho1.out, by show _ = _; rw [List.nil_append]; exact hE.out.symm, kb0, hTc, hgG0, hGl0⟩
  case round =>
    obtain ⟨i, j, es, g, cap, hi, hj, rfl, rfl, rfl, ho, hq, kb, hT, hgG, hGl⟩ := hrel
    clear ho1 kb0 hTc hgG0 hGl0
    replace ho := (show Hid _ from ho)
    by_cases hi0 : i = 0
    · subst hi0
      by_cases hj0 : j = 0
      · subst hj0
        have hes : es = E := by have := hq.out; rw [edE_00, List.append_nil] at this; exact this
        subst hes
        clear hca hcb
        go_wp2
        exact bodyPost_ret (results_tmp2 rfl _ _ _) rfl ⟨_, _, rfl, ho.out, kb⟩
      · obtain ⟨j1, hj1'⟩ : ∃ j1, Hid (j = j1 + 1) := ⟨j - 1, by show j = j - 1 + 1; omega⟩
        have e8 : IntKind.i64.wrap ((j : Int) - 1) = (j1 : Int) := wid (by have := hj1'.out; omega) (by omega) (by omega)
        have hjm : j1 < n := by have := hj1'.out; omega
        have q2 : decide (0 < j) = true := decide_eq_true (by omega)
        have hjj0 : ¬ ((j : Int) = 0) := by omega
        rcases hcb.out with h | ⟨b', off', rfl, hbb', hs2⟩
        · exfalso; have := hn.out; rw [h] at this; simp at this; omega
        have c2 := (kb.cell (p := ⟨b', off' + j1, none⟩) hbb').trans (hs2 j1 hjm)
        rw [show ys.getD j1 0 = Y j1 by rw [hY.out]] at c2
        clear hs2
        have hqs : es ++ (2, 0, Y j1) :: edE X Y 0 j1 = E := by rw [← edE_0j, ← hj1'.out]; exact hq.out
        generalize Y j1 = y at *
        have hq2 : Hid ((es ++ [(2, 0, y)]) ++ edE X Y 0 j1 = E) := by show _ = _; rw [List.append_assoc]; exact hqs
        have hsz := OwnE.lt ho.out
        have hes : es.length ≤ 200 := by have := congrArg List.length hqs; rw [List.length_append] at this; omega
        have hoP : OwnE (wr) w.heap.size g cap es := ho.out
        have kbP : Below w.heap.size w (wr) := kb.trans (Below.mono (show Below wr.heap.size wr (wr) from ⟨rfl, rfl, rfl, Nat.le_refl _, fun _ _ => rfl⟩) kb.size)
        clear hq hqs
        go_wp2_with (at_builtin; refine append_ed (w := wr) rfl _ _ rfl w.heap.size g cap es hes (by rfl) hoP 2 (0) (y) (by rfl) kb.size ?_; intro g2 cap2 w2 ho2 hg2 hat)
        have kb2 := kbP.grown hg2 kb.size (fun k e => by injection e with e; omega)
        have hT2 : Hid (∀ i' j', i' ≤ m → j' ≤ n → w2.cell? ⟨G, i' * W + j', none⟩ = some (.int .i64 (D i' j'))) := fun i' j' h1 h2 => by
          rw [← hT.out i' j' h1 h2]
          exact World.cell?_of_block (w := wr) (a := ⟨G, i' * W + j', none⟩) (hg2.block G hGl (fun e => by injection e with e; omega))
        have hGl2 : G < w2.heap.size := Nat.lt_of_lt_of_le hGl hg2.size
        have hgG2 : ¬ g2 = G := by
          rcases hat with e | e
          · rw [e]; exact hgG
          · have e2 : g2 = wr.heap.size + 1 := e
            omega
        replace ho2 := (show Hid _ from ho2)
        clear hoP ho hg2 hat hT kb kbP hsz
        go_wp2
        go_roundw
        case rel => exact ⟨0, j1, es ++ [(2, 0, y)], g2, cap2, by omega, by omega, rfl, rfl, by rw [List.length_append]; rfl, ho2.out, hq2, kb2, hT2, hgG2, hGl2⟩
        case measure => simp [intOf]; have := hj1'.out; omega
    · by_cases hj0 : j = 0
      · subst hj0
        obtain ⟨i1, hi1'⟩ : ∃ i1, Hid (i = i1 + 1) := ⟨i - 1, by show i = i - 1 + 1; omega⟩
        have e3 : IntKind.i64.wrap ((i : Int) - 1) = (i1 : Int) := wid (by have := hi1'.out; omega) (by omega) (by omega)
        have him : i1 < m := by have := hi1'.out; omega
        have q1 : decide (0 < i) = true := decide_eq_true (by omega)
        have hii0 : ¬ ((i : Int) = 0) := by omega
        have hqs : es ++ (1, (i1 : Int), 0) :: edE X Y i1 0 = E := by rw [← edE_i0, ← hi1'.out]; exact hq.out
        have hq2 : Hid ((es ++ [(1, (i1 : Int), 0)]) ++ edE X Y i1 0 = E) := by show _ = _; rw [List.append_assoc]; exact hqs
        have hsz := OwnE.lt ho.out
        have hes : es.length ≤ 200 := by have := congrArg List.length hqs; rw [List.length_append] at this; omega
        have hoP : OwnE (wr) w.heap.size g cap es := ho.out
        have kbP : Below w.heap.size w (wr) := kb.trans (Below.mono (show Below wr.heap.size wr (wr) from ⟨rfl, rfl, rfl, Nat.le_refl _, fun _ _ => rfl⟩) kb.size)
        clear hq hqs
        go_wp2_with (at_builtin; refine append_ed (w := wr) rfl _ _ rfl w.heap.size g cap es hes (by rfl) hoP 1 ((i1 : Int)) (0) (by rfl) kb.size ?_; intro g2 cap2 w2 ho2 hg2 hat)
        have kb2 := kbP.grown hg2 kb.size (fun k e => by injection e with e; omega)
        have hT2 : Hid (∀ i' j', i' ≤ m → j' ≤ n → w2.cell? ⟨G, i' * W + j', none⟩ = some (.int .i64 (D i' j'))) := fun i' j' h1 h2 => by
          rw [← hT.out i' j' h1 h2]
          exact World.cell?_of_block (w := wr) (a := ⟨G, i' * W + j', none⟩) (hg2.block G hGl (fun e => by injection e with e; omega))
        have hGl2 : G < w2.heap.size := Nat.lt_of_lt_of_le hGl hg2.size
        have hgG2 : ¬ g2 = G := by
          rcases hat with e | e
          · rw [e]; exact hgG
          · have e2 : g2 = wr.heap.size + 1 := e
            omega
        replace ho2 := (show Hid _ from ho2)
        clear hoP ho hg2 hat hT kb kbP hsz
        go_wp2
        go_roundw
        case rel => exact ⟨i1, 0, es ++ [(1, (i1 : Int), 0)], g2, cap2, by omega, by omega, rfl, rfl, by rw [List.length_append]; rfl, ho2.out, hq2, kb2, hT2, hgG2, hGl2⟩
        case measure => simp [intOf]; have := hi1'.out; omega
      · obtain ⟨i1, hi1'⟩ : ∃ i1, Hid (i = i1 + 1) := ⟨i - 1, by show i = i - 1 + 1; omega⟩
        have e3 : IntKind.i64.wrap ((i : Int) - 1) = (i1 : Int) := wid (by have := hi1'.out; omega) (by omega) (by omega)
        have him : i1 < m := by have := hi1'.out; omega
        have q1 : decide (0 < i) = true := decide_eq_true (by omega)
        have hii0 : ¬ ((i : Int) = 0) := by omega
        obtain ⟨j1, hj1'⟩ : ∃ j1, Hid (j = j1 + 1) := ⟨j - 1, by show j = j - 1 + 1; omega⟩
        have e8 : IntKind.i64.wrap ((j : Int) - 1) = (j1 : Int) := wid (by have := hj1'.out; omega) (by omega) (by omega)
        have hjm : j1 < n := by have := hj1'.out; omega
        have q2 : decide (0 < j) = true := decide_eq_true (by omega)
        have hjj0 : ¬ ((j : Int) = 0) := by omega
        rcases hcb.out with h | ⟨b', off', rfl, hbb', hs2⟩
        · exfalso; have := hn.out; rw [h] at this; simp at this; omega
        have c2 := (kb.cell (p := ⟨b', off' + j1, none⟩) hbb').trans (hs2 j1 hjm)
        rw [show ys.getD j1 0 = Y j1 by rw [hY.out]] at c2
        clear hs2
        obtain ⟨r, hr⟩ : ∃ r, Hid (r = i * W) := ⟨_, rfl⟩
        obtain ⟨r1, hr1⟩ : ∃ r1, Hid (r1 = i1 * W) := ⟨_, rfl⟩
        obtain ⟨p, hp⟩ : ∃ p, Hid (p = r + j) := ⟨_, rfl⟩
        obtain ⟨p1, hp1⟩ : ∃ p1, Hid (p1 = r1 + j) := ⟨_, rfl⟩
        obtain ⟨q, hq3⟩ : ∃ q, Hid (q = r + j1) := ⟨_, rfl⟩
        obtain ⟨q0, hq0⟩ : ∃ q0, Hid (q0 = r1 + j1) := ⟨_, rfl⟩
        have hW1 := hW.out
        have hr41 : r ≤ 41 * 41 := by rw [hr.out]; exact Nat.mul_le_mul (by omega) (by omega)
        have hr141 : r1 ≤ 41 * 41 := by rw [hr1.out]; exact Nat.mul_le_mul (by omega) (by omega)
        have f1 : IntKind.i64.wrap ((i : Int) * (W : Int)) = (r : Int) := by rw [← Int.natCast_mul]; exact wid (by rw [hr.out]) (by omega) (by rw [← hr.out]; omega)
        have f2 : IntKind.i64.wrap ((r : Int) + (j : Int)) = (p : Int) := wid (by have := hp.out; omega) (by omega) (by omega)
        have f4 : IntKind.i64.wrap ((i1 : Int) * (W : Int)) = (r1 : Int) := by rw [← Int.natCast_mul]; exact wid (by rw [hr1.out]) (by omega) (by rw [← hr1.out]; omega)
        have f5 : IntKind.i64.wrap ((r1 : Int) + (j : Int)) = (p1 : Int) := wid (by have := hp1.out; omega) (by omega) (by omega)
        have f6 : IntKind.i64.wrap ((p1 : Int) - 1) = (q0 : Int) := wid (by have := hp1.out; have := hq0.out; have := hj1'.out; omega) (by have := hp1.out; omega) (by have := hp1.out; omega)
        have f7 : IntKind.i64.wrap ((p : Int) - 1) = (q : Int) := wid (by have := hp.out; have := hq3.out; have := hj1'.out; omega) (by have := hp.out; omega) (by have := hp.out; omega)
        have k1 := hT.out i1 j1 (by omega) (by omega)
        have k2 := hT.out i1 j (by omega) hj
        have k3 := hT.out i j1 hi (by omega)
        have hpN : p < N := by rw [hNf.out, hp.out, hr.out]; exact tab_lt hi (by omega)
        have hp1N : p1 < N := by rw [hNf.out, hp1.out, hr1.out]; exact tab_lt (by omega) (by omega)
        have hqN : q < N := by rw [hNf.out, hq3.out, hr.out]; exact tab_lt hi (by omega)
        have hq0N : q0 < N := by rw [hNf.out, hq0.out, hr1.out]; exact tab_lt (by omega) (by omega)
        rw [← hr1.out, ← hq0.out] at k1
        rw [← hr1.out, ← hp1.out] at k2
        rw [← hr.out, ← hq3.out] at k3
        rcases hca.out with h | ⟨b, off, rfl, hbb, hs1⟩
        · exfalso; have := hm.out; rw [h] at this; simp at this; omega
        have c1 := (kb.cell (p := ⟨b, off + i1, none⟩) hbb).trans (hs1 i1 him)
        rw [show xs.getD i1 0 = X i1 by rw [hX.out]] at c1
        clear hs1 hW1 hr41 hr141
        have mE := edE_eq X Y i1 j1
        have mT := edE_turn X Y i1 j1
        have mK := edE_take X Y i1 j1
        have mP := edE_put X Y i1 j1
        rw [← hi1'.out, ← hj1'.out] at mE mT mK mP
        rw [← hD.out] at mT mK mP
        have hiI : (i1 : Int) + 1 = (i : Int) := by have := hi1'.out; omega
        rw [hiI] at mP
        clear hiI
        replace mE := (show Hid _ from mE)
        replace mT := (show Hid _ from mT)
        replace mK := (show Hid _ from mK)
        replace mP := (show Hid _ from mP)
        generalize X i1 = x at *
        generalize Y j1 = y at *
        generalize D i1 j1 = F1 at *
        generalize D i1 j = F2 at *
        generalize D i j1 = F3 at *
        by_cases hxy : x = y
        · have hqs : Hid (es ++ edE X Y i1 j1 = E) := by show _ = _; rw [← mE.out hxy]; exact hq.out
          subst hxy
          clear hq mE mT mK mP k1 k2 k3 f1 f2 f4 f5 f6 f7
          go_wp2
          go_quiet (fail)
          go_wp2
          go_roundw
          case rel => exact ⟨i1, j1, es, g, cap, by omega, by omega, rfl, rfl, rfl, ho.out, hqs, kb.trans (Below.mono (show Below wr.heap.size wr (wr.drewN nq) from ⟨rfl, rfl, rfl, Nat.le_refl _, fun _ _ => rfl⟩) kb.size), hT, hgG, hGl⟩
          case measure => simp [intOf]; have := hi1'.out; have := hj1'.out; omega
        · by_cases h12 : F1 ≤ F2
          · by_cases h13 : F1 ≤ F3
            · have hct := And.intro h12 h13
              have hqs : es ++ (3, (i1 : Int), y) :: edE X Y i1 j1 = E := by rw [← mT.out hxy ⟨h12, h13⟩]; exact hq.out
              clear mE mT mK mP
              go_wp2
              go_quiet (fail)
              have hq2 : Hid ((es ++ [(3, (i1 : Int), y)]) ++ edE X Y i1 j1 = E) := by show _ = _; rw [List.append_assoc]; exact hqs
              have hsz := OwnE.lt ho.out
              have hes : es.length ≤ 200 := by have := congrArg List.length hqs; rw [List.length_append] at this; omega
              have hoP : OwnE (wr.drewN nq) w.heap.size g cap es := ho.out
              have kbP : Below w.heap.size w (wr.drewN nq) := kb.trans (Below.mono (show Below wr.heap.size wr (wr.drewN nq) from ⟨rfl, rfl, rfl, Nat.le_refl _, fun _ _ => rfl⟩) kb.size)
              clear hq hqs
              go_wp2_with (at_builtin; refine append_ed (w := wr.drewN nq) rfl _ _ rfl w.heap.size g cap es hes (by rfl) hoP 3 ((i1 : Int)) (y) (by rfl) kb.size ?_; intro g2 cap2 w2 ho2 hg2 hat)
              have kb2 := kbP.grown hg2 kb.size (fun k e => by injection e with e; omega)
              have hT2 : Hid (∀ i' j', i' ≤ m → j' ≤ n → w2.cell? ⟨G, i' * W + j', none⟩ = some (.int .i64 (D i' j'))) := fun i' j' h1 h2 => by
                rw [← hT.out i' j' h1 h2]
                exact World.cell?_of_block (w := wr) (a := ⟨G, i' * W + j', none⟩) (hg2.block G hGl (fun e => by injection e with e; omega))
              have hGl2 : G < w2.heap.size := Nat.lt_of_lt_of_le hGl hg2.size
              have hgG2 : ¬ g2 = G := by
                rcases hat with e | e
                · rw [e]; exact hgG
                · have e2 : g2 = wr.heap.size + 1 := e
                  omega
              replace ho2 := (show Hid _ from ho2)
              clear hoP ho hg2 hat hT kb kbP hsz
              go_wp2
              go_roundw
              case rel => exact ⟨i1, j1, es ++ [(3, (i1 : Int), y)], g2, cap2, by omega, by omega, rfl, rfl, by rw [List.length_append]; rfl, ho2.out, hq2, kb2, hT2, hgG2, hGl2⟩
              case measure => simp [intOf]; have := hi1'.out; have := hj1'.out; omega
            · have h23 : ¬ F2 ≤ F3 := by omega
              have hqs : es ++ (2, (i : Int), y) :: edE X Y i j1 = E := by rw [← mP.out hxy (fun h => h13 h.2) h23]; exact hq.out
              clear mE mT mK mP
              go_wp2
              go_quiet (fail)
              have hq2 : Hid ((es ++ [(2, (i : Int), y)]) ++ edE X Y i j1 = E) := by show _ = _; rw [List.append_assoc]; exact hqs
              have hsz := OwnE.lt ho.out
              have hes : es.length ≤ 200 := by have := congrArg List.length hqs; rw [List.length_append] at this; omega
              have hoP : OwnE (wr.drewN nq) w.heap.size g cap es := ho.out
              have kbP : Below w.heap.size w (wr.drewN nq) := kb.trans (Below.mono (show Below wr.heap.size wr (wr.drewN nq) from ⟨rfl, rfl, rfl, Nat.le_refl _, fun _ _ => rfl⟩) kb.size)
              clear hq hqs
              go_wp2_with (at_builtin; refine append_ed (w := wr.drewN nq) rfl _ _ rfl w.heap.size g cap es hes (by rfl) hoP 2 ((i : Int)) (y) (by rfl) kb.size ?_; intro g2 cap2 w2 ho2 hg2 hat)
              have kb2 := kbP.grown hg2 kb.size (fun k e => by injection e with e; omega)
              have hT2 : Hid (∀ i' j', i' ≤ m → j' ≤ n → w2.cell? ⟨G, i' * W + j', none⟩ = some (.int .i64 (D i' j'))) := fun i' j' h1 h2 => by
                rw [← hT.out i' j' h1 h2]
                exact World.cell?_of_block (w := wr) (a := ⟨G, i' * W + j', none⟩) (hg2.block G hGl (fun e => by injection e with e; omega))
              have hGl2 : G < w2.heap.size := Nat.lt_of_lt_of_le hGl hg2.size
              have hgG2 : ¬ g2 = G := by
                rcases hat with e | e
                · rw [e]; exact hgG
                · have e2 : g2 = wr.heap.size + 1 := e
                  omega
              replace ho2 := (show Hid _ from ho2)
              clear hoP ho hg2 hat hT kb kbP hsz
              go_wp2
              go_roundw
              case rel => exact ⟨i, j1, es ++ [(2, (i : Int), y)], g2, cap2, by omega, by omega, rfl, rfl, by rw [List.length_append]; rfl, ho2.out, hq2, kb2, hT2, hgG2, hGl2⟩
              case measure => simp [intOf]; have := hi1'.out; have := hj1'.out; omega
          · by_cases h23 : F2 ≤ F3
            · have hct := h12
              have hqs : es ++ (1, (i1 : Int), 0) :: edE X Y i1 j = E := by rw [← mK.out hxy (fun h => h12 h.1) h23]; exact hq.out
              clear mE mT mK mP
              go_wp2
              go_quiet (fail)
              have hq2 : Hid ((es ++ [(1, (i1 : Int), 0)]) ++ edE X Y i1 j = E) := by show _ = _; rw [List.append_assoc]; exact hqs
              have hsz := OwnE.lt ho.out
              have hes : es.length ≤ 200 := by have := congrArg List.length hqs; rw [List.length_append] at this; omega
              have hoP : OwnE (wr.drewN nq) w.heap.size g cap es := ho.out
              have kbP : Below w.heap.size w (wr.drewN nq) := kb.trans (Below.mono (show Below wr.heap.size wr (wr.drewN nq) from ⟨rfl, rfl, rfl, Nat.le_refl _, fun _ _ => rfl⟩) kb.size)
              clear hq hqs
              go_wp2_with (at_builtin; refine append_ed (w := wr.drewN nq) rfl _ _ rfl w.heap.size g cap es hes (by rfl) hoP 1 ((i1 : Int)) (0) (by rfl) kb.size ?_; intro g2 cap2 w2 ho2 hg2 hat)
              have kb2 := kbP.grown hg2 kb.size (fun k e => by injection e with e; omega)
              have hT2 : Hid (∀ i' j', i' ≤ m → j' ≤ n → w2.cell? ⟨G, i' * W + j', none⟩ = some (.int .i64 (D i' j'))) := fun i' j' h1 h2 => by
                rw [← hT.out i' j' h1 h2]
                exact World.cell?_of_block (w := wr) (a := ⟨G, i' * W + j', none⟩) (hg2.block G hGl (fun e => by injection e with e; omega))
              have hGl2 : G < w2.heap.size := Nat.lt_of_lt_of_le hGl hg2.size
              have hgG2 : ¬ g2 = G := by
                rcases hat with e | e
                · rw [e]; exact hgG
                · have e2 : g2 = wr.heap.size + 1 := e
                  omega
              replace ho2 := (show Hid _ from ho2)
              clear hoP ho hg2 hat hT kb kbP hsz
              go_wp2
              go_roundw
              case rel => exact ⟨i1, j, es ++ [(1, (i1 : Int), 0)], g2, cap2, by omega, by omega, rfl, rfl, by rw [List.length_append]; rfl, ho2.out, hq2, kb2, hT2, hgG2, hGl2⟩
              case measure => simp [intOf]; have := hi1'.out; have := hj1'.out; omega
            · have hct := h12
              have hqs : es ++ (2, (i : Int), y) :: edE X Y i j1 = E := by rw [← mP.out hxy (fun h => h12 h.1) h23]; exact hq.out
              clear mE mT mK mP
              go_wp2
              go_quiet (fail)
              have hq2 : Hid ((es ++ [(2, (i : Int), y)]) ++ edE X Y i j1 = E) := by show _ = _; rw [List.append_assoc]; exact hqs
              have hsz := OwnE.lt ho.out
              have hes : es.length ≤ 200 := by have := congrArg List.length hqs; rw [List.length_append] at this; omega
              have hoP : OwnE (wr.drewN nq) w.heap.size g cap es := ho.out
              have kbP : Below w.heap.size w (wr.drewN nq) := kb.trans (Below.mono (show Below wr.heap.size wr (wr.drewN nq) from ⟨rfl, rfl, rfl, Nat.le_refl _, fun _ _ => rfl⟩) kb.size)
              clear hq hqs
              go_wp2_with (at_builtin; refine append_ed (w := wr.drewN nq) rfl _ _ rfl w.heap.size g cap es hes (by rfl) hoP 2 ((i : Int)) (y) (by rfl) kb.size ?_; intro g2 cap2 w2 ho2 hg2 hat)
              have kb2 := kbP.grown hg2 kb.size (fun k e => by injection e with e; omega)
              have hT2 : Hid (∀ i' j', i' ≤ m → j' ≤ n → w2.cell? ⟨G, i' * W + j', none⟩ = some (.int .i64 (D i' j'))) := fun i' j' h1 h2 => by
                rw [← hT.out i' j' h1 h2]
                exact World.cell?_of_block (w := wr) (a := ⟨G, i' * W + j', none⟩) (hg2.block G hGl (fun e => by injection e with e; omega))
              have hGl2 : G < w2.heap.size := Nat.lt_of_lt_of_le hGl hg2.size
              have hgG2 : ¬ g2 = G := by
                rcases hat with e | e
                · rw [e]; exact hgG
                · have e2 : g2 = wr.heap.size + 1 := e
                  omega
              replace ho2 := (show Hid _ from ho2)
              clear hoP ho hg2 hat hT kb kbP hsz
              go_wp2
              go_roundw
              case rel => exact ⟨i, j1, es ++ [(2, (i : Int), y)], g2, cap2, by omega, by omega, rfl, rfl, by rw [List.length_append]; rfl, ho2.out, hq2, kb2, hT2, hgG2, hGl2⟩
              case measure => simp [intOf]; have := hi1'.out; have := hj1'.out; omega
end Go.Proofs.Ytdahcdgefflkaaa
namespace Go.Proofs.Ytdahcdgefflkaaa
open Go.ChangeShapes Go.WideShapes Go.ChangeAt Go.RowKit
theorem mid_alloc (w : World) (o1 o3 : Obj) (cs : Array Value) (t : TypeId) : (((w.alloc o1).alloc (Obj.cells cs t)).alloc o3).heap[w.heap.size + 1]? = some (.cells cs t (0, 0)) := by
  have h1 := heap_alloc_new (w.alloc o1) (Obj.cells cs t)
  have hz : (w.alloc o1).heap.size = w.heap.size + 1 := by simp
  rw [hz] at h1
  rw [← h1]
  exact (bal' ((w.alloc o1).alloc (Obj.cells cs t)) o3).block _ (by simp)
theorem three_below (w : World) (o1 o2 o3 : Obj) : Below w.heap.size w (((w.alloc o1).alloc o2).alloc o3) :=
  (((Below.refl _ _).alloc (Nat.le_refl _) o1).alloc (by simp) o2).alloc (by simp; omega) o3
theorem info_e3 : (Try.prog.info? 62).map (·.size) = some 3 := by kernel_rfl
set_option maxHeartbeats 1000000 in
set_option maxRecDepth 20000 in
theorem edit_any (B : Nat) (va vb vw : Value) (L : Int) (R : Nat → Nat → Int) (ys : List Int) (w : World) (h : RtB w B va vb vw L R) (hb : SlI w vb ys) (hy : ys.length ≤ 40) (kd : Int) (fa fb i j : Nat) (hfa : fa ≤ i) (hfb : fb ≤ 1 ∧ fb ≤ j) (hi : i ≤ 40) (hj : j ≤ ys.length) :
    Calls Try.prog 57 #[.pointer (some ⟨B, 0, none⟩), .agg #[.int .i64 kd, .int .i64 fa, .int .i64 fb], .int .i64 i, .int .i64 j] w fun e w' => e = .returned (.agg #[.int .i64 kd, .int .i64 ((i - fa : Nat) : Int), .int .i64 (if fb = 0 then 0 else ys.getD (j - 1) 0)]) ∧ Below w.heap.size w w' := by
  have hlt := h.lt
  obtain ⟨p, hp⟩ : ∃ p, Hid (i - fa = p) := ⟨_, rfl⟩
  rw [hp.out]
  have e1 : IntKind.i64.wrap ((i : Int) - (fa : Int)) = (p : Int) := wid (by have := hp.out; omega) (by omega) (by omega)
  obtain ⟨_, q1, _, _⟩ := h.cells
  by_cases h0 : fb = 0
  · subst h0
    rw [if_pos rfl]
    clear h hb
    go_enter Try.func57, Try.ntmps57
    go_wp2
    exact bodyPost_ret (v := .agg #[.int .i64 kd, .int .i64 p, .int .i64 0]) (results_cell_row Try.results57 _ _ (w.heap.size + 1) 62 _ _ _ rfl (mid_alloc w _ _ _ _) Try.underlying62 rfl info_e3) rfl ⟨rfl, three_below w _ _ _⟩
  · obtain rfl : fb = 1 := by omega
    rw [if_neg h0]
    obtain ⟨j1, hj1'⟩ : ∃ j1, Hid (j = j1 + 1) := ⟨j - 1, by show j = j - 1 + 1; omega⟩
    have e8 : IntKind.i64.wrap ((j : Int) - 1) = (j1 : Int) := wid (by have := hj1'.out; omega) (by omega) (by omega)
    rw [show j - 1 = j1 by have := hj1'.out; omega]
    have hjm : j1 < ys.length := by have := hj1'.out; omega
    obtain ⟨a', c', rfl, hcb⟩ := hb
    rcases hcb with h | ⟨b', off', rfl, hbb', hs2⟩
    · exfalso; rw [h] at hjm; simp at hjm
    have c2 := hs2 j1 hjm
    generalize ys.length = n at *
    generalize ys.getD j1 0 = y at *
    have l1 : B < w.heap.size + 1 := by omega
    have l2 : B < w.heap.size + 1 + 1 := by omega
    have l3 : b' < w.heap.size + 1 := by omega
    have l4 : b' < w.heap.size + 1 + 1 := by omega
    clear hs2 h h0
    go_enter Try.func57, Try.ntmps57
    go_wp2
    exact bodyPost_ret (v := .agg #[.int .i64 kd, .int .i64 p, .int .i64 y]) (results_cell_row Try.results57 _ _ (w.heap.size + 1) 62 _ _ _ rfl (mid_alloc w _ _ _ _) Try.underlying62 rfl info_e3) rfl ⟨rfl, three_below w _ _ _⟩
end Go.Proofs.Ytdahcdgefflkaaa
namespace Go.Proofs.Ytdahcdgefflkaaa
/-- The three ways: a step's kind, and how many numbers fewer it leaves. -/
def wayN (k : Nat) : Int × Nat × Nat := match k with
  | 0 => (3, 1, 1)
  | 1 => (1, 1, 0)
  | _ => (2, 0, 1)
/-- Way k leads on. -/
def choN (x y : Nat → Int) (i j k : Nat) : Prop := (wayN k).2.1 ≤ i ∧ (wayN k).2.2 ≤ j ∧ edD true x y (i - (wayN k).2.1) (j - (wayN k).2.2) < edD true x y i j
theorem edE_way (x y : Nat → Int) (i j k : Nat) (hk : k < 3) (hne : ∀ i1 j1, i = i1 + 1 → j = j1 + 1 → ¬ x i1 = y j1) (hc : choN x y i j k) (hmin : ∀ k', k' < k → ¬ choN x y i j k') :
    edE x y i j = ((wayN k).1, ((i - (wayN k).2.1 : Nat) : Int), if (wayN k).2.2 = 0 then 0 else y (j - 1)) :: edE x y (i - (wayN k).2.1) (j - (wayN k).2.2) := by
  match k, hk with
  | 0, _ =>
    obtain ⟨h1, h2, h3⟩ := hc
    simp only [wayN] at h1 h2 h3 ⊢
    obtain ⟨i1, rfl⟩ : ∃ i1, i = i1 + 1 := ⟨i - 1, by omega⟩
    obtain ⟨j1, rfl⟩ : ∃ j1, j = j1 + 1 := ⟨j - 1, by omega⟩
    rw [Nat.add_sub_cancel, Nat.add_sub_cancel] at h3 ⊢
    have hn := hne i1 j1 rfl rfl
    rw [edE_turn x y i1 j1 hn ((edD_less x y i1 j1 hn).1.1 h3)]
    rfl
  | 1, _ =>
    obtain ⟨h1, h2, h3⟩ := hc
    have h0 := hmin 0 (by omega)
    simp only [choN, wayN] at h0 h1 h2 h3 ⊢
    obtain ⟨i1, rfl⟩ : ∃ i1, i = i1 + 1 := ⟨i - 1, by omega⟩
    rw [Nat.add_sub_cancel, Nat.sub_zero] at *
    cases j with
    | zero => rw [edE_i0]; rfl
    | succ j1 =>
      have hn := hne i1 j1 rfl rfl
      have hl := edD_less x y i1 j1 hn
      have h5 : ¬ (edD true x y i1 j1 ≤ edD true x y i1 (j1 + 1) ∧ edD true x y i1 j1 ≤ edD true x y (i1 + 1) j1) := fun q => h0 ⟨by omega, by omega, by rw [Nat.add_sub_cancel]; exact hl.1.2 q⟩
      rw [edE_take x y i1 j1 hn h5 ((hl.2.1 h5).1 h3)]
      rfl
  | 2, _ =>
    obtain ⟨h1, h2, h3⟩ := hc
    have h0 := hmin 0 (by omega)
    have h4 := hmin 1 (by omega)
    simp only [choN, wayN] at h0 h1 h2 h3 h4 ⊢
    obtain ⟨j1, rfl⟩ : ∃ j1, j = j1 + 1 := ⟨j - 1, by omega⟩
    rw [Nat.add_sub_cancel, Nat.sub_zero] at *
    cases i with
    | zero => rw [edE_0j]; rfl
    | succ i1 =>
      have hn := hne i1 j1 rfl rfl
      have hl := edD_less x y i1 j1 hn
      have h5 : ¬ (edD true x y i1 j1 ≤ edD true x y i1 (j1 + 1) ∧ edD true x y i1 j1 ≤ edD true x y (i1 + 1) j1) := fun q => h0 ⟨by omega, by omega, by rw [Nat.add_sub_cancel]; exact hl.1.2 q⟩
      have h6 : ¬ edD true x y i1 (j1 + 1) ≤ edD true x y (i1 + 1) j1 := fun q => h4 ⟨by omega, by omega, by rw [Nat.add_sub_cancel]; exact (hl.2.1 h5).2 q⟩
      rw [edE_put x y i1 j1 hn h5 h6]
      rfl
theorem edE_some (x y : Nat → Int) (i j : Nat) (h : 0 < i ∨ 0 < j) (hne : ∀ i1 j1, i = i1 + 1 → j = j1 + 1 → ¬ x i1 = y j1) (hn : ∀ k, k < 3 → ¬ choN x y i j k) : False := by
  have h0 := hn 0 (by omega)
  have h1 := hn 1 (by omega)
  have h2 := hn 2 (by omega)
  simp only [choN, wayN] at h0 h1 h2
  cases i with
  | zero =>
    cases j with
    | zero => omega
    | succ j1 => exact h2 ⟨by omega, by omega, by rw [edD_0, edD_0]; omega⟩
  | succ i1 =>
    cases j with
    | zero => exact h1 ⟨by omega, by omega, by rw [edD_i0, edD_i0]; omega⟩
    | succ j1 =>
      have hq := hne i1 j1 rfl rfl
      have hl := edD_less x y i1 j1 hq
      rw [Nat.add_sub_cancel, Nat.add_sub_cancel] at h0
      rw [Nat.add_sub_cancel, Nat.sub_zero] at h1 h2
      by_cases c1 : edD true x y i1 j1 ≤ edD true x y i1 (j1 + 1) ∧ edD true x y i1 j1 ≤ edD true x y (i1 + 1) j1
      · exact h0 ⟨by omega, by omega, hl.1.2 c1⟩
      · by_cases c2 : edD true x y i1 (j1 + 1) ≤ edD true x y (i1 + 1) j1
        · exact h1 ⟨by omega, by omega, (hl.2.1 c1).2 c2⟩
        · exact h2 ⟨by omega, by omega, hl.2.2 c1 c2⟩
end Go.Proofs.Ytdahcdgefflkaaa
namespace Go.Proofs.Ytdahcdgefflkaaa
open Go.ChangeShapes Go.WideShapes Go.ChangeAt Go.RowKit
theorem wayN_is (k : Nat) (h : k < 3) : (waysL true).getD k (0, 0, 0) = wayN k := by
  match k, h with
  | 0, _ => rfl
  | 1, _ => rfl
  | 2, _ => rfl
theorem wayN_bd (k : Nat) : (wayN k).2.1 ≤ 1 ∧ (wayN k).2.2 ≤ 1 ∧ (0 < (wayN k).2.1 ∨ 0 < (wayN k).2.2) := by
  unfold wayN; split <;> decide
set_option maxHeartbeats 8000000 in
set_option maxRecDepth 20000 in
theorem edits_any (B : Nat) (va vb vw : Value) (L : Int) (R : Nat → Nat → Int) (xs ys : List Int) (w : World) (hR : RtB w B va vb vw L R) (ha : SlI w va xs) (hb : SlI w vb ys) (hw : WyS w vw (waysL true)) (hx : xs.length ≤ 40) (hy : ys.length ≤ 40) (hL : 0 ≤ L ∧ L < 160)
    (hF : ∀ i j, i ≤ xs.length → j ≤ ys.length → R i j = edC L (edD true (fun k => xs.getD k 0) (fun k => ys.getD k 0) i j)) (hle : edD true (fun k => xs.getD k 0) (fun k => ys.getD k 0) xs.length ys.length ≤ L) :
    Calls Try.prog 42 #[.pointer (some ⟨B, 0, none⟩)] w fun e w' => ∃ g cap, e = .returned (.slice (some ⟨g, 0, none⟩) (edE (fun k => xs.getD k 0) (fun k => ys.getD k 0) xs.length ys.length).length cap) ∧ OwnE w' w.heap.size g cap (edE (fun k => xs.getD k 0) (fun k => ys.getD k 0) xs.length ys.length) ∧ Below w.heap.size w w' := by
  have hBl := hR.lt
  have hal := fun W (k : Below w.heap.size w W) i j (hi : i ≤ xs.length) (hj : j ≤ ys.length) => alike_any B va vb vw L R xs ys W (hR.below k) (ha.below k) (hb.below k) hx hy i j hi hj
  have hed := fun W (k : Below w.heap.size w W) kd fa fb i j h1 h2 h3 h4 => edit_any B va vb vw L R ys W (hR.below k) (hb.below k) hy kd fa fb i j h1 h2 h3 h4
  have hlenE := edE_len (fun k => xs.getD k 0) (fun k => ys.getD k 0) xs.length ys.length
  have hbdE := edD_bd true (fun k => xs.getD k 0) (fun k => ys.getD k 0)
  have hway := edE_way (fun k => xs.getD k 0) (fun k => ys.getD k 0)
  have hsome := edE_some (fun k => xs.getD k 0) (fun k => ys.getD k 0)
  have hEq := edE_eq (fun k => xs.getD k 0) (fun k => ys.getD k 0)
  have hDq := edD_eq true (fun k => xs.getD k 0) (fun k => ys.getD k 0)
  have hcho : ∀ i j k, choN (fun k => xs.getD k 0) (fun k => ys.getD k 0) i j k ↔ ((wayN k).2.1 ≤ i ∧ (wayN k).2.2 ≤ j ∧ edD true (fun k => xs.getD k 0) (fun k => ys.getD k 0) (i - (wayN k).2.1) (j - (wayN k).2.2) < edD true (fun k => xs.getD k 0) (fun k => ys.getD k 0) i j) := fun _ _ _ => Iff.rfl
  obtain ⟨CH, hCH⟩ : ∃ CH, Hid (CH = choN (fun k => xs.getD k 0) (fun k => ys.getD k 0)) := ⟨_, rfl⟩
  rw [← hCH.out] at hway hsome hcho
  obtain ⟨D, hD⟩ : ∃ D, Hid (D = edD true (fun k => xs.getD k 0) (fun k => ys.getD k 0)) := ⟨_, rfl⟩
  rw [← hD.out] at hlenE hbdE hF hle hcho hDq
  obtain ⟨EE, hEE⟩ : ∃ EE, Hid (EE = edE (fun k => xs.getD k 0) (fun k => ys.getD k 0)) := ⟨_, rfl⟩
  rw [← hEE.out] at hlenE hway hEq ⊢
  have hE0 : EE 0 0 = [] := by rw [hEE.out, edE_00]
  have hE80 : (EE xs.length ys.length).length ≤ 80 := by have := (hbdE xs.length ys.length).2; omega
  obtain ⟨E, hE⟩ : ∃ E, Hid (E = EE xs.length ys.length) := ⟨_, rfl⟩
  rw [← hE.out] at hE80 ⊢
  obtain ⟨a, c, hva, _⟩ := id ha
  obtain ⟨a', c', hvb, _⟩ := id hb
  obtain ⟨V, cw, hvw, hVl, hVc⟩ := id hw
  subst hva; subst hvb; subst hvw
  have hVc2 : ∀ k, k < 3 → ∀ W, Below w.heap.size w W → W.cell? ⟨V, k * 3, none⟩ = some (.int .i64 (wayN k).1) ∧ W.cell? ⟨V, k * 3 + 1, none⟩ = some (.int .i64 ((wayN k).2.1 : Nat)) ∧ W.cell? ⟨V, k * 3 + 2, none⟩ = some (.int .i64 ((wayN k).2.2 : Nat)) := fun k hk W hb => by
    have e : ∀ q, W.cell? ⟨V, q, none⟩ = w.cell? ⟨V, q, none⟩ := fun q => hb.cell (p := ⟨V, q, none⟩) hVl
    rw [e, e, e, ← wayN_is k hk]
    exact hVc k hk
  have hnw : (waysL true).length = 3 := rfl
  rw [hnw] at *
  have hRc := fun W (k : Below w.heap.size w W) => (hR.below k).cells
  have hRa := fun W (k : Below w.heap.size w W) i j (hi : i ≤ 40) (hj : j ≤ 40) => (hR.below k).at i j hi hj
  have hAl : ∀ i j, alikeB xs ys i j = true → ∃ i1 j1, i = i1 + 1 ∧ j = j1 + 1 ∧ EE i j = EE i1 j1 ∧ D i j = D i1 j1 := fun i j h => by
    have h := of_decide_eq_true h
    refine ⟨i - 1, j - 1, by omega, by omega, ?_, ?_⟩
    · have := hEq (i - 1) (j - 1) h.2.2
      rwa [show i - 1 + 1 = i by omega, show j - 1 + 1 = j by omega] at this
    · have := hDq (i - 1) (j - 1) h.2.2
      rwa [show i - 1 + 1 = i by omega, show j - 1 + 1 = j by omega] at this
  have hNal : ∀ i j, alikeB xs ys i j = false → ∀ i1 j1, i = i1 + 1 → j = j1 + 1 → ¬ xs.getD i1 0 = ys.getD j1 0 := fun i j h i1 j1 e1 e2 q => by
    have h := of_decide_eq_false h
    subst e1; subst e2
    exact h ⟨by omega, by omega, by simpa using q⟩
  obtain ⟨m, hm⟩ : ∃ m, Hid (m = xs.length) := ⟨_, rfl⟩
  obtain ⟨n, hn⟩ : ∃ n, Hid (n = ys.length) := ⟨_, rfl⟩
  rw [← hm.out] at hx hF hle hal hE hRc
  rw [← hn.out] at hy hF hle hal hE hRc hed
  clear ha hb hw hR hVc hEq hDq hlenE
  replace hal := (show Hid _ from hal)
  replace hed := (show Hid _ from hed)
  replace hbdE := (show Hid _ from hbdE)
  replace hway := (show Hid _ from hway)
  replace hsome := (show Hid _ from hsome)
  replace hcho := (show Hid _ from hcho)
  replace hF := (show Hid _ from hF)
  replace hVc2 := (show Hid _ from hVc2)
  replace hRc := (show Hid _ from hRc)
  replace hRa := (show Hid _ from hRa)
  replace hAl := (show Hid _ from hAl)
  replace hNal := (show Hid _ from hNal)
  replace hE0 := (show Hid _ from hE0)
  have ho0 : OwnE (w.alloc (Obj.cells #[] 62)) w.heap.size w.heap.size 0 [] := World.ownsRow_lit (base := w.heap.size) (e := 62) (size := 3) w #[] 0 (Nat.le_refl _) (Nat.zero_le _) rfl
  have hbl := bal' w (Obj.cells #[] 62)
  obtain ⟨w0, hw0⟩ : ∃ w0, Hid (w0 = w.alloc (Obj.cells #[] 62)) := ⟨_, rfl⟩
  rw [← hw0.out] at ho0 hbl
  have c0 := (hRc.out w0 hbl).1
  have c1 := (hRc.out w0 hbl).2.1
  replace ho0 := (show Hid _ from ho0)
  replace hbl := (show Hid _ from hbl)
  go_enter Try.func42, Try.ntmps42
  go_wp2
  refine wp_scope_straight ?_
  refine wp_seq_k (fun K hK => ?_)
  have hH := (show Hid _ from hK)
  clear hK
  go_wp2
  refine hH.out _ _ ?_
  rw [← hw0.out]
  clear hH
  go_wp2
  go_quiet (fail)
  have kb0 : Below w.heap.size w (w0.drewN nq) := hbl.out.trans (Below.mono (show Below w0.heap.size w0 (w0.drewN nq) from ⟨rfl, rfl, rfl, Nat.le_refl _, fun _ _ => rfl⟩) hbl.out.size)
  have ho1 : OwnE (w0.drewN nq) w.heap.size w.heap.size 0 [] := ho0.out
  clear c0 c1 ho0 hbl hw0
  generalize w0.drewN nq = w1 at *
  replace ho1 := (show Hid _ from ho1)
  go_wp2
  refine wp_label ?_
  go_wp2
  try simp only [Act.put]
  go_loopw [3, 4, 5, 7, 38] (fun ov iv jv _ _ wr => ∃ (i j : Nat) (es : List (Int × Int × Int)) (g cap : Nat), i ≤ m ∧ j ≤ n ∧ iv = .int .i64 i ∧ jv = .int .i64 j ∧ ov = .slice (some ⟨g, 0, none⟩) es.length cap ∧ OwnE wr w.heap.size g cap es ∧ Hid (es ++ EE i j = E) ∧ Below w.heap.size w wr ∧ D i j ≤ L) (fun _ iv jv _ _ _ => (intOf iv).toNat + (intOf jv).toNat)
  case atStart => exact ⟨m, n, [], w.heap.size, 0, Nat.le_refl _, Nat.le_refl _, rfl, rfl, rfl, ho1.out, by show _ = _; rw [List.nil_append]; exact hE.out.symm, kb0, hle⟩
  case round =>
    obtain ⟨i, j, es, g, cap, hi, hj, rfl, rfl, rfl, ho, hq, kb, hDL⟩ := hrel
    clear ho1 kb0
    replace ho := (show Hid _ from ho)
    replace hDL := (show Hid _ from hDL)
    by_cases h00 : i = 0 ∧ j = 0
    · obtain ⟨rfl, rfl⟩ := h00
      have hes : es = E := by have := hq.out; rw [hE0.out, List.append_nil] at this; exact this
      subst hes
      go_wp2
      rw [Exit.noGoto_ret]
      go_ret
      exact ⟨_, _, rfl, ho.out, kb⟩
    have hpos : 0 < i ∨ 0 < j := by omega
    replace hpos := (show Hid _ from hpos)
    rcases (show decide (0 < i) = true ∨ (decide (0 < i) = false ∧ decide (0 < j) = true) from by
      by_cases q : 0 < i
      · exact .inl (decide_eq_true q)
      · exact .inr ⟨decide_eq_false q, decide_eq_true (by omega)⟩) with q1 | ⟨q1, q2⟩
    · clear h00
      by_cases hA : alikeB xs ys i j = true
      · obtain ⟨i1, j1, hi1, hj1, hEq, hDq⟩ := hAl.out i j hA
        have hcal := hal.out wr kb i j hi hj
        rw [hA] at hcal
        replace hi1 := (show Hid _ from hi1)
        replace hj1 := (show Hid _ from hj1)
        have e3 : IntKind.i64.wrap ((i : Int) - 1) = (i1 : Int) := wid (by have := hi1.out; omega) (by omega) (by omega)
        have e8 : IntKind.i64.wrap ((j : Int) - 1) = (j1 : Int) := wid (by have := hj1.out; omega) (by omega) (by omega)
        have hq2 : Hid (es ++ EE i1 j1 = E) := by show _ = _; rw [← hEq]; exact hq.out
        have hDL2 : Hid (D i1 j1 ≤ L) := by show _ ≤ _; rw [← hDq]; exact hDL.out
        clear hEq hDq hA
        go_wp2_with fail
        refine hcal.mono ?_
        rintro e w2 ⟨rfl, hb2⟩
        have ho2 : Hid (OwnE w2 w.heap.size g cap es) := World.ownsRow.kept ho.out (Below.gr hb2 none) (.inr (by simp [Value.ownBlock]))
        have kb2 := kb.trans (hb2.mono kb.size)
        clear hcal hb2
        go_wp2
        go_roundw
        case rel => exact ⟨i1, j1, es, g, cap, by have := hi1.out; omega, by have := hj1.out; omega, rfl, rfl, rfl, ho2.out, hq2, kb2, hDL2.out⟩
        case measure => simp [intOf]; have := hi1.out; have := hj1.out; omega
      have hA : alikeB xs ys i j = false := by simpa using hA
      have hne := hNal.out i j hA
      have hcal := hal.out wr kb i j hi hj
      rw [hA] at hcal
      replace hne := (show Hid _ from hne)
      clear hA
      go_wp2_with fail
      refine hcal.mono ?_
      rintro e w2 ⟨rfl, hb2⟩
      have ho2 : Hid (OwnE w2 w.heap.size g cap es) := World.ownsRow.kept ho.out (Below.gr hb2 none) (.inr (by simp [Value.ownBlock]))
      have kb2 := kb.trans (hb2.mono kb.size)
      have hgl := (OwnE.lt ho2.out).2
      have c2 := (hRc.out w2 kb2).2.2.1
      clear hcal hb2 ho kb
      go_wp2
      go_loopw [3, 4, 5, 7, 38] (fun ov iv jv _ kv wr => ∃ k : Nat, k ≤ 3 ∧ kv = .int .i64 k ∧ ov = .slice (some ⟨g, 0, none⟩) es.length cap ∧ iv = .int .i64 i ∧ jv = .int .i64 j ∧ Hid (∀ k', k' < k → ¬ CH i j k') ∧ Below w2.heap.size w2 wr) (fun _ _ _ _ kv _ => 3 - (intOf kv).toNat)
      case atStart => exact ⟨0, by omega, rfl, rfl, rfl, rfl, fun k' h => absurd h (Nat.not_lt_zero _), Below.refl _ _⟩
      case round =>
        obtain ⟨k, hk, rfl, rfl, rfl, rfl, hmin, k3⟩ := hrel
        by_cases hk3 : k < 3
        · have kbr := kb2.trans (k3.mono kb2.size)
          obtain ⟨v0, v1, v2⟩ := hVc2.out k hk3 wr kbr
          obtain ⟨b1, b2, b3⟩ := wayN_bd k
          have hch := hcho.out i j k
          have hwk := fun (hc : CH i j k) => hway.out i j k hk3 hne.out hc hmin.out
          have hnext : (¬ CH i j k) → Hid (∀ k', k' < k + 1 → ¬ CH i j k') := fun h k' h1 => by
            by_cases e : k' = k
            · rw [e]; exact h
            · exact hmin.out k' (by omega)
          generalize wayN k = wk at v0 v1 v2 b1 b2 b3 hch hwk
          obtain ⟨kd, fa, fb⟩ := wk
          dsimp only at v0 v1 v2 b1 b2 b3 hch hwk
          have hki : (k : Int) < 3 := by omega
          have hal1 := bal' wr (Obj.cells #[.int .i64 kd, .int .i64 fa, .int .i64 fb] 54)
          have hbx : BlkC (wr.alloc (Obj.cells #[.int .i64 kd, .int .i64 fa, .int .i64 fb] 54)) wr.heap.size 54 [.int .i64 kd, .int .i64 fa, .int .i64 fb] := heap_alloc_new wr _
          have kW := kbr.trans (hal1.mono kbr.size)
          have kW2 := k3.trans (hal1.mono k3.size)
          have hsz2 := k3.size
          have hbc : ∀ W, Below (wr.alloc (Obj.cells #[.int .i64 kd, .int .i64 fa, .int .i64 fb] 54)).heap.size (wr.alloc (Obj.cells #[.int .i64 kd, .int .i64 fa, .int .i64 fb] 54)) W → W.cell? ⟨wr.heap.size, 0, none⟩ = some (.int .i64 kd) ∧ W.cell? ⟨wr.heap.size, 1, none⟩ = some (.int .i64 fa) ∧ W.cell? ⟨wr.heap.size, 2, none⟩ = some (.int .i64 fb) := fun W k => by
            have := BlkC.below hbx k
            exact ⟨cell_blk this 0, cell_blk this 1, cell_blk this 2⟩
          have hd0 : Below (wr.alloc (Obj.cells #[.int .i64 kd, .int .i64 fa, .int .i64 fb] 54)).heap.size (wr.alloc (Obj.cells #[.int .i64 kd, .int .i64 fa, .int .i64 fb] 54)) (wr.alloc (Obj.cells #[.int .i64 kd, .int .i64 fa, .int .i64 fb] 54)).drew := ⟨rfl, rfl, rfl, Nat.le_refl _, fun _ _ => rfl⟩
          have hVw : V < wr.heap.size := Nat.lt_of_lt_of_le hVl kbr.size
          replace hwk := (show Hid _ from hwk)
          replace hch := (show Hid _ from hch)
          replace hbc := (show Hid _ from hbc)
          replace hnext := (show Hid _ from hnext)
          replace kW := (show Hid _ from kW)
          replace kW2 := (show Hid _ from kW2)
          replace hd0 := (show Hid _ from hd0)
          clear hbx hal1
          by_cases hfit : fa ≤ i ∧ fb ≤ j
          · obtain ⟨hf0, hf1⟩ := hfit
            have hft := fun W => fits_any kd fa fb i j W
            simp only [decide_eq_true (And.intro hf0 hf1)] at hft
            obtain ⟨p, hp⟩ : ∃ p, Hid (i - fa = p) := ⟨_, rfl⟩
            obtain ⟨q, hqq⟩ : ∃ q, Hid (j - fb = q) := ⟨_, rfl⟩
            have hpi := hp.out
            have hqj := hqq.out
            have g1 : IntKind.i64.wrap ((i : Int) - (fa : Int)) = (p : Int) := wid (by omega) (by omega) (by omega)
            have g2 : IntKind.i64.wrap ((j : Int) - (fb : Int)) = (q : Int) := wid (by omega) (by omega) (by omega)
            have p41 : (p : Int) < 41 := by omega
            have q41 : (q : Int) < 41 := by omega
            have i41 : (i : Int) < 41 := by omega
            have j41 : (j : Int) < 41 := by omega
            obtain ⟨rp, hrp⟩ : ∃ rp, Hid (R p q = rp) := ⟨_, rfl⟩
            obtain ⟨rij, hrij⟩ : ∃ rij, Hid (R i j = rij) := ⟨_, rfl⟩
            have hRp : rp = edC L (D p q) := by rw [← hrp.out]; exact hF.out p q (by omega) (by omega)
            have hRij : rij = D i j := by rw [← hrij.out, hF.out i j hi hj]; unfold edC; exact if_pos hDL.out
            have hless := edC_less L (D i j) (D p q) hDL.out hL.2
            rw [← hRp, ← hRij] at hless
            have hcl : ∀ W, Below (wr.alloc (Obj.cells #[.int .i64 kd, .int .i64 fa, .int .i64 fb] 54)).heap.size (wr.alloc (Obj.cells #[.int .i64 kd, .int .i64 fa, .int .i64 fb] 54)) W → W.cell? ⟨wr.heap.size, 0, none⟩ = some (.int .i64 kd) ∧ W.cell? ⟨wr.heap.size, 1, none⟩ = some (.int .i64 fa) ∧ W.cell? ⟨wr.heap.size, 2, none⟩ = some (.int .i64 fb) ∧ W.cell? ⟨B, 4 + p * 41 + q, none⟩ = some (.int .i64 rp) ∧ W.cell? ⟨B, 4 + i * 41 + j, none⟩ = some (.int .i64 rij) := fun W k => by
              obtain ⟨z0, z1, z2⟩ := hbc.out W k
              have z3 := hRa.out W (kW.out.trans (k.mono kW.out.size)) p q (by omega) (by omega)
              have z4 := hRa.out W (kW.out.trans (k.mono kW.out.size)) i j (by omega) (by omega)
              rw [hrp.out] at z3
              rw [hrij.out] at z4
              exact ⟨z0, z1, z2, z3, z4⟩
            have hchk := hch.out
            rw [hpi, hqj, ← hRij] at hchk
            replace hcl := (show Hid _ from hcl)
            clear hpi hqj hRp
            by_cases hc : rp < rij
            · have hEk := hwk.out (hchk.2 ⟨hf0, hf1, hless.1 hc⟩)
              rw [hp.out, hqq.out] at hEk
              have hqs : es ++ (kd, (p : Int), if fb = 0 then 0 else ys.getD (j - 1) 0) :: EE p q = E := by rw [← hEk]; exact hq.out
              have hDL3 : Hid (D p q ≤ L) := by show _ ≤ _; have := hless.1 hc; have := hDL.out; omega
              clear hEk hchk hless hRij
              replace hqs := (show Hid _ from hqs)
              have hd := hd0.out
              go_wp2
              refine wp_region_noPanic ?_
              refine wp_region_held_drew (S := (fun W => W.cell? ⟨wr.heap.size, 0, none⟩ = some (.int .i64 kd) ∧ W.cell? ⟨wr.heap.size, 1, none⟩ = some (.int .i64 fa) ∧ W.cell? ⟨wr.heap.size, 2, none⟩ = some (.int .i64 fb) ∧ W.cell? ⟨B, 4 + p * 41 + q, none⟩ = some (.int .i64 rp) ∧ W.cell? ⟨B, 4 + i * 41 + j, none⟩ = some (.int .i64 rij))) (by kernel_rfl) (hcl.out _ hd) (fun hHeld => ?_)
              refine' wpAnyH_take (i := 0) (v := _) rfl (by kernel_rfl) (by kernel_rfl) (by kernel_rfl) (fun _ _ _ h => h) (Or.inl ⟨by rfl, ?hy1⟩) hHeld ?hr1
              case hy1 => (intro w hSw; (try dsimp only at hSw); go_simp; (try with_reducible rfl))
              simp only [Act.put, List.setIfInBounds_toArray, List.set_cons_zero, List.set_cons_succ, List.getElem_toArray, List.getElem_cons_zero]
              refine' wpAnyH_take (i := 1) (v := _) rfl (by kernel_rfl) (by kernel_rfl) (by kernel_rfl) (fun _ _ _ h => h) (Or.inl ⟨by rfl, ?hy2⟩) hHeld ?hr2
              case hy2 => (intro w hSw; (try dsimp only at hSw); go_simp; (try with_reducible rfl))
              simp only [Act.put, List.setIfInBounds_toArray, List.set_cons_zero, List.set_cons_succ, List.getElem_toArray, List.getElem_cons_zero, List.getElem_cons_succ]
              refine' wpAnyH_take (i := 2) (v := _) rfl (by kernel_rfl) (by kernel_rfl) (by kernel_rfl) (fun _ _ _ h => h) (Or.inl ⟨by rfl, ?hy3⟩) hHeld ?hr3
              case hy3 => (intro w hSw; (try dsimp only at hSw); go_simp; (try with_reducible rfl))
              simp only [Act.put, List.setIfInBounds_toArray, List.set_cons_zero, List.set_cons_succ, List.getElem_toArray, List.getElem_cons_zero, List.getElem_cons_succ]
              refine wpAnyH_ready (rs := [3]) (by kernel_rfl) (by simp) (allReady_1 rfl rfl (fun K hK => ?_))
              go_simp
              refine (hft _).mono ?_
              rintro e w9 ⟨rfl, hb9⟩
              replace hd := hd.trans (hb9.mono hd.size)
              go_wp2_with fail
              refine hK.out _ _ (hcl.out _ hd) (fun hHeld => ?_)
              clear hK K
              (try simp only [Act.put, List.setIfInBounds_toArray, List.set_cons_zero, List.set_cons_succ])
              refine' wpAnyH_take (i := 4) (v := _) rfl (by kernel_rfl) (by kernel_rfl) (by kernel_rfl) (fun _ _ _ h => h) (Or.inl ⟨by rfl, ?hy4⟩) hHeld ?hr4
              case hy4 => (intro w hSw; (try dsimp only at hSw); go_simp; (try with_reducible rfl))
              simp only [Act.put, List.setIfInBounds_toArray, List.set_cons_zero, List.set_cons_succ, List.getElem_toArray, List.getElem_cons_zero, List.getElem_cons_succ]
              refine' wpAnyH_take (i := 5) (v := _) rfl (by kernel_rfl) (by kernel_rfl) (by kernel_rfl) (fun _ _ _ h => h) (Or.inl ⟨by rfl, ?hy5⟩) hHeld ?hr5
              case hy5 => (intro w hSw; (try dsimp only at hSw); go_simp; (try with_reducible rfl))
              simp only [Act.put, List.setIfInBounds_toArray, List.set_cons_zero, List.set_cons_succ, List.getElem_toArray, List.getElem_cons_zero, List.getElem_cons_succ]
              refine' wpAnyH_take (i := 6) (v := _) rfl (by kernel_rfl) (by kernel_rfl) (by kernel_rfl) (fun _ _ _ h => h) (Or.inl ⟨by rfl, ?hy6⟩) hHeld ?hr6
              case hy6 => (intro w hSw; (try dsimp only at hSw); go_simp; (try with_reducible rfl))
              simp only [Act.put, List.setIfInBounds_toArray, List.set_cons_zero, List.set_cons_succ, List.getElem_toArray, List.getElem_cons_zero, List.getElem_cons_succ]
              refine' wpAnyH_take (i := 7) (v := _) rfl (by kernel_rfl) (by kernel_rfl) (by kernel_rfl) (fun _ _ _ h => h) (Or.inl ⟨by rfl, ?hy7⟩) hHeld ?hr7
              case hy7 => (intro w hSw; (try dsimp only at hSw); go_simp; (try with_reducible rfl))
              simp only [Act.put, List.setIfInBounds_toArray, List.set_cons_zero, List.set_cons_succ, List.getElem_toArray, List.getElem_cons_zero, List.getElem_cons_succ]
              refine' wpAnyH_take (i := 8) (v := _) rfl (by kernel_rfl) (by kernel_rfl) (by kernel_rfl) (fun _ _ _ h => h) (Or.inl ⟨by rfl, ?hy8⟩) hHeld ?hr8
              case hy8 => (intro w hSw; (try dsimp only at hSw); go_simp; (try with_reducible rfl))
              simp only [Act.put, List.setIfInBounds_toArray, List.set_cons_zero, List.set_cons_succ, List.getElem_toArray, List.getElem_cons_zero, List.getElem_cons_succ]
              refine' wpAnyH_take (i := 9) (v := _) rfl (by kernel_rfl) (by kernel_rfl) (by kernel_rfl) (fun _ _ _ h => h) (Or.inl ⟨by rfl, ?hy9⟩) hHeld ?hr9
              case hy9 => (intro w hSw; (try dsimp only at hSw); go_simp; (try with_reducible rfl))
              simp only [Act.put, List.setIfInBounds_toArray, List.set_cons_zero, List.set_cons_succ, List.getElem_toArray, List.getElem_cons_zero, List.getElem_cons_succ]
              refine' wpAnyH_take (i := 10) (v := _) rfl (by kernel_rfl) (by kernel_rfl) (by kernel_rfl) (fun _ _ _ h => h) (Or.inl ⟨by rfl, ?hy10⟩) hHeld ?hr10
              case hy10 => (intro w hSw; (try dsimp only at hSw); go_simp; (try with_reducible rfl))
              simp only [Act.put, List.setIfInBounds_toArray, List.set_cons_zero, List.set_cons_succ, List.getElem_toArray, List.getElem_cons_zero, List.getElem_cons_succ]
              refine' wpAnyH_take (i := 11) (v := _) rfl (by kernel_rfl) (by kernel_rfl) (by kernel_rfl) (fun _ _ _ h => h) (Or.inl ⟨by rfl, ?hy11⟩) hHeld ?hr11
              case hy11 => (intro w hSw; (try dsimp only at hSw); go_simp; (try with_reducible rfl))
              simp only [Act.put, List.setIfInBounds_toArray, List.set_cons_zero, List.set_cons_succ, List.getElem_toArray, List.getElem_cons_zero, List.getElem_cons_succ]
              refine' wpAnyH_take (i := 12) (v := _) rfl (by kernel_rfl) (by kernel_rfl) (by kernel_rfl) (fun _ _ _ h => h) (Or.inl ⟨by rfl, ?hy12⟩) hHeld ?hr12
              case hy12 => (intro w hSw; (try dsimp only at hSw); go_simp; (try with_reducible rfl))
              simp only [Act.put, List.setIfInBounds_toArray, List.set_cons_zero, List.set_cons_succ, List.getElem_toArray, List.getElem_cons_zero, List.getElem_cons_succ]
              refine' wpAnyH_take (i := 13) (v := _) rfl (by kernel_rfl) (by kernel_rfl) (by kernel_rfl) (fun _ _ _ h => h) (Or.inl ⟨by rfl, ?hy13⟩) hHeld ?hr13
              case hy13 => (intro w hSw; (try dsimp only at hSw); go_simp; (try with_reducible rfl))
              simp only [Act.put, List.setIfInBounds_toArray, List.set_cons_zero, List.set_cons_succ, List.getElem_toArray, List.getElem_cons_zero, List.getElem_cons_succ]
              refine' wpAnyH_take (i := 14) (v := _) rfl (by kernel_rfl) (by kernel_rfl) (by kernel_rfl) (fun _ _ _ h => h) (Or.inl ⟨by rfl, ?hy14⟩) hHeld ?hr14
              case hy14 => (intro w hSw; (try dsimp only at hSw); go_simp; (try with_reducible rfl))
              simp only [Act.put, List.setIfInBounds_toArray, List.set_cons_zero, List.set_cons_succ, List.getElem_toArray, List.getElem_cons_zero, List.getElem_cons_succ]
              refine' wpAnyH_take (i := 15) (v := _) rfl (by kernel_rfl) (by kernel_rfl) (by kernel_rfl) (fun _ _ _ h => h) (Or.inl ⟨by rfl, ?hy15⟩) hHeld ?hr15
              case hy15 => (intro w hSw; (try dsimp only at hSw); go_simp; (try with_reducible rfl))
              simp only [Act.put, List.setIfInBounds_toArray, List.set_cons_zero, List.set_cons_succ, List.getElem_toArray, List.getElem_cons_zero, List.getElem_cons_succ]
              refine' wpAnyH_take (i := 16) (v := _) rfl (by kernel_rfl) (by kernel_rfl) (by kernel_rfl) (fun _ _ _ h => h) (Or.inl ⟨by rfl, ?hy16⟩) hHeld ?hr16
              case hy16 => (intro w hSw; (try dsimp only at hSw); go_simp; (try with_reducible rfl))
              simp only [Act.put, List.setIfInBounds_toArray, List.set_cons_zero, List.set_cons_succ, List.getElem_toArray, List.getElem_cons_zero, List.getElem_cons_succ]
              refine' wpAnyH_take (i := 17) (v := _) rfl (by kernel_rfl) (by kernel_rfl) (by kernel_rfl) (fun _ _ _ h => h) (Or.inl ⟨by rfl, ?hy17⟩) hHeld ?hr17
              case hy17 => (intro w hSw; (try dsimp only at hSw); go_simp; (try with_reducible rfl))
              simp only [Act.put, List.setIfInBounds_toArray, List.set_cons_zero, List.set_cons_succ, List.getElem_toArray, List.getElem_cons_zero, List.getElem_cons_succ]
              refine' wpAnyH_take (i := 18) (v := _) rfl (by kernel_rfl) (by kernel_rfl) (by kernel_rfl) (fun _ _ _ h => h) (Or.inl ⟨by rfl, ?hy18⟩) hHeld ?hr18
              case hy18 => (intro w hSw; (try dsimp only at hSw); go_simp; (try with_reducible rfl))
              simp only [Act.put, List.setIfInBounds_toArray, List.set_cons_zero, List.set_cons_succ, List.getElem_toArray, List.getElem_cons_zero, List.getElem_cons_succ]
              refine' wpAnyH_take (i := 19) (v := _) rfl (by kernel_rfl) (by kernel_rfl) (by kernel_rfl) (fun _ _ _ h => h) (Or.inl ⟨by rfl, ?hy19⟩) hHeld ?hr19
              case hy19 => (intro w hSw; (try dsimp only at hSw); go_simp; (try with_reducible rfl))
              simp only [Act.put, List.setIfInBounds_toArray, List.set_cons_zero, List.set_cons_succ, List.getElem_toArray, List.getElem_cons_zero, List.getElem_cons_succ]
              refine' wpAnyH_take (i := 20) (v := _) rfl (by kernel_rfl) (by kernel_rfl) (by kernel_rfl) (fun _ _ _ h => h) (Or.inl ⟨by rfl, ?hy20⟩) hHeld ?hr20
              case hy20 => (intro w hSw; (try dsimp only at hSw); go_simp; (try with_reducible rfl))
              simp only [Act.put, List.setIfInBounds_toArray, List.set_cons_zero, List.set_cons_succ, List.getElem_toArray, List.getElem_cons_zero, List.getElem_cons_succ]
              refine' wpAnyH_take (i := 21) (v := _) rfl (by kernel_rfl) (by kernel_rfl) (by kernel_rfl) (fun _ _ _ h => h) (Or.inl ⟨by rfl, ?hy21⟩) hHeld ?hr21
              case hy21 => (intro w hSw; (try dsimp only at hSw); go_simp; (try with_reducible rfl))
              simp only [Act.put, List.setIfInBounds_toArray, List.set_cons_zero, List.set_cons_succ, List.getElem_toArray, List.getElem_cons_zero, List.getElem_cons_succ]
              refine' wpAnyH_take (i := 22) (v := _) rfl (by kernel_rfl) (by kernel_rfl) (by kernel_rfl) (fun _ _ _ h => h) (Or.inl ⟨by rfl, ?hy22⟩) hHeld ?hr22
              case hy22 => (intro w hSw; (try dsimp only at hSw); go_simp; (try with_reducible rfl))
              simp only [Act.put, List.setIfInBounds_toArray, List.set_cons_zero, List.set_cons_succ, List.getElem_toArray, List.getElem_cons_zero, List.getElem_cons_succ]
              refine' wpAnyH_take (i := 23) (v := _) rfl (by kernel_rfl) (by kernel_rfl) (by kernel_rfl) (fun _ _ _ h => h) (Or.inl ⟨by rfl, ?hy23⟩) hHeld ?hr23
              case hy23 => (intro w hSw; (try dsimp only at hSw); go_simp; (try with_reducible rfl))
              simp only [Act.put, List.setIfInBounds_toArray, List.set_cons_zero, List.set_cons_succ, List.getElem_toArray, List.getElem_cons_zero, List.getElem_cons_succ]
              refine' wpAnyH_take (i := 24) (v := _) rfl (by kernel_rfl) (by kernel_rfl) (by kernel_rfl) (fun _ _ _ h => h) (Or.inl ⟨by rfl, ?hy24⟩) hHeld ?hr24
              case hy24 => (intro w hSw; (try dsimp only at hSw); go_simp; (try with_reducible rfl))
              simp only [Act.put, List.setIfInBounds_toArray, List.set_cons_zero, List.set_cons_succ, List.getElem_toArray, List.getElem_cons_zero, List.getElem_cons_succ]
              refine' wpAnyH_take (i := 25) (v := _) rfl (by kernel_rfl) (by kernel_rfl) (by kernel_rfl) (fun _ _ _ h => h) (Or.inl ⟨by rfl, ?hy25⟩) hHeld ?hr25
              case hy25 => (intro w hSw; (try dsimp only at hSw); go_simp; (try with_reducible rfl))
              simp only [Act.put, List.setIfInBounds_toArray, List.set_cons_zero, List.set_cons_succ, List.getElem_toArray, List.getElem_cons_zero, List.getElem_cons_succ]
              refine' wpAnyH_take (i := 26) (v := _) rfl (by kernel_rfl) (by kernel_rfl) (by kernel_rfl) (fun _ _ _ h => h) (Or.inl ⟨by rfl, ?hy26⟩) hHeld ?hr26
              case hy26 => (intro w hSw; (try dsimp only at hSw); go_simp; (try with_reducible rfl))
              simp only [Act.put, List.setIfInBounds_toArray, List.set_cons_zero, List.set_cons_succ, List.getElem_toArray, List.getElem_cons_zero, List.getElem_cons_succ]
              refine' wpAnyH_take (i := 27) (v := _) rfl (by kernel_rfl) (by kernel_rfl) (by kernel_rfl) (fun _ _ _ h => h) (Or.inl ⟨by rfl, ?hy27⟩) hHeld ?hr27
              case hy27 => (intro w hSw; (try dsimp only at hSw); go_simp; (try with_reducible rfl))
              simp only [Act.put, List.setIfInBounds_toArray, List.set_cons_zero, List.set_cons_succ, List.getElem_toArray, List.getElem_cons_zero, List.getElem_cons_succ]
              refine' wpAnyH_take (i := 28) (v := _) rfl (by kernel_rfl) (by kernel_rfl) (by kernel_rfl) (fun _ _ _ h => h) (Or.inl ⟨by rfl, ?hy28⟩) hHeld ?hr28
              case hy28 => (intro w hSw; (try dsimp only at hSw); go_simp; (try with_reducible rfl))
              simp only [Act.put, List.setIfInBounds_toArray, List.set_cons_zero, List.set_cons_succ, List.getElem_toArray, List.getElem_cons_zero, List.getElem_cons_succ]
              refine wpAnyH_done (by kernel_rfl) ?_ _
              refine NoPanic.normal ?_
              go_wp2_with fail
              have kb9 := kW.out.trans (hd.mono kW.out.size)
              obtain ⟨d0, d1, d2, _, _⟩ := hcl.out _ hd
              replace hq := hqs
              obtain ⟨yv, hyv⟩ : ∃ yv, Hid ((if fb = 0 then 0 else ys.getD (j - 1) 0) = yv) := ⟨_, rfl⟩
              have hedc := hed.out w9 kb9 kd fa fb i j hf0 ⟨b2, hf1⟩ (by omega) hj
              rw [hp.out, hyv.out] at hedc
              have hqs2 := hqs.out
              rw [hyv.out] at hqs2
              refine hedc.mono ?_
              rintro e w4 ⟨rfl, hb4⟩
              have kb4 := kb9.trans (hb4.mono kb9.size)
              have hk24 := (kW2.out.trans (hd.mono kW2.out.size)).trans (hb4.mono (Nat.le_trans kW2.out.size hd.size))
              have ho4 : OwnE w4 w.heap.size g cap es := World.ownsRow.kept ho2.out (Below.gr hk24 none) (.inr (by simp [Value.ownBlock]))
              have hbx9 : wr.heap.size < w9.heap.size := by have := hd.size; simp at this; omega
              have d4 : w4.cell? ⟨wr.heap.size, 1, none⟩ = some (.int .i64 fa) := (hb4.cell (p := ⟨wr.heap.size, 1, none⟩) hbx9).trans d1
              have d5 : w4.cell? ⟨wr.heap.size, 2, none⟩ = some (.int .i64 fb) := (hb4.cell (p := ⟨wr.heap.size, 2, none⟩) hbx9).trans d2
              have hbx4 : wr.heap.size < w4.heap.size := Nat.lt_of_lt_of_le hbx9 hb4.size
              have hes : es.length ≤ 200 := by have := congrArg List.length hqs2; rw [List.length_append] at this; omega
              have hq3 : Hid ((es ++ [(kd, (p : Int), yv)]) ++ EE p q = E) := by show _ = _; rw [List.append_assoc]; exact hqs2
              have hgl4 := OwnE.lt ho4
              clear hqs2 hq hqs hedc hk24 hb4 d0 d1 d2 kb9 hcl
              go_wp2_with (at_builtin; refine append_ed (w := w4) rfl _ _ rfl w.heap.size g cap es hes (by rfl) ho4 kd (p : Int) yv (by rfl) kb4.size ?_; intro g5 cap5 w5 ho5 hg5 hat)
              have kb5 := kb4.grown hg5 kb4.size (fun k e => by injection e with e; omega)
              have d6 : w5.cell? ⟨wr.heap.size, 1, none⟩ = some (.int .i64 fa) := (World.cell?_of_block (w := w4) (a := ⟨wr.heap.size, 1, none⟩) (hg5.block wr.heap.size hbx4 (fun e => by injection e with e; omega))).trans d4
              have d7 : w5.cell? ⟨wr.heap.size, 2, none⟩ = some (.int .i64 fb) := (World.cell?_of_block (w := w4) (a := ⟨wr.heap.size, 2, none⟩) (hg5.block wr.heap.size hbx4 (fun e => by injection e with e; omega))).trans d5
              replace ho5 := (show Hid _ from ho5)
              clear ho4 hg5 hat d4 d5 kb4
              go_wp2
              go_quiet (fail)
              go_wp2
              go_roundw
              case rel => exact ⟨p, q, es ++ [(kd, (p : Int), yv)], g5, cap5, by have := hp.out; omega, by have := hqq.out; omega, rfl, rfl, by rw [List.length_append]; rfl, ho5.out, hq3, kb5.trans (Below.mono (show Below w5.heap.size w5 (w5.drewN nq) from ⟨rfl, rfl, rfl, Nat.le_refl _, fun _ _ => rfl⟩) kb5.size), hDL3.out⟩
              case measure => simp [intOf]; have := hp.out; have := hqq.out; omega
            · have hncc : ¬ CH i j k := fun h => hc (hless.2 (hchk.1 h).2.2)
              have hnx := hnext.out hncc
              clear hchk hless hRij hncc
              have hd := hd0.out
              go_wp2
              refine wp_region_noPanic ?_
              refine wp_region_held_drew (S := (fun W => W.cell? ⟨wr.heap.size, 0, none⟩ = some (.int .i64 kd) ∧ W.cell? ⟨wr.heap.size, 1, none⟩ = some (.int .i64 fa) ∧ W.cell? ⟨wr.heap.size, 2, none⟩ = some (.int .i64 fb) ∧ W.cell? ⟨B, 4 + p * 41 + q, none⟩ = some (.int .i64 rp) ∧ W.cell? ⟨B, 4 + i * 41 + j, none⟩ = some (.int .i64 rij))) (by kernel_rfl) (hcl.out _ hd) (fun hHeld => ?_)
              refine' wpAnyH_take (i := 0) (v := _) rfl (by kernel_rfl) (by kernel_rfl) (by kernel_rfl) (fun _ _ _ h => h) (Or.inl ⟨by rfl, ?hy29⟩) hHeld ?hr29
              case hy29 => (intro w hSw; (try dsimp only at hSw); go_simp; (try with_reducible rfl))
              simp only [Act.put, List.setIfInBounds_toArray, List.set_cons_zero, List.set_cons_succ, List.getElem_toArray, List.getElem_cons_zero]
              refine' wpAnyH_take (i := 1) (v := _) rfl (by kernel_rfl) (by kernel_rfl) (by kernel_rfl) (fun _ _ _ h => h) (Or.inl ⟨by rfl, ?hy30⟩) hHeld ?hr30
              case hy30 => (intro w hSw; (try dsimp only at hSw); go_simp; (try with_reducible rfl))
              simp only [Act.put, List.setIfInBounds_toArray, List.set_cons_zero, List.set_cons_succ, List.getElem_toArray, List.getElem_cons_zero, List.getElem_cons_succ]
              refine' wpAnyH_take (i := 2) (v := _) rfl (by kernel_rfl) (by kernel_rfl) (by kernel_rfl) (fun _ _ _ h => h) (Or.inl ⟨by rfl, ?hy31⟩) hHeld ?hr31
              case hy31 => (intro w hSw; (try dsimp only at hSw); go_simp; (try with_reducible rfl))
              simp only [Act.put, List.setIfInBounds_toArray, List.set_cons_zero, List.set_cons_succ, List.getElem_toArray, List.getElem_cons_zero, List.getElem_cons_succ]
              refine wpAnyH_ready (rs := [3]) (by kernel_rfl) (by simp) (allReady_1 rfl rfl (fun K hK => ?_))
              go_simp
              refine (hft _).mono ?_
              rintro e w9 ⟨rfl, hb9⟩
              replace hd := hd.trans (hb9.mono hd.size)
              go_wp2_with fail
              refine hK.out _ _ (hcl.out _ hd) (fun hHeld => ?_)
              clear hK K
              (try simp only [Act.put, List.setIfInBounds_toArray, List.set_cons_zero, List.set_cons_succ])
              refine' wpAnyH_take (i := 4) (v := _) rfl (by kernel_rfl) (by kernel_rfl) (by kernel_rfl) (fun _ _ _ h => h) (Or.inl ⟨by rfl, ?hy32⟩) hHeld ?hr32
              case hy32 => (intro w hSw; (try dsimp only at hSw); go_simp; (try with_reducible rfl))
              simp only [Act.put, List.setIfInBounds_toArray, List.set_cons_zero, List.set_cons_succ, List.getElem_toArray, List.getElem_cons_zero, List.getElem_cons_succ]
              refine' wpAnyH_take (i := 5) (v := _) rfl (by kernel_rfl) (by kernel_rfl) (by kernel_rfl) (fun _ _ _ h => h) (Or.inl ⟨by rfl, ?hy33⟩) hHeld ?hr33
              case hy33 => (intro w hSw; (try dsimp only at hSw); go_simp; (try with_reducible rfl))
              simp only [Act.put, List.setIfInBounds_toArray, List.set_cons_zero, List.set_cons_succ, List.getElem_toArray, List.getElem_cons_zero, List.getElem_cons_succ]
              refine' wpAnyH_take (i := 6) (v := _) rfl (by kernel_rfl) (by kernel_rfl) (by kernel_rfl) (fun _ _ _ h => h) (Or.inl ⟨by rfl, ?hy34⟩) hHeld ?hr34
              case hy34 => (intro w hSw; (try dsimp only at hSw); go_simp; (try with_reducible rfl))
              simp only [Act.put, List.setIfInBounds_toArray, List.set_cons_zero, List.set_cons_succ, List.getElem_toArray, List.getElem_cons_zero, List.getElem_cons_succ]
              refine' wpAnyH_take (i := 7) (v := _) rfl (by kernel_rfl) (by kernel_rfl) (by kernel_rfl) (fun _ _ _ h => h) (Or.inl ⟨by rfl, ?hy35⟩) hHeld ?hr35
              case hy35 => (intro w hSw; (try dsimp only at hSw); go_simp; (try with_reducible rfl))
              simp only [Act.put, List.setIfInBounds_toArray, List.set_cons_zero, List.set_cons_succ, List.getElem_toArray, List.getElem_cons_zero, List.getElem_cons_succ]
              refine' wpAnyH_take (i := 8) (v := _) rfl (by kernel_rfl) (by kernel_rfl) (by kernel_rfl) (fun _ _ _ h => h) (Or.inl ⟨by rfl, ?hy36⟩) hHeld ?hr36
              case hy36 => (intro w hSw; (try dsimp only at hSw); go_simp; (try with_reducible rfl))
              simp only [Act.put, List.setIfInBounds_toArray, List.set_cons_zero, List.set_cons_succ, List.getElem_toArray, List.getElem_cons_zero, List.getElem_cons_succ]
              refine' wpAnyH_take (i := 9) (v := _) rfl (by kernel_rfl) (by kernel_rfl) (by kernel_rfl) (fun _ _ _ h => h) (Or.inl ⟨by rfl, ?hy37⟩) hHeld ?hr37
              case hy37 => (intro w hSw; (try dsimp only at hSw); go_simp; (try with_reducible rfl))
              simp only [Act.put, List.setIfInBounds_toArray, List.set_cons_zero, List.set_cons_succ, List.getElem_toArray, List.getElem_cons_zero, List.getElem_cons_succ]
              refine' wpAnyH_take (i := 10) (v := _) rfl (by kernel_rfl) (by kernel_rfl) (by kernel_rfl) (fun _ _ _ h => h) (Or.inl ⟨by rfl, ?hy38⟩) hHeld ?hr38
              case hy38 => (intro w hSw; (try dsimp only at hSw); go_simp; (try with_reducible rfl))
              simp only [Act.put, List.setIfInBounds_toArray, List.set_cons_zero, List.set_cons_succ, List.getElem_toArray, List.getElem_cons_zero, List.getElem_cons_succ]
              refine' wpAnyH_take (i := 11) (v := _) rfl (by kernel_rfl) (by kernel_rfl) (by kernel_rfl) (fun _ _ _ h => h) (Or.inl ⟨by rfl, ?hy39⟩) hHeld ?hr39
              case hy39 => (intro w hSw; (try dsimp only at hSw); go_simp; (try with_reducible rfl))
              simp only [Act.put, List.setIfInBounds_toArray, List.set_cons_zero, List.set_cons_succ, List.getElem_toArray, List.getElem_cons_zero, List.getElem_cons_succ]
              refine' wpAnyH_take (i := 12) (v := _) rfl (by kernel_rfl) (by kernel_rfl) (by kernel_rfl) (fun _ _ _ h => h) (Or.inl ⟨by rfl, ?hy40⟩) hHeld ?hr40
              case hy40 => (intro w hSw; (try dsimp only at hSw); go_simp; (try with_reducible rfl))
              simp only [Act.put, List.setIfInBounds_toArray, List.set_cons_zero, List.set_cons_succ, List.getElem_toArray, List.getElem_cons_zero, List.getElem_cons_succ]
              refine' wpAnyH_take (i := 13) (v := _) rfl (by kernel_rfl) (by kernel_rfl) (by kernel_rfl) (fun _ _ _ h => h) (Or.inl ⟨by rfl, ?hy41⟩) hHeld ?hr41
              case hy41 => (intro w hSw; (try dsimp only at hSw); go_simp; (try with_reducible rfl))
              simp only [Act.put, List.setIfInBounds_toArray, List.set_cons_zero, List.set_cons_succ, List.getElem_toArray, List.getElem_cons_zero, List.getElem_cons_succ]
              refine' wpAnyH_take (i := 14) (v := _) rfl (by kernel_rfl) (by kernel_rfl) (by kernel_rfl) (fun _ _ _ h => h) (Or.inl ⟨by rfl, ?hy42⟩) hHeld ?hr42
              case hy42 => (intro w hSw; (try dsimp only at hSw); go_simp; (try with_reducible rfl))
              simp only [Act.put, List.setIfInBounds_toArray, List.set_cons_zero, List.set_cons_succ, List.getElem_toArray, List.getElem_cons_zero, List.getElem_cons_succ]
              refine' wpAnyH_take (i := 15) (v := _) rfl (by kernel_rfl) (by kernel_rfl) (by kernel_rfl) (fun _ _ _ h => h) (Or.inl ⟨by rfl, ?hy43⟩) hHeld ?hr43
              case hy43 => (intro w hSw; (try dsimp only at hSw); go_simp; (try with_reducible rfl))
              simp only [Act.put, List.setIfInBounds_toArray, List.set_cons_zero, List.set_cons_succ, List.getElem_toArray, List.getElem_cons_zero, List.getElem_cons_succ]
              refine' wpAnyH_take (i := 16) (v := _) rfl (by kernel_rfl) (by kernel_rfl) (by kernel_rfl) (fun _ _ _ h => h) (Or.inl ⟨by rfl, ?hy44⟩) hHeld ?hr44
              case hy44 => (intro w hSw; (try dsimp only at hSw); go_simp; (try with_reducible rfl))
              simp only [Act.put, List.setIfInBounds_toArray, List.set_cons_zero, List.set_cons_succ, List.getElem_toArray, List.getElem_cons_zero, List.getElem_cons_succ]
              refine' wpAnyH_take (i := 17) (v := _) rfl (by kernel_rfl) (by kernel_rfl) (by kernel_rfl) (fun _ _ _ h => h) (Or.inl ⟨by rfl, ?hy45⟩) hHeld ?hr45
              case hy45 => (intro w hSw; (try dsimp only at hSw); go_simp; (try with_reducible rfl))
              simp only [Act.put, List.setIfInBounds_toArray, List.set_cons_zero, List.set_cons_succ, List.getElem_toArray, List.getElem_cons_zero, List.getElem_cons_succ]
              refine' wpAnyH_take (i := 18) (v := _) rfl (by kernel_rfl) (by kernel_rfl) (by kernel_rfl) (fun _ _ _ h => h) (Or.inl ⟨by rfl, ?hy46⟩) hHeld ?hr46
              case hy46 => (intro w hSw; (try dsimp only at hSw); go_simp; (try with_reducible rfl))
              simp only [Act.put, List.setIfInBounds_toArray, List.set_cons_zero, List.set_cons_succ, List.getElem_toArray, List.getElem_cons_zero, List.getElem_cons_succ]
              refine' wpAnyH_take (i := 19) (v := _) rfl (by kernel_rfl) (by kernel_rfl) (by kernel_rfl) (fun _ _ _ h => h) (Or.inl ⟨by rfl, ?hy47⟩) hHeld ?hr47
              case hy47 => (intro w hSw; (try dsimp only at hSw); go_simp; (try with_reducible rfl))
              simp only [Act.put, List.setIfInBounds_toArray, List.set_cons_zero, List.set_cons_succ, List.getElem_toArray, List.getElem_cons_zero, List.getElem_cons_succ]
              refine' wpAnyH_take (i := 20) (v := _) rfl (by kernel_rfl) (by kernel_rfl) (by kernel_rfl) (fun _ _ _ h => h) (Or.inl ⟨by rfl, ?hy48⟩) hHeld ?hr48
              case hy48 => (intro w hSw; (try dsimp only at hSw); go_simp; (try with_reducible rfl))
              simp only [Act.put, List.setIfInBounds_toArray, List.set_cons_zero, List.set_cons_succ, List.getElem_toArray, List.getElem_cons_zero, List.getElem_cons_succ]
              refine' wpAnyH_take (i := 21) (v := _) rfl (by kernel_rfl) (by kernel_rfl) (by kernel_rfl) (fun _ _ _ h => h) (Or.inl ⟨by rfl, ?hy49⟩) hHeld ?hr49
              case hy49 => (intro w hSw; (try dsimp only at hSw); go_simp; (try with_reducible rfl))
              simp only [Act.put, List.setIfInBounds_toArray, List.set_cons_zero, List.set_cons_succ, List.getElem_toArray, List.getElem_cons_zero, List.getElem_cons_succ]
              refine' wpAnyH_take (i := 22) (v := _) rfl (by kernel_rfl) (by kernel_rfl) (by kernel_rfl) (fun _ _ _ h => h) (Or.inl ⟨by rfl, ?hy50⟩) hHeld ?hr50
              case hy50 => (intro w hSw; (try dsimp only at hSw); go_simp; (try with_reducible rfl))
              simp only [Act.put, List.setIfInBounds_toArray, List.set_cons_zero, List.set_cons_succ, List.getElem_toArray, List.getElem_cons_zero, List.getElem_cons_succ]
              refine' wpAnyH_take (i := 23) (v := _) rfl (by kernel_rfl) (by kernel_rfl) (by kernel_rfl) (fun _ _ _ h => h) (Or.inl ⟨by rfl, ?hy51⟩) hHeld ?hr51
              case hy51 => (intro w hSw; (try dsimp only at hSw); go_simp; (try with_reducible rfl))
              simp only [Act.put, List.setIfInBounds_toArray, List.set_cons_zero, List.set_cons_succ, List.getElem_toArray, List.getElem_cons_zero, List.getElem_cons_succ]
              refine' wpAnyH_take (i := 24) (v := _) rfl (by kernel_rfl) (by kernel_rfl) (by kernel_rfl) (fun _ _ _ h => h) (Or.inl ⟨by rfl, ?hy52⟩) hHeld ?hr52
              case hy52 => (intro w hSw; (try dsimp only at hSw); go_simp; (try with_reducible rfl))
              simp only [Act.put, List.setIfInBounds_toArray, List.set_cons_zero, List.set_cons_succ, List.getElem_toArray, List.getElem_cons_zero, List.getElem_cons_succ]
              refine' wpAnyH_take (i := 25) (v := _) rfl (by kernel_rfl) (by kernel_rfl) (by kernel_rfl) (fun _ _ _ h => h) (Or.inl ⟨by rfl, ?hy53⟩) hHeld ?hr53
              case hy53 => (intro w hSw; (try dsimp only at hSw); go_simp; (try with_reducible rfl))
              simp only [Act.put, List.setIfInBounds_toArray, List.set_cons_zero, List.set_cons_succ, List.getElem_toArray, List.getElem_cons_zero, List.getElem_cons_succ]
              refine' wpAnyH_take (i := 26) (v := _) rfl (by kernel_rfl) (by kernel_rfl) (by kernel_rfl) (fun _ _ _ h => h) (Or.inl ⟨by rfl, ?hy54⟩) hHeld ?hr54
              case hy54 => (intro w hSw; (try dsimp only at hSw); go_simp; (try with_reducible rfl))
              simp only [Act.put, List.setIfInBounds_toArray, List.set_cons_zero, List.set_cons_succ, List.getElem_toArray, List.getElem_cons_zero, List.getElem_cons_succ]
              refine' wpAnyH_take (i := 27) (v := _) rfl (by kernel_rfl) (by kernel_rfl) (by kernel_rfl) (fun _ _ _ h => h) (Or.inl ⟨by rfl, ?hy55⟩) hHeld ?hr55
              case hy55 => (intro w hSw; (try dsimp only at hSw); go_simp; (try with_reducible rfl))
              simp only [Act.put, List.setIfInBounds_toArray, List.set_cons_zero, List.set_cons_succ, List.getElem_toArray, List.getElem_cons_zero, List.getElem_cons_succ]
              refine' wpAnyH_take (i := 28) (v := _) rfl (by kernel_rfl) (by kernel_rfl) (by kernel_rfl) (fun _ _ _ h => h) (Or.inl ⟨by rfl, ?hy56⟩) hHeld ?hr56
              case hy56 => (intro w hSw; (try dsimp only at hSw); go_simp; (try with_reducible rfl))
              simp only [Act.put, List.setIfInBounds_toArray, List.set_cons_zero, List.set_cons_succ, List.getElem_toArray, List.getElem_cons_zero, List.getElem_cons_succ]
              refine wpAnyH_done (by kernel_rfl) ?_ _
              refine NoPanic.normal ?_
              go_wp2
              go_roundw
              case rel => exact ⟨k + 1, by omega, by go_num, rfl, rfl, rfl, hnx, kW2.out.trans (hd.mono kW2.out.size)⟩
              case measure => simp [intOf]; omega
          · have hft := fun W => fits_any kd fa fb i j W
            simp only [decide_eq_false hfit] at hft
            have hncc : ¬ CH i j k := fun h => hfit ⟨(hch.out.1 h).1, (hch.out.1 h).2.1⟩
            have hnx := hnext.out hncc
            clear hncc hfit
            have hcl := hbc
            have hd := hd0.out
            go_wp2
            refine wp_region_noPanic ?_
            refine wp_region_held_drew (S := (fun W => W.cell? ⟨wr.heap.size, 0, none⟩ = some (.int .i64 kd) ∧ W.cell? ⟨wr.heap.size, 1, none⟩ = some (.int .i64 fa) ∧ W.cell? ⟨wr.heap.size, 2, none⟩ = some (.int .i64 fb))) (by kernel_rfl) (hcl.out _ hd) (fun hHeld => ?_)
            refine' wpAnyH_take (i := 0) (v := _) rfl (by kernel_rfl) (by kernel_rfl) (by kernel_rfl) (fun _ _ _ h => h) (Or.inl ⟨by rfl, ?hy57⟩) hHeld ?hr57
            case hy57 => (intro w hSw; (try dsimp only at hSw); go_simp; (try with_reducible rfl))
            simp only [Act.put, List.setIfInBounds_toArray, List.set_cons_zero, List.set_cons_succ, List.getElem_toArray, List.getElem_cons_zero]
            refine' wpAnyH_take (i := 1) (v := _) rfl (by kernel_rfl) (by kernel_rfl) (by kernel_rfl) (fun _ _ _ h => h) (Or.inl ⟨by rfl, ?hy58⟩) hHeld ?hr58
            case hy58 => (intro w hSw; (try dsimp only at hSw); go_simp; (try with_reducible rfl))
            simp only [Act.put, List.setIfInBounds_toArray, List.set_cons_zero, List.set_cons_succ, List.getElem_toArray, List.getElem_cons_zero, List.getElem_cons_succ]
            refine' wpAnyH_take (i := 2) (v := _) rfl (by kernel_rfl) (by kernel_rfl) (by kernel_rfl) (fun _ _ _ h => h) (Or.inl ⟨by rfl, ?hy59⟩) hHeld ?hr59
            case hy59 => (intro w hSw; (try dsimp only at hSw); go_simp; (try with_reducible rfl))
            simp only [Act.put, List.setIfInBounds_toArray, List.set_cons_zero, List.set_cons_succ, List.getElem_toArray, List.getElem_cons_zero, List.getElem_cons_succ]
            refine wpAnyH_ready (rs := [3]) (by kernel_rfl) (by simp) (allReady_1 rfl rfl (fun K hK => ?_))
            go_simp
            refine (hft _).mono ?_
            rintro e w9 ⟨rfl, hb9⟩
            replace hd := hd.trans (hb9.mono hd.size)
            go_wp2_with fail
            refine hK.out _ _ (hcl.out _ hd) (fun hHeld => ?_)
            clear hK K
            (try simp only [Act.put, List.setIfInBounds_toArray, List.set_cons_zero, List.set_cons_succ])
            refine' wpAnyH_take (i := 4) (v := _) rfl (by kernel_rfl) (by kernel_rfl) (by kernel_rfl) (fun _ _ _ h => h) (Or.inl ⟨by rfl, ?hy60⟩) hHeld ?hr60
            case hy60 => (intro w hSw; (try dsimp only at hSw); go_simp; (try with_reducible rfl))
            simp only [Act.put, List.setIfInBounds_toArray, List.set_cons_zero, List.set_cons_succ, List.getElem_toArray, List.getElem_cons_zero, List.getElem_cons_succ]
            refine wpAnyH_take (i := 5) (v := undef) rfl (by kernel_rfl) (by kernel_rfl) (by kernel_rfl) (fun _ _ _ h => h) (Or.inr ⟨by rfl, rfl⟩) hHeld ?_
            simp only [Act.put, List.setIfInBounds_toArray, List.set_cons_zero, List.set_cons_succ, List.getElem_toArray, List.getElem_cons_zero, List.getElem_cons_succ]
            refine wpAnyH_take (i := 6) (v := undef) rfl (by kernel_rfl) (by kernel_rfl) (by kernel_rfl) (fun _ _ _ h => h) (Or.inr ⟨by rfl, rfl⟩) hHeld ?_
            simp only [Act.put, List.setIfInBounds_toArray, List.set_cons_zero, List.set_cons_succ, List.getElem_toArray, List.getElem_cons_zero, List.getElem_cons_succ]
            refine wpAnyH_take (i := 7) (v := undef) rfl (by kernel_rfl) (by kernel_rfl) (by kernel_rfl) (fun _ _ _ h => h) (Or.inr ⟨by rfl, rfl⟩) hHeld ?_
            simp only [Act.put, List.setIfInBounds_toArray, List.set_cons_zero, List.set_cons_succ, List.getElem_toArray, List.getElem_cons_zero, List.getElem_cons_succ]
            refine wpAnyH_take (i := 8) (v := undef) rfl (by kernel_rfl) (by kernel_rfl) (by kernel_rfl) (fun _ _ _ h => h) (Or.inr ⟨by rfl, rfl⟩) hHeld ?_
            simp only [Act.put, List.setIfInBounds_toArray, List.set_cons_zero, List.set_cons_succ, List.getElem_toArray, List.getElem_cons_zero, List.getElem_cons_succ]
            refine wpAnyH_take (i := 9) (v := undef) rfl (by kernel_rfl) (by kernel_rfl) (by kernel_rfl) (fun _ _ _ h => h) (Or.inr ⟨by rfl, rfl⟩) hHeld ?_
            simp only [Act.put, List.setIfInBounds_toArray, List.set_cons_zero, List.set_cons_succ, List.getElem_toArray, List.getElem_cons_zero, List.getElem_cons_succ]
            refine wpAnyH_take (i := 10) (v := undef) rfl (by kernel_rfl) (by kernel_rfl) (by kernel_rfl) (fun _ _ _ h => h) (Or.inr ⟨by rfl, rfl⟩) hHeld ?_
            simp only [Act.put, List.setIfInBounds_toArray, List.set_cons_zero, List.set_cons_succ, List.getElem_toArray, List.getElem_cons_zero, List.getElem_cons_succ]
            refine wpAnyH_take (i := 11) (v := undef) rfl (by kernel_rfl) (by kernel_rfl) (by kernel_rfl) (fun _ _ _ h => h) (Or.inr ⟨by rfl, rfl⟩) hHeld ?_
            simp only [Act.put, List.setIfInBounds_toArray, List.set_cons_zero, List.set_cons_succ, List.getElem_toArray, List.getElem_cons_zero, List.getElem_cons_succ]
            refine wpAnyH_take (i := 12) (v := undef) rfl (by kernel_rfl) (by kernel_rfl) (by kernel_rfl) (fun _ _ _ h => h) (Or.inr ⟨by rfl, rfl⟩) hHeld ?_
            simp only [Act.put, List.setIfInBounds_toArray, List.set_cons_zero, List.set_cons_succ, List.getElem_toArray, List.getElem_cons_zero, List.getElem_cons_succ]
            refine wpAnyH_take (i := 13) (v := undef) rfl (by kernel_rfl) (by kernel_rfl) (by kernel_rfl) (fun _ _ _ h => h) (Or.inr ⟨by rfl, rfl⟩) hHeld ?_
            simp only [Act.put, List.setIfInBounds_toArray, List.set_cons_zero, List.set_cons_succ, List.getElem_toArray, List.getElem_cons_zero, List.getElem_cons_succ]
            refine wpAnyH_take (i := 14) (v := undef) rfl (by kernel_rfl) (by kernel_rfl) (by kernel_rfl) (fun _ _ _ h => h) (Or.inr ⟨by rfl, rfl⟩) hHeld ?_
            simp only [Act.put, List.setIfInBounds_toArray, List.set_cons_zero, List.set_cons_succ, List.getElem_toArray, List.getElem_cons_zero, List.getElem_cons_succ]
            refine wpAnyH_take (i := 15) (v := undef) rfl (by kernel_rfl) (by kernel_rfl) (by kernel_rfl) (fun _ _ _ h => h) (Or.inr ⟨by rfl, rfl⟩) hHeld ?_
            simp only [Act.put, List.setIfInBounds_toArray, List.set_cons_zero, List.set_cons_succ, List.getElem_toArray, List.getElem_cons_zero, List.getElem_cons_succ]
            refine wpAnyH_take (i := 16) (v := undef) rfl (by kernel_rfl) (by kernel_rfl) (by kernel_rfl) (fun _ _ _ h => h) (Or.inr ⟨by rfl, rfl⟩) hHeld ?_
            simp only [Act.put, List.setIfInBounds_toArray, List.set_cons_zero, List.set_cons_succ, List.getElem_toArray, List.getElem_cons_zero, List.getElem_cons_succ]
            refine wpAnyH_take (i := 17) (v := undef) rfl (by kernel_rfl) (by kernel_rfl) (by kernel_rfl) (fun _ _ _ h => h) (Or.inr ⟨by rfl, rfl⟩) hHeld ?_
            simp only [Act.put, List.setIfInBounds_toArray, List.set_cons_zero, List.set_cons_succ, List.getElem_toArray, List.getElem_cons_zero, List.getElem_cons_succ]
            refine wpAnyH_take (i := 18) (v := undef) rfl (by kernel_rfl) (by kernel_rfl) (by kernel_rfl) (fun _ _ _ h => h) (Or.inr ⟨by rfl, rfl⟩) hHeld ?_
            simp only [Act.put, List.setIfInBounds_toArray, List.set_cons_zero, List.set_cons_succ, List.getElem_toArray, List.getElem_cons_zero, List.getElem_cons_succ]
            refine wpAnyH_take (i := 19) (v := undef) rfl (by kernel_rfl) (by kernel_rfl) (by kernel_rfl) (fun _ _ _ h => h) (Or.inr ⟨by rfl, rfl⟩) hHeld ?_
            simp only [Act.put, List.setIfInBounds_toArray, List.set_cons_zero, List.set_cons_succ, List.getElem_toArray, List.getElem_cons_zero, List.getElem_cons_succ]
            refine wpAnyH_take (i := 20) (v := undef) rfl (by kernel_rfl) (by kernel_rfl) (by kernel_rfl) (fun _ _ _ h => h) (Or.inr ⟨by rfl, rfl⟩) hHeld ?_
            simp only [Act.put, List.setIfInBounds_toArray, List.set_cons_zero, List.set_cons_succ, List.getElem_toArray, List.getElem_cons_zero, List.getElem_cons_succ]
            refine wpAnyH_take (i := 21) (v := undef) rfl (by kernel_rfl) (by kernel_rfl) (by kernel_rfl) (fun _ _ _ h => h) (Or.inr ⟨by rfl, rfl⟩) hHeld ?_
            simp only [Act.put, List.setIfInBounds_toArray, List.set_cons_zero, List.set_cons_succ, List.getElem_toArray, List.getElem_cons_zero, List.getElem_cons_succ]
            refine wpAnyH_take (i := 22) (v := undef) rfl (by kernel_rfl) (by kernel_rfl) (by kernel_rfl) (fun _ _ _ h => h) (Or.inr ⟨by rfl, rfl⟩) hHeld ?_
            simp only [Act.put, List.setIfInBounds_toArray, List.set_cons_zero, List.set_cons_succ, List.getElem_toArray, List.getElem_cons_zero, List.getElem_cons_succ]
            refine wpAnyH_take (i := 23) (v := undef) rfl (by kernel_rfl) (by kernel_rfl) (by kernel_rfl) (fun _ _ _ h => h) (Or.inr ⟨by rfl, rfl⟩) hHeld ?_
            simp only [Act.put, List.setIfInBounds_toArray, List.set_cons_zero, List.set_cons_succ, List.getElem_toArray, List.getElem_cons_zero, List.getElem_cons_succ]
            refine wpAnyH_take (i := 24) (v := undef) rfl (by kernel_rfl) (by kernel_rfl) (by kernel_rfl) (fun _ _ _ h => h) (Or.inr ⟨by rfl, rfl⟩) hHeld ?_
            simp only [Act.put, List.setIfInBounds_toArray, List.set_cons_zero, List.set_cons_succ, List.getElem_toArray, List.getElem_cons_zero, List.getElem_cons_succ]
            refine wpAnyH_take (i := 25) (v := undef) rfl (by kernel_rfl) (by kernel_rfl) (by kernel_rfl) (fun _ _ _ h => h) (Or.inr ⟨by rfl, rfl⟩) hHeld ?_
            simp only [Act.put, List.setIfInBounds_toArray, List.set_cons_zero, List.set_cons_succ, List.getElem_toArray, List.getElem_cons_zero, List.getElem_cons_succ]
            refine wpAnyH_take (i := 26) (v := undef) rfl (by kernel_rfl) (by kernel_rfl) (by kernel_rfl) (fun _ _ _ h => h) (Or.inr ⟨by rfl, rfl⟩) hHeld ?_
            simp only [Act.put, List.setIfInBounds_toArray, List.set_cons_zero, List.set_cons_succ, List.getElem_toArray, List.getElem_cons_zero, List.getElem_cons_succ]
            refine wpAnyH_take (i := 27) (v := undef) rfl (by kernel_rfl) (by kernel_rfl) (by kernel_rfl) (fun _ _ _ h => h) (Or.inr ⟨by rfl, rfl⟩) hHeld ?_
            simp only [Act.put, List.setIfInBounds_toArray, List.set_cons_zero, List.set_cons_succ, List.getElem_toArray, List.getElem_cons_zero, List.getElem_cons_succ]
            refine' wpAnyH_take (i := 28) (v := _) rfl (by kernel_rfl) (by kernel_rfl) (by kernel_rfl) (fun _ _ _ h => h) (Or.inl ⟨by rfl, ?hy61⟩) hHeld ?hr61
            case hy61 => (intro w hSw; (try dsimp only at hSw); go_simp; (try with_reducible rfl))
            simp only [Act.put, List.setIfInBounds_toArray, List.set_cons_zero, List.set_cons_succ, List.getElem_toArray, List.getElem_cons_zero, List.getElem_cons_succ]
            refine wpAnyH_done (by kernel_rfl) ?_ _
            refine NoPanic.normal ?_
            go_wp2
            go_roundw
            case rel => exact ⟨k + 1, by omega, by go_num, rfl, rfl, rfl, hnx, kW2.out.trans (hd.mono kW2.out.size)⟩
            case measure => simp [intOf]; omega
        · exfalso
          have : k = 3 := by omega
          subst this
          exact hsome.out i j hpos.out hne.out hmin.out
    · clear h00
      by_cases hA : alikeB xs ys i j = true
      · obtain ⟨i1, j1, hi1, hj1, hEq, hDq⟩ := hAl.out i j hA
        have hcal := hal.out wr kb i j hi hj
        rw [hA] at hcal
        replace hi1 := (show Hid _ from hi1)
        replace hj1 := (show Hid _ from hj1)
        have e3 : IntKind.i64.wrap ((i : Int) - 1) = (i1 : Int) := wid (by have := hi1.out; omega) (by omega) (by omega)
        have e8 : IntKind.i64.wrap ((j : Int) - 1) = (j1 : Int) := wid (by have := hj1.out; omega) (by omega) (by omega)
        have hq2 : Hid (es ++ EE i1 j1 = E) := by show _ = _; rw [← hEq]; exact hq.out
        have hDL2 : Hid (D i1 j1 ≤ L) := by show _ ≤ _; rw [← hDq]; exact hDL.out
        clear hEq hDq hA
        go_wp2_with fail
        refine hcal.mono ?_
        rintro e w2 ⟨rfl, hb2⟩
        have ho2 : Hid (OwnE w2 w.heap.size g cap es) := World.ownsRow.kept ho.out (Below.gr hb2 none) (.inr (by simp [Value.ownBlock]))
        have kb2 := kb.trans (hb2.mono kb.size)
        clear hcal hb2
        go_wp2
        go_roundw
        case rel => exact ⟨i1, j1, es, g, cap, by have := hi1.out; omega, by have := hj1.out; omega, rfl, rfl, rfl, ho2.out, hq2, kb2, hDL2.out⟩
        case measure => simp [intOf]; have := hi1.out; have := hj1.out; omega
      have hA : alikeB xs ys i j = false := by simpa using hA
      have hne := hNal.out i j hA
      have hcal := hal.out wr kb i j hi hj
      rw [hA] at hcal
      replace hne := (show Hid _ from hne)
      clear hA
      go_wp2_with fail
      refine hcal.mono ?_
      rintro e w2 ⟨rfl, hb2⟩
      have ho2 : Hid (OwnE w2 w.heap.size g cap es) := World.ownsRow.kept ho.out (Below.gr hb2 none) (.inr (by simp [Value.ownBlock]))
      have kb2 := kb.trans (hb2.mono kb.size)
      have hgl := (OwnE.lt ho2.out).2
      have c2 := (hRc.out w2 kb2).2.2.1
      clear hcal hb2 ho kb
      go_wp2
      go_loopw [3, 4, 5, 7, 38] (fun ov iv jv _ kv wr => ∃ k : Nat, k ≤ 3 ∧ kv = .int .i64 k ∧ ov = .slice (some ⟨g, 0, none⟩) es.length cap ∧ iv = .int .i64 i ∧ jv = .int .i64 j ∧ Hid (∀ k', k' < k → ¬ CH i j k') ∧ Below w2.heap.size w2 wr) (fun _ _ _ _ kv _ => 3 - (intOf kv).toNat)
      case atStart => exact ⟨0, by omega, rfl, rfl, rfl, rfl, fun k' h => absurd h (Nat.not_lt_zero _), Below.refl _ _⟩
      case round =>
        obtain ⟨k, hk, rfl, rfl, rfl, rfl, hmin, k3⟩ := hrel
        by_cases hk3 : k < 3
        · have kbr := kb2.trans (k3.mono kb2.size)
          obtain ⟨v0, v1, v2⟩ := hVc2.out k hk3 wr kbr
          obtain ⟨b1, b2, b3⟩ := wayN_bd k
          have hch := hcho.out i j k
          have hwk := fun (hc : CH i j k) => hway.out i j k hk3 hne.out hc hmin.out
          have hnext : (¬ CH i j k) → Hid (∀ k', k' < k + 1 → ¬ CH i j k') := fun h k' h1 => by
            by_cases e : k' = k
            · rw [e]; exact h
            · exact hmin.out k' (by omega)
          generalize wayN k = wk at v0 v1 v2 b1 b2 b3 hch hwk
          obtain ⟨kd, fa, fb⟩ := wk
          dsimp only at v0 v1 v2 b1 b2 b3 hch hwk
          have hki : (k : Int) < 3 := by omega
          have hal1 := bal' wr (Obj.cells #[.int .i64 kd, .int .i64 fa, .int .i64 fb] 54)
          have hbx : BlkC (wr.alloc (Obj.cells #[.int .i64 kd, .int .i64 fa, .int .i64 fb] 54)) wr.heap.size 54 [.int .i64 kd, .int .i64 fa, .int .i64 fb] := heap_alloc_new wr _
          have kW := kbr.trans (hal1.mono kbr.size)
          have kW2 := k3.trans (hal1.mono k3.size)
          have hsz2 := k3.size
          have hbc : ∀ W, Below (wr.alloc (Obj.cells #[.int .i64 kd, .int .i64 fa, .int .i64 fb] 54)).heap.size (wr.alloc (Obj.cells #[.int .i64 kd, .int .i64 fa, .int .i64 fb] 54)) W → W.cell? ⟨wr.heap.size, 0, none⟩ = some (.int .i64 kd) ∧ W.cell? ⟨wr.heap.size, 1, none⟩ = some (.int .i64 fa) ∧ W.cell? ⟨wr.heap.size, 2, none⟩ = some (.int .i64 fb) := fun W k => by
            have := BlkC.below hbx k
            exact ⟨cell_blk this 0, cell_blk this 1, cell_blk this 2⟩
          have hd0 : Below (wr.alloc (Obj.cells #[.int .i64 kd, .int .i64 fa, .int .i64 fb] 54)).heap.size (wr.alloc (Obj.cells #[.int .i64 kd, .int .i64 fa, .int .i64 fb] 54)) (wr.alloc (Obj.cells #[.int .i64 kd, .int .i64 fa, .int .i64 fb] 54)).drew := ⟨rfl, rfl, rfl, Nat.le_refl _, fun _ _ => rfl⟩
          have hVw : V < wr.heap.size := Nat.lt_of_lt_of_le hVl kbr.size
          replace hwk := (show Hid _ from hwk)
          replace hch := (show Hid _ from hch)
          replace hbc := (show Hid _ from hbc)
          replace hnext := (show Hid _ from hnext)
          replace kW := (show Hid _ from kW)
          replace kW2 := (show Hid _ from kW2)
          replace hd0 := (show Hid _ from hd0)
          clear hbx hal1
          by_cases hfit : fa ≤ i ∧ fb ≤ j
          · obtain ⟨hf0, hf1⟩ := hfit
            have hft := fun W => fits_any kd fa fb i j W
            simp only [decide_eq_true (And.intro hf0 hf1)] at hft
            obtain ⟨p, hp⟩ : ∃ p, Hid (i - fa = p) := ⟨_, rfl⟩
            obtain ⟨q, hqq⟩ : ∃ q, Hid (j - fb = q) := ⟨_, rfl⟩
            have hpi := hp.out
            have hqj := hqq.out
            have g1 : IntKind.i64.wrap ((i : Int) - (fa : Int)) = (p : Int) := wid (by omega) (by omega) (by omega)
            have g2 : IntKind.i64.wrap ((j : Int) - (fb : Int)) = (q : Int) := wid (by omega) (by omega) (by omega)
            have p41 : (p : Int) < 41 := by omega
            have q41 : (q : Int) < 41 := by omega
            have i41 : (i : Int) < 41 := by omega
            have j41 : (j : Int) < 41 := by omega
            obtain ⟨rp, hrp⟩ : ∃ rp, Hid (R p q = rp) := ⟨_, rfl⟩
            obtain ⟨rij, hrij⟩ : ∃ rij, Hid (R i j = rij) := ⟨_, rfl⟩
            have hRp : rp = edC L (D p q) := by rw [← hrp.out]; exact hF.out p q (by omega) (by omega)
            have hRij : rij = D i j := by rw [← hrij.out, hF.out i j hi hj]; unfold edC; exact if_pos hDL.out
            have hless := edC_less L (D i j) (D p q) hDL.out hL.2
            rw [← hRp, ← hRij] at hless
            have hcl : ∀ W, Below (wr.alloc (Obj.cells #[.int .i64 kd, .int .i64 fa, .int .i64 fb] 54)).heap.size (wr.alloc (Obj.cells #[.int .i64 kd, .int .i64 fa, .int .i64 fb] 54)) W → W.cell? ⟨wr.heap.size, 0, none⟩ = some (.int .i64 kd) ∧ W.cell? ⟨wr.heap.size, 1, none⟩ = some (.int .i64 fa) ∧ W.cell? ⟨wr.heap.size, 2, none⟩ = some (.int .i64 fb) ∧ W.cell? ⟨B, 4 + p * 41 + q, none⟩ = some (.int .i64 rp) ∧ W.cell? ⟨B, 4 + i * 41 + j, none⟩ = some (.int .i64 rij) := fun W k => by
              obtain ⟨z0, z1, z2⟩ := hbc.out W k
              have z3 := hRa.out W (kW.out.trans (k.mono kW.out.size)) p q (by omega) (by omega)
              have z4 := hRa.out W (kW.out.trans (k.mono kW.out.size)) i j (by omega) (by omega)
              rw [hrp.out] at z3
              rw [hrij.out] at z4
              exact ⟨z0, z1, z2, z3, z4⟩
            have hchk := hch.out
            rw [hpi, hqj, ← hRij] at hchk
            replace hcl := (show Hid _ from hcl)
            clear hpi hqj hRp
            by_cases hc : rp < rij
            · have hEk := hwk.out (hchk.2 ⟨hf0, hf1, hless.1 hc⟩)
              rw [hp.out, hqq.out] at hEk
              have hqs : es ++ (kd, (p : Int), if fb = 0 then 0 else ys.getD (j - 1) 0) :: EE p q = E := by rw [← hEk]; exact hq.out
              have hDL3 : Hid (D p q ≤ L) := by show _ ≤ _; have := hless.1 hc; have := hDL.out; omega
              clear hEk hchk hless hRij
              replace hqs := (show Hid _ from hqs)
              have hd := hd0.out
              go_wp2
              refine wp_region_noPanic ?_
              refine wp_region_held_drew (S := (fun W => W.cell? ⟨wr.heap.size, 0, none⟩ = some (.int .i64 kd) ∧ W.cell? ⟨wr.heap.size, 1, none⟩ = some (.int .i64 fa) ∧ W.cell? ⟨wr.heap.size, 2, none⟩ = some (.int .i64 fb) ∧ W.cell? ⟨B, 4 + p * 41 + q, none⟩ = some (.int .i64 rp) ∧ W.cell? ⟨B, 4 + i * 41 + j, none⟩ = some (.int .i64 rij))) (by kernel_rfl) (hcl.out _ hd) (fun hHeld => ?_)
              refine' wpAnyH_take (i := 0) (v := _) rfl (by kernel_rfl) (by kernel_rfl) (by kernel_rfl) (fun _ _ _ h => h) (Or.inl ⟨by rfl, ?hy62⟩) hHeld ?hr62
              case hy62 => (intro w hSw; (try dsimp only at hSw); go_simp; (try with_reducible rfl))
              simp only [Act.put, List.setIfInBounds_toArray, List.set_cons_zero, List.set_cons_succ, List.getElem_toArray, List.getElem_cons_zero]
              refine' wpAnyH_take (i := 1) (v := _) rfl (by kernel_rfl) (by kernel_rfl) (by kernel_rfl) (fun _ _ _ h => h) (Or.inl ⟨by rfl, ?hy63⟩) hHeld ?hr63
              case hy63 => (intro w hSw; (try dsimp only at hSw); go_simp; (try with_reducible rfl))
              simp only [Act.put, List.setIfInBounds_toArray, List.set_cons_zero, List.set_cons_succ, List.getElem_toArray, List.getElem_cons_zero, List.getElem_cons_succ]
              refine' wpAnyH_take (i := 2) (v := _) rfl (by kernel_rfl) (by kernel_rfl) (by kernel_rfl) (fun _ _ _ h => h) (Or.inl ⟨by rfl, ?hy64⟩) hHeld ?hr64
              case hy64 => (intro w hSw; (try dsimp only at hSw); go_simp; (try with_reducible rfl))
              simp only [Act.put, List.setIfInBounds_toArray, List.set_cons_zero, List.set_cons_succ, List.getElem_toArray, List.getElem_cons_zero, List.getElem_cons_succ]
              refine wpAnyH_ready (rs := [3]) (by kernel_rfl) (by simp) (allReady_1 rfl rfl (fun K hK => ?_))
              go_simp
              refine (hft _).mono ?_
              rintro e w9 ⟨rfl, hb9⟩
              replace hd := hd.trans (hb9.mono hd.size)
              go_wp2_with fail
              refine hK.out _ _ (hcl.out _ hd) (fun hHeld => ?_)
              clear hK K
              (try simp only [Act.put, List.setIfInBounds_toArray, List.set_cons_zero, List.set_cons_succ])
              refine' wpAnyH_take (i := 4) (v := _) rfl (by kernel_rfl) (by kernel_rfl) (by kernel_rfl) (fun _ _ _ h => h) (Or.inl ⟨by rfl, ?hy65⟩) hHeld ?hr65
              case hy65 => (intro w hSw; (try dsimp only at hSw); go_simp; (try with_reducible rfl))
              simp only [Act.put, List.setIfInBounds_toArray, List.set_cons_zero, List.set_cons_succ, List.getElem_toArray, List.getElem_cons_zero, List.getElem_cons_succ]
              refine' wpAnyH_take (i := 5) (v := _) rfl (by kernel_rfl) (by kernel_rfl) (by kernel_rfl) (fun _ _ _ h => h) (Or.inl ⟨by rfl, ?hy66⟩) hHeld ?hr66
              case hy66 => (intro w hSw; (try dsimp only at hSw); go_simp; (try with_reducible rfl))
              simp only [Act.put, List.setIfInBounds_toArray, List.set_cons_zero, List.set_cons_succ, List.getElem_toArray, List.getElem_cons_zero, List.getElem_cons_succ]
              refine' wpAnyH_take (i := 6) (v := _) rfl (by kernel_rfl) (by kernel_rfl) (by kernel_rfl) (fun _ _ _ h => h) (Or.inl ⟨by rfl, ?hy67⟩) hHeld ?hr67
              case hy67 => (intro w hSw; (try dsimp only at hSw); go_simp; (try with_reducible rfl))
              simp only [Act.put, List.setIfInBounds_toArray, List.set_cons_zero, List.set_cons_succ, List.getElem_toArray, List.getElem_cons_zero, List.getElem_cons_succ]
              refine' wpAnyH_take (i := 7) (v := _) rfl (by kernel_rfl) (by kernel_rfl) (by kernel_rfl) (fun _ _ _ h => h) (Or.inl ⟨by rfl, ?hy68⟩) hHeld ?hr68
              case hy68 => (intro w hSw; (try dsimp only at hSw); go_simp; (try with_reducible rfl))
              simp only [Act.put, List.setIfInBounds_toArray, List.set_cons_zero, List.set_cons_succ, List.getElem_toArray, List.getElem_cons_zero, List.getElem_cons_succ]
              refine' wpAnyH_take (i := 8) (v := _) rfl (by kernel_rfl) (by kernel_rfl) (by kernel_rfl) (fun _ _ _ h => h) (Or.inl ⟨by rfl, ?hy69⟩) hHeld ?hr69
              case hy69 => (intro w hSw; (try dsimp only at hSw); go_simp; (try with_reducible rfl))
              simp only [Act.put, List.setIfInBounds_toArray, List.set_cons_zero, List.set_cons_succ, List.getElem_toArray, List.getElem_cons_zero, List.getElem_cons_succ]
              refine' wpAnyH_take (i := 9) (v := _) rfl (by kernel_rfl) (by kernel_rfl) (by kernel_rfl) (fun _ _ _ h => h) (Or.inl ⟨by rfl, ?hy70⟩) hHeld ?hr70
              case hy70 => (intro w hSw; (try dsimp only at hSw); go_simp; (try with_reducible rfl))
              simp only [Act.put, List.setIfInBounds_toArray, List.set_cons_zero, List.set_cons_succ, List.getElem_toArray, List.getElem_cons_zero, List.getElem_cons_succ]
              refine' wpAnyH_take (i := 10) (v := _) rfl (by kernel_rfl) (by kernel_rfl) (by kernel_rfl) (fun _ _ _ h => h) (Or.inl ⟨by rfl, ?hy71⟩) hHeld ?hr71
              case hy71 => (intro w hSw; (try dsimp only at hSw); go_simp; (try with_reducible rfl))
              simp only [Act.put, List.setIfInBounds_toArray, List.set_cons_zero, List.set_cons_succ, List.getElem_toArray, List.getElem_cons_zero, List.getElem_cons_succ]
              refine' wpAnyH_take (i := 11) (v := _) rfl (by kernel_rfl) (by kernel_rfl) (by kernel_rfl) (fun _ _ _ h => h) (Or.inl ⟨by rfl, ?hy72⟩) hHeld ?hr72
              case hy72 => (intro w hSw; (try dsimp only at hSw); go_simp; (try with_reducible rfl))
              simp only [Act.put, List.setIfInBounds_toArray, List.set_cons_zero, List.set_cons_succ, List.getElem_toArray, List.getElem_cons_zero, List.getElem_cons_succ]
              refine' wpAnyH_take (i := 12) (v := _) rfl (by kernel_rfl) (by kernel_rfl) (by kernel_rfl) (fun _ _ _ h => h) (Or.inl ⟨by rfl, ?hy73⟩) hHeld ?hr73
              case hy73 => (intro w hSw; (try dsimp only at hSw); go_simp; (try with_reducible rfl))
              simp only [Act.put, List.setIfInBounds_toArray, List.set_cons_zero, List.set_cons_succ, List.getElem_toArray, List.getElem_cons_zero, List.getElem_cons_succ]
              refine' wpAnyH_take (i := 13) (v := _) rfl (by kernel_rfl) (by kernel_rfl) (by kernel_rfl) (fun _ _ _ h => h) (Or.inl ⟨by rfl, ?hy74⟩) hHeld ?hr74
              case hy74 => (intro w hSw; (try dsimp only at hSw); go_simp; (try with_reducible rfl))
              simp only [Act.put, List.setIfInBounds_toArray, List.set_cons_zero, List.set_cons_succ, List.getElem_toArray, List.getElem_cons_zero, List.getElem_cons_succ]
              refine' wpAnyH_take (i := 14) (v := _) rfl (by kernel_rfl) (by kernel_rfl) (by kernel_rfl) (fun _ _ _ h => h) (Or.inl ⟨by rfl, ?hy75⟩) hHeld ?hr75
              case hy75 => (intro w hSw; (try dsimp only at hSw); go_simp; (try with_reducible rfl))
              simp only [Act.put, List.setIfInBounds_toArray, List.set_cons_zero, List.set_cons_succ, List.getElem_toArray, List.getElem_cons_zero, List.getElem_cons_succ]
              refine' wpAnyH_take (i := 15) (v := _) rfl (by kernel_rfl) (by kernel_rfl) (by kernel_rfl) (fun _ _ _ h => h) (Or.inl ⟨by rfl, ?hy76⟩) hHeld ?hr76
              case hy76 => (intro w hSw; (try dsimp only at hSw); go_simp; (try with_reducible rfl))
              simp only [Act.put, List.setIfInBounds_toArray, List.set_cons_zero, List.set_cons_succ, List.getElem_toArray, List.getElem_cons_zero, List.getElem_cons_succ]
              refine' wpAnyH_take (i := 16) (v := _) rfl (by kernel_rfl) (by kernel_rfl) (by kernel_rfl) (fun _ _ _ h => h) (Or.inl ⟨by rfl, ?hy77⟩) hHeld ?hr77
              case hy77 => (intro w hSw; (try dsimp only at hSw); go_simp; (try with_reducible rfl))
              simp only [Act.put, List.setIfInBounds_toArray, List.set_cons_zero, List.set_cons_succ, List.getElem_toArray, List.getElem_cons_zero, List.getElem_cons_succ]
              refine' wpAnyH_take (i := 17) (v := _) rfl (by kernel_rfl) (by kernel_rfl) (by kernel_rfl) (fun _ _ _ h => h) (Or.inl ⟨by rfl, ?hy78⟩) hHeld ?hr78
              case hy78 => (intro w hSw; (try dsimp only at hSw); go_simp; (try with_reducible rfl))
              simp only [Act.put, List.setIfInBounds_toArray, List.set_cons_zero, List.set_cons_succ, List.getElem_toArray, List.getElem_cons_zero, List.getElem_cons_succ]
              refine' wpAnyH_take (i := 18) (v := _) rfl (by kernel_rfl) (by kernel_rfl) (by kernel_rfl) (fun _ _ _ h => h) (Or.inl ⟨by rfl, ?hy79⟩) hHeld ?hr79
              case hy79 => (intro w hSw; (try dsimp only at hSw); go_simp; (try with_reducible rfl))
              simp only [Act.put, List.setIfInBounds_toArray, List.set_cons_zero, List.set_cons_succ, List.getElem_toArray, List.getElem_cons_zero, List.getElem_cons_succ]
              refine' wpAnyH_take (i := 19) (v := _) rfl (by kernel_rfl) (by kernel_rfl) (by kernel_rfl) (fun _ _ _ h => h) (Or.inl ⟨by rfl, ?hy80⟩) hHeld ?hr80
              case hy80 => (intro w hSw; (try dsimp only at hSw); go_simp; (try with_reducible rfl))
              simp only [Act.put, List.setIfInBounds_toArray, List.set_cons_zero, List.set_cons_succ, List.getElem_toArray, List.getElem_cons_zero, List.getElem_cons_succ]
              refine' wpAnyH_take (i := 20) (v := _) rfl (by kernel_rfl) (by kernel_rfl) (by kernel_rfl) (fun _ _ _ h => h) (Or.inl ⟨by rfl, ?hy81⟩) hHeld ?hr81
              case hy81 => (intro w hSw; (try dsimp only at hSw); go_simp; (try with_reducible rfl))
              simp only [Act.put, List.setIfInBounds_toArray, List.set_cons_zero, List.set_cons_succ, List.getElem_toArray, List.getElem_cons_zero, List.getElem_cons_succ]
              refine' wpAnyH_take (i := 21) (v := _) rfl (by kernel_rfl) (by kernel_rfl) (by kernel_rfl) (fun _ _ _ h => h) (Or.inl ⟨by rfl, ?hy82⟩) hHeld ?hr82
              case hy82 => (intro w hSw; (try dsimp only at hSw); go_simp; (try with_reducible rfl))
              simp only [Act.put, List.setIfInBounds_toArray, List.set_cons_zero, List.set_cons_succ, List.getElem_toArray, List.getElem_cons_zero, List.getElem_cons_succ]
              refine' wpAnyH_take (i := 22) (v := _) rfl (by kernel_rfl) (by kernel_rfl) (by kernel_rfl) (fun _ _ _ h => h) (Or.inl ⟨by rfl, ?hy83⟩) hHeld ?hr83
              case hy83 => (intro w hSw; (try dsimp only at hSw); go_simp; (try with_reducible rfl))
              simp only [Act.put, List.setIfInBounds_toArray, List.set_cons_zero, List.set_cons_succ, List.getElem_toArray, List.getElem_cons_zero, List.getElem_cons_succ]
              refine' wpAnyH_take (i := 23) (v := _) rfl (by kernel_rfl) (by kernel_rfl) (by kernel_rfl) (fun _ _ _ h => h) (Or.inl ⟨by rfl, ?hy84⟩) hHeld ?hr84
              case hy84 => (intro w hSw; (try dsimp only at hSw); go_simp; (try with_reducible rfl))
              simp only [Act.put, List.setIfInBounds_toArray, List.set_cons_zero, List.set_cons_succ, List.getElem_toArray, List.getElem_cons_zero, List.getElem_cons_succ]
              refine' wpAnyH_take (i := 24) (v := _) rfl (by kernel_rfl) (by kernel_rfl) (by kernel_rfl) (fun _ _ _ h => h) (Or.inl ⟨by rfl, ?hy85⟩) hHeld ?hr85
              case hy85 => (intro w hSw; (try dsimp only at hSw); go_simp; (try with_reducible rfl))
              simp only [Act.put, List.setIfInBounds_toArray, List.set_cons_zero, List.set_cons_succ, List.getElem_toArray, List.getElem_cons_zero, List.getElem_cons_succ]
              refine' wpAnyH_take (i := 25) (v := _) rfl (by kernel_rfl) (by kernel_rfl) (by kernel_rfl) (fun _ _ _ h => h) (Or.inl ⟨by rfl, ?hy86⟩) hHeld ?hr86
              case hy86 => (intro w hSw; (try dsimp only at hSw); go_simp; (try with_reducible rfl))
              simp only [Act.put, List.setIfInBounds_toArray, List.set_cons_zero, List.set_cons_succ, List.getElem_toArray, List.getElem_cons_zero, List.getElem_cons_succ]
              refine' wpAnyH_take (i := 26) (v := _) rfl (by kernel_rfl) (by kernel_rfl) (by kernel_rfl) (fun _ _ _ h => h) (Or.inl ⟨by rfl, ?hy87⟩) hHeld ?hr87
              case hy87 => (intro w hSw; (try dsimp only at hSw); go_simp; (try with_reducible rfl))
              simp only [Act.put, List.setIfInBounds_toArray, List.set_cons_zero, List.set_cons_succ, List.getElem_toArray, List.getElem_cons_zero, List.getElem_cons_succ]
              refine' wpAnyH_take (i := 27) (v := _) rfl (by kernel_rfl) (by kernel_rfl) (by kernel_rfl) (fun _ _ _ h => h) (Or.inl ⟨by rfl, ?hy88⟩) hHeld ?hr88
              case hy88 => (intro w hSw; (try dsimp only at hSw); go_simp; (try with_reducible rfl))
              simp only [Act.put, List.setIfInBounds_toArray, List.set_cons_zero, List.set_cons_succ, List.getElem_toArray, List.getElem_cons_zero, List.getElem_cons_succ]
              refine' wpAnyH_take (i := 28) (v := _) rfl (by kernel_rfl) (by kernel_rfl) (by kernel_rfl) (fun _ _ _ h => h) (Or.inl ⟨by rfl, ?hy89⟩) hHeld ?hr89
              case hy89 => (intro w hSw; (try dsimp only at hSw); go_simp; (try with_reducible rfl))
              simp only [Act.put, List.setIfInBounds_toArray, List.set_cons_zero, List.set_cons_succ, List.getElem_toArray, List.getElem_cons_zero, List.getElem_cons_succ]
              refine wpAnyH_done (by kernel_rfl) ?_ _
              refine NoPanic.normal ?_
              go_wp2_with fail
              have kb9 := kW.out.trans (hd.mono kW.out.size)
              obtain ⟨d0, d1, d2, _, _⟩ := hcl.out _ hd
              replace hq := hqs
              obtain ⟨yv, hyv⟩ : ∃ yv, Hid ((if fb = 0 then 0 else ys.getD (j - 1) 0) = yv) := ⟨_, rfl⟩
              have hedc := hed.out w9 kb9 kd fa fb i j hf0 ⟨b2, hf1⟩ (by omega) hj
              rw [hp.out, hyv.out] at hedc
              have hqs2 := hqs.out
              rw [hyv.out] at hqs2
              refine hedc.mono ?_
              rintro e w4 ⟨rfl, hb4⟩
              have kb4 := kb9.trans (hb4.mono kb9.size)
              have hk24 := (kW2.out.trans (hd.mono kW2.out.size)).trans (hb4.mono (Nat.le_trans kW2.out.size hd.size))
              have ho4 : OwnE w4 w.heap.size g cap es := World.ownsRow.kept ho2.out (Below.gr hk24 none) (.inr (by simp [Value.ownBlock]))
              have hbx9 : wr.heap.size < w9.heap.size := by have := hd.size; simp at this; omega
              have d4 : w4.cell? ⟨wr.heap.size, 1, none⟩ = some (.int .i64 fa) := (hb4.cell (p := ⟨wr.heap.size, 1, none⟩) hbx9).trans d1
              have d5 : w4.cell? ⟨wr.heap.size, 2, none⟩ = some (.int .i64 fb) := (hb4.cell (p := ⟨wr.heap.size, 2, none⟩) hbx9).trans d2
              have hbx4 : wr.heap.size < w4.heap.size := Nat.lt_of_lt_of_le hbx9 hb4.size
              have hes : es.length ≤ 200 := by have := congrArg List.length hqs2; rw [List.length_append] at this; omega
              have hq3 : Hid ((es ++ [(kd, (p : Int), yv)]) ++ EE p q = E) := by show _ = _; rw [List.append_assoc]; exact hqs2
              have hgl4 := OwnE.lt ho4
              clear hqs2 hq hqs hedc hk24 hb4 d0 d1 d2 kb9 hcl
              go_wp2_with (at_builtin; refine append_ed (w := w4) rfl _ _ rfl w.heap.size g cap es hes (by rfl) ho4 kd (p : Int) yv (by rfl) kb4.size ?_; intro g5 cap5 w5 ho5 hg5 hat)
              have kb5 := kb4.grown hg5 kb4.size (fun k e => by injection e with e; omega)
              have d6 : w5.cell? ⟨wr.heap.size, 1, none⟩ = some (.int .i64 fa) := (World.cell?_of_block (w := w4) (a := ⟨wr.heap.size, 1, none⟩) (hg5.block wr.heap.size hbx4 (fun e => by injection e with e; omega))).trans d4
              have d7 : w5.cell? ⟨wr.heap.size, 2, none⟩ = some (.int .i64 fb) := (World.cell?_of_block (w := w4) (a := ⟨wr.heap.size, 2, none⟩) (hg5.block wr.heap.size hbx4 (fun e => by injection e with e; omega))).trans d5
              replace ho5 := (show Hid _ from ho5)
              clear ho4 hg5 hat d4 d5 kb4
              go_wp2
              go_quiet (fail)
              go_wp2
              go_roundw
              case rel => exact ⟨p, q, es ++ [(kd, (p : Int), yv)], g5, cap5, by have := hp.out; omega, by have := hqq.out; omega, rfl, rfl, by rw [List.length_append]; rfl, ho5.out, hq3, kb5.trans (Below.mono (show Below w5.heap.size w5 (w5.drewN nq) from ⟨rfl, rfl, rfl, Nat.le_refl _, fun _ _ => rfl⟩) kb5.size), hDL3.out⟩
              case measure => simp [intOf]; have := hp.out; have := hqq.out; omega
            · have hncc : ¬ CH i j k := fun h => hc (hless.2 (hchk.1 h).2.2)
              have hnx := hnext.out hncc
              clear hchk hless hRij hncc
              have hd := hd0.out
              go_wp2
              refine wp_region_noPanic ?_
              refine wp_region_held_drew (S := (fun W => W.cell? ⟨wr.heap.size, 0, none⟩ = some (.int .i64 kd) ∧ W.cell? ⟨wr.heap.size, 1, none⟩ = some (.int .i64 fa) ∧ W.cell? ⟨wr.heap.size, 2, none⟩ = some (.int .i64 fb) ∧ W.cell? ⟨B, 4 + p * 41 + q, none⟩ = some (.int .i64 rp) ∧ W.cell? ⟨B, 4 + i * 41 + j, none⟩ = some (.int .i64 rij))) (by kernel_rfl) (hcl.out _ hd) (fun hHeld => ?_)
              refine' wpAnyH_take (i := 0) (v := _) rfl (by kernel_rfl) (by kernel_rfl) (by kernel_rfl) (fun _ _ _ h => h) (Or.inl ⟨by rfl, ?hy90⟩) hHeld ?hr90
              case hy90 => (intro w hSw; (try dsimp only at hSw); go_simp; (try with_reducible rfl))
              simp only [Act.put, List.setIfInBounds_toArray, List.set_cons_zero, List.set_cons_succ, List.getElem_toArray, List.getElem_cons_zero]
              refine' wpAnyH_take (i := 1) (v := _) rfl (by kernel_rfl) (by kernel_rfl) (by kernel_rfl) (fun _ _ _ h => h) (Or.inl ⟨by rfl, ?hy91⟩) hHeld ?hr91
              case hy91 => (intro w hSw; (try dsimp only at hSw); go_simp; (try with_reducible rfl))
              simp only [Act.put, List.setIfInBounds_toArray, List.set_cons_zero, List.set_cons_succ, List.getElem_toArray, List.getElem_cons_zero, List.getElem_cons_succ]
              refine' wpAnyH_take (i := 2) (v := _) rfl (by kernel_rfl) (by kernel_rfl) (by kernel_rfl) (fun _ _ _ h => h) (Or.inl ⟨by rfl, ?hy92⟩) hHeld ?hr92
              case hy92 => (intro w hSw; (try dsimp only at hSw); go_simp; (try with_reducible rfl))
              simp only [Act.put, List.setIfInBounds_toArray, List.set_cons_zero, List.set_cons_succ, List.getElem_toArray, List.getElem_cons_zero, List.getElem_cons_succ]
              refine wpAnyH_ready (rs := [3]) (by kernel_rfl) (by simp) (allReady_1 rfl rfl (fun K hK => ?_))
              go_simp
              refine (hft _).mono ?_
              rintro e w9 ⟨rfl, hb9⟩
              replace hd := hd.trans (hb9.mono hd.size)
              go_wp2_with fail
              refine hK.out _ _ (hcl.out _ hd) (fun hHeld => ?_)
              clear hK K
              (try simp only [Act.put, List.setIfInBounds_toArray, List.set_cons_zero, List.set_cons_succ])
              refine' wpAnyH_take (i := 4) (v := _) rfl (by kernel_rfl) (by kernel_rfl) (by kernel_rfl) (fun _ _ _ h => h) (Or.inl ⟨by rfl, ?hy93⟩) hHeld ?hr93
              case hy93 => (intro w hSw; (try dsimp only at hSw); go_simp; (try with_reducible rfl))
              simp only [Act.put, List.setIfInBounds_toArray, List.set_cons_zero, List.set_cons_succ, List.getElem_toArray, List.getElem_cons_zero, List.getElem_cons_succ]
              refine' wpAnyH_take (i := 5) (v := _) rfl (by kernel_rfl) (by kernel_rfl) (by kernel_rfl) (fun _ _ _ h => h) (Or.inl ⟨by rfl, ?hy94⟩) hHeld ?hr94
              case hy94 => (intro w hSw; (try dsimp only at hSw); go_simp; (try with_reducible rfl))
              simp only [Act.put, List.setIfInBounds_toArray, List.set_cons_zero, List.set_cons_succ, List.getElem_toArray, List.getElem_cons_zero, List.getElem_cons_succ]
              refine' wpAnyH_take (i := 6) (v := _) rfl (by kernel_rfl) (by kernel_rfl) (by kernel_rfl) (fun _ _ _ h => h) (Or.inl ⟨by rfl, ?hy95⟩) hHeld ?hr95
              case hy95 => (intro w hSw; (try dsimp only at hSw); go_simp; (try with_reducible rfl))
              simp only [Act.put, List.setIfInBounds_toArray, List.set_cons_zero, List.set_cons_succ, List.getElem_toArray, List.getElem_cons_zero, List.getElem_cons_succ]
              refine' wpAnyH_take (i := 7) (v := _) rfl (by kernel_rfl) (by kernel_rfl) (by kernel_rfl) (fun _ _ _ h => h) (Or.inl ⟨by rfl, ?hy96⟩) hHeld ?hr96
              case hy96 => (intro w hSw; (try dsimp only at hSw); go_simp; (try with_reducible rfl))
              simp only [Act.put, List.setIfInBounds_toArray, List.set_cons_zero, List.set_cons_succ, List.getElem_toArray, List.getElem_cons_zero, List.getElem_cons_succ]
              refine' wpAnyH_take (i := 8) (v := _) rfl (by kernel_rfl) (by kernel_rfl) (by kernel_rfl) (fun _ _ _ h => h) (Or.inl ⟨by rfl, ?hy97⟩) hHeld ?hr97
              case hy97 => (intro w hSw; (try dsimp only at hSw); go_simp; (try with_reducible rfl))
              simp only [Act.put, List.setIfInBounds_toArray, List.set_cons_zero, List.set_cons_succ, List.getElem_toArray, List.getElem_cons_zero, List.getElem_cons_succ]
              refine' wpAnyH_take (i := 9) (v := _) rfl (by kernel_rfl) (by kernel_rfl) (by kernel_rfl) (fun _ _ _ h => h) (Or.inl ⟨by rfl, ?hy98⟩) hHeld ?hr98
              case hy98 => (intro w hSw; (try dsimp only at hSw); go_simp; (try with_reducible rfl))
              simp only [Act.put, List.setIfInBounds_toArray, List.set_cons_zero, List.set_cons_succ, List.getElem_toArray, List.getElem_cons_zero, List.getElem_cons_succ]
              refine' wpAnyH_take (i := 10) (v := _) rfl (by kernel_rfl) (by kernel_rfl) (by kernel_rfl) (fun _ _ _ h => h) (Or.inl ⟨by rfl, ?hy99⟩) hHeld ?hr99
              case hy99 => (intro w hSw; (try dsimp only at hSw); go_simp; (try with_reducible rfl))
              simp only [Act.put, List.setIfInBounds_toArray, List.set_cons_zero, List.set_cons_succ, List.getElem_toArray, List.getElem_cons_zero, List.getElem_cons_succ]
              refine' wpAnyH_take (i := 11) (v := _) rfl (by kernel_rfl) (by kernel_rfl) (by kernel_rfl) (fun _ _ _ h => h) (Or.inl ⟨by rfl, ?hy100⟩) hHeld ?hr100
              case hy100 => (intro w hSw; (try dsimp only at hSw); go_simp; (try with_reducible rfl))
              simp only [Act.put, List.setIfInBounds_toArray, List.set_cons_zero, List.set_cons_succ, List.getElem_toArray, List.getElem_cons_zero, List.getElem_cons_succ]
              refine' wpAnyH_take (i := 12) (v := _) rfl (by kernel_rfl) (by kernel_rfl) (by kernel_rfl) (fun _ _ _ h => h) (Or.inl ⟨by rfl, ?hy101⟩) hHeld ?hr101
              case hy101 => (intro w hSw; (try dsimp only at hSw); go_simp; (try with_reducible rfl))
              simp only [Act.put, List.setIfInBounds_toArray, List.set_cons_zero, List.set_cons_succ, List.getElem_toArray, List.getElem_cons_zero, List.getElem_cons_succ]
              refine' wpAnyH_take (i := 13) (v := _) rfl (by kernel_rfl) (by kernel_rfl) (by kernel_rfl) (fun _ _ _ h => h) (Or.inl ⟨by rfl, ?hy102⟩) hHeld ?hr102
              case hy102 => (intro w hSw; (try dsimp only at hSw); go_simp; (try with_reducible rfl))
              simp only [Act.put, List.setIfInBounds_toArray, List.set_cons_zero, List.set_cons_succ, List.getElem_toArray, List.getElem_cons_zero, List.getElem_cons_succ]
              refine' wpAnyH_take (i := 14) (v := _) rfl (by kernel_rfl) (by kernel_rfl) (by kernel_rfl) (fun _ _ _ h => h) (Or.inl ⟨by rfl, ?hy103⟩) hHeld ?hr103
              case hy103 => (intro w hSw; (try dsimp only at hSw); go_simp; (try with_reducible rfl))
              simp only [Act.put, List.setIfInBounds_toArray, List.set_cons_zero, List.set_cons_succ, List.getElem_toArray, List.getElem_cons_zero, List.getElem_cons_succ]
              refine' wpAnyH_take (i := 15) (v := _) rfl (by kernel_rfl) (by kernel_rfl) (by kernel_rfl) (fun _ _ _ h => h) (Or.inl ⟨by rfl, ?hy104⟩) hHeld ?hr104
              case hy104 => (intro w hSw; (try dsimp only at hSw); go_simp; (try with_reducible rfl))
              simp only [Act.put, List.setIfInBounds_toArray, List.set_cons_zero, List.set_cons_succ, List.getElem_toArray, List.getElem_cons_zero, List.getElem_cons_succ]
              refine' wpAnyH_take (i := 16) (v := _) rfl (by kernel_rfl) (by kernel_rfl) (by kernel_rfl) (fun _ _ _ h => h) (Or.inl ⟨by rfl, ?hy105⟩) hHeld ?hr105
              case hy105 => (intro w hSw; (try dsimp only at hSw); go_simp; (try with_reducible rfl))
              simp only [Act.put, List.setIfInBounds_toArray, List.set_cons_zero, List.set_cons_succ, List.getElem_toArray, List.getElem_cons_zero, List.getElem_cons_succ]
              refine' wpAnyH_take (i := 17) (v := _) rfl (by kernel_rfl) (by kernel_rfl) (by kernel_rfl) (fun _ _ _ h => h) (Or.inl ⟨by rfl, ?hy106⟩) hHeld ?hr106
              case hy106 => (intro w hSw; (try dsimp only at hSw); go_simp; (try with_reducible rfl))
              simp only [Act.put, List.setIfInBounds_toArray, List.set_cons_zero, List.set_cons_succ, List.getElem_toArray, List.getElem_cons_zero, List.getElem_cons_succ]
              refine' wpAnyH_take (i := 18) (v := _) rfl (by kernel_rfl) (by kernel_rfl) (by kernel_rfl) (fun _ _ _ h => h) (Or.inl ⟨by rfl, ?hy107⟩) hHeld ?hr107
              case hy107 => (intro w hSw; (try dsimp only at hSw); go_simp; (try with_reducible rfl))
              simp only [Act.put, List.setIfInBounds_toArray, List.set_cons_zero, List.set_cons_succ, List.getElem_toArray, List.getElem_cons_zero, List.getElem_cons_succ]
              refine' wpAnyH_take (i := 19) (v := _) rfl (by kernel_rfl) (by kernel_rfl) (by kernel_rfl) (fun _ _ _ h => h) (Or.inl ⟨by rfl, ?hy108⟩) hHeld ?hr108
              case hy108 => (intro w hSw; (try dsimp only at hSw); go_simp; (try with_reducible rfl))
              simp only [Act.put, List.setIfInBounds_toArray, List.set_cons_zero, List.set_cons_succ, List.getElem_toArray, List.getElem_cons_zero, List.getElem_cons_succ]
              refine' wpAnyH_take (i := 20) (v := _) rfl (by kernel_rfl) (by kernel_rfl) (by kernel_rfl) (fun _ _ _ h => h) (Or.inl ⟨by rfl, ?hy109⟩) hHeld ?hr109
              case hy109 => (intro w hSw; (try dsimp only at hSw); go_simp; (try with_reducible rfl))
              simp only [Act.put, List.setIfInBounds_toArray, List.set_cons_zero, List.set_cons_succ, List.getElem_toArray, List.getElem_cons_zero, List.getElem_cons_succ]
              refine' wpAnyH_take (i := 21) (v := _) rfl (by kernel_rfl) (by kernel_rfl) (by kernel_rfl) (fun _ _ _ h => h) (Or.inl ⟨by rfl, ?hy110⟩) hHeld ?hr110
              case hy110 => (intro w hSw; (try dsimp only at hSw); go_simp; (try with_reducible rfl))
              simp only [Act.put, List.setIfInBounds_toArray, List.set_cons_zero, List.set_cons_succ, List.getElem_toArray, List.getElem_cons_zero, List.getElem_cons_succ]
              refine' wpAnyH_take (i := 22) (v := _) rfl (by kernel_rfl) (by kernel_rfl) (by kernel_rfl) (fun _ _ _ h => h) (Or.inl ⟨by rfl, ?hy111⟩) hHeld ?hr111
              case hy111 => (intro w hSw; (try dsimp only at hSw); go_simp; (try with_reducible rfl))
              simp only [Act.put, List.setIfInBounds_toArray, List.set_cons_zero, List.set_cons_succ, List.getElem_toArray, List.getElem_cons_zero, List.getElem_cons_succ]
              refine' wpAnyH_take (i := 23) (v := _) rfl (by kernel_rfl) (by kernel_rfl) (by kernel_rfl) (fun _ _ _ h => h) (Or.inl ⟨by rfl, ?hy112⟩) hHeld ?hr112
              case hy112 => (intro w hSw; (try dsimp only at hSw); go_simp; (try with_reducible rfl))
              simp only [Act.put, List.setIfInBounds_toArray, List.set_cons_zero, List.set_cons_succ, List.getElem_toArray, List.getElem_cons_zero, List.getElem_cons_succ]
              refine' wpAnyH_take (i := 24) (v := _) rfl (by kernel_rfl) (by kernel_rfl) (by kernel_rfl) (fun _ _ _ h => h) (Or.inl ⟨by rfl, ?hy113⟩) hHeld ?hr113
              case hy113 => (intro w hSw; (try dsimp only at hSw); go_simp; (try with_reducible rfl))
              simp only [Act.put, List.setIfInBounds_toArray, List.set_cons_zero, List.set_cons_succ, List.getElem_toArray, List.getElem_cons_zero, List.getElem_cons_succ]
              refine' wpAnyH_take (i := 25) (v := _) rfl (by kernel_rfl) (by kernel_rfl) (by kernel_rfl) (fun _ _ _ h => h) (Or.inl ⟨by rfl, ?hy114⟩) hHeld ?hr114
              case hy114 => (intro w hSw; (try dsimp only at hSw); go_simp; (try with_reducible rfl))
              simp only [Act.put, List.setIfInBounds_toArray, List.set_cons_zero, List.set_cons_succ, List.getElem_toArray, List.getElem_cons_zero, List.getElem_cons_succ]
              refine' wpAnyH_take (i := 26) (v := _) rfl (by kernel_rfl) (by kernel_rfl) (by kernel_rfl) (fun _ _ _ h => h) (Or.inl ⟨by rfl, ?hy115⟩) hHeld ?hr115
              case hy115 => (intro w hSw; (try dsimp only at hSw); go_simp; (try with_reducible rfl))
              simp only [Act.put, List.setIfInBounds_toArray, List.set_cons_zero, List.set_cons_succ, List.getElem_toArray, List.getElem_cons_zero, List.getElem_cons_succ]
              refine' wpAnyH_take (i := 27) (v := _) rfl (by kernel_rfl) (by kernel_rfl) (by kernel_rfl) (fun _ _ _ h => h) (Or.inl ⟨by rfl, ?hy116⟩) hHeld ?hr116
              case hy116 => (intro w hSw; (try dsimp only at hSw); go_simp; (try with_reducible rfl))
              simp only [Act.put, List.setIfInBounds_toArray, List.set_cons_zero, List.set_cons_succ, List.getElem_toArray, List.getElem_cons_zero, List.getElem_cons_succ]
              refine' wpAnyH_take (i := 28) (v := _) rfl (by kernel_rfl) (by kernel_rfl) (by kernel_rfl) (fun _ _ _ h => h) (Or.inl ⟨by rfl, ?hy117⟩) hHeld ?hr117
              case hy117 => (intro w hSw; (try dsimp only at hSw); go_simp; (try with_reducible rfl))
              simp only [Act.put, List.setIfInBounds_toArray, List.set_cons_zero, List.set_cons_succ, List.getElem_toArray, List.getElem_cons_zero, List.getElem_cons_succ]
              refine wpAnyH_done (by kernel_rfl) ?_ _
              refine NoPanic.normal ?_
              go_wp2
              go_roundw
              case rel => exact ⟨k + 1, by omega, by go_num, rfl, rfl, rfl, hnx, kW2.out.trans (hd.mono kW2.out.size)⟩
              case measure => simp [intOf]; omega
          · have hft := fun W => fits_any kd fa fb i j W
            simp only [decide_eq_false hfit] at hft
            have hncc : ¬ CH i j k := fun h => hfit ⟨(hch.out.1 h).1, (hch.out.1 h).2.1⟩
            have hnx := hnext.out hncc
            clear hncc hfit
            have hcl := hbc
            have hd := hd0.out
            go_wp2
            refine wp_region_noPanic ?_
            refine wp_region_held_drew (S := (fun W => W.cell? ⟨wr.heap.size, 0, none⟩ = some (.int .i64 kd) ∧ W.cell? ⟨wr.heap.size, 1, none⟩ = some (.int .i64 fa) ∧ W.cell? ⟨wr.heap.size, 2, none⟩ = some (.int .i64 fb))) (by kernel_rfl) (hcl.out _ hd) (fun hHeld => ?_)
            refine' wpAnyH_take (i := 0) (v := _) rfl (by kernel_rfl) (by kernel_rfl) (by kernel_rfl) (fun _ _ _ h => h) (Or.inl ⟨by rfl, ?hy118⟩) hHeld ?hr118
            case hy118 => (intro w hSw; (try dsimp only at hSw); go_simp; (try with_reducible rfl))
            simp only [Act.put, List.setIfInBounds_toArray, List.set_cons_zero, List.set_cons_succ, List.getElem_toArray, List.getElem_cons_zero]
            refine' wpAnyH_take (i := 1) (v := _) rfl (by kernel_rfl) (by kernel_rfl) (by kernel_rfl) (fun _ _ _ h => h) (Or.inl ⟨by rfl, ?hy119⟩) hHeld ?hr119
            case hy119 => (intro w hSw; (try dsimp only at hSw); go_simp; (try with_reducible rfl))
            simp only [Act.put, List.setIfInBounds_toArray, List.set_cons_zero, List.set_cons_succ, List.getElem_toArray, List.getElem_cons_zero, List.getElem_cons_succ]
            refine' wpAnyH_take (i := 2) (v := _) rfl (by kernel_rfl) (by kernel_rfl) (by kernel_rfl) (fun _ _ _ h => h) (Or.inl ⟨by rfl, ?hy120⟩) hHeld ?hr120
            case hy120 => (intro w hSw; (try dsimp only at hSw); go_simp; (try with_reducible rfl))
            simp only [Act.put, List.setIfInBounds_toArray, List.set_cons_zero, List.set_cons_succ, List.getElem_toArray, List.getElem_cons_zero, List.getElem_cons_succ]
            refine wpAnyH_ready (rs := [3]) (by kernel_rfl) (by simp) (allReady_1 rfl rfl (fun K hK => ?_))
            go_simp
            refine (hft _).mono ?_
            rintro e w9 ⟨rfl, hb9⟩
            replace hd := hd.trans (hb9.mono hd.size)
            go_wp2_with fail
            refine hK.out _ _ (hcl.out _ hd) (fun hHeld => ?_)
            clear hK K
            (try simp only [Act.put, List.setIfInBounds_toArray, List.set_cons_zero, List.set_cons_succ])
            refine' wpAnyH_take (i := 4) (v := _) rfl (by kernel_rfl) (by kernel_rfl) (by kernel_rfl) (fun _ _ _ h => h) (Or.inl ⟨by rfl, ?hy121⟩) hHeld ?hr121
            case hy121 => (intro w hSw; (try dsimp only at hSw); go_simp; (try with_reducible rfl))
            simp only [Act.put, List.setIfInBounds_toArray, List.set_cons_zero, List.set_cons_succ, List.getElem_toArray, List.getElem_cons_zero, List.getElem_cons_succ]
            refine wpAnyH_take (i := 5) (v := undef) rfl (by kernel_rfl) (by kernel_rfl) (by kernel_rfl) (fun _ _ _ h => h) (Or.inr ⟨by rfl, rfl⟩) hHeld ?_
            simp only [Act.put, List.setIfInBounds_toArray, List.set_cons_zero, List.set_cons_succ, List.getElem_toArray, List.getElem_cons_zero, List.getElem_cons_succ]
            refine wpAnyH_take (i := 6) (v := undef) rfl (by kernel_rfl) (by kernel_rfl) (by kernel_rfl) (fun _ _ _ h => h) (Or.inr ⟨by rfl, rfl⟩) hHeld ?_
            simp only [Act.put, List.setIfInBounds_toArray, List.set_cons_zero, List.set_cons_succ, List.getElem_toArray, List.getElem_cons_zero, List.getElem_cons_succ]
            refine wpAnyH_take (i := 7) (v := undef) rfl (by kernel_rfl) (by kernel_rfl) (by kernel_rfl) (fun _ _ _ h => h) (Or.inr ⟨by rfl, rfl⟩) hHeld ?_
            simp only [Act.put, List.setIfInBounds_toArray, List.set_cons_zero, List.set_cons_succ, List.getElem_toArray, List.getElem_cons_zero, List.getElem_cons_succ]
            refine wpAnyH_take (i := 8) (v := undef) rfl (by kernel_rfl) (by kernel_rfl) (by kernel_rfl) (fun _ _ _ h => h) (Or.inr ⟨by rfl, rfl⟩) hHeld ?_
            simp only [Act.put, List.setIfInBounds_toArray, List.set_cons_zero, List.set_cons_succ, List.getElem_toArray, List.getElem_cons_zero, List.getElem_cons_succ]
            refine wpAnyH_take (i := 9) (v := undef) rfl (by kernel_rfl) (by kernel_rfl) (by kernel_rfl) (fun _ _ _ h => h) (Or.inr ⟨by rfl, rfl⟩) hHeld ?_
            simp only [Act.put, List.setIfInBounds_toArray, List.set_cons_zero, List.set_cons_succ, List.getElem_toArray, List.getElem_cons_zero, List.getElem_cons_succ]
            refine wpAnyH_take (i := 10) (v := undef) rfl (by kernel_rfl) (by kernel_rfl) (by kernel_rfl) (fun _ _ _ h => h) (Or.inr ⟨by rfl, rfl⟩) hHeld ?_
            simp only [Act.put, List.setIfInBounds_toArray, List.set_cons_zero, List.set_cons_succ, List.getElem_toArray, List.getElem_cons_zero, List.getElem_cons_succ]
            refine wpAnyH_take (i := 11) (v := undef) rfl (by kernel_rfl) (by kernel_rfl) (by kernel_rfl) (fun _ _ _ h => h) (Or.inr ⟨by rfl, rfl⟩) hHeld ?_
            simp only [Act.put, List.setIfInBounds_toArray, List.set_cons_zero, List.set_cons_succ, List.getElem_toArray, List.getElem_cons_zero, List.getElem_cons_succ]
            refine wpAnyH_take (i := 12) (v := undef) rfl (by kernel_rfl) (by kernel_rfl) (by kernel_rfl) (fun _ _ _ h => h) (Or.inr ⟨by rfl, rfl⟩) hHeld ?_
            simp only [Act.put, List.setIfInBounds_toArray, List.set_cons_zero, List.set_cons_succ, List.getElem_toArray, List.getElem_cons_zero, List.getElem_cons_succ]
            refine wpAnyH_take (i := 13) (v := undef) rfl (by kernel_rfl) (by kernel_rfl) (by kernel_rfl) (fun _ _ _ h => h) (Or.inr ⟨by rfl, rfl⟩) hHeld ?_
            simp only [Act.put, List.setIfInBounds_toArray, List.set_cons_zero, List.set_cons_succ, List.getElem_toArray, List.getElem_cons_zero, List.getElem_cons_succ]
            refine wpAnyH_take (i := 14) (v := undef) rfl (by kernel_rfl) (by kernel_rfl) (by kernel_rfl) (fun _ _ _ h => h) (Or.inr ⟨by rfl, rfl⟩) hHeld ?_
            simp only [Act.put, List.setIfInBounds_toArray, List.set_cons_zero, List.set_cons_succ, List.getElem_toArray, List.getElem_cons_zero, List.getElem_cons_succ]
            refine wpAnyH_take (i := 15) (v := undef) rfl (by kernel_rfl) (by kernel_rfl) (by kernel_rfl) (fun _ _ _ h => h) (Or.inr ⟨by rfl, rfl⟩) hHeld ?_
            simp only [Act.put, List.setIfInBounds_toArray, List.set_cons_zero, List.set_cons_succ, List.getElem_toArray, List.getElem_cons_zero, List.getElem_cons_succ]
            refine wpAnyH_take (i := 16) (v := undef) rfl (by kernel_rfl) (by kernel_rfl) (by kernel_rfl) (fun _ _ _ h => h) (Or.inr ⟨by rfl, rfl⟩) hHeld ?_
            simp only [Act.put, List.setIfInBounds_toArray, List.set_cons_zero, List.set_cons_succ, List.getElem_toArray, List.getElem_cons_zero, List.getElem_cons_succ]
            refine wpAnyH_take (i := 17) (v := undef) rfl (by kernel_rfl) (by kernel_rfl) (by kernel_rfl) (fun _ _ _ h => h) (Or.inr ⟨by rfl, rfl⟩) hHeld ?_
            simp only [Act.put, List.setIfInBounds_toArray, List.set_cons_zero, List.set_cons_succ, List.getElem_toArray, List.getElem_cons_zero, List.getElem_cons_succ]
            refine wpAnyH_take (i := 18) (v := undef) rfl (by kernel_rfl) (by kernel_rfl) (by kernel_rfl) (fun _ _ _ h => h) (Or.inr ⟨by rfl, rfl⟩) hHeld ?_
            simp only [Act.put, List.setIfInBounds_toArray, List.set_cons_zero, List.set_cons_succ, List.getElem_toArray, List.getElem_cons_zero, List.getElem_cons_succ]
            refine wpAnyH_take (i := 19) (v := undef) rfl (by kernel_rfl) (by kernel_rfl) (by kernel_rfl) (fun _ _ _ h => h) (Or.inr ⟨by rfl, rfl⟩) hHeld ?_
            simp only [Act.put, List.setIfInBounds_toArray, List.set_cons_zero, List.set_cons_succ, List.getElem_toArray, List.getElem_cons_zero, List.getElem_cons_succ]
            refine wpAnyH_take (i := 20) (v := undef) rfl (by kernel_rfl) (by kernel_rfl) (by kernel_rfl) (fun _ _ _ h => h) (Or.inr ⟨by rfl, rfl⟩) hHeld ?_
            simp only [Act.put, List.setIfInBounds_toArray, List.set_cons_zero, List.set_cons_succ, List.getElem_toArray, List.getElem_cons_zero, List.getElem_cons_succ]
            refine wpAnyH_take (i := 21) (v := undef) rfl (by kernel_rfl) (by kernel_rfl) (by kernel_rfl) (fun _ _ _ h => h) (Or.inr ⟨by rfl, rfl⟩) hHeld ?_
            simp only [Act.put, List.setIfInBounds_toArray, List.set_cons_zero, List.set_cons_succ, List.getElem_toArray, List.getElem_cons_zero, List.getElem_cons_succ]
            refine wpAnyH_take (i := 22) (v := undef) rfl (by kernel_rfl) (by kernel_rfl) (by kernel_rfl) (fun _ _ _ h => h) (Or.inr ⟨by rfl, rfl⟩) hHeld ?_
            simp only [Act.put, List.setIfInBounds_toArray, List.set_cons_zero, List.set_cons_succ, List.getElem_toArray, List.getElem_cons_zero, List.getElem_cons_succ]
            refine wpAnyH_take (i := 23) (v := undef) rfl (by kernel_rfl) (by kernel_rfl) (by kernel_rfl) (fun _ _ _ h => h) (Or.inr ⟨by rfl, rfl⟩) hHeld ?_
            simp only [Act.put, List.setIfInBounds_toArray, List.set_cons_zero, List.set_cons_succ, List.getElem_toArray, List.getElem_cons_zero, List.getElem_cons_succ]
            refine wpAnyH_take (i := 24) (v := undef) rfl (by kernel_rfl) (by kernel_rfl) (by kernel_rfl) (fun _ _ _ h => h) (Or.inr ⟨by rfl, rfl⟩) hHeld ?_
            simp only [Act.put, List.setIfInBounds_toArray, List.set_cons_zero, List.set_cons_succ, List.getElem_toArray, List.getElem_cons_zero, List.getElem_cons_succ]
            refine wpAnyH_take (i := 25) (v := undef) rfl (by kernel_rfl) (by kernel_rfl) (by kernel_rfl) (fun _ _ _ h => h) (Or.inr ⟨by rfl, rfl⟩) hHeld ?_
            simp only [Act.put, List.setIfInBounds_toArray, List.set_cons_zero, List.set_cons_succ, List.getElem_toArray, List.getElem_cons_zero, List.getElem_cons_succ]
            refine wpAnyH_take (i := 26) (v := undef) rfl (by kernel_rfl) (by kernel_rfl) (by kernel_rfl) (fun _ _ _ h => h) (Or.inr ⟨by rfl, rfl⟩) hHeld ?_
            simp only [Act.put, List.setIfInBounds_toArray, List.set_cons_zero, List.set_cons_succ, List.getElem_toArray, List.getElem_cons_zero, List.getElem_cons_succ]
            refine wpAnyH_take (i := 27) (v := undef) rfl (by kernel_rfl) (by kernel_rfl) (by kernel_rfl) (fun _ _ _ h => h) (Or.inr ⟨by rfl, rfl⟩) hHeld ?_
            simp only [Act.put, List.setIfInBounds_toArray, List.set_cons_zero, List.set_cons_succ, List.getElem_toArray, List.getElem_cons_zero, List.getElem_cons_succ]
            refine' wpAnyH_take (i := 28) (v := _) rfl (by kernel_rfl) (by kernel_rfl) (by kernel_rfl) (fun _ _ _ h => h) (Or.inl ⟨by rfl, ?hy122⟩) hHeld ?hr122
            case hy122 => (intro w hSw; (try dsimp only at hSw); go_simp; (try with_reducible rfl))
            simp only [Act.put, List.setIfInBounds_toArray, List.set_cons_zero, List.set_cons_succ, List.getElem_toArray, List.getElem_cons_zero, List.getElem_cons_succ]
            refine wpAnyH_done (by kernel_rfl) ?_ _
            refine NoPanic.normal ?_
            go_wp2
            go_roundw
            case rel => exact ⟨k + 1, by omega, by go_num, rfl, rfl, rfl, hnx, kW2.out.trans (hd.mono kW2.out.size)⟩
            case measure => simp [intOf]; omega
        · exfalso
          have : k = 3 := by omega
          subst this
          exact hsome.out i j hpos.out hne.out hmin.out
end Go.Proofs.Ytdahcdgefflkaaa
