/- The program's route: its block, and what is read of it. The laws' own helpers on lists of edits: like, marked, held. The program's Edited: an edit that can be done, done. The specification's table of distances. The specification's Apart and Shared. The specification's Edits. The program's Edited: all edits, one behind the other. Appends onto a row that lies somewhere, its place said. Draws of what Edited is asked. The laws' comparison of two lists of edits that are alike. The specification's Edited. The program's route: alike, and the ways. The program's route: how far two beginnings are apart. -/
import Derived.Test.YtokoohmakjabnaaP1
import Derived.Deep.AppendLies
import Derived.Deep.RegionHeld3
import Derived.Maps.AppendAt
namespace Go.Proofs.Ytokoohmakjabnaa
open Go.ChangeShapes Go.WideShapes Go.ChangeAt Go.RowKit
theorem drwB (w : World) (n : Nat) : Below w.heap.size w (w.drewN n) := ⟨rfl, rfl, rfl, Nat.le_refl _, fun _ _ => rfl⟩
/-- A route's block: the lists, the ways, the limit, the rows. -/
def RtB (w : World) (B : Nat) (va vb vw : Value) (L : Int) (R : Nat → Nat → Int) : Prop :=
  ∃ cs : List Value, BlkC w B 68 cs ∧ cs.length = 1685 ∧ cs[0]? = some va ∧ cs[1]? = some vb ∧ cs[2]? = some vw ∧ cs[3]? = some (.int .i64 L) ∧ ∀ i j, i ≤ 40 → j ≤ 40 → cs[4 + i * 41 + j]? = some (.int .i64 (R i j))
theorem RtB.lt {w : World} {B : Nat} {va vb vw : Value} {L : Int} {R : Nat → Nat → Int} (h : RtB w B va vb vw L R) : B < w.heap.size := by
  obtain ⟨cs, hb, _⟩ := h
  exact hb.lt
theorem RtB.below {w w' : World} {B : Nat} {va vb vw : Value} {L : Int} {R : Nat → Nat → Int} (h : RtB w B va vb vw L R) (hb : Below w.heap.size w w') : RtB w' B va vb vw L R := by
  obtain ⟨cs, h1, h2⟩ := h
  exact ⟨cs, h1.below hb, h2⟩
theorem RtB.cells {w : World} {B : Nat} {va vb vw : Value} {L : Int} {R : Nat → Nat → Int} (h : RtB w B va vb vw L R) : w.cell? ⟨B, 0, none⟩ = some va ∧ w.cell? ⟨B, 1, none⟩ = some vb ∧ w.cell? ⟨B, 2, none⟩ = some vw ∧ w.cell? ⟨B, 3, none⟩ = some (.int .i64 L) := by
  obtain ⟨cs, h1, _, h2, h3, h4, h5, _⟩ := h
  exact ⟨(cell_blk h1 0).trans h2, (cell_blk h1 1).trans h3, (cell_blk h1 2).trans h4, (cell_blk h1 3).trans h5⟩
theorem RtB.at {w : World} {B : Nat} {va vb vw : Value} {L : Int} {R : Nat → Nat → Int} (h : RtB w B va vb vw L R) (i j : Nat) (hi : i ≤ 40) (hj : j ≤ 40) : w.cell? ⟨B, 4 + i * 41 + j, none⟩ = some (.int .i64 (R i j)) := by
  obtain ⟨cs, h1, _, _, _, _, _, h6⟩ := h
  exact (cell_blk h1 _).trans (h6 i j hi hj)
/-- One number of the rows becomes another. -/
def putR (R : Nat → Nat → Int) (i j : Nat) (x : Int) : Nat → Nat → Int := fun i' j' => if i' = i ∧ j' = j then x else R i' j'
/-- A row becomes all one number. -/
def rowR (R : Nat → Nat → Int) (i : Nat) (f : Nat → Int) : Nat → Nat → Int := fun i' j' => if i' = i then f j' else R i' j'
theorem RtB.put {w : World} {B : Nat} {va vb vw : Value} {L : Int} {R : Nat → Nat → Int} (h : RtB w B va vb vw L R) (i j : Nat) (hi : i ≤ 40) (hj : j ≤ 40) (x : Int) : RtB (w.setCell ⟨B, 4 + i * 41 + j, none⟩ (.int .i64 x)) B va vb vw L (putR R i j x) := by
  obtain ⟨cs, h1, hl, h2, h3, h4, h5, h6⟩ := h
  refine ⟨_, blk_set h1 _ _, by rw [List.length_set]; exact hl, ?_, ?_, ?_, ?_, fun i' j' hi' hj' => ?_⟩
  · rw [List.getElem?_set_ne (by omega)]; exact h2
  · rw [List.getElem?_set_ne (by omega)]; exact h3
  · rw [List.getElem?_set_ne (by omega)]; exact h4
  · rw [List.getElem?_set_ne (by omega)]; exact h5
  · unfold putR
    by_cases e : i' = i ∧ j' = j
    · obtain ⟨rfl, rfl⟩ := e
      rw [List.getElem?_set_self (by omega), if_pos ⟨rfl, rfl⟩]
    · rw [List.getElem?_set_ne (by omega), if_neg e]; exact h6 i' j' hi' hj'
theorem setV_get : ∀ (l : List Value) (k : Nat) (L : List Value) (p : Nat), k + l.length ≤ L.length → (setV L k l)[p]? = if k ≤ p ∧ p < k + l.length then l[p - k]? else L[p]?
  | [], k, L, p, _ => by rw [if_neg (by rw [List.length_nil]; omega)]; rfl
  | v :: l, k, L, p, h => by
    rw [List.length_cons] at h ⊢
    rw [setV, setV_get l (k + 1) _ p (by rw [List.length_set]; omega)]
    by_cases e : p = k
    · subst e
      rw [if_neg (by omega), if_pos (by omega), List.getElem?_set_self (by omega), Nat.sub_self]; rfl
    · rw [List.getElem?_set_ne (fun q => e q.symm)]
      by_cases hin : k ≤ p ∧ p < k + (l.length + 1)
      · rw [if_pos (by omega), if_pos hin, show p - k = (p - (k + 1)) + 1 by omega, List.getElem?_cons_succ]
      · rw [if_neg (by omega), if_neg hin]
theorem setV_len : ∀ (l : List Value) (k : Nat) (L : List Value), (setV L k l).length = L.length
  | [], _, _ => rfl
  | v :: l, k, L => by rw [setV, setV_len l (k + 1), List.length_set]
theorem RtB.row {w' : World} {B : Nat} {va vb vw : Value} {L : Int} {R : Nat → Nat → Int} {cs : List Value} (hl : cs.length = 1685) (h2 : cs[0]? = some va) (h3 : cs[1]? = some vb) (h4 : cs[2]? = some vw) (h5 : cs[3]? = some (.int .i64 L)) (h6 : ∀ i j, i ≤ 40 → j ≤ 40 → cs[4 + i * 41 + j]? = some (.int .i64 (R i j))) (i : Nat) (hi : i ≤ 40) (f : Nat → Int) (h : BlkC w' B 68 (setV cs (4 + i * 41) (rowV f))) : RtB w' B va vb vw L (rowR R i f) := by
  have hlen : 4 + i * 41 + (rowV f).length ≤ cs.length := by rw [rowV_len]; omega
  refine ⟨_, h, by rw [setV_len]; exact hl, ?_, ?_, ?_, ?_, fun i' j' hi' hj' => ?_⟩
  · rw [setV_get _ _ _ _ hlen, if_neg (by omega)]; exact h2
  · rw [setV_get _ _ _ _ hlen, if_neg (by omega)]; exact h3
  · rw [setV_get _ _ _ _ hlen, if_neg (by omega)]; exact h4
  · rw [setV_get _ _ _ _ hlen, if_neg (by omega)]; exact h5
  · unfold rowR
    rw [setV_get _ _ _ _ hlen, rowV_len]
    by_cases e : i' = i
    · subst e
      rw [if_pos (by omega), if_pos rfl, show 4 + i' * 41 + j' - (4 + i' * 41) = j' by omega]
      exact rowV_get f j' (by omega)
    · rw [if_neg (by omega), if_neg e]; exact h6 i' j' hi' hj'
set_option maxHeartbeats 1000000 in
set_option maxRecDepth 20000 in
theorem steps_any (B : Nat) (va vb vw : Value) (L : Int) (R : Nat → Nat → Int) (xs ys : List Int) (w : World) (h : RtB w B va vb vw L R) (ha : SlI w va xs) (hb : SlI w vb ys) (hx : xs.length ≤ 40) (hy : ys.length ≤ 40) :
    Calls Try.prog 43 #[.pointer (some ⟨B, 0, none⟩)] w fun e w' => e = .returned (.int .i64 (R xs.length ys.length)) ∧ ∃ k, w' = w.drewN k := by
  obtain ⟨a, c, rfl, _⟩ := ha
  obtain ⟨a', c', rfl, _⟩ := hb
  obtain ⟨c0, c1, _, _⟩ := h.cells
  have c4 := h.at xs.length ys.length hx hy
  generalize xs.length = m at *
  generalize ys.length = n at *
  generalize R m n = x at *
  clear h
  go_enter Try.func43, Try.ntmps43
  go_wp2
  go_quiet (fail)
  go_wp2
  go_ret
  exact ⟨rfl, nq, rfl⟩
end Go.Proofs.Ytokoohmakjabnaa
namespace Go.Proofs.Ytokoohmakjabnaa
open Go.ChangeShapes Go.WideShapes Go.ChangeAt Go.RowKit
/-- A slice of n edits that can be read, its numbers one behind the other. -/
def SlE (w : World) (v : Value) (n : Nat) (L : List Int) : Prop :=
  L.length = n * 3 ∧ ∃ a c, v = .slice a n c ∧ (n = 0 ∨ ∃ b, a = some ⟨b, 0, none⟩ ∧ b < w.heap.size ∧ ∀ i, i < n * 3 → w.cell? ⟨b, i, none⟩ = some (.int .i64 (L.getD i 0)))
theorem SlE.below {w w' : World} {v : Value} {n : Nat} {L : List Int} (h : SlE w v n L) (hb : Below w.heap.size w w') : SlE w' v n L := by
  obtain ⟨hl, a, c, hv, h | ⟨b, ha, hlt, hc⟩⟩ := h
  · exact ⟨hl, a, c, hv, .inl h⟩
  · exact ⟨hl, a, c, hv, .inr ⟨b, ha, Nat.lt_of_lt_of_le hlt hb.size, fun i hi => (hb.cell (p := ⟨b, i, none⟩) hlt).trans (hc i hi)⟩⟩
theorem SlE.of_own {w : World} {base : Nat} {e : TypeId} {v : Value} {n : Nat} {L : List Int} (h : w.ownsRow base e 3 v n (L.map (Value.int .i64))) : SlE w v n L := by
  have hl : L.length = n * 3 := by have := h.1; simpa using this
  refine ⟨hl, ?_⟩
  rcases h.2 with ⟨rfl, h2⟩ | ⟨g, cap, cur, rfl, hb, hg, hr⟩
  · exact ⟨none, 0, by rw [h2], .inl h2⟩
  · refine ⟨_, cap, rfl, .inr ⟨g, rfl, (Array.getElem?_eq_some_iff.1 hg).1, fun i hi => ?_⟩⟩
    rw [h.cellAt i hi]
    simp [List.getD_eq_getElem?_getD, show i < L.length by omega]
end Go.Proofs.Ytokoohmakjabnaa
namespace Go.Proofs.Ytokoohmakjabnaa
open Go.ChangeShapes Go.WideShapes Go.ChangeAt Go.RowKit
def edB (k a : Int) (n : Nat) : Bool := decide (((k = 1 ∨ k = 3) ∧ 0 ≤ a ∧ a < n) ∨ (k = 2 ∧ 0 ≤ a ∧ a ≤ n ∧ n < 80))
theorem edOne_some (l : List Int) (k a v : Int) : (edOne l (k, a, v)).isSome = edB k a l.length := by
  unfold edOne edB
  simp only
  by_cases h1 : k = 1
  · rw [if_pos h1]
    by_cases h : 0 ≤ a ∧ a < l.length
    · rw [if_pos h]; simp [h1, h.1, h.2]
    · rw [if_neg h]
      symm
      simp only [Option.isSome_none, decide_eq_false_iff_not]
      omega
  · rw [if_neg h1]
    by_cases h2 : k = 2
    · rw [if_pos h2]
      by_cases h : 0 ≤ a ∧ a ≤ l.length ∧ l.length < 80
      · rw [if_pos h]; simp [h2, h.1, h.2.1, h.2.2]
      · rw [if_neg h]
        symm
        simp only [Option.isSome_none, decide_eq_false_iff_not]
        omega
    · rw [if_neg h2]
      by_cases h3 : k = 3
      · rw [if_pos h3]
        by_cases h : 0 ≤ a ∧ a < l.length
        · rw [if_pos h]; simp [h3, h.1, h.2]
        · rw [if_neg h]
          symm
          simp only [Option.isSome_none, decide_eq_false_iff_not]
          omega
      · rw [if_neg h3]
        symm
        simp only [Option.isSome_none, decide_eq_false_iff_not]
        omega
set_option maxHeartbeats 1000000 in
theorem editOk_any (k a y : Int) (n : Nat) (w : World) (hn : n ≤ 1000) :
    Calls Try.prog 34 #[.agg #[.int .i64 k, .int .i64 a, .int .i64 y], .int .i64 n] w fun e w' => e = .returned (.bool (edB k a n)) ∧ Below w.heap.size w w' := by
  have hb := bal' w (Obj.cells #[.int .i64 k, .int .i64 a, .int .i64 y] 56)
  obtain ⟨r, hr⟩ : ∃ r, Hid (r = edB k a n) := ⟨_, rfl⟩
  rw [← hr.out]
  have hrT : Hid ((((k = 1 ∨ k = 3) ∧ 0 ≤ a ∧ a < n) ∨ (k = 2 ∧ 0 ≤ a ∧ a ≤ n ∧ n < 80)) → r = true) := fun h => by rw [hr.out]; exact decide_eq_true h
  have hrF : Hid (¬ (((k = 1 ∨ k = 3) ∧ 0 ≤ a ∧ a < n) ∨ (k = 2 ∧ 0 ≤ a ∧ a ≤ n ∧ n < 80)) → r = false) := fun h => by rw [hr.out]; exact decide_eq_false h
  clear hr
  replace hb := (show Hid _ from hb)
  by_cases h1 : k = 1
  · by_cases p0 : 0 ≤ a
    · by_cases p1 : a < n
      · have hv := hrT.out (.inl ⟨.inl h1, p0, p1⟩)
        subst hv
        clear hrT hrF
        go_enter Try.func34, Try.ntmps34
        go_wp2
        go_ret
        exact ⟨rfl, bal' w _⟩
      · have hv := hrF.out (by omega)
        subst hv
        clear hrT hrF
        go_enter Try.func34, Try.ntmps34
        go_wp2
        go_ret
        exact ⟨rfl, bal' w _⟩
    · have hv := hrF.out (by omega)
      subst hv
      clear hrT hrF
      go_enter Try.func34, Try.ntmps34
      go_wp2
      go_ret
      exact ⟨rfl, bal' w _⟩
  · by_cases h3 : k = 3
    · by_cases p0 : 0 ≤ a
      · by_cases p1 : a < n
        · have hv := hrT.out (.inl ⟨.inr h3, p0, p1⟩)
          subst hv
          clear hrT hrF
          go_enter Try.func34, Try.ntmps34
          go_wp2
          go_ret
          exact ⟨rfl, bal' w _⟩
        · have hv := hrF.out (by omega)
          subst hv
          clear hrT hrF
          go_enter Try.func34, Try.ntmps34
          go_wp2
          go_ret
          exact ⟨rfl, bal' w _⟩
      · have hv := hrF.out (by omega)
        subst hv
        clear hrT hrF
        go_enter Try.func34, Try.ntmps34
        go_wp2
        go_ret
        exact ⟨rfl, bal' w _⟩
    · by_cases h2 : k = 2
      · by_cases p0 : 0 ≤ a
        · by_cases p1 : a ≤ n
          · by_cases p2 : n < 80
            · have hv := hrT.out (.inr ⟨h2, p0, p1, p2⟩)
              have p2i : (n : Int) < 80 := by omega
              subst hv
              clear hrT hrF
              go_enter Try.func34, Try.ntmps34
              go_wp2
              go_ret
              exact ⟨rfl, bal' w _⟩
            · have hv := hrF.out (by omega)
              have p2i : ¬ (n : Int) < 80 := by omega
              subst hv
              clear hrT hrF
              go_enter Try.func34, Try.ntmps34
              go_wp2
              go_ret
              exact ⟨rfl, bal' w _⟩
          · have hv := hrF.out (by omega)
            subst hv
            clear hrT hrF
            go_enter Try.func34, Try.ntmps34
            go_wp2
            go_ret
            exact ⟨rfl, bal' w _⟩
        · have hv := hrF.out (by omega)
          subst hv
          clear hrT hrF
          go_enter Try.func34, Try.ntmps34
          go_wp2
          go_ret
          exact ⟨rfl, bal' w _⟩
      · have hv := hrF.out (by omega)
        subst hv
        clear hrT hrF
        go_enter Try.func34, Try.ntmps34
        go_wp2
        go_ret
        exact ⟨rfl, bal' w _⟩
set_option maxHeartbeats 1000000 in
set_option maxRecDepth 20000 in
theorem doEdit_any (base : Nat) (v : Value) (xs ys : List Int) (k a y : Int) (w : World) (ho : OwnI w base v xs) (hbw : base ≤ w.heap.size) (hl : xs.length ≤ 80) (he : edOne xs (k, a, y) = some ys) :
    Calls Try.prog 35 #[v, .agg #[.int .i64 k, .int .i64 a, .int .i64 y]] w fun e w' => ∃ v', e = .returned v' ∧ OwnI w' base v' ys ∧ w.grownBy w' v.ownBlock ∧ (∀ g, v'.ownBlock = some g → v.ownBlock = some g ∨ w.heap.size ≤ g) := by
  have hok : edB k a xs.length = true := by rw [← edOne_some xs k a y, he]; rfl
  have hok2 := of_decide_eq_true hok
  have hb0 := bal' w (Obj.cells #[.int .i64 k, .int .i64 a, .int .i64 y] 56)
  have hg0 := World.grownBy_alloc w (Obj.cells #[.int .i64 k, .int .i64 a, .int .i64 y] 56) v.ownBlock
  have ho1 := ho.below hb0
  obtain ⟨i, hi⟩ : ∃ i : Nat, a = (i : Int) := ⟨a.toNat, by omega⟩
  subst hi
  obtain ⟨sa, sn, sc, hsh⟩ := ho.shape
  by_cases h1 : k = 1
  · subst h1
    have hil : i < xs.length := by omega
    have hys : ys = xs.take i ++ xs.drop (i + 1) := by rw [edOne_take xs i y (by omega)] at he; cases he; rfl
    subst hys
    obtain ⟨g, cap, hv, _, _⟩ := World.ownsRow.form (show w.ownsRow base 2 1 v xs.length (xs.map (Value.int .i64)) from ho) (by omega)
    subst hv
    have hd := delete_any base g cap xs i _ ho1 hil
    have hw : IntKind.i64.wrap ((i : Int) + 1) = (i : Int) + 1 := by rw [IntKind.wrap_i64]; omega
    clear ho ho1 he hok hok2 hsh
    replace hg0 := (show Hid _ from hg0)
    go_enter Try.func35, Try.ntmps35
    go_wp2_with fail
    refine hd.mono ?_
    rintro e w1 ⟨rfl, ho, hg⟩
    go_wp2
    go_ret
    exact ⟨_, rfl, ho, grown_tr hg0.out hg, fun q e => .inl e⟩
  · by_cases h2 : k = 2
    · subst h2
      have hil : i ≤ xs.length := by omega
      have hys : ys = xs.take i ++ y :: xs.drop i := by rw [edOne_put xs i y (by omega)] at he; cases he; rfl
      subst hys
      have hb2 := bal' (w.alloc (Obj.cells #[.int .i64 2, .int .i64 i, .int .i64 y] 56)) (Obj.cells #[.int .i64 y] 2)
      have hg2 := World.grownBy_alloc (w.alloc (Obj.cells #[.int .i64 2, .int .i64 i, .int .i64 y] 56)) (Obj.cells #[.int .i64 y] 2) v.ownBlock
      have hvb := heap_alloc_new (w.alloc (Obj.cells #[.int .i64 2, .int .i64 i, .int .i64 y] 56)) (Obj.cells #[.int .i64 y] 2)
      have hsz : (w.alloc (Obj.cells #[.int .i64 2, .int .i64 i, .int .i64 y] 56)).heap.size = w.heap.size + 1 := by simp
      rw [hsz] at hvb
      have hin := insert_any base xs y (w.heap.size + 1) _ v i (ho1.below hb2) (by simp; omega) (by omega) hil hvb (fun e => by have := (ho.lt _ e).2; omega)
      have hgg := grown_tr hg0 hg2
      subst hsh
      clear ho ho1 he hok hok2 hb2 hg2 hvb hg0 hb0 hsz
      replace hgg := (show Hid _ from hgg)
      go_enter Try.func35, Try.ntmps35
      go_wp2_with fail
      refine hin.mono ?_
      rintro e w1 ⟨g, cap, rfl, ho, hg, hat⟩
      go_wp2
      go_ret
      exact ⟨_, rfl, ho, grown_tr hgg.out hg, fun q e => by
        have e2 : some g = some q := e
        injection e2 with e2
        subst e2
        rcases hat with h | h
        · exact .inl h
        · right; simp at h; omega⟩
    · have h3 : k = 3 := by omega
      subst h3
      have hil : i < xs.length := by omega
      have hys : ys = xs.set i y := by rw [edOne_turn xs i y (by omega)] at he; cases he; rfl
      subst hys
      obtain ⟨g, cap, hv, _, hgl⟩ := World.ownsRow.form (show w.ownsRow base 2 1 v xs.length (xs.map (Value.int .i64)) from ho) (by omega)
      subst hv
      have hown : (w.alloc (Obj.cells #[.int .i64 3, .int .i64 i, .int .i64 y] 56)).ownsRow base 2 1 (.slice (some ⟨g, 0, none⟩) xs.length cap) xs.length (xs.map (Value.int .i64)) := ho1
      obtain ⟨o2, g2⟩ := (show w.ownsRow base 2 1 (.slice (some ⟨g, 0, none⟩) xs.length cap) xs.length (xs.map (Value.int .i64)) from ho).stored i (.int .i64 y)
      have hcell : (w.alloc (Obj.cells #[.int .i64 3, .int .i64 i, .int .i64 y] 56)).cell? ⟨g, i, none⟩ = some (.int .i64 (xs.getD i 0)) := by
        rw [hown.cellAt i (by omega), List.getElem?_map, List.getElem?_eq_getElem hil]
        simp [hil]
      have hfz := hown.frozenAt i
      have hres0 : OwnI (w.setCell ⟨g, i, none⟩ (.int .i64 y)) base (.slice (some ⟨g, 0, none⟩) xs.length cap) (xs.set i y) := by
        unfold OwnI
        rw [List.length_set, List.map_set]
        exact o2
      have hres := hres0.below (bal' (w.setCell ⟨g, i, none⟩ (.int .i64 y)) (Obj.cells #[.int .i64 3, .int .i64 i, .int .i64 y] 56))
      have hgr := grown_tr g2 (World.grownBy_alloc (w.setCell ⟨g, i, none⟩ (.int .i64 y)) (Obj.cells #[.int .i64 3, .int .i64 i, .int .i64 y] 56) (some g))
      have hne : ¬ g = w.heap.size := by omega
      have hi2 : (i : Int) < (xs.length : Int) := by omega
      clear ho ho1 he hok hok2 hsh hown o2 g2 hg0 hb0 hres0
      replace hgr := (show Hid _ from hgr)
      replace hres := (show Hid _ from hres)
      go_enter Try.func35, Try.ntmps35
      go_wp2
      go_ret
      exact ⟨_, rfl, hres.out, hgr.out, fun q e => .inl e⟩
end Go.Proofs.Ytokoohmakjabnaa
namespace Go.Proofs.Ytokoohmakjabnaa
open Go.ChangeShapes Go.WideShapes Go.ChangeAt Go.RowKit
theorem TabT.made (n : Nat) (f : Nat → Nat → Int) (W m : Nat) (h : n = (m + 1) * W) : TabT (madeCells (Value.int .i64 0).cells (n * 1)).toList W m f 0 0 := by
  intro i' j' hj hi
  have hlt := tab_lt hi hj
  rw [if_neg (by omega)]
  have hz : (Value.int .i64 0).cells = #[Value.int .i64 0] := by rfl
  rw [hz, Nat.mul_one, Array.getElem?_toList]
  unfold madeCells
  rw [Array.getElem?_map, Array.getElem?_range, if_pos (by omega)]
  simp [Nat.mod_one]
set_option maxHeartbeats 4000000 in
set_option maxRecDepth 20000 in
theorem l9Table_any (va vb : Value) (xs ys : List Int) (w : World) (ha : SlI w va xs) (hb : SlI w vb ys) (hx : xs.length ≤ 40) (hy : ys.length ≤ 40) :
    Calls Try.prog 37 #[va, vb] w fun e w' => e = .returned (.slice (some ⟨w.heap.size, 0, none⟩) ((xs.length + 1) * (ys.length + 1)) ((xs.length + 1) * (ys.length + 1))) ∧ ∃ zs, w'.ownsRow w.heap.size 2 1 (.slice (some ⟨w.heap.size, 0, none⟩) ((xs.length + 1) * (ys.length + 1)) ((xs.length + 1) * (ys.length + 1))) ((xs.length + 1) * (ys.length + 1)) zs ∧ TabT zs (ys.length + 1) xs.length (edD true (fun k => xs.getD k 0) (fun k => ys.getD k 0)) (xs.length + 1) 0 ∧ Below w.heap.size w w' := by
  obtain ⟨i0, hi, hz0, hz1, hz2⟩ := info_parts info_i64
  obtain ⟨a, c, rfl, hca⟩ := ha
  obtain ⟨a', c', rfl, hcb⟩ := hb
  obtain ⟨f, hf⟩ : ∃ f, Hid (f = edD true (fun k => xs.getD k 0) (fun k => ys.getD k 0)) := ⟨_, rfl⟩
  rw [← hf.out]
  generalize hm : xs.length = m at *
  generalize hn : ys.length = n at *
  replace hm := (show Hid _ from hm)
  replace hn := (show Hid _ from hn)
  obtain ⟨W, hW⟩ : ∃ W, Hid (n + 1 = W) := ⟨_, rfl⟩
  obtain ⟨M, hM⟩ : ∃ M, Hid (m + 1 = M) := ⟨_, rfl⟩
  rw [hW.out, hM.out]
  obtain ⟨N, hN⟩ : ∃ N, Hid (M * W = N) := ⟨_, rfl⟩
  rw [hN.out]
  have hN2 : N ≤ 41 * 41 := by rw [← hN.out]; exact Nat.mul_le_mul (by have := hM.out; omega) (by have := hW.out; omega)
  have eW : IntKind.i64.wrap ((n : Int) + 1) = (W : Int) := wid (by have := hW.out; omega) (by omega) (by omega)
  have eM : IntKind.i64.wrap ((m : Int) + 1) = (M : Int) := wid (by have := hM.out; omega) (by omega) (by omega)
  have eN : IntKind.i64.wrap ((M : Int) * (W : Int)) = (N : Int) := by rw [← Int.natCast_mul, hN.out]; exact wid rfl (by omega) (by omega)
  have hNf : Hid (N = (m + 1) * W) := by show _ = _; rw [hM.out, hN.out]
  go_enter Try.func37, Try.ntmps37
  go_wp2_with (refine wpList_make_full _ rfl _ _ 24 rfl w.heap.size 2 i0 (.int .i64 0) 1 Try.underlying24 hi hz0 hz1 .i64 .i64 (N : Int) (N : Int) N rfl rfl rfl rfl ?c1 ?c2 ?c3 ?_)
  case c1 => rw [hz2]; omega
  case c2 => unfold maxLen; omega
  case c3 => exact Nat.le_refl _
  intro w1 ho hg
  have hb1 : Below w.heap.size w w1 := (Below.refl _ _).grown hg (Nat.le_refl _) (fun k hk => by cases hk)
  have ht0 : Hid (TabT (madeCells #[Value.int IntKind.i64 0] N).toList W m f 0 0) := by
    have := TabT.made N f W m hNf.out
    rw [Nat.mul_one] at this
    exact this
  clear hg eN eM
  go_wp2
  go_loopw [7, 8] (fun i _ wr => ∃ (j : Nat) (zs : List Value), j ≤ m + 1 ∧ i = .int .i64 j ∧ wr.ownsRow w.heap.size 2 1 (.slice (some ⟨w.heap.size, 0, none⟩) N N) N zs ∧ zs.length = N ∧ Hid (TabT zs W m f j 0) ∧ Below w.heap.size w wr) (fun i _ _ => m + 1 - (intOf i).toNat)
  case atStart => exact ⟨0, _, Nat.zero_le _, rfl, ho, by simpa using ho.1, ht0, hb1⟩
  case round =>
    obtain ⟨i, zs, hi1, rfl, ho1, hzl, hT, hbel⟩ := hrel
    clear ho hb1 ht0
    by_cases hlt : i ≤ m
    · have hii : (i : Int) ≤ (m : Int) := by omega
      go_wp2
      go_loopw [8] (fun jv wi => ∃ (j : Nat) (zs : List Value), j ≤ W ∧ jv = .int .i64 j ∧ wi.ownsRow w.heap.size 2 1 (.slice (some ⟨w.heap.size, 0, none⟩) N N) N zs ∧ zs.length = N ∧ Hid (TabT zs W m f i j) ∧ Below w.heap.size w wi) (fun jv _ => W - (intOf jv).toNat)
      case atStart => exact ⟨0, zs, Nat.zero_le _, rfl, ho1, hzl, hT, hbel⟩
      case round =>
        obtain ⟨j, us, hj1, rfl, ho2, hul, hT2, hbel2⟩ := hrel
        clear ho1 hzl hT hbel
        by_cases hlj : j < W
        · have hjn : (j : Int) ≤ (n : Int) := by have := hW.out; omega
          have hpn : i * W + j < N := by rw [hNf.out]; exact tab_lt hlt hlj
          obtain ⟨p, hp⟩ : ∃ p, Hid (p = i * W + j) := ⟨_, rfl⟩
          rw [← hp.out] at hpn
          obtain ⟨u, hu⟩ : ∃ u, wr.cell? ⟨w.heap.size, p, none⟩ = some u := by
            rw [ho2.cellAt p (by omega)]; exact ⟨_, List.getElem?_eq_getElem (by omega)⟩
          have hfz := ho2.frozenAt p
          have hst := fun x => ho2.stored p (.int .i64 x)
          have hset := fun x (e : x = f i j) => hT2.out.set (p := p) hlj hlt hp.out (by rw [hul]; exact hNf.out) e
          by_cases hi0 : i = 0
          · subst hi0
            have hpj : p = j := by rw [hp.out]; omega
            subst hpj
            obtain ⟨hst1, hst2⟩ := hst (p : Int)
            have hset := hset p (by rw [hf.out, edD_0])
            have hb3 := hbel2.grown hst2 hbel2.size (fun k hk => by cases hk; exact Nat.le_refl _)
            clear ho2 hT2 hbel2 hca hcb hst
            go_wp2
            go_roundw
            case rel => exact ⟨p + 1, us.set p (.int .i64 p), by omega, by go_num, hst1, by simpa using hul, hset, hb3⟩
            case measure => simp [intOf]; omega
          · by_cases hj0 : j = 0
            · subst hj0
              have hii0 : ¬ ((i : Int) = 0) := by omega
              have hpi : IntKind.i64.wrap ((i : Int) * (W : Int)) = (p : Int) := by rw [← Int.natCast_mul]; exact wid (by have := hp.out; omega) (by omega) (by have := hp.out; omega)
              obtain ⟨hst1, hst2⟩ := hst (i : Int)
              have hset := hset i (by rw [hf.out, edD_i0])
              have hb3 := hbel2.grown hst2 hbel2.size (fun k hk => by cases hk; exact Nat.le_refl _)
              clear ho2 hT2 hbel2 hca hcb hst
              go_wp2
              go_roundw
              case rel => exact ⟨1, us.set p (.int .i64 i), by omega, by go_num, hst1, by simpa using hul, hset, hb3⟩
              case measure => simp [intOf]; omega
            · have hii0 : ¬ ((i : Int) = 0) := by omega
              have hjj0 : ¬ ((j : Int) = 0) := by omega
              obtain ⟨i1, hi1'⟩ : ∃ i1, Hid (i = i1 + 1) := ⟨i - 1, by show i = i - 1 + 1; omega⟩
              obtain ⟨j1, hj1'⟩ : ∃ j1, Hid (j = j1 + 1) := ⟨j - 1, by show j = j - 1 + 1; omega⟩
              obtain ⟨r, hr⟩ : ∃ r, Hid (r = i * W) := ⟨_, rfl⟩
              obtain ⟨r1, hr1⟩ : ∃ r1, Hid (r1 = i1 * W) := ⟨_, rfl⟩
              obtain ⟨p1, hp1⟩ : ∃ p1, Hid (p1 = r1 + j) := ⟨_, rfl⟩
              obtain ⟨q, hq⟩ : ∃ q, Hid (q = r + j1) := ⟨_, rfl⟩
              obtain ⟨q1, hq1⟩ : ∃ q1, Hid (q1 = r1 + j1) := ⟨_, rfl⟩
              have hpr : p = r + j := by rw [hp.out, hr.out]
              have hl1 := tab_lt (W := W) (m := m) (i := i1) (j := j) (by have := hi1'.out; omega) hlj
              have hl2 := tab_lt (W := W) (m := m) (i := i) (j := j1) hlt (by have := hj1'.out; omega)
              have hl3 := tab_lt (W := W) (m := m) (i := i1) (j := j1) (by have := hi1'.out; omega) (by have := hj1'.out; omega)
              rw [← hr1.out, ← hp1.out, ← hNf.out] at hl1
              rw [← hr.out, ← hq.out, ← hNf.out] at hl2
              rw [← hr1.out, ← hq1.out, ← hNf.out] at hl3
              have e1 : IntKind.i64.wrap ((i : Int) * (W : Int)) = (r : Int) := by rw [← Int.natCast_mul]; exact wid (by rw [hr.out]) (by omega) (by rw [← hr.out]; omega)
              have e2 : IntKind.i64.wrap ((r : Int) + (j : Int)) = (p : Int) := wid (by omega) (by omega) (by omega)
              have e3 : IntKind.i64.wrap ((i : Int) - 1) = (i1 : Int) := wid (by have := hi1'.out; omega) (by omega) (by omega)
              have e4 : IntKind.i64.wrap ((i1 : Int) * (W : Int)) = (r1 : Int) := by rw [← Int.natCast_mul]; exact wid (by rw [hr1.out]) (by omega) (by rw [← hr1.out]; have := hp1.out; omega)
              have e5 : IntKind.i64.wrap ((r1 : Int) + (j : Int)) = (p1 : Int) := wid (by have := hp1.out; omega) (by omega) (by have := hp1.out; omega)
              have e6 : IntKind.i64.wrap ((p1 : Int) - 1) = (q1 : Int) := wid (by have := hp1.out; have := hq1.out; have := hj1'.out; omega) (by omega) (by omega)
              have e7 : IntKind.i64.wrap ((p : Int) - 1) = (q : Int) := wid (by have := hq.out; have := hj1'.out; omega) (by omega) (by omega)
              have e8 : IntKind.i64.wrap ((j : Int) - 1) = (j1 : Int) := wid (by have := hj1'.out; omega) (by omega) (by omega)
              have k1 := hT2.out.at i1 j1 (by have := hj1'.out; omega) (by have := hi1'.out; omega) (by have := hi1'.out; omega)
              have k2 := hT2.out.at i1 j hlj (by have := hi1'.out; omega) (by have := hi1'.out; omega)
              have k3 := hT2.out.at i j1 (by have := hj1'.out; omega) hlt (by have := hj1'.out; omega)
              rw [← hr1.out, ← hq1.out, ← ho2.cellAt q1 (by omega)] at k1
              rw [← hr1.out, ← hp1.out, ← ho2.cellAt p1 (by omega)] at k2
              rw [← hr.out, ← hq.out, ← ho2.cellAt q (by omega)] at k3
              have him : i1 < m := by have := hi1'.out; omega
              have hjm : j1 < n := by have := hj1'.out; have := hW.out; omega
              rcases hca with h | ⟨b, off, rfl, hbb, hs1⟩
              · exfalso; have := hm.out; rw [h] at this; simp at this; omega
              rcases hcb with h | ⟨b', off', rfl, hbb', hs2⟩
              · exfalso; have := hn.out; rw [h] at this; simp at this; omega
              have c1 := (hbel2.cell (p := ⟨b, off + i1, none⟩) hbb).trans (hs1 i1 him)
              have c2 := (hbel2.cell (p := ⟨b', off' + j1, none⟩) hbb').trans (hs2 j1 hjm)
              have hD := fun (h : xs.getD i1 0 = ys.getD j1 0) => edD_eq true (fun k => xs.getD k 0) (fun k => ys.getD k 0) i1 j1 h
              have hE := fun (h : ¬ xs.getD i1 0 = ys.getD j1 0) => edD_ne true (fun k => xs.getD k 0) (fun k => ys.getD k 0) i1 j1 h
              rw [← hi1'.out, ← hj1'.out, ← hf.out] at hD hE
              simp only [if_true] at hE
              have bd1 := edD_bd true (fun k => xs.getD k 0) (fun k => ys.getD k 0) i1 j1
              have bd2 := edD_bd true (fun k => xs.getD k 0) (fun k => ys.getD k 0) i1 j
              have bd3 := edD_bd true (fun k => xs.getD k 0) (fun k => ys.getD k 0) i j1
              rw [← hf.out] at bd1 bd2 bd3
              generalize xs.getD i1 0 = x at *
              generalize ys.getD j1 0 = y at *
              generalize hF : f i j = F at *
              generalize f i1 j1 = F1 at *
              generalize f i1 j = F2 at *
              generalize f i j1 = F3 at *
              clear hF
              by_cases hxy : x = y
              · replace hD := hD hxy
                subst hxy
                obtain ⟨hst1, hst2⟩ := hst F1
                have hset := hset F1 hD.symm
                clear ho2 hT2 hs1 hs2 hst hE hD hpr bd1 bd2 bd3
                go_wp2
                go_quiet (fail)
                go_wp2
                go_roundw
                case rel => exact ⟨j + 1, us.set p (.int .i64 F1), by omega, by go_num, hst1, by simpa using hul, hset, hbel2.grown (row := some w.heap.size) ⟨hst2.os, hst2.tape, hst2.output, hst2.size, hst2.block⟩ hbel2.size (fun k hk => by cases hk; exact Nat.le_refl _)⟩
                case measure => simp [intOf]; omega
              · have hE2 := hE hxy
                clear hE hD
                subst hE2
                have bF : IntKind.i64.wrap (1 + min F1 (min F2 F3)) = 1 + min F1 (min F2 F3) := wid rfl (by omega) (by omega)
                obtain ⟨hst1, hst2⟩ := hst (1 + min F1 (min F2 F3))
                have hset := hset _ rfl
                have kst : ∀ V : World, (V.cell? ⟨w.heap.size, q1, none⟩ = some (.int .i64 F1) ∧ V.cell? ⟨w.heap.size, p1, none⟩ = some (.int .i64 F2) ∧ V.cell? ⟨w.heap.size, q, none⟩ = some (.int .i64 F3)) → ((V.setCell ⟨w.heap.size, p, none⟩ (.int .i64 (1 + min F1 (min F2 F3)))).cell? ⟨w.heap.size, q1, none⟩ = some (.int .i64 F1) ∧ (V.setCell ⟨w.heap.size, p, none⟩ (.int .i64 (1 + min F1 (min F2 F3)))).cell? ⟨w.heap.size, p1, none⟩ = some (.int .i64 F2) ∧ (V.setCell ⟨w.heap.size, p, none⟩ (.int .i64 (1 + min F1 (min F2 F3)))).cell? ⟨w.heap.size, q, none⟩ = some (.int .i64 F3)) := fun V h => by
                  have hiW : i1 * W + W ≤ i * W := by rw [hi1'.out, Nat.add_mul]; omega
                  refine ⟨(cell_set_ne _ _ _ _ _ (by have := hq1.out; have := hr1.out; have := hr.out; have := hj1'.out; omega)).trans h.1, (cell_set_ne _ _ _ _ _ (by have := hp1.out; have := hr1.out; have := hr.out; omega)).trans h.2.1, (cell_set_ne _ _ _ _ _ (by have := hq.out; have := hj1'.out; omega)).trans h.2.2⟩
                clear ho2 hT2 hs1 hs2 hst hpr bd1 bd2 bd3
                go_wp2
                go_quiet (fail)
                go_wp2
                refine wp_region_noPanic ?_
                refine wp_region_held_drew (S := (fun W => W.cell? ⟨w.heap.size, q1, none⟩ = some (.int .i64 F1) ∧ W.cell? ⟨w.heap.size, p1, none⟩ = some (.int .i64 F2) ∧ W.cell? ⟨w.heap.size, q, none⟩ = some (.int .i64 F3))) (by kernel_rfl) (⟨k1, k2, k3⟩) (fun hHeld => ?_)
                refine' wpAnyH_take (i := 0) (v := _) rfl (by kernel_rfl) (by kernel_rfl) (by kernel_rfl) (fun _ _ _ h => h) (Or.inl ⟨by rfl, ?hy1001⟩) hHeld ?hr1001
                case hy1001 => (intro w hSw; (try dsimp only at hSw); go_simp; (try with_reducible rfl))
                simp only [Act.put, List.setIfInBounds_toArray, List.set_cons_zero, List.set_cons_succ, List.getElem_toArray, List.getElem_cons_zero]
                refine' wpAnyH_take (i := 1) (v := _) rfl (by kernel_rfl) (by kernel_rfl) (by kernel_rfl) (fun _ _ _ h => h) (Or.inl ⟨by rfl, ?hy1002⟩) hHeld ?hr1002
                case hy1002 => (intro w hSw; (try dsimp only at hSw); go_simp; (try with_reducible rfl))
                simp only [Act.put, List.setIfInBounds_toArray, List.set_cons_zero, List.set_cons_succ, List.getElem_toArray, List.getElem_cons_zero, List.getElem_cons_succ]
                refine' wpAnyH_take (i := 2) (v := _) rfl (by kernel_rfl) (by kernel_rfl) (by kernel_rfl) (fun _ _ _ h => h) (Or.inl ⟨by rfl, ?hy1003⟩) hHeld ?hr1003
                case hy1003 => (intro w hSw; (try dsimp only at hSw); go_simp; (try with_reducible rfl))
                simp only [Act.put, List.setIfInBounds_toArray, List.set_cons_zero, List.set_cons_succ, List.getElem_toArray, List.getElem_cons_zero, List.getElem_cons_succ]
                refine' wpAnyH_take (i := 3) (v := _) rfl (by kernel_rfl) (by kernel_rfl) (by kernel_rfl) (fun _ _ _ h => h) (Or.inl ⟨by rfl, ?hy1004⟩) hHeld ?hr1004
                case hy1004 => (intro w hSw; (try dsimp only at hSw); go_simp; (try with_reducible rfl))
                simp only [Act.put, List.setIfInBounds_toArray, List.set_cons_zero, List.set_cons_succ, List.getElem_toArray, List.getElem_cons_zero, List.getElem_cons_succ]
                refine' wpAnyH_take (i := 4) (v := _) rfl (by kernel_rfl) (by kernel_rfl) (by kernel_rfl) (fun _ _ _ h => h) (Or.inl ⟨by rfl, ?hy1005⟩) hHeld ?hr1005
                case hy1005 => (intro w hSw; (try dsimp only at hSw); go_simp; (try with_reducible rfl))
                simp only [Act.put, List.setIfInBounds_toArray, List.set_cons_zero, List.set_cons_succ, List.getElem_toArray, List.getElem_cons_zero, List.getElem_cons_succ]
                refine' wpAnyH_take (i := 5) (v := _) rfl (by kernel_rfl) (by kernel_rfl) (by kernel_rfl) (fun _ _ _ h => h) (Or.inl ⟨by rfl, ?hy1006⟩) hHeld ?hr1006
                case hy1006 => (intro w hSw; (try dsimp only at hSw); go_simp; (try with_reducible rfl))
                simp only [Act.put, List.setIfInBounds_toArray, List.set_cons_zero, List.set_cons_succ, List.getElem_toArray, List.getElem_cons_zero, List.getElem_cons_succ]
                refine' wpAnyH_take (i := 6) (v := _) rfl (by kernel_rfl) (by kernel_rfl) (by kernel_rfl) (fun _ _ _ h => h) (Or.inl ⟨by rfl, ?hy1007⟩) hHeld ?hr1007
                case hy1007 => (intro w hSw; (try dsimp only at hSw); go_simp; (try with_reducible rfl))
                simp only [Act.put, List.setIfInBounds_toArray, List.set_cons_zero, List.set_cons_succ, List.getElem_toArray, List.getElem_cons_zero, List.getElem_cons_succ]
                refine' wpAnyH_take (i := 7) (v := _) rfl (by kernel_rfl) (by kernel_rfl) (by kernel_rfl) (fun _ _ _ h => h) (Or.inl ⟨by rfl, ?hy1008⟩) hHeld ?hr1008
                case hy1008 => (intro w hSw; (try dsimp only at hSw); go_simp; (try with_reducible rfl))
                simp only [Act.put, List.setIfInBounds_toArray, List.set_cons_zero, List.set_cons_succ, List.getElem_toArray, List.getElem_cons_zero, List.getElem_cons_succ]
                refine' wpAnyH_take (i := 8) (v := _) rfl (by kernel_rfl) (by kernel_rfl) (by kernel_rfl) (fun _ _ _ h => h) (Or.inl ⟨by rfl, ?hy1009⟩) hHeld ?hr1009
                case hy1009 => (intro w hSw; (try dsimp only at hSw); go_simp; (try with_reducible rfl))
                simp only [Act.put, List.setIfInBounds_toArray, List.set_cons_zero, List.set_cons_succ, List.getElem_toArray, List.getElem_cons_zero, List.getElem_cons_succ]
                refine' wpAnyH_take (i := 9) (v := _) rfl (by kernel_rfl) (by kernel_rfl) (by kernel_rfl) (fun _ _ _ h => h) (Or.inl ⟨by rfl, ?hy1010⟩) hHeld ?hr1010
                case hy1010 => (intro w hSw; (try dsimp only at hSw); go_simp; (try with_reducible rfl))
                simp only [Act.put, List.setIfInBounds_toArray, List.set_cons_zero, List.set_cons_succ, List.getElem_toArray, List.getElem_cons_zero, List.getElem_cons_succ]
                refine' wpAnyH_take (i := 10) (v := _) rfl (by kernel_rfl) (by kernel_rfl) (by kernel_rfl) (fun _ _ _ h => h) (Or.inl ⟨by rfl, ?hy1011⟩) hHeld ?hr1011
                case hy1011 => (intro w hSw; (try dsimp only at hSw); go_simp; (try with_reducible rfl))
                simp only [Act.put, List.setIfInBounds_toArray, List.set_cons_zero, List.set_cons_succ, List.getElem_toArray, List.getElem_cons_zero, List.getElem_cons_succ]
                refine' wpAnyH_take (i := 11) (v := _) rfl (by kernel_rfl) (by kernel_rfl) (by kernel_rfl) (fun _ _ _ h => h) (Or.inl ⟨by rfl, ?hy1012⟩) hHeld ?hr1012
                case hy1012 => (intro w hSw; (try dsimp only at hSw); go_simp; (try with_reducible rfl))
                simp only [Act.put, List.setIfInBounds_toArray, List.set_cons_zero, List.set_cons_succ, List.getElem_toArray, List.getElem_cons_zero, List.getElem_cons_succ]
                refine' wpAnyH_take (i := 12) (v := _) rfl (by kernel_rfl) (by kernel_rfl) (by kernel_rfl) (fun _ _ _ h => h) (Or.inl ⟨by rfl, ?hy1013⟩) hHeld ?hr1013
                case hy1013 => (intro w hSw; (try dsimp only at hSw); go_simp; (try with_reducible rfl))
                simp only [Act.put, List.setIfInBounds_toArray, List.set_cons_zero, List.set_cons_succ, List.getElem_toArray, List.getElem_cons_zero, List.getElem_cons_succ]
                refine' wpAnyH_take (i := 13) (v := _) rfl (by kernel_rfl) (by kernel_rfl) (by kernel_rfl) (fun _ _ _ h => h) (Or.inl ⟨by rfl, ?hy1014⟩) hHeld ?hr1014
                case hy1014 => (intro w hSw; (try dsimp only at hSw); go_simp; (try with_reducible rfl))
                simp only [Act.put, List.setIfInBounds_toArray, List.set_cons_zero, List.set_cons_succ, List.getElem_toArray, List.getElem_cons_zero, List.getElem_cons_succ]
                refine' wpAnyH_take (i := 14) (v := _) rfl (by kernel_rfl) (by kernel_rfl) (by kernel_rfl) (fun _ _ _ h => h) (Or.inl ⟨by rfl, ?hy1015⟩) hHeld ?hr1015
                case hy1015 => (intro w hSw; (try dsimp only at hSw); go_simp; (try with_reducible rfl))
                simp only [Act.put, List.setIfInBounds_toArray, List.set_cons_zero, List.set_cons_succ, List.getElem_toArray, List.getElem_cons_zero, List.getElem_cons_succ]
                refine' wpAnyH_take (i := 15) (v := _) rfl (by kernel_rfl) (by kernel_rfl) (by kernel_rfl) (fun _ _ _ h => h) (Or.inl ⟨by rfl, ?hy1016⟩) hHeld ?hr1016
                case hy1016 => (intro w hSw; (try dsimp only at hSw); go_simp; (try with_reducible rfl))
                simp only [Act.put, List.setIfInBounds_toArray, List.set_cons_zero, List.set_cons_succ, List.getElem_toArray, List.getElem_cons_zero, List.getElem_cons_succ]
                refine' wpAnyH_take (i := 16) (v := _) rfl (by kernel_rfl) (by kernel_rfl) (by kernel_rfl) (fun _ _ _ h => h) (Or.inl ⟨by rfl, ?hy1017⟩) hHeld ?hr1017
                case hy1017 => (intro w hSw; (try dsimp only at hSw); go_simp; (try with_reducible rfl))
                simp only [Act.put, List.setIfInBounds_toArray, List.set_cons_zero, List.set_cons_succ, List.getElem_toArray, List.getElem_cons_zero, List.getElem_cons_succ]
                refine' wpAnyH_take (i := 17) (v := _) rfl (by kernel_rfl) (by kernel_rfl) (by kernel_rfl) (fun _ _ _ h => h) (Or.inl ⟨by rfl, ?hy1018⟩) hHeld ?hr1018
                case hy1018 => (intro w hSw; (try dsimp only at hSw); go_simp; (try with_reducible rfl))
                simp only [Act.put, List.setIfInBounds_toArray, List.set_cons_zero, List.set_cons_succ, List.getElem_toArray, List.getElem_cons_zero, List.getElem_cons_succ]
                refine' wpAnyH_take (i := 18) (v := _) rfl (by kernel_rfl) (by kernel_rfl) (by kernel_rfl) (fun _ _ _ h => h) (Or.inl ⟨by rfl, ?hy1019⟩) hHeld ?hr1019
                case hy1019 => (intro w hSw; (try dsimp only at hSw); go_simp; (try with_reducible rfl))
                simp only [Act.put, List.setIfInBounds_toArray, List.set_cons_zero, List.set_cons_succ, List.getElem_toArray, List.getElem_cons_zero, List.getElem_cons_succ]
                refine' wpAnyH_take (i := 19) (v := _) rfl (by kernel_rfl) (by kernel_rfl) (by kernel_rfl) (fun _ _ _ h => h) (Or.inl ⟨by rfl, ?hy1020⟩) hHeld ?hr1020
                case hy1020 => (intro w hSw; (try dsimp only at hSw); go_simp; (try with_reducible rfl))
                simp only [Act.put, List.setIfInBounds_toArray, List.set_cons_zero, List.set_cons_succ, List.getElem_toArray, List.getElem_cons_zero, List.getElem_cons_succ]
                refine' wpAnyH_take (i := 20) (v := _) rfl (by kernel_rfl) (by kernel_rfl) (by kernel_rfl) (fun _ _ _ h => h) (Or.inl ⟨by rfl, ?hy1021⟩) hHeld ?hr1021
                case hy1021 => (intro w hSw; (try dsimp only at hSw); go_simp; (try with_reducible rfl))
                simp only [Act.put, List.setIfInBounds_toArray, List.set_cons_zero, List.set_cons_succ, List.getElem_toArray, List.getElem_cons_zero, List.getElem_cons_succ]
                refine' wpAnyH_take (i := 21) (v := _) rfl (by kernel_rfl) (by kernel_rfl) (by kernel_rfl) (fun _ _ _ h => h) (Or.inl ⟨by rfl, ?hy1022⟩) hHeld ?hr1022
                case hy1022 => (intro w hSw; (try dsimp only at hSw); go_simp; (try with_reducible rfl))
                simp only [Act.put, List.setIfInBounds_toArray, List.set_cons_zero, List.set_cons_succ, List.getElem_toArray, List.getElem_cons_zero, List.getElem_cons_succ]
                refine' wpAnyH_take (i := 22) (v := _) rfl (by kernel_rfl) (by kernel_rfl) (by kernel_rfl) (fun _ _ _ h => h) (Or.inl ⟨by rfl, ?hy1023⟩) hHeld ?hr1023
                case hy1023 => (intro w hSw; (try dsimp only at hSw); go_simp; (try with_reducible rfl))
                simp only [Act.put, List.setIfInBounds_toArray, List.set_cons_zero, List.set_cons_succ, List.getElem_toArray, List.getElem_cons_zero, List.getElem_cons_succ]
                refine' wpAnyH_take (i := 23) (v := _) rfl (by kernel_rfl) (by kernel_rfl) (by kernel_rfl) (fun _ _ _ h => h) (Or.inl ⟨by rfl, ?hy1024⟩) hHeld ?hr1024
                case hy1024 => (intro w hSw; (try dsimp only at hSw); go_simp; (try with_reducible rfl))
                simp only [Act.put, List.setIfInBounds_toArray, List.set_cons_zero, List.set_cons_succ, List.getElem_toArray, List.getElem_cons_zero, List.getElem_cons_succ]
                refine' wpAnyH_take (i := 24) (v := _) rfl (by kernel_rfl) (by kernel_rfl) (by kernel_rfl) (fun _ _ _ h => h) (Or.inl ⟨by rfl, ?hy1025⟩) hHeld ?hr1025
                case hy1025 => (intro w hSw; (try dsimp only at hSw); go_simp; (try with_reducible rfl))
                simp only [Act.put, List.setIfInBounds_toArray, List.set_cons_zero, List.set_cons_succ, List.getElem_toArray, List.getElem_cons_zero, List.getElem_cons_succ]
                refine' wpAnyH_take (i := 25) (v := _) rfl (by kernel_rfl) (by kernel_rfl) (by kernel_rfl) (fun _ _ _ h => h) (Or.inl ⟨by rfl, ?hy1026⟩) hHeld ?hr1026
                case hy1026 => (intro w hSw; (try dsimp only at hSw); go_simp; (try with_reducible rfl))
                simp only [Act.put, List.setIfInBounds_toArray, List.set_cons_zero, List.set_cons_succ, List.getElem_toArray, List.getElem_cons_zero, List.getElem_cons_succ]
                refine' wpAnyH_take (i := 26) (v := _) rfl (by kernel_rfl) (by kernel_rfl) (by kernel_rfl) (fun _ _ _ h => h) (Or.inl ⟨by rfl, ?hy1027⟩) hHeld ?hr1027
                case hy1027 => (intro w hSw; (try dsimp only at hSw); go_simp; (try with_reducible rfl))
                simp only [Act.put, List.setIfInBounds_toArray, List.set_cons_zero, List.set_cons_succ, List.getElem_toArray, List.getElem_cons_zero, List.getElem_cons_succ]
                refine' wpAnyH_take (i := 27) (v := _) rfl (by kernel_rfl) (by kernel_rfl) (by kernel_rfl) (fun _ _ _ h => h) (Or.inl ⟨by rfl, ?hy1028⟩) hHeld ?hr1028
                case hy1028 => (intro w hSw; (try dsimp only at hSw); go_simp; (try with_reducible rfl))
                simp only [Act.put, List.setIfInBounds_toArray, List.set_cons_zero, List.set_cons_succ, List.getElem_toArray, List.getElem_cons_zero, List.getElem_cons_succ]
                refine' wpAnyH_take (i := 28) (v := _) rfl (by kernel_rfl) (by kernel_rfl) (by kernel_rfl) (fun _ _ _ h => h) (Or.inl ⟨by rfl, ?hy1029⟩) hHeld ?hr1029
                case hy1029 => (intro w hSw; (try dsimp only at hSw); go_simp; (try with_reducible rfl))
                simp only [Act.put, List.setIfInBounds_toArray, List.set_cons_zero, List.set_cons_succ, List.getElem_toArray, List.getElem_cons_zero, List.getElem_cons_succ]
                refine' wpAnyH_take (i := 29) (v := _) rfl (by kernel_rfl) (by kernel_rfl) (by kernel_rfl) (fun _ _ _ h => h) (Or.inl ⟨by rfl, ?hy1030⟩) hHeld ?hr1030
                case hy1030 => (intro w hSw; (try dsimp only at hSw); go_simp; (try with_reducible rfl))
                simp only [Act.put, List.setIfInBounds_toArray, List.set_cons_zero, List.set_cons_succ, List.getElem_toArray, List.getElem_cons_zero, List.getElem_cons_succ]
                refine' wpAnyH_take (i := 30) (v := _) rfl (by kernel_rfl) (by kernel_rfl) (by kernel_rfl) (fun _ _ _ h => h) (Or.inl ⟨by rfl, ?hy1031⟩) hHeld ?hr1031
                case hy1031 => (intro w hSw; (try dsimp only at hSw); go_simp; (try with_reducible rfl))
                simp only [Act.put, List.setIfInBounds_toArray, List.set_cons_zero, List.set_cons_succ, List.getElem_toArray, List.getElem_cons_zero, List.getElem_cons_succ]
                refine' wpAnyH_take (i := 31) (v := _) rfl (by kernel_rfl) (by kernel_rfl) (by kernel_rfl) (fun _ _ _ h => h) (Or.inl ⟨by rfl, ?hy1032⟩) hHeld ?hr1032
                case hy1032 => (intro w hSw; (try dsimp only at hSw); go_simp; (try with_reducible rfl))
                simp only [Act.put, List.setIfInBounds_toArray, List.set_cons_zero, List.set_cons_succ, List.getElem_toArray, List.getElem_cons_zero, List.getElem_cons_succ]
                refine' wpAnyH_take (i := 32) (v := _) rfl (by kernel_rfl) (by kernel_rfl) (by kernel_rfl) (fun _ _ _ h => h) (Or.inl ⟨by rfl, ?hy1033⟩) hHeld ?hr1033
                case hy1033 => (intro w hSw; (try dsimp only at hSw); go_simp; (try with_reducible rfl))
                simp only [Act.put, List.setIfInBounds_toArray, List.set_cons_zero, List.set_cons_succ, List.getElem_toArray, List.getElem_cons_zero, List.getElem_cons_succ]
                refine' wpAnyH_take (i := 33) (v := _) rfl (by kernel_rfl) (by kernel_rfl) (by kernel_rfl) (fun _ _ _ h => h) (Or.inl ⟨by rfl, ?hy1034⟩) hHeld ?hr1034
                case hy1034 => (intro w hSw; (try dsimp only at hSw); go_simp; (try with_reducible rfl))
                simp only [Act.put, List.setIfInBounds_toArray, List.set_cons_zero, List.set_cons_succ, List.getElem_toArray, List.getElem_cons_zero, List.getElem_cons_succ]
                refine wpAnyH_ready (rs := [34]) (by kernel_rfl) (by simp) (allReady_1 rfl rfl (fun K hK => ?_))
                go_simp
                refine (l1Min_e _ _ _).mono ?_
                rintro e w9 ⟨rfl, hw9⟩
                subst hw9
                go_wp2_with fail
                refine hK.out _ _ (hHeld) (fun hHeld => ?_)
                clear hK K
                (try simp only [Act.put, List.setIfInBounds_toArray, List.set_cons_zero, List.set_cons_succ, List.getElem_toArray, List.getElem_cons_zero, List.getElem_cons_succ])
                refine wpAnyH_ready (rs := [35]) (by kernel_rfl) (by simp) (allReady_1 rfl rfl (fun K hK => ?_))
                go_simp
                refine (l1Min_e _ _ _).mono ?_
                rintro e w9 ⟨rfl, hw9⟩
                subst hw9
                go_wp2_with fail
                refine hK.out _ _ (hHeld) (fun hHeld => ?_)
                clear hK K
                (try simp only [Act.put, List.setIfInBounds_toArray, List.set_cons_zero, List.set_cons_succ, List.getElem_toArray, List.getElem_cons_zero, List.getElem_cons_succ])
                refine' wpAnyH_take (i := 36) (v := _) rfl (by kernel_rfl) (by kernel_rfl) (by kernel_rfl) (fun _ _ _ h => h) (Or.inl ⟨by rfl, ?hy1035⟩) hHeld ?hr1035
                case hy1035 => (intro w hSw; (try dsimp only at hSw); go_simp; (try with_reducible rfl))
                simp only [Act.put, List.setIfInBounds_toArray, List.set_cons_zero, List.set_cons_succ, List.getElem_toArray, List.getElem_cons_zero, List.getElem_cons_succ]
                refine' wpAnyH_take (i := 37) (v := _) rfl (by kernel_rfl) (by kernel_rfl) (by kernel_rfl) (fun _ _ _ h => h) (Or.inl ⟨by rfl, ?hy1036⟩) hHeld ?hr1036
                case hy1036 => (intro w hSw; (try dsimp only at hSw); go_simp; (try with_reducible rfl))
                simp only [Act.put, List.setIfInBounds_toArray, List.set_cons_zero, List.set_cons_succ, List.getElem_toArray, List.getElem_cons_zero, List.getElem_cons_succ]
                refine wpAnyH_ready (rs := [38]) (by kernel_rfl) (by simp) (allReady_1 rfl rfl (fun K hK => ?_))
                go_simp
                refine hK.out _ _ (kst _ hHeld) (fun hHeld => ?_)
                clear hK K
                (try simp only [Act.put, List.setIfInBounds_toArray, List.set_cons_zero, List.set_cons_succ, List.getElem_toArray, List.getElem_cons_zero, List.getElem_cons_succ])
                refine wpAnyH_done (by kernel_rfl) ?_ _
                refine NoPanic.normal ?_
                go_wp2
                go_roundw
                case rel => exact ⟨j + 1, us.set p (.int .i64 (1 + min F1 (min F2 F3))), by omega, by go_num, hst1, by simpa using hul, hset, hbel2.grown (row := some w.heap.size) ⟨hst2.os, hst2.tape, hst2.output, hst2.size, hst2.block⟩ hbel2.size (fun k hk => by cases hk; exact Nat.le_refl _)⟩
                case measure => simp [intOf]; omega
        · have hjn : ¬ (j : Int) ≤ (n : Int) := by have := hW.out; omega
          have hjW : j = W := by omega
          subst hjW
          have hT3 := hT2.out.row
          clear hca hcb
          go_wp2
          go_roundw
          case rel => exact ⟨i + 1, us, by omega, by go_num, ho2, hul, hT3, hbel2⟩
          case measure => simp [intOf]; omega
    · have hii : ¬ (i : Int) ≤ (m : Int) := by omega
      have him : i = M := by have := hM.out; omega
      subst him
      clear hca hcb
      go_wp2
      go_ret
      exact ⟨rfl, zs, ho1, hT.out, hbel⟩
end Go.Proofs.Ytokoohmakjabnaa
namespace Go.Proofs.Ytokoohmakjabnaa
open Go.ChangeShapes Go.WideShapes Go.ChangeAt Go.RowKit
def apartV (xs ys : List Int) : Int := if xs.length ≤ 40 ∧ ys.length ≤ 40 then edD true (fun k => xs.getD k 0) (fun k => ys.getD k 0) xs.length ys.length else -1
theorem last_tab (m n : Nat) : (m + 1) * (n + 1) - 1 = m * (n + 1) + n := by rw [Nat.add_mul]; omega

set_option maxHeartbeats 400000 in
theorem specApart_any (va vb : Value) (xs ys : List Int) (w : World) (ha : SlI w va xs) (hb : SlI w vb ys) :
    Calls Try.prog 14 #[va, vb] w fun e w' => e = .returned (.int .i64 (apartV xs ys)) ∧ Below w.heap.size w w' := by
  have hh2 := fun W (k : Below w.heap.size w W) => l9Two_any va vb xs ys W (ha.below k) (hb.below k)
  by_cases h : xs.length ≤ 40 ∧ ys.length ≤ 40
  · simp only [decide_eq_true h] at hh2
    have hA : Hid (apartV xs ys = edD true (fun k => xs.getD k 0) (fun k => ys.getD k 0) xs.length ys.length) := if_pos h
    rw [hA.out]
    have ht := l9Table_any va vb xs ys w ha hb h.1 h.2
    obtain ⟨a, c, rfl, _⟩ := ha
    obtain ⟨a', c', rfl, _⟩ := hb
    have h1 := last_tab xs.length ys.length
    have h2 := tab_lt (W := ys.length + 1) (Nat.le_refl xs.length) (Nat.lt_succ_self ys.length)
    have h3 : (xs.length + 1) * (ys.length + 1) ≤ 41 * 41 := Nat.mul_le_mul (by omega) (by omega)
    generalize hf : edD true (fun k => xs.getD k 0) (fun k => ys.getD k 0) = f at *
    generalize hm : xs.length = m at *
    generalize hn : ys.length = n at *
    generalize hN : (m + 1) * (n + 1) = N at *
    replace h1 := (show Hid _ from h1)
    clear hf hm hn hA h
    go_enter Try.func14, Try.ntmps14
    go_wp2_with (first
      | (go_at_call 36; refine (hh2 _ (Below.refl _ _)).mono ?_; rintro e w1 ⟨rfl, hw1⟩; subst hw1)
      | (go_at_call 37; refine ht.mono ?_; rintro e w2 ⟨rfl, zs, ho, hT, hbl⟩
         have hc := hT.at m n (by omega) (Nat.le_refl _) (by omega)
         rw [← h1.out, ← ho.cellAt (N - 1) (by omega)] at hc
         have hNN : 0 < N := by omega
         have hw : IntKind.i64.wrap ((N : Int) - 1) = ((N - 1 : Nat) : Int) := wid (by omega) (by omega) (by omega)
         have hlt : N - 1 < N := by omega
         generalize N - 1 = L at *
         clear ho hT h1 ht hh2))
    go_ret
    exact ⟨rfl, hbl⟩
  · simp only [decide_eq_false h] at hh2
    have hA : Hid (apartV xs ys = -1) := if_neg h
    rw [hA.out]
    obtain ⟨a, c, rfl, _⟩ := ha
    obtain ⟨a', c', rfl, _⟩ := hb
    clear hA h
    go_enter Try.func14, Try.ntmps14
    go_wp2_with (first
      | (go_at_call 36; refine (hh2 _ (Below.refl _ _)).mono ?_; rintro e w1 ⟨rfl, hw1⟩; subst hw1))
    go_ret
    exact ⟨rfl, Below.refl _ _⟩
end Go.Proofs.Ytokoohmakjabnaa
namespace Go.Proofs.Ytokoohmakjabnaa
open Go.ChangeShapes Go.WideShapes Go.ChangeAt Go.RowKit
def editsV (xs ys : List Int) : List (Int × Int × Int) := if xs.length ≤ 40 ∧ ys.length ≤ 40 then edE (fun k => xs.getD k 0) (fun k => ys.getD k 0) xs.length ys.length else []
theorem info_ed : (Try.prog.info? 56).map (fun i => (i.zero, i.size, i.bytes)) = some (some (.agg #[.int .i64 0, .int .i64 0, .int .i64 0]), 3, 24) := by kernel_rfl
theorem under_eds : Try.prog.underlying 27 = some (.slice 56) := by kernel_rfl
/-- A list of edits that one call owns. -/
def OwnE (w : World) (base g cap : Nat) (es : List (Int × Int × Int)) : Prop := w.ownsRow base 56 3 (.slice (some ⟨g, 0, none⟩) es.length cap) es.length ((edV es).map (Value.int .i64))
theorem OwnE.lt {w : World} {base g cap : Nat} {es : List (Int × Int × Int)} (h : OwnE w base g cap es) : base ≤ g ∧ g < w.heap.size := World.ownsRow.lt h g rfl
/-- An edit onto a list of edits. -/
theorem append_ed {w : World} {ops : Array Oper} {rest : List Oper} {o : Oper} {ac : Act} {Q : Exit → Act → World → Prop} (hgd : o.guard = none) (s x : Operand)
    (ho : o.op = .call { callee := .builtin .append, args := #[s, x], argTypes := #[27, 27] })
    (base g cap : Nat) (es : List (Int × Int × Int)) (hes : es.length ≤ 200) (hs : ac.eval s = .slice (some ⟨g, 0, none⟩) es.length cap) (hown : OwnE w base g cap es) (k a y : Int) (hx : ac.eval x = .slice (some ⟨w.heap.size, 0, none⟩) 1 1) (hbase : base ≤ w.heap.size)
    (h : ∀ g' cap' w', OwnE w' base g' cap' (es ++ [(k, a, y)]) → w.grownBy w' (some g) → (g' = g ∨ g' = w.heap.size + 1) → wpList Try.prog ops Q rest (ac.put o.dst (.slice (some ⟨g', 0, none⟩) (es.length + 1) cap')) w') :
    wpList Try.prog ops Q (o :: rest) ac (w.alloc (.cells #[.int .i64 k, .int .i64 a, .int .i64 y] 56)) := by
  obtain ⟨i0, hi, hz0, hz1, hz2⟩ := info_parts info_ed
  have hall := World.grownBy_alloc w (.cells #[.int .i64 k, .int .i64 a, .int .i64 y] 56) (some g)
  refine wpList_append_lies _ hgd s x _ ho base 56 i0 (.agg #[.int .i64 0, .int .i64 0, .int .i64 0]) 3 24 under_eds hi hz0 hz1 hz2 rfl (by decide) _ es.length _ hs (World.ownsRow.alloc hown _) ⟨w.heap.size, 0, none⟩ 1 1 [.int .i64 k, .int .i64 a, .int .i64 y] hx rfl ?_ (by intro u hu; simp at hu; rcases hu with rfl | rfl | rfl <;> rfl) (by decide) (by unfold maxLen; omega) (by omega) (by simp; omega) (w.heap.size + 1) (by simp) (fun g' cap' w' ho' hg' hat _ => ?_)
  · intro j u hj
    have e : (⟨w.heap.size, 0, none⟩ : Addr).add j = ⟨w.heap.size, j, none⟩ := by unfold Addr.add; split <;> simp_all
    rw [e, cell_of_row _ w.heap.size j _ 56 (0, 0) (heap_alloc_new w _)]
    simpa using hj
  · refine h g' cap' w' ?_ (grown_tr hall hg') ?_
    · unfold OwnE
      rw [edV_snoc, List.map_append, List.length_append]
      exact ho'
    · rcases hat with e | e
      · have : g = g' := by simpa [Value.ownBlock] using e
        exact .inl this.symm
      · exact .inr e
set_option maxHeartbeats 8000000 in
set_option maxRecDepth 20000 in
theorem specEdits_any (va vb : Value) (xs ys : List Int) (w : World) (ha : SlI w va xs) (hb : SlI w vb ys) :
    Calls Try.prog 10 #[va, vb] w fun e w' => ∃ g cap, e = .returned (.tuple #[.slice (some ⟨g, 0, none⟩) (editsV xs ys).length cap, .bool (decide (xs.length ≤ 40 ∧ ys.length ≤ 40))]) ∧ OwnE w' w.heap.size g cap (editsV xs ys) ∧ Below w.heap.size w w' := by
  have hh2 := fun W (k : Below w.heap.size w W) => l9Two_any va vb xs ys W (ha.below k) (hb.below k)
  by_cases h : xs.length ≤ 40 ∧ ys.length ≤ 40
  case neg =>
    simp only [decide_eq_false h] at hh2 ⊢
    have hA : editsV xs ys = [] := if_neg h
    rw [hA]
    obtain ⟨a, c, rfl, _⟩ := ha
    obtain ⟨a', c', rfl, _⟩ := hb
    have ho0 : OwnE (w.alloc (Obj.cells #[] 56)) w.heap.size w.heap.size 0 [] := World.ownsRow_lit (base := w.heap.size) (e := 56) (size := 3) w #[] 0 (Nat.le_refl _) (Nat.zero_le _) rfl
    have hbl := bal' w (Obj.cells #[] 56)
    replace ho0 := (show Hid _ from ho0)
    replace hbl := (show Hid _ from hbl)
    replace hh2 := (show Hid _ from hh2)
    clear hA h
    go_enter Try.func10, Try.ntmps10
    go_wp2_with fail
    refine (hh2.out _ hbl.out).mono ?_
    rintro e w1 ⟨rfl, hw1⟩
    subst hw1
    go_wp2
    exact bodyPost_ret (results_tmp2 rfl _ _ _) rfl ⟨_, _, rfl, ho0.out, hbl.out⟩
  have htb := fun W (k : Below w.heap.size w W) => l9Table_any va vb xs ys W (ha.below k) (hb.below k) h.1 h.2
  simp only [decide_eq_true h] at hh2 ⊢
  have hA : editsV xs ys = edE (fun k => xs.getD k 0) (fun k => ys.getD k 0) xs.length ys.length := if_pos h
  rw [hA]
  have hlenE := edE_len (fun k => xs.getD k 0) (fun k => ys.getD k 0) xs.length ys.length
  have hbdE := edD_bd true (fun k => xs.getD k 0) (fun k => ys.getD k 0) xs.length ys.length
  obtain ⟨X, hX⟩ : ∃ X, Hid (X = (fun k => xs.getD k 0)) := ⟨_, rfl⟩
  obtain ⟨Y, hY⟩ : ∃ Y, Hid (Y = (fun k => ys.getD k 0)) := ⟨_, rfl⟩
  rw [← hX.out, ← hY.out] at hlenE hbdE htb ⊢
  obtain ⟨D, hD⟩ : ∃ D, Hid (D = edD true X Y) := ⟨_, rfl⟩
  rw [← hD.out] at hlenE hbdE htb
  obtain ⟨hx, hy⟩ := h
  clear hA
  obtain ⟨a, c, rfl, hca⟩ := ha
  obtain ⟨a', c', rfl, hcb⟩ := hb
  generalize hm : xs.length = m at *
  generalize hn : ys.length = n at *
  replace hm := (show Hid _ from hm)
  replace hn := (show Hid _ from hn)
  obtain ⟨W, hW⟩ : ∃ W, Hid (n + 1 = W) := ⟨_, rfl⟩
  have eW : IntKind.i64.wrap ((n : Int) + 1) = (W : Int) := wid (by have := hW.out; omega) (by omega) (by omega)
  have hE80 : (edE X Y m n).length ≤ 80 := by omega
  obtain ⟨N, hNf⟩ : ∃ N, Hid (N = (m + 1) * W) := ⟨_, rfl⟩
  have hNt : (m + 1) * (n + 1) = N := by rw [hNf.out, hW.out]
  rw [hNt] at htb
  have hN2 : N ≤ 41 * 41 := by rw [← hNt]; exact Nat.mul_le_mul (by omega) (by omega)
  clear hNt
  obtain ⟨E, hE⟩ : ∃ E, Hid (E = edE X Y m n) := ⟨_, rfl⟩
  rw [← hE.out] at hE80 ⊢
  have ho0 : OwnE (w.alloc (Obj.cells #[] 56)) w.heap.size w.heap.size 0 [] := World.ownsRow_lit (base := w.heap.size) (e := 56) (size := 3) w #[] 0 (Nat.le_refl _) (Nat.zero_le _) rfl
  have hbl := bal' w (Obj.cells #[] 56)
  obtain ⟨w0, hw0⟩ : ∃ w0, Hid (w0 = w.alloc (Obj.cells #[] 56)) := ⟨_, rfl⟩
  rw [← hw0.out] at ho0 hbl
  have hz0 : w0.heap.size = w.heap.size + 1 := by rw [hw0.out]; simp
  replace hz0 := (show Hid _ from hz0)
  replace ho0 := (show Hid _ from ho0)
  replace hbl := (show Hid _ from hbl)
  replace hh2 := (show Hid _ from hh2)
  replace htb := (show Hid _ from htb)
  replace hlenE := (show Hid _ from hlenE)
  replace hbdE := (show Hid _ from hbdE)
  replace hca := (show Hid _ from hca)
  replace hcb := (show Hid _ from hcb)
  go_enter Try.func10, Try.ntmps10
  go_wp2_with fail
  rw [← hw0.out]
  refine (hh2.out _ hbl.out).mono ?_
  rintro e w1 ⟨rfl, hw1⟩
  subst hw1
  go_wp2_with fail
  refine (htb.out _ hbl.out).mono ?_
  rintro e w2 ⟨rfl, zs, hoT, hT0, b2⟩
  have kb0 := hbl.out.trans (b2.mono hbl.out.size)
  have hgr0 : w1.grownBy w2 none := ⟨b2.os, b2.tape, b2.output, b2.size, fun k hk _ => b2.block k hk⟩
  have ho1 : OwnE w2 w.heap.size w.heap.size 0 [] := World.ownsRow.kept ho0.out hgr0 (.inr (by simp [Value.ownBlock]))
  have hGl0 : w1.heap.size < w2.heap.size := (hoT.lt _ rfl).2
  have hgG0 : ¬ w.heap.size = w1.heap.size := by have := hz0.out; omega
  have hTc : Hid (∀ i' j', i' ≤ m → j' ≤ n → w2.cell? ⟨w1.heap.size, i' * W + j', none⟩ = some (.int .i64 (D i' j'))) := fun i' j' h1 h2 => by
    have hlt := tab_lt (W := n + 1) (m := m) (i := i') (j := j') h1 (by omega)
    rw [hW.out, ← hNf.out] at hlt
    rw [hW.out] at hT0
    rw [hoT.cellAt (i' * W + j') (by omega)]
    exact hT0.at i' j' (by have := hW.out; omega) h1 (by omega)
  generalize hG : w1.heap.size = G at *
  clear hoT hT0 b2 hbl hgr0 ho0 hh2 htb hz0 hw0 hG
  replace ho1 := (show Hid _ from ho1)
  go_wp2
  go_loopw [6, 9, 10, 11, 12, 13] (fun ov iv jv _ _ _ wr => ∃ (i j : Nat) (es : List (Int × Int × Int)) (g cap : Nat), i ≤ m ∧ j ≤ n ∧ iv = .int .i64 i ∧ jv = .int .i64 j ∧ ov = .slice (some ⟨g, 0, none⟩) es.length cap ∧ OwnE wr w.heap.size g cap es ∧ Hid (es ++ edE X Y i j = E) ∧ Below w.heap.size w wr ∧ Hid (∀ i' j', i' ≤ m → j' ≤ n → wr.cell? ⟨G, i' * W + j', none⟩ = some (.int .i64 (D i' j'))) ∧ (¬ g = G) ∧ G < wr.heap.size) (fun _ iv jv _ _ _ _ => (intOf iv).toNat + (intOf jv).toNat)
  case atStart => exact ⟨m, n, [], w.heap.size, 0, Nat.le_refl _, Nat.le_refl _, rfl, rfl, rfl, ho1.out, by show _ = _; rw [List.nil_append]; exact hE.out.symm, kb0, hTc, hgG0, hGl0⟩
  case round =>
    obtain ⟨i, j, es, g, cap, hi, hj, rfl, rfl, rfl, ho, hq, kb, hT, hgG, hGl⟩ := hrel
    clear ho1 kb0 hTc hgG0 hGl0
    replace ho := (show Hid _ from ho)
    by_cases hi0 : i = 0
    · subst hi0
      by_cases hj0 : j = 0
      · subst hj0
        have hes : es = E := by have := hq.out; rw [edE_00, List.append_nil] at this; exact this
        subst hes
        clear hca hcb
        go_wp2
        exact bodyPost_ret (results_tmp2 rfl _ _ _) rfl ⟨_, _, rfl, ho.out, kb⟩
      · obtain ⟨j1, hj1'⟩ : ∃ j1, Hid (j = j1 + 1) := ⟨j - 1, by show j = j - 1 + 1; omega⟩
        have e8 : IntKind.i64.wrap ((j : Int) - 1) = (j1 : Int) := wid (by have := hj1'.out; omega) (by omega) (by omega)
        have hjm : j1 < n := by have := hj1'.out; omega
        have q2 : decide (0 < j) = true := decide_eq_true (by omega)
        have hjj0 : ¬ ((j : Int) = 0) := by omega
        rcases hcb.out with h | ⟨b', off', rfl, hbb', hs2⟩
        · exfalso; have := hn.out; rw [h] at this; simp at this; omega
        have c2 := (kb.cell (p := ⟨b', off' + j1, none⟩) hbb').trans (hs2 j1 hjm)
        rw [show ys.getD j1 0 = Y j1 by rw [hY.out]] at c2
        clear hs2
        have hqs : es ++ (2, 0, Y j1) :: edE X Y 0 j1 = E := by rw [← edE_0j, ← hj1'.out]; exact hq.out
        generalize Y j1 = y at *
        have hq2 : Hid ((es ++ [(2, 0, y)]) ++ edE X Y 0 j1 = E) := by show _ = _; rw [List.append_assoc]; exact hqs
        have hsz := OwnE.lt ho.out
        have hes : es.length ≤ 200 := by have := congrArg List.length hqs; rw [List.length_append] at this; omega
        have hoP : OwnE (wr) w.heap.size g cap es := ho.out
        have kbP : Below w.heap.size w (wr) := kb.trans (Below.mono (show Below wr.heap.size wr (wr) from ⟨rfl, rfl, rfl, Nat.le_refl _, fun _ _ => rfl⟩) kb.size)
        clear hq hqs
        go_wp2_with (at_builtin; refine append_ed (w := wr) rfl _ _ rfl w.heap.size g cap es hes (by rfl) hoP 2 (0) (y) (by rfl) kb.size ?_; intro g2 cap2 w2 ho2 hg2 hat)
        have kb2 := kbP.grown hg2 kb.size (fun k e => by injection e with e; omega)
        have hT2 : Hid (∀ i' j', i' ≤ m → j' ≤ n → w2.cell? ⟨G, i' * W + j', none⟩ = some (.int .i64 (D i' j'))) := fun i' j' h1 h2 => by
          rw [← hT.out i' j' h1 h2]
          exact World.cell?_of_block (w := wr) (a := ⟨G, i' * W + j', none⟩) (hg2.block G hGl (fun e => by injection e with e; omega))
        have hGl2 : G < w2.heap.size := Nat.lt_of_lt_of_le hGl hg2.size
        have hgG2 : ¬ g2 = G := by
          rcases hat with e | e
          · rw [e]; exact hgG
          · have e2 : g2 = wr.heap.size + 1 := e
            omega
        replace ho2 := (show Hid _ from ho2)
        clear hoP ho hg2 hat hT kb kbP hsz
        go_wp2
        go_roundw
        case rel => exact ⟨0, j1, es ++ [(2, 0, y)], g2, cap2, by omega, by omega, rfl, rfl, by rw [List.length_append]; rfl, ho2.out, hq2, kb2, hT2, hgG2, hGl2⟩
        case measure => simp [intOf]; have := hj1'.out; omega
    · by_cases hj0 : j = 0
      · subst hj0
        obtain ⟨i1, hi1'⟩ : ∃ i1, Hid (i = i1 + 1) := ⟨i - 1, by show i = i - 1 + 1; omega⟩
        have e3 : IntKind.i64.wrap ((i : Int) - 1) = (i1 : Int) := wid (by have := hi1'.out; omega) (by omega) (by omega)
        have him : i1 < m := by have := hi1'.out; omega
        have q1 : decide (0 < i) = true := decide_eq_true (by omega)
        have hii0 : ¬ ((i : Int) = 0) := by omega
        have hqs : es ++ (1, (i1 : Int), 0) :: edE X Y i1 0 = E := by rw [← edE_i0, ← hi1'.out]; exact hq.out
        have hq2 : Hid ((es ++ [(1, (i1 : Int), 0)]) ++ edE X Y i1 0 = E) := by show _ = _; rw [List.append_assoc]; exact hqs
        have hsz := OwnE.lt ho.out
        have hes : es.length ≤ 200 := by have := congrArg List.length hqs; rw [List.length_append] at this; omega
        have hoP : OwnE (wr) w.heap.size g cap es := ho.out
        have kbP : Below w.heap.size w (wr) := kb.trans (Below.mono (show Below wr.heap.size wr (wr) from ⟨rfl, rfl, rfl, Nat.le_refl _, fun _ _ => rfl⟩) kb.size)
        clear hq hqs
        go_wp2_with (at_builtin; refine append_ed (w := wr) rfl _ _ rfl w.heap.size g cap es hes (by rfl) hoP 1 ((i1 : Int)) (0) (by rfl) kb.size ?_; intro g2 cap2 w2 ho2 hg2 hat)
        have kb2 := kbP.grown hg2 kb.size (fun k e => by injection e with e; omega)
        have hT2 : Hid (∀ i' j', i' ≤ m → j' ≤ n → w2.cell? ⟨G, i' * W + j', none⟩ = some (.int .i64 (D i' j'))) := fun i' j' h1 h2 => by
          rw [← hT.out i' j' h1 h2]
          exact World.cell?_of_block (w := wr) (a := ⟨G, i' * W + j', none⟩) (hg2.block G hGl (fun e => by injection e with e; omega))
        have hGl2 : G < w2.heap.size := Nat.lt_of_lt_of_le hGl hg2.size
        have hgG2 : ¬ g2 = G := by
          rcases hat with e | e
          · rw [e]; exact hgG
          · have e2 : g2 = wr.heap.size + 1 := e
            omega
        replace ho2 := (show Hid _ from ho2)
        clear hoP ho hg2 hat hT kb kbP hsz
        go_wp2
        go_roundw
        case rel => exact ⟨i1, 0, es ++ [(1, (i1 : Int), 0)], g2, cap2, by omega, by omega, rfl, rfl, by rw [List.length_append]; rfl, ho2.out, hq2, kb2, hT2, hgG2, hGl2⟩
        case measure => simp [intOf]; have := hi1'.out; omega
      · obtain ⟨i1, hi1'⟩ : ∃ i1, Hid (i = i1 + 1) := ⟨i - 1, by show i = i - 1 + 1; omega⟩
        have e3 : IntKind.i64.wrap ((i : Int) - 1) = (i1 : Int) := wid (by have := hi1'.out; omega) (by omega) (by omega)
        have him : i1 < m := by have := hi1'.out; omega
        have q1 : decide (0 < i) = true := decide_eq_true (by omega)
        have hii0 : ¬ ((i : Int) = 0) := by omega
        obtain ⟨j1, hj1'⟩ : ∃ j1, Hid (j = j1 + 1) := ⟨j - 1, by show j = j - 1 + 1; omega⟩
        have e8 : IntKind.i64.wrap ((j : Int) - 1) = (j1 : Int) := wid (by have := hj1'.out; omega) (by omega) (by omega)
        have hjm : j1 < n := by have := hj1'.out; omega
        have q2 : decide (0 < j) = true := decide_eq_true (by omega)
        have hjj0 : ¬ ((j : Int) = 0) := by omega
        rcases hcb.out with h | ⟨b', off', rfl, hbb', hs2⟩
        · exfalso; have := hn.out; rw [h] at this; simp at this; omega
        have c2 := (kb.cell (p := ⟨b', off' + j1, none⟩) hbb').trans (hs2 j1 hjm)
        rw [show ys.getD j1 0 = Y j1 by rw [hY.out]] at c2
        clear hs2
        obtain ⟨r, hr⟩ : ∃ r, Hid (r = i * W) := ⟨_, rfl⟩
        obtain ⟨r1, hr1⟩ : ∃ r1, Hid (r1 = i1 * W) := ⟨_, rfl⟩
        obtain ⟨p, hp⟩ : ∃ p, Hid (p = r + j) := ⟨_, rfl⟩
        obtain ⟨p1, hp1⟩ : ∃ p1, Hid (p1 = r1 + j) := ⟨_, rfl⟩
        obtain ⟨q, hq3⟩ : ∃ q, Hid (q = r + j1) := ⟨_, rfl⟩
        obtain ⟨q0, hq0⟩ : ∃ q0, Hid (q0 = r1 + j1) := ⟨_, rfl⟩
        have hW1 := hW.out
        have hr41 : r ≤ 41 * 41 := by rw [hr.out]; exact Nat.mul_le_mul (by omega) (by omega)
        have hr141 : r1 ≤ 41 * 41 := by rw [hr1.out]; exact Nat.mul_le_mul (by omega) (by omega)
        have f1 : IntKind.i64.wrap ((i : Int) * (W : Int)) = (r : Int) := by rw [← Int.natCast_mul]; exact wid (by rw [hr.out]) (by omega) (by rw [← hr.out]; omega)
        have f2 : IntKind.i64.wrap ((r : Int) + (j : Int)) = (p : Int) := wid (by have := hp.out; omega) (by omega) (by omega)
        have f4 : IntKind.i64.wrap ((i1 : Int) * (W : Int)) = (r1 : Int) := by rw [← Int.natCast_mul]; exact wid (by rw [hr1.out]) (by omega) (by rw [← hr1.out]; omega)
        have f5 : IntKind.i64.wrap ((r1 : Int) + (j : Int)) = (p1 : Int) := wid (by have := hp1.out; omega) (by omega) (by omega)
        have f6 : IntKind.i64.wrap ((p1 : Int) - 1) = (q0 : Int) := wid (by have := hp1.out; have := hq0.out; have := hj1'.out; omega) (by have := hp1.out; omega) (by have := hp1.out; omega)
        have f7 : IntKind.i64.wrap ((p : Int) - 1) = (q : Int) := wid (by have := hp.out; have := hq3.out; have := hj1'.out; omega) (by have := hp.out; omega) (by have := hp.out; omega)
        have k1 := hT.out i1 j1 (by omega) (by omega)
        have k2 := hT.out i1 j (by omega) hj
        have k3 := hT.out i j1 hi (by omega)
        have hpN : p < N := by rw [hNf.out, hp.out, hr.out]; exact tab_lt hi (by omega)
        have hp1N : p1 < N := by rw [hNf.out, hp1.out, hr1.out]; exact tab_lt (by omega) (by omega)
        have hqN : q < N := by rw [hNf.out, hq3.out, hr.out]; exact tab_lt hi (by omega)
        have hq0N : q0 < N := by rw [hNf.out, hq0.out, hr1.out]; exact tab_lt (by omega) (by omega)
        rw [← hr1.out, ← hq0.out] at k1
        rw [← hr1.out, ← hp1.out] at k2
        rw [← hr.out, ← hq3.out] at k3
        rcases hca.out with h | ⟨b, off, rfl, hbb, hs1⟩
        · exfalso; have := hm.out; rw [h] at this; simp at this; omega
        have c1 := (kb.cell (p := ⟨b, off + i1, none⟩) hbb).trans (hs1 i1 him)
        rw [show xs.getD i1 0 = X i1 by rw [hX.out]] at c1
        clear hs1 hW1 hr41 hr141
        have mE := edE_eq X Y i1 j1
        have mT := edE_turn X Y i1 j1
        have mK := edE_take X Y i1 j1
        have mP := edE_put X Y i1 j1
        rw [← hi1'.out, ← hj1'.out] at mE mT mK mP
        rw [← hD.out] at mT mK mP
        have hiI : (i1 : Int) + 1 = (i : Int) := by have := hi1'.out; omega
        rw [hiI] at mP
        clear hiI
        replace mE := (show Hid _ from mE)
        replace mT := (show Hid _ from mT)
        replace mK := (show Hid _ from mK)
        replace mP := (show Hid _ from mP)
        generalize X i1 = x at *
        generalize Y j1 = y at *
        generalize D i1 j1 = F1 at *
        generalize D i1 j = F2 at *
        generalize D i j1 = F3 at *
        by_cases hxy : x = y
        · have hqs : Hid (es ++ edE X Y i1 j1 = E) := by show _ = _; rw [← mE.out hxy]; exact hq.out
          subst hxy
          clear hq mE mT mK mP k1 k2 k3 f1 f2 f4 f5 f6 f7
          go_wp2
          go_quiet (fail)
          go_wp2
          go_roundw
          case rel => exact ⟨i1, j1, es, g, cap, by omega, by omega, rfl, rfl, rfl, ho.out, hqs, kb.trans (Below.mono (show Below wr.heap.size wr (wr.drewN nq) from ⟨rfl, rfl, rfl, Nat.le_refl _, fun _ _ => rfl⟩) kb.size), hT, hgG, hGl⟩
          case measure => simp [intOf]; have := hi1'.out; have := hj1'.out; omega
        · by_cases h12 : F1 ≤ F2
          · by_cases h13 : F1 ≤ F3
            · have hct := And.intro h12 h13
              have hqs : es ++ (3, (i1 : Int), y) :: edE X Y i1 j1 = E := by rw [← mT.out hxy ⟨h12, h13⟩]; exact hq.out
              clear mE mT mK mP
              go_wp2
              go_quiet (fail)
              have hq2 : Hid ((es ++ [(3, (i1 : Int), y)]) ++ edE X Y i1 j1 = E) := by show _ = _; rw [List.append_assoc]; exact hqs
              have hsz := OwnE.lt ho.out
              have hes : es.length ≤ 200 := by have := congrArg List.length hqs; rw [List.length_append] at this; omega
              have hoP : OwnE (wr.drewN nq) w.heap.size g cap es := ho.out
              have kbP : Below w.heap.size w (wr.drewN nq) := kb.trans (Below.mono (show Below wr.heap.size wr (wr.drewN nq) from ⟨rfl, rfl, rfl, Nat.le_refl _, fun _ _ => rfl⟩) kb.size)
              clear hq hqs
              go_wp2_with (at_builtin; refine append_ed (w := wr.drewN nq) rfl _ _ rfl w.heap.size g cap es hes (by rfl) hoP 3 ((i1 : Int)) (y) (by rfl) kb.size ?_; intro g2 cap2 w2 ho2 hg2 hat)
              have kb2 := kbP.grown hg2 kb.size (fun k e => by injection e with e; omega)
              have hT2 : Hid (∀ i' j', i' ≤ m → j' ≤ n → w2.cell? ⟨G, i' * W + j', none⟩ = some (.int .i64 (D i' j'))) := fun i' j' h1 h2 => by
                rw [← hT.out i' j' h1 h2]
                exact World.cell?_of_block (w := wr) (a := ⟨G, i' * W + j', none⟩) (hg2.block G hGl (fun e => by injection e with e; omega))
              have hGl2 : G < w2.heap.size := Nat.lt_of_lt_of_le hGl hg2.size
              have hgG2 : ¬ g2 = G := by
                rcases hat with e | e
                · rw [e]; exact hgG
                · have e2 : g2 = wr.heap.size + 1 := e
                  omega
              replace ho2 := (show Hid _ from ho2)
              clear hoP ho hg2 hat hT kb kbP hsz
              go_wp2
              go_roundw
              case rel => exact ⟨i1, j1, es ++ [(3, (i1 : Int), y)], g2, cap2, by omega, by omega, rfl, rfl, by rw [List.length_append]; rfl, ho2.out, hq2, kb2, hT2, hgG2, hGl2⟩
              case measure => simp [intOf]; have := hi1'.out; have := hj1'.out; omega
            · have h23 : ¬ F2 ≤ F3 := by omega
              have hqs : es ++ (2, (i : Int), y) :: edE X Y i j1 = E := by rw [← mP.out hxy (fun h => h13 h.2) h23]; exact hq.out
              clear mE mT mK mP
              go_wp2
              go_quiet (fail)
              have hq2 : Hid ((es ++ [(2, (i : Int), y)]) ++ edE X Y i j1 = E) := by show _ = _; rw [List.append_assoc]; exact hqs
              have hsz := OwnE.lt ho.out
              have hes : es.length ≤ 200 := by have := congrArg List.length hqs; rw [List.length_append] at this; omega
              have hoP : OwnE (wr.drewN nq) w.heap.size g cap es := ho.out
              have kbP : Below w.heap.size w (wr.drewN nq) := kb.trans (Below.mono (show Below wr.heap.size wr (wr.drewN nq) from ⟨rfl, rfl, rfl, Nat.le_refl _, fun _ _ => rfl⟩) kb.size)
              clear hq hqs
              go_wp2_with (at_builtin; refine append_ed (w := wr.drewN nq) rfl _ _ rfl w.heap.size g cap es hes (by rfl) hoP 2 ((i : Int)) (y) (by rfl) kb.size ?_; intro g2 cap2 w2 ho2 hg2 hat)
              have kb2 := kbP.grown hg2 kb.size (fun k e => by injection e with e; omega)
              have hT2 : Hid (∀ i' j', i' ≤ m → j' ≤ n → w2.cell? ⟨G, i' * W + j', none⟩ = some (.int .i64 (D i' j'))) := fun i' j' h1 h2 => by
                rw [← hT.out i' j' h1 h2]
                exact World.cell?_of_block (w := wr) (a := ⟨G, i' * W + j', none⟩) (hg2.block G hGl (fun e => by injection e with e; omega))
              have hGl2 : G < w2.heap.size := Nat.lt_of_lt_of_le hGl hg2.size
              have hgG2 : ¬ g2 = G := by
                rcases hat with e | e
                · rw [e]; exact hgG
                · have e2 : g2 = wr.heap.size + 1 := e
                  omega
              replace ho2 := (show Hid _ from ho2)
              clear hoP ho hg2 hat hT kb kbP hsz
              go_wp2
              go_roundw
              case rel => exact ⟨i, j1, es ++ [(2, (i : Int), y)], g2, cap2, by omega, by omega, rfl, rfl, by rw [List.length_append]; rfl, ho2.out, hq2, kb2, hT2, hgG2, hGl2⟩
              case measure => simp [intOf]; have := hi1'.out; have := hj1'.out; omega
          · by_cases h23 : F2 ≤ F3
            · have hct := h12
              have hqs : es ++ (1, (i1 : Int), 0) :: edE X Y i1 j = E := by rw [← mK.out hxy (fun h => h12 h.1) h23]; exact hq.out
              clear mE mT mK mP
              go_wp2
              go_quiet (fail)
              have hq2 : Hid ((es ++ [(1, (i1 : Int), 0)]) ++ edE X Y i1 j = E) := by show _ = _; rw [List.append_assoc]; exact hqs
              have hsz := OwnE.lt ho.out
              have hes : es.length ≤ 200 := by have := congrArg List.length hqs; rw [List.length_append] at this; omega
              have hoP : OwnE (wr.drewN nq) w.heap.size g cap es := ho.out
              have kbP : Below w.heap.size w (wr.drewN nq) := kb.trans (Below.mono (show Below wr.heap.size wr (wr.drewN nq) from ⟨rfl, rfl, rfl, Nat.le_refl _, fun _ _ => rfl⟩) kb.size)
              clear hq hqs
              go_wp2_with (at_builtin; refine append_ed (w := wr.drewN nq) rfl _ _ rfl w.heap.size g cap es hes (by rfl) hoP 1 ((i1 : Int)) (0) (by rfl) kb.size ?_; intro g2 cap2 w2 ho2 hg2 hat)
              have kb2 := kbP.grown hg2 kb.size (fun k e => by injection e with e; omega)
              have hT2 : Hid (∀ i' j', i' ≤ m → j' ≤ n → w2.cell? ⟨G, i' * W + j', none⟩ = some (.int .i64 (D i' j'))) := fun i' j' h1 h2 => by
                rw [← hT.out i' j' h1 h2]
                exact World.cell?_of_block (w := wr) (a := ⟨G, i' * W + j', none⟩) (hg2.block G hGl (fun e => by injection e with e; omega))
              have hGl2 : G < w2.heap.size := Nat.lt_of_lt_of_le hGl hg2.size
              have hgG2 : ¬ g2 = G := by
                rcases hat with e | e
                · rw [e]; exact hgG
                · have e2 : g2 = wr.heap.size + 1 := e
                  omega
              replace ho2 := (show Hid _ from ho2)
              clear hoP ho hg2 hat hT kb kbP hsz
              go_wp2
              go_roundw
              case rel => exact ⟨i1, j, es ++ [(1, (i1 : Int), 0)], g2, cap2, by omega, by omega, rfl, rfl, by rw [List.length_append]; rfl, ho2.out, hq2, kb2, hT2, hgG2, hGl2⟩
              case measure => simp [intOf]; have := hi1'.out; have := hj1'.out; omega
            · have hct := h12
              have hqs : es ++ (2, (i : Int), y) :: edE X Y i j1 = E := by rw [← mP.out hxy (fun h => h12 h.1) h23]; exact hq.out
              clear mE mT mK mP
              go_wp2
              go_quiet (fail)
              have hq2 : Hid ((es ++ [(2, (i : Int), y)]) ++ edE X Y i j1 = E) := by show _ = _; rw [List.append_assoc]; exact hqs
              have hsz := OwnE.lt ho.out
              have hes : es.length ≤ 200 := by have := congrArg List.length hqs; rw [List.length_append] at this; omega
              have hoP : OwnE (wr.drewN nq) w.heap.size g cap es := ho.out
              have kbP : Below w.heap.size w (wr.drewN nq) := kb.trans (Below.mono (show Below wr.heap.size wr (wr.drewN nq) from ⟨rfl, rfl, rfl, Nat.le_refl _, fun _ _ => rfl⟩) kb.size)
              clear hq hqs
              go_wp2_with (at_builtin; refine append_ed (w := wr.drewN nq) rfl _ _ rfl w.heap.size g cap es hes (by rfl) hoP 2 ((i : Int)) (y) (by rfl) kb.size ?_; intro g2 cap2 w2 ho2 hg2 hat)
              have kb2 := kbP.grown hg2 kb.size (fun k e => by injection e with e; omega)
              have hT2 : Hid (∀ i' j', i' ≤ m → j' ≤ n → w2.cell? ⟨G, i' * W + j', none⟩ = some (.int .i64 (D i' j'))) := fun i' j' h1 h2 => by
                rw [← hT.out i' j' h1 h2]
                exact World.cell?_of_block (w := wr) (a := ⟨G, i' * W + j', none⟩) (hg2.block G hGl (fun e => by injection e with e; omega))
              have hGl2 : G < w2.heap.size := Nat.lt_of_lt_of_le hGl hg2.size
              have hgG2 : ¬ g2 = G := by
                rcases hat with e | e
                · rw [e]; exact hgG
                · have e2 : g2 = wr.heap.size + 1 := e
                  omega
              replace ho2 := (show Hid _ from ho2)
              clear hoP ho hg2 hat hT kb kbP hsz
              go_wp2
              go_roundw
              case rel => exact ⟨i, j1, es ++ [(2, (i : Int), y)], g2, cap2, by omega, by omega, rfl, rfl, by rw [List.length_append]; rfl, ho2.out, hq2, kb2, hT2, hgG2, hGl2⟩
              case measure => simp [intOf]; have := hi1'.out; have := hj1'.out; omega
end Go.Proofs.Ytokoohmakjabnaa
namespace Go.Proofs.Ytokoohmakjabnaa
open Go.ChangeShapes Go.WideShapes Go.ChangeAt Go.RowKit
theorem edV_at : ∀ (es : List (Int × Int × Int)) (j : Nat), j < es.length → (edV es).getD (j * 3) 0 = (es.getD j (0, 0, 0)).1 ∧ (edV es).getD (j * 3 + 1) 0 = (es.getD j (0, 0, 0)).2.1 ∧ (edV es).getD (j * 3 + 2) 0 = (es.getD j (0, 0, 0)).2.2
  | [], j, h => by simp at h
  | e :: es, 0, _ => by simp [edV]
  | e :: es, j + 1, h => by
    have ih := edV_at es j (by simpa using h)
    have e1 : ∀ q, (edV (e :: es)).getD ((j + 1) * 3 + q) 0 = (edV es).getD (j * 3 + q) 0 := fun q => by
      have h1 : edV (e :: es) = e.1 :: e.2.1 :: e.2.2 :: edV es := rfl
      rw [h1, show (j + 1) * 3 + q = j * 3 + q + 1 + 1 + 1 by omega]
      rfl
    have h0 := e1 0
    simp only [Nat.add_zero] at h0
    rw [h0, e1, e1]
    simpa using ih
theorem edDrop (es : List (Int × Int × Int)) (j : Nat) (h : j < es.length) : es.drop j = es.getD j (0, 0, 0) :: es.drop (j + 1) := by
  rw [List.drop_eq_getElem_cons h]; simp [h]
theorem own_shp {w : World} {base : Nat} {v : Value} {xs : List Int} (h : OwnI w base v xs) : ∃ a c, v = .slice a xs.length c := by
  rcases h.2 with ⟨h1, h2⟩ | ⟨g, cap, cur, h1, _⟩
  · exact ⟨none, 0, by rw [h1, h2]⟩
  · exact ⟨_, cap, h1⟩
def edAns (o : Option (List Int)) : Bool := o.isSome
set_option maxHeartbeats 4000000 in
set_option maxRecDepth 20000 in
theorem implEdited_any (v lv : Value) (xs : List Int) (es : List (Int × Int × Int)) (w : World) (hv : SlN w v xs) (he : SlE w lv es.length (edV es)) :
    Calls Try.prog 9 #[v, lv] w fun e w' => ∃ u, e = .returned (.tuple #[u, .bool (edAns (edAll xs es))]) ∧ OwnI w' w.heap.size u (edOut (edAll xs es)) ∧ Below w.heap.size w w' := by
  obtain ⟨a, c, rfl⟩ := hv.shp
  obtain ⟨_, a', c', rfl, hes⟩ := he
  have hnil : ∀ W, Below w.heap.size w W → OwnI (W.alloc (Obj.cells #[] 2)) w.heap.size (.slice (some ⟨W.heap.size, 0, none⟩) 0 0) [] := fun W k => World.ownsRow_lit (base := w.heap.size) (e := 2) (size := 1) W #[] 0 k.size (Nat.zero_le _) rfl
  by_cases h1 : xs.length ≤ 80
  case neg =>
    have hA : edAll xs es = none := if_neg (by omega)
    rw [hA]
    have h1i : (80 : Int) < (xs.length : Int) := by omega
    have hn := hnil w (Below.refl _ _)
    have hb := bal' w (Obj.cells #[] 2)
    replace hn := (show Hid _ from hn)
    clear hv hes hnil hA h1
    go_enter Try.func9, Try.ntmps9
    go_wp2
    exact bodyPost_ret (results_tmp2 rfl _ _ _) rfl ⟨_, rfl, hn.out, hb⟩
  by_cases h2 : es.length ≤ 80
  case neg =>
    have hA : edAll xs es = none := if_neg (by omega)
    rw [hA]
    have h1i : ¬ (80 : Int) < (xs.length : Int) := by omega
    have h2i : (80 : Int) < (es.length : Int) := by omega
    have hn := hnil w (Below.refl _ _)
    have hb := bal' w (Obj.cells #[] 2)
    replace hn := (show Hid _ from hn)
    clear hv hes hnil hA h1 h2
    go_enter Try.func9, Try.ntmps9
    go_wp2
    exact bodyPost_ret (results_tmp2 rfl _ _ _) rfl ⟨_, rfl, hn.out, hb⟩
  have hA : edAll xs es = edRun xs es := if_pos ⟨h1, h2⟩
  rw [hA]
  have h1i : ¬ (80 : Int) < (xs.length : Int) := by omega
  have h2i : ¬ (80 : Int) < (es.length : Int) := by omega
  have hcopy := copiedNumbers_any _ xs w hv (by omega)
  -- the edits, wherever they lie
  have hE : Hid (∀ j, j < es.length → ∃ b, a' = some ⟨b, 0, none⟩ ∧ ∀ W, Below w.heap.size w W → W.cell? ⟨b, j * 3, none⟩ = some (.int .i64 (es.getD j (0, 0, 0)).1) ∧ W.cell? ⟨b, j * 3 + 1, none⟩ = some (.int .i64 (es.getD j (0, 0, 0)).2.1) ∧ W.cell? ⟨b, j * 3 + 2, none⟩ = some (.int .i64 (es.getD j (0, 0, 0)).2.2)) := fun j hj => by
    rcases hes with h | ⟨b, hb, hlt, hc⟩
    · omega
    · refine ⟨b, hb, fun W k => ?_⟩
      have e : ∀ q, W.cell? ⟨b, q, none⟩ = w.cell? ⟨b, q, none⟩ := fun q => k.cell (p := ⟨b, q, none⟩) hlt
      obtain ⟨q0, q1, q2⟩ := edV_at es j hj
      rw [e, e, e, hc _ (by omega), hc _ (by omega), hc _ (by omega), q0, q1, q2]
      exact ⟨rfl, rfl, rfl⟩
  obtain ⟨R, hR⟩ : ∃ R, Hid (R = edRun xs es) := ⟨_, rfl⟩
  rw [← hR.out]
  have hDr : Hid (∀ j, j < es.length → es.drop j = es.getD j (0, 0, 0) :: es.drop (j + 1)) := fun j h => edDrop es j h
  have hDn : Hid (es.drop es.length = []) := List.drop_length
  replace hnil := (show Hid _ from hnil)
  obtain ⟨n, hn⟩ : ∃ n, Hid (n = es.length) := ⟨_, rfl⟩
  rw [← hn.out] at hE hDr hDn h2i ⊢
  have hn80 : n ≤ 80 := by have := hn.out; omega
  clear hv hes hA h2 hn
  go_enter Try.func9, Try.ntmps9
  go_wp2_with fail
  refine hcopy.mono ?_
  rintro e w1 ⟨u, rfl, ho, hb⟩
  have hRun0 : Hid (edRun xs (es.drop 0) = R) := by show _ = _; rw [List.drop_zero]; exact hR.out.symm
  replace ho := (show Hid _ from ho)
  clear hcopy hR h1i
  go_wp2
  go_loopw [6, 22] (fun mv iv wr => ∃ (j : Nat) (ys : List Int), j ≤ n ∧ iv = .int .i64 j ∧ OwnI wr w.heap.size mv ys ∧ ys.length ≤ 80 ∧ Hid (edRun ys (es.drop j) = R) ∧ Below w.heap.size w wr) (fun _ iv _ => n - (intOf iv).toNat)
  case atStart => exact ⟨0, xs, Nat.zero_le _, rfl, ho.out, h1, hRun0, hb⟩
  case round =>
    obtain ⟨j, ys, hj, rfl, hy, hyl, hq, kb⟩ := hrel
    clear ho hb hRun0 h1
    obtain ⟨ya, yc, hsh⟩ := own_shp hy
    subst hsh
    by_cases hlt : j < n
    · have hi : (j : Int) < (n : Int) := by omega
      obtain ⟨b, hb, hc⟩ := hE.out j hlt
      subst hb
      obtain ⟨⟨k, a2, y⟩, hked⟩ : ∃ e, Hid (e = es.getD j (0, 0, 0)) := ⟨_, rfl⟩
      rw [← hked.out] at hc
      obtain ⟨c0, c1, c2⟩ := hc wr kb
      simp only at c0 c1 c2
      have hrun : Hid ((edOne ys (k, a2, y)).bind (fun m => edRun m (es.drop (j + 1))) = R) := by
        show _ = _
        rw [← hq.out, hDr.out j hlt, edRun_cons, ← hked.out]
      have hok := fun W => editOk_any k a2 y ys.length W (by omega)
      rw [← edOne_some ys k a2 y] at hok
      have hba := bal' wr (Obj.cells #[.int .i64 k, .int .i64 a2, .int .i64 y] 56)
      have hXe := BlkC.new wr 56 [.int .i64 k, .int .i64 a2, .int .i64 y]
      replace hc := (show Hid _ from hc)
      replace hy := (show Hid _ from hy)
      clear hc hked hq
      go_wp2_with fail
      refine (hok _).mono ?_
      rintro e w2 ⟨rfl, hb2⟩
      have kb2 := kb.trans ((hba.trans (hb2.mono hba.size)).mono kb.size)
      have hy2 := (hy.out.below hba).below hb2
      have hX2 := BlkC.below hXe hb2
      clear hok hXe c0 c1 c2
      have l0 : w2.cell? ⟨wr.heap.size, 0, none⟩ = some (.int .i64 k) := cell_of_row w2 wr.heap.size 0 _ _ (0, 0) hX2
      have l1 : w2.cell? ⟨wr.heap.size, 1, none⟩ = some (.int .i64 a2) := cell_of_row w2 wr.heap.size 1 _ _ (0, 0) hX2
      have l2 : w2.cell? ⟨wr.heap.size, 2, none⟩ = some (.int .i64 y) := cell_of_row w2 wr.heap.size 2 _ _ (0, 0) hX2
      cases ho1 : edOne ys (k, a2, y) with
      | none =>
        have hRn : R = none := by rw [← hrun.out, ho1]; rfl
        subst hRn
        have hn := hnil.out w2 kb2
        have hbn := kb2.trans ((bal' w2 (Obj.cells #[] 2)).mono kb2.size)
        replace hn := (show Hid _ from hn)
        clear hy2 hX2 hrun ho1 hb2 hba hy
        simp only [Option.isSome_none] at *
        go_wp2
        exact bodyPost_ret (results_tmp2 rfl _ _ _) rfl ⟨_, rfl, hn.out, hbn⟩
      | some m =>
        rw [ho1] at hrun
        have hdo := doEdit_any w.heap.size _ ys m k a2 y w2 hy2 kb2.size hyl ho1
        have hml := edOne_len hyl ho1
        have hbd := fun q e => (hy2.lt q e).1
        clear hy2 hX2 ho1 hb2 hba hy
        simp only [Option.isSome_some] at *
        go_wp2_with fail
        refine hdo.mono ?_
        rintro e w3 ⟨u3, rfl, ho3, hg3, hat3⟩
        have kb3 := kb2.grown hg3 kb2.size hbd
        go_wp2
        go_roundw
        case rel => exact ⟨j + 1, m, by omega, by go_num, ho3, hml, hrun, kb3⟩
        case measure => simp [intOf]; omega
    · have hjn : j = n := by omega
      subst hjn
      have hi : ¬ (j : Int) < (j : Int) := by omega
      have hRs : R = some ys := by rw [← hq.out, hDn.out]; rfl
      subst hRs
      replace hy := (show Hid _ from hy)
      go_wp2
      exact bodyPost_ret (results_tmp2 rfl _ _ _) rfl ⟨_, rfl, hy.out, kb⟩
end Go.Proofs.Ytokoohmakjabnaa
namespace Go.Proofs.Ytokoohmakjabnaa
open Go.ChangeShapes Go.WideShapes Go.ChangeAt Go.RowKit
theorem run_append_some {P : Program} (w : World) (t ty : TypeId) (base : Nat) (e : TypeId) (i : TypeInfo) (z : Value) (size bytes : Nat) (ht : P.underlying t = some (.slice e)) (hi : P.info? e = some i) (hz : i.zero = some z)
    (hsize : i.size = size) (hby : i.bytes = bytes) (hzs : z.cells.size = size) (hsz : 0 < size)
    (g0 c0 n : Nat) (xs : List Value) (hown : w.ownsRow base e size (.slice (some ⟨g0, 0, none⟩) n c0) n xs)
    (ad : Addr) (m c : Nat) (news : List Value) (hl : news.length = m * size) (hnews : ∀ j u, news[j]? = some u → w.cell? (ad.add j) = some u) (h1 : ∀ u ∈ news, u.oneCell' = true)
    (h63 : n + m ≤ maxLen) (hbytes : (n + m) * bytes ≤ 140737488355328) (hbase : base ≤ w.heap.size) :
    ∃ g cap w', (Builtin.append_ #[t, t] ty #[.slice (some ⟨g0, 0, none⟩) n c0, .slice (some ad) m c]).run P w = .ok (.slice (some ⟨g, 0, none⟩) (n + m) cap) w' ∧
      w'.ownsRow base e size (.slice (some ⟨g, 0, none⟩) (n + m) cap) (n + m) (xs ++ news) ∧ w.grownBy w' (some g0) ∧ (g = g0 ∨ g = w.heap.size) := by
  obtain ⟨v', w', hr, h2, h3, h4, h5⟩ := run_append_own_at (P := P) w base t ty e i z size bytes ht hi hz hsize hby hzs hsz _ n xs hown ad m c news hl hnews h1 h63 hbytes hbase
  rcases h2.2 with ⟨hv, _⟩ | ⟨g, cap, cur, hv, _⟩
  · have := (h4.1 hv).1
    simp at this
  · subst hv
    refine ⟨g, cap, w', hr, h2, h3, ?_⟩
    rcases h5 with h5 | h5
    · left
      have e2 : some g = some g0 := h5
      injection e2
    · right
      have e2 : some g = some w.heap.size := h5
      injection e2
theorem wp_append_some {P : Program} {w : World} {o : Oper} {a : Act} {K : Act → World → Prop} {Q : Exit → Act → World → Prop} (s x : Operand) (t : TypeId)
    (ho : o.op = .call { callee := .builtin .append, args := #[s, x], argTypes := #[t, t] })
    (base : Nat) (e : TypeId) (i : TypeInfo) (z : Value) (size bytes : Nat) (ht : P.underlying t = some (.slice e)) (hi : P.info? e = some i) (hz : i.zero = some z)
    (hsize : i.size = size) (hby : i.bytes = bytes) (hzs : z.cells.size = size) (hsz : 0 < size)
    (g0 c0 n : Nat) (xs : List Value) (hs : a.eval s = .slice (some ⟨g0, 0, none⟩) n c0) (hown : w.ownsRow base e size (.slice (some ⟨g0, 0, none⟩) n c0) n xs)
    (ad : Addr) (m c : Nat) (news : List Value) (hx : a.eval x = .slice (some ad) m c) (hl : news.length = m * size) (hnews : ∀ j u, news[j]? = some u → w.cell? (ad.add j) = some u) (h1 : ∀ u ∈ news, u.oneCell' = true)
    (h63 : n + m ≤ maxLen) (hbytes : (n + m) * bytes ≤ 140737488355328) (hbase : base ≤ w.heap.size)
    (h : ∀ g cap w', w'.ownsRow base e size (.slice (some ⟨g, 0, none⟩) (n + m) cap) (n + m) (xs ++ news) → w.grownBy w' (some g0) → (g = g0 ∨ g = w.heap.size) → K (a.put o.dst (.slice (some ⟨g, 0, none⟩) (n + m) cap)) w') : o.wp P a w K Q := by
  obtain ⟨g, cap, w', hr, h2, h3, h4⟩ := run_append_some (P := P) w t o.type base e i z size bytes ht hi hz hsize hby hzs hsz g0 c0 n xs hown ad m c news hl hnews h1 h63 hbytes hbase
  unfold Oper.wp execOp
  simp only [ho, resolve, invoke, builtin, Sem.run_bind, Sem.run_pure, Result.andThen_ok, List.map_toArray, List.map_cons, List.map_nil, hs, hx, hr]
  exact h g cap w' h2 h3 h4
theorem wpList_append_some {P : Program} {w : World} {ops : Array Oper} {rest : List Oper} {o : Oper} {a : Act} {Q : Exit → Act → World → Prop} (hgd : o.guard = none) (s x : Operand) (t : TypeId)
    (ho : o.op = .call { callee := .builtin .append, args := #[s, x], argTypes := #[t, t] })
    (base : Nat) (e : TypeId) (i : TypeInfo) (z : Value) (size bytes : Nat) (ht : P.underlying t = some (.slice e)) (hi : P.info? e = some i) (hz : i.zero = some z)
    (hsize : i.size = size) (hby : i.bytes = bytes) (hzs : z.cells.size = size) (hsz : 0 < size)
    (g0 c0 n : Nat) (xs : List Value) (hs : a.eval s = .slice (some ⟨g0, 0, none⟩) n c0) (hown : w.ownsRow base e size (.slice (some ⟨g0, 0, none⟩) n c0) n xs)
    (ad : Addr) (m c : Nat) (news : List Value) (hx : a.eval x = .slice (some ad) m c) (hl : news.length = m * size) (hnews : ∀ j u, news[j]? = some u → w.cell? (ad.add j) = some u) (h1 : ∀ u ∈ news, u.oneCell' = true)
    (h63 : n + m ≤ maxLen) (hbytes : (n + m) * bytes ≤ 140737488355328) (hbase : base ≤ w.heap.size)
    (h : ∀ g cap w', w'.ownsRow base e size (.slice (some ⟨g, 0, none⟩) (n + m) cap) (n + m) (xs ++ news) → w.grownBy w' (some g0) → (g = g0 ∨ g = w.heap.size) → wpList P ops Q rest (a.put o.dst (.slice (some ⟨g, 0, none⟩) (n + m) cap)) w') : wpList P ops Q (o :: rest) a w :=
  wpList_plain hgd fun _ hK => wp_append_some s x t ho base e i z size bytes ht hi hz hsize hby hzs hsz g0 c0 n xs hs hown ad m c news hx hl hnews h1 h63 hbytes hbase fun g cap w' h2 h3 h4 => hK _ _ (h g cap w' h2 h3 h4)
theorem step_append_some {P : Program} {w : World} {ops : Array Oper} {o : Oper} {a : Act} {K : Act → World → Prop} {Q : Exit → Act → World → Prop} {E : Prop} (hgd : o.guard = none) (s x : Operand) (t : TypeId)
    (ho : o.op = .call { callee := .builtin .append, args := #[s, x], argTypes := #[t, t] })
    (base : Nat) (e : TypeId) (i : TypeInfo) (z : Value) (size bytes : Nat) (ht : P.underlying t = some (.slice e)) (hi : P.info? e = some i) (hz : i.zero = some z)
    (hsize : i.size = size) (hby : i.bytes = bytes) (hzs : z.cells.size = size) (hsz : 0 < size)
    (g0 c0 n : Nat) (xs : List Value) (hs : a.eval s = .slice (some ⟨g0, 0, none⟩) n c0) (hown : w.ownsRow base e size (.slice (some ⟨g0, 0, none⟩) n c0) n xs)
    (ad : Addr) (m c : Nat) (news : List Value) (hx : a.eval x = .slice (some ad) m c) (hl : news.length = m * size) (hnews : ∀ j u, news[j]? = some u → w.cell? (ad.add j) = some u) (h1 : ∀ u ∈ news, u.oneCell' = true)
    (h63 : n + m ≤ maxLen) (hbytes : (n + m) * bytes ≤ 140737488355328) (hbase : base ≤ w.heap.size)
    (h : ∀ g cap w', w'.ownsRow base e size (.slice (some ⟨g, 0, none⟩) (n + m) cap) (n + m) (xs ++ news) → w.grownBy w' (some g0) → (g = g0 ∨ g = w.heap.size) → K (a.put o.dst (.slice (some ⟨g, 0, none⟩) (n + m) cap)) w') :
    if Region.wanted o (yielded ops a.tmps) = true then Oper.wp P o a w K Q else E := by
  have hw : Region.wanted o (yielded ops a.tmps) = true := by simp [Region.wanted, hgd]
  rw [if_pos hw]
  exact wp_append_some s x t ho base e i z size bytes ht hi hz hsize hby hzs hsz g0 c0 n xs hs hown ad m c news hx hl hnews h1 h63 hbytes hbase h
/-- A list's copy onto an empty literal, its place said. -/
theorem copy_some {w : World} {ops : Array Oper} {rest : List Oper} {o : Oper} {ac : Act} {Q : Exit → Act → World → Prop} (hgd : o.guard = none) (s x : Operand)
    (ho : o.op = .call { callee := .builtin .append, args := #[s, x], argTypes := #[24, 24] })
    (v : Value) (xs : List Int) (hs : ac.eval s = .slice (some ⟨w.heap.size, 0, none⟩) 0 0) (k : SlN w v xs) (hl : xs.length ≤ 1073741824) (hx : ac.eval x = v)
    (h : ∀ g cap w', OwnI w' w.heap.size (.slice (some ⟨g, 0, none⟩) xs.length cap) xs → Below w.heap.size w w' → w.heap.size ≤ g → wpList Try.prog ops Q rest (ac.put o.dst (.slice (some ⟨g, 0, none⟩) xs.length cap)) w') :
    wpList Try.prog ops Q (o :: rest) ac (w.alloc (.cells #[] 2)) := by
  obtain ⟨i0, hi, hz0, hz1, hz2⟩ := info_parts info_i64
  have hba := bal' w (Obj.cells #[] 2)
  have hown : (w.alloc (.cells #[] 2)).ownsRow w.heap.size 2 1 (.slice (some ⟨w.heap.size, 0, none⟩) 0 0) 0 [] := by
    have := World.ownsRow_lit (base := w.heap.size) (e := 2) (size := 1) w #[] 0 (Nat.le_refl _) (Nat.zero_le _) rfl
    simpa using this
  rcases (k.below hba).reads with ⟨hv, hn⟩ | ⟨ad, c, hv, hc⟩
  · have hx0 : xs = [] := by simpa using hn
    subst hx0
    rw [hv] at hx
    refine wpList_append_own_none hgd s x _ ho w.heap.size 2 i0 1 under_ints hi _ 0 [] hs hown hx ?_
    exact h w.heap.size 0 _ (by simpa [OwnI] using hown) hba (Nat.le_refl _)
  · rw [List.length_map] at hv
    rw [hv] at hx
    refine wpList_append_some hgd s x _ ho w.heap.size 2 i0 (.int .i64 0) 1 8 under_ints hi hz0 hz1 hz2 rfl (by decide) w.heap.size 0 0 [] hs hown ad xs.length c (xs.map (Value.int .i64)) hx (by simp) hc (ints_one xs) (by unfold maxLen; omega) (by omega) (by simp) (fun g cap w' ho' hg' hat => ?_)
    have e0 : 0 + xs.length = xs.length := by omega
    rw [e0] at ho' ⊢
    refine h g cap w' (by simpa [OwnI] using ho') (hba.grown hg' (by simp) (fun q e => by cases e; exact Nat.le_refl _)) ?_
    rcases hat with e | e
    · omega
    · rw [e]; simp
/-- A part of a row that one call owns can be read. -/
theorem slN_drop {w : World} {base g cap : Nat} {xs : List Int} (h : OwnI w base (.slice (some ⟨g, 0, none⟩) xs.length cap) xs) (i : Nat) (hi : i ≤ xs.length) : SlN w (.slice (if cap = i then some ⟨g, 0, none⟩ else some ⟨g, i, none⟩) (xs.length - i) (cap - i)) (xs.drop i) := by
  have hown : w.ownsRow base 2 1 (.slice (some ⟨g, 0, none⟩) xs.length cap) xs.length (xs.map (Value.int .i64)) := h
  obtain ⟨cur, _, hg, hn, _, _, _⟩ := own_cur hown
  refine ⟨if cap = i then some ⟨g, 0, none⟩ else some ⟨g, i, none⟩, cap - i, by rw [List.length_drop], by simp; omega, fun e => absurd e (by split <;> simp), ?_⟩
  by_cases h0 : i = xs.length
  · left; subst h0; simp
  · right
    have hc : ¬ cap = i := by omega
    refine ⟨g, i, by rw [if_neg hc], (Array.getElem?_eq_some_iff.1 hg).1, fun j hj => ?_⟩
    rw [List.length_drop] at hj
    rw [hown.cellAt (i + j) (by omega), List.getElem?_map, List.getElem?_eq_getElem (by omega)]
    simp [show i + j < xs.length by omega]
theorem slN_take {w : World} {base g cap : Nat} {xs : List Int} (h : OwnI w base (.slice (some ⟨g, 0, none⟩) xs.length cap) xs) (i : Nat) (hi : i ≤ xs.length) : OwnI w base (.slice (some ⟨g, 0, none⟩) i cap) (xs.take i) := by
  have := own_cut (show w.ownsRow base 2 1 (.slice (some ⟨g, 0, none⟩) xs.length cap) xs.length (xs.map (Value.int .i64)) from h) hi
  unfold OwnI
  rw [List.length_take, Nat.min_eq_left hi, List.map_take]
  exact this
end Go.Proofs.Ytokoohmakjabnaa
namespace Go.Proofs.Ytokoohmakjabnaa
open Go.ChangeShapes Go.WideShapes Go.ChangeAt Go.RowKit
theorem drawEdits_a (v : Value) (xs : List Int) (w : World) (hv : SlB w v xs) :
    Calls Try.prog 6 #[v] w fun e w' => ∃ (u1 u2 : Value) (ys zs : List Int), e = .returned (.tuple #[u1, u2]) ∧ ys.length ≤ 41 ∧ zs.length ≤ 41 ∧ SlN w' u1 ys ∧ SlN w' u2 zs ∧ Below w.heap.size w w' := by
  have hA : Calls Try.prog 23 #[v] w fun e w' => ∃ (u1 u2 : Value) (ys zs : List Int), e = .returned (.tuple #[u1, u2]) ∧ ys.length ≤ 41 ∧ zs.length ≤ 41 ∧ SlN w' u1 ys ∧ SlN w' u2 zs ∧ Below w.heap.size w w' := by
    go_enter Try.func23, Try.ntmps23
    go_wp2_with fail
    refine (l1New_a v xs _ hv).mono ?_
    rintro e w1 ⟨rfl, hc1, hb1⟩
    go_wp2_with fail
    refine (l9Draw_a _ v xs _ hc1).mono ?_
    rintro e w2 ⟨u1, ys, rfl, hy, ho2, hc2, hg2⟩
    have hb2 := hb1.grown hg2 hb1.size (fun k hk => by cases hk; exact Nat.le_refl _)
    have hlt := hc1.1
    clear hc1 hb1 hg2
    go_wp2_with fail
    refine (l9Draw_a _ v xs _ hc2).mono ?_
    rintro e w3 ⟨u2, zs, rfl, hz, ho3, hc3, hg3⟩
    have hb3 := hb2.grown hg3 hb2.size (fun k hk => by cases hk; exact Nat.le_refl _)
    have ho4 := own_grow ho2 hg3 hlt
    clear hc2 hc3 hb2 hg3 ho2
    go_wp2
    exact bodyPost_ret (results_tmp2 rfl _ _ _) rfl ⟨u1, u2, ys, zs, rfl, hy, hz, SlN.of_own (show OwnI w3 _ u1 ys from ho4), SlN.of_own (show OwnI w3 _ u2 zs from ho3), hb3⟩
  go_enter Try.func6, Try.ntmps6
  go_wp2_with fail
  refine hA.mono ?_
  rintro e w1 ⟨u1, u2, ys, zs, rfl, h1, h2, s1, s2, b1⟩
  go_wp2
  exact bodyPost_ret (results_tmp2 rfl _ _ _) rfl ⟨u1, u2, ys, zs, rfl, h1, h2, s1, s2, b1⟩
set_option maxHeartbeats 2000000 in
set_option maxRecDepth 20000 in
theorem drawEdited_a (v : Value) (xs : List Int) (w : World) (hv : SlB w v xs) :
    Calls Try.prog 8 #[v] w fun e w' => ∃ (u : Value) (ys : List Int) (g cap : Nat) (es : List (Int × Int × Int)), e = .returned (.tuple #[u, .slice (some ⟨g, 0, none⟩) es.length cap]) ∧ ys.length ≤ 41 ∧ es.length ≤ 81 ∧ SlN w' u ys ∧ OwnE w' w.heap.size g cap es ∧ Below w.heap.size w w' := by
  go_enter Try.func8, Try.ntmps8
  go_wp2_with fail
  refine (l1New_a v xs _ hv).mono ?_
  rintro e w1 ⟨rfl, hc1, hb1⟩
  go_wp2_with fail
  refine (l9Draw_a _ v xs _ hc1).mono ?_
  rintro e w2 ⟨u1, ys, rfl, hy, ho2, hc2, hg2⟩
  have hb2 := hb1.grown hg2 hb1.size (fun k hk => by cases hk; exact Nat.le_refl _)
  have hlt := hc1.1
  clear hc1 hb1 hg2
  go_wp2_with fail
  refine (l9Draw_a _ v xs _ hc2).mono ?_
  rintro e w3 ⟨u2, zs, rfl, hz, ho3, hc3, hg3⟩
  have hb3 := hb2.grown hg3 hb2.size (fun k hk => by cases hk; exact Nat.le_refl _)
  have ho4 := own_grow ho2 hg3 hlt
  clear hc2 hb2 hg3 ho2
  have hu1 : Hid (∀ k, u1.ownBlock = some k → k < w3.heap.size) := fun k e => (World.ownsRow.lt ho4 k e).2
  have hlE : (editsV ys zs).length ≤ 80 := by
    unfold editsV
    split
    · rename_i h
      have h1 := edE_len (fun k => ys.getD k 0) (fun k => zs.getD k 0) ys.length zs.length
      have h2 := (edD_bd true (fun k => ys.getD k 0) (fun k => zs.getD k 0) ys.length zs.length).2
      omega
    · simp
  go_wp2_with fail
  refine (specEdits_any _ _ ys zs _ (SlI.of_own ho4) (SlI.of_own ho3)).mono ?_
  rintro e w4 ⟨g, cap, rfl, hoE, b4⟩
  have hb4 := hb3.trans (b4.mono hb3.size)
  have hc4 := hc3.below b4
  have ho5 : OwnI w4 _ u1 ys := OwnI.below (show OwnI w3 _ u1 ys from ho4) b4
  have hsz4 := b4.size
  have hw3 := hb3.size
  have hcl := hc3.1
  have hgE := hoE.lt
  clear hb3 b4 hc3 ho4 ho3
  generalize editsV ys zs = es at *
  have hgc : ¬ g = w.heap.size := by omega
  go_wp2_with fail
  refine (l1Once_a _ v xs 4 _ hc4).mono ?_
  rintro e w5 ⟨b, rfl, hc5, hg5⟩
  have hb5 := hb4.grown hg5 hb4.size (fun k hk => by cases hk; exact Nat.le_refl _)
  have ho6 : OwnI w5 _ u1 ys := own_grow ho5 hg5 hlt
  have hoE5 : OwnE w5 _ g cap es := World.ownsRow.kept (show w4.ownsRow _ _ _ _ _ _ from hoE) hg5 (.inr (fun e => hgc (Option.some.inj e)))
  have hz5 := hg5.size
  clear hg5 hc4 hb4 ho5 hoE
  cases b
  · have hs6 := SlN.of_own ho6
    have hoF : OwnE w5 w.heap.size g cap es := own_low' hoE5 (by omega)
    replace hoF := (show Hid (OwnE _ _ _ _ _) from hoF)
    clear ho6 hoE5 hc5
    go_wp2
    exact bodyPost_ret (results_tmp2 rfl _ _ _) rfl ⟨u1, ys, g, cap, es, rfl, hy, by omega, hs6, hoF.out, hb5⟩
  · go_wp2_with fail
    refine (l1From_a _ v xs 0 5 _ hc5).mono ?_
    rintro e w6 ⟨kd, rfl, hc6, hg6⟩
    have hb6 := hb5.grown hg6 hb5.size (fun k hk => by cases hk; exact Nat.le_refl _)
    have ho7 : OwnI w6 _ u1 ys := own_grow ho6 hg6 hlt
    have hoE6 : OwnE w6 _ g cap es := World.ownsRow.kept (show w5.ownsRow _ _ _ _ _ _ from hoE5) hg6 (.inr (fun e => hgc (Option.some.inj e)))
    have hz6 := hg6.size
    clear hg6 hc5 hb5 ho6 hoE5
    have hal := bal' w6 (Obj.cells #[.int .i64 (-1), .int .i64 0, .int .i64 3, .int .i64 40, .int .i64 4611686018427387904, .int .i64 (-9223372036854775808)] 2)
    have hlit := heap_alloc_new w6 (Obj.cells #[.int .i64 (-1), .int .i64 0, .int .i64 3, .int .i64 40, .int .i64 4611686018427387904, .int .i64 (-9223372036854775808)] 2)
    have hc7 := hc6.below hal
    have ho8 := ho7.below hal
    have hoE7 := World.ownsRow.below (show w6.ownsRow _ _ _ _ _ _ from hoE6) hal
    have hb7 := hb6.trans (hal.mono hb6.size)
    have hz7 := hal.size
    have hc6l := hc6.1
    clear hal hc6 ho7 hoE6 hb6
    go_wp2_with fail
    obtain ⟨w7, hw7⟩ : ∃ w7, w7 = w6.alloc (Obj.cells #[.int .i64 (-1), .int .i64 0, .int .i64 3, .int .i64 40, .int .i64 4611686018427387904, .int .i64 (-9223372036854775808)] 2) := ⟨_, rfl⟩
    have hsz7 : w7.heap.size = w6.heap.size + 1 := by rw [hw7]; simp
    rw [← hw7] at hlit hc7 ho8 hoE7 hb7 hz7 ⊢
    clear hw7
    refine (l1Below_a _ v xs 6 _ hc7).mono ?_
    rintro e w8 ⟨x, rfl, hx0, hx6, _, hc8, hg8⟩
    obtain ⟨k, rfl⟩ : ∃ k : Nat, x = (k : Int) := ⟨x.toNat, by omega⟩
    have hk : k < 6 := by have := hx6 (by omega); omega
    have hb8 := hb7.grown hg8 hb7.size (fun k hk => by cases hk; exact Nat.le_refl _)
    have ho9 : OwnI w8 _ u1 ys := own_grow ho8 hg8 hlt
    have hoE8 : OwnE w8 _ g cap es := World.ownsRow.kept (show w7.ownsRow _ _ _ _ _ _ from hoE7) hg8 (.inr (fun e => hgc (Option.some.inj e)))
    have hlit8 : w8.heap[w6.heap.size]? = some (.cells #[.int .i64 (-1), .int .i64 0, .int .i64 3, .int .i64 40, .int .i64 4611686018427387904, .int .i64 (-9223372036854775808)] 2 (0, 0)) := (hg8.block w6.heap.size (by omega) (fun e => by have := Option.some.inj e; omega)).trans hlit
    obtain ⟨y, hy8⟩ : ∃ y : Int, w8.cell? ⟨w6.heap.size, k, none⟩ = some (.int .i64 y) := by
      have h0 := cell_of_row w8 w6.heap.size k _ _ (0, 0) hlit8
      match k, hk, h0 with
      | 0, _, h0 => exact ⟨_, h0⟩
      | 1, _, h0 => exact ⟨_, h0⟩
      | 2, _, h0 => exact ⟨_, h0⟩
      | 3, _, h0 => exact ⟨_, h0⟩
      | 4, _, h0 => exact ⟨_, h0⟩
      | 5, _, h0 => exact ⟨_, h0⟩
    have hk1 : (k : Int) < 6 := by omega
    have hz8 := hg8.size
    clear hg8 hc7 hb7 ho8 hoE7 hlit hlit8 hx0 hx6 hc8
    have hoE9 : OwnE w8 w.heap.size g cap es := own_low' hoE8 (by omega)
    have hlE2 : es.length ≤ 200 := by omega
    replace hoE9 := (show Hid (OwnE _ _ _ _ _) from hoE9)
    replace ho9 := (show Hid (OwnI _ _ _ _) from ho9)
    replace hsz7 := (show Hid _ from hsz7)
    have hbz := hb8.size
    clear hoE8
    go_wp2_with (at_builtin; refine append_ed (by rfl) _ _ (by rfl) w.heap.size g cap es hlE2 (by rfl) hoE9.out kd y 9 (by rfl) hbz ?_; intro g2 cap2 w9 ho10 hg10 hat10)
    have hs10 := SlN.of_own (OwnI.kept ho9.out hg10 (by
      cases hx : u1.ownBlock with
      | none => exact .inl rfl
      | some k => exact .inr (fun e => by have := hu1.out k hx; have := Option.some.inj e; omega)))
    have hb10 := hb8.grown hg10 hb8.size (fun k e => by have := Option.some.inj e; omega)
    have hl10 : (es ++ [(kd, y, 9)]).length = es.length + 1 := by simp
    rw [← hl10]
    replace ho10 := (show Hid (OwnE _ _ _ _ _) from ho10)
    replace hs10 := (show Hid (SlN _ _ _) from hs10)
    have hl11 : (es ++ [(kd, y, 9)]).length ≤ 81 := by omega
    replace hl10 := (show Hid _ from hl10)
    clear hg10 hat10 ho9 hoE9 hy8
    generalize es ++ [(kd, y, 9)] = es2 at *
    go_wp2
    exact bodyPost_ret (results_tmp2 rfl _ _ _) rfl ⟨u1, ys, g2, cap2, es2, rfl, hy, hl11, hs10.out, ho10.out, hb10⟩
end Go.Proofs.Ytokoohmakjabnaa
namespace Go.Proofs.Ytokoohmakjabnaa
open Go.ChangeShapes Go.WideShapes Go.ChangeAt Go.RowKit
set_option maxHeartbeats 2000000 in
theorem likeE_same (va vb : Value) (es : List (Int × Int × Int)) (w : World) (ha : SlE w va es.length (edV es)) (hb : SlE w vb es.length (edV es)) (hn : es.length ≤ 1073741824) :
    Calls Try.prog 11 #[va, vb] w fun e w' => e = .returned (.bool true) ∧ Below w.heap.size w w' := by
  obtain ⟨hl, a, c, rfl, hca⟩ := ha
  obtain ⟨_, a', c', rfl, hcb⟩ := hb
  by_cases h0 : es.length = 0
  · clear hca hcb
    rw [h0]
    go_enter Try.func11, Try.ntmps11
    go_wp2
    refine wp_loop_rounds 1 ?_
    rw [rounds_succ]
    go_wp2
    go_ret
    exact ⟨rfl, Below.refl _ _⟩
  rcases hca with h | ⟨b, rfl, hbl, hs1⟩
  · exact absurd h h0
  rcases hcb with h | ⟨b', rfl, hbl', hs2⟩
  · exact absurd h h0
  have hcs : ∀ j W, j < es.length → Below w.heap.size w W → ∃ x y z, W.cell? ⟨b, j * 3, none⟩ = some (.int .i64 x) ∧ W.cell? ⟨b, j * 3 + 1, none⟩ = some (.int .i64 y) ∧ W.cell? ⟨b, j * 3 + 2, none⟩ = some (.int .i64 z) ∧ W.cell? ⟨b', j * 3, none⟩ = some (.int .i64 x) ∧ W.cell? ⟨b', j * 3 + 1, none⟩ = some (.int .i64 y) ∧ W.cell? ⟨b', j * 3 + 2, none⟩ = some (.int .i64 z) := fun j W hj k => by
    have e1 : ∀ q, W.cell? ⟨b, q, none⟩ = w.cell? ⟨b, q, none⟩ := fun q => k.cell (p := ⟨b, q, none⟩) hbl
    have e2 : ∀ q, W.cell? ⟨b', q, none⟩ = w.cell? ⟨b', q, none⟩ := fun q => k.cell (p := ⟨b', q, none⟩) hbl'
    refine ⟨(edV es).getD (j * 3) 0, (edV es).getD (j * 3 + 1) 0, (edV es).getD (j * 3 + 2) 0, ?_⟩
    rw [e1, e1, e1, e2, e2, e2]
    exact ⟨hs1 _ (by omega), hs1 _ (by omega), hs1 _ (by omega), hs2 _ (by omega), hs2 _ (by omega), hs2 _ (by omega)⟩
  replace hcs := (show Hid _ from hcs)
  clear hs1 hs2 h0 hl
  generalize es.length = n at *
  go_enter Try.func11, Try.ntmps11
  go_wp2
  go_loopw [5] (fun i wr => ∃ k : Nat, k ≤ n ∧ i = .int .i64 k ∧ Below w.heap.size w wr) (fun i _ => n - (intOf i).toNat)
  case atStart => exact ⟨0, Nat.zero_le _, rfl, Below.refl _ _⟩
  case round =>
    obtain ⟨j, hj, rfl, kb⟩ := hrel
    by_cases hlt : j < n
    · have hi : (j : Int) < (n : Int) := by omega
      have hd : Below wr.heap.size wr wr.drew := ⟨rfl, rfl, rfl, Nat.le_refl _, fun _ _ => rfl⟩
      have kb2 := kb.trans (hd.mono kb.size)
      obtain ⟨x, y, z, c0, c1, c2, c3, c4, c5⟩ := hcs.out j wr.drew hlt kb2
      go_wp2
      go_region
      go_wp2
      go_roundw
      case rel => exact ⟨j + 1, by omega, by go_num, kb2⟩
      case measure => simp [intOf]; omega
    · have hi : ¬ (j : Int) < (n : Int) := by omega
      go_wp2
      go_ret
      exact ⟨rfl, kb⟩
end Go.Proofs.Ytokoohmakjabnaa
namespace Go.Proofs.Ytokoohmakjabnaa
open Go.ChangeShapes Go.WideShapes Go.ChangeAt Go.RowKit
set_option maxHeartbeats 8000000 in
set_option maxRecDepth 20000 in
theorem specEdited_any (v lv : Value) (xs : List Int) (es : List (Int × Int × Int)) (w : World) (hv : SlN w v xs) (he : SlE w lv es.length (edV es)) :
    Calls Try.prog 12 #[v, lv] w fun e w' => ∃ g cap, e = .returned (.tuple #[.slice (some ⟨g, 0, none⟩) (edOut (edAll xs es)).length cap, .bool (edAns (edAll xs es))]) ∧ OwnI w' w.heap.size (.slice (some ⟨g, 0, none⟩) (edOut (edAll xs es)).length cap) (edOut (edAll xs es)) ∧ Below w.heap.size w w' := by
  obtain ⟨a, c, rfl⟩ := hv.shp
  obtain ⟨_, a', c', rfl, hes⟩ := he
  obtain ⟨i0, hi0, hz0, hz1, hz2'⟩ := info_parts info_i64
  have hnil : ∀ W, Below w.heap.size w W → OwnI (W.alloc (Obj.cells #[] 2)) w.heap.size (.slice (some ⟨W.heap.size, 0, none⟩) 0 0) [] := fun W k => World.ownsRow_lit (base := w.heap.size) (e := 2) (size := 1) W #[] 0 k.size (Nat.zero_le _) rfl
  by_cases h1 : xs.length ≤ 80
  case neg =>
    have hA : edAll xs es = none := if_neg (by omega)
    rw [hA]
    have h1i : (80 : Int) < (xs.length : Int) := by omega
    have hn := hnil w (Below.refl _ _)
    have hb := bal' w (Obj.cells #[] 2)
    replace hn := (show Hid _ from hn)
    clear hv hes hnil hA h1
    go_enter Try.func12, Try.ntmps12
    go_wp2
    exact bodyPost_ret (results_tmp2 rfl _ _ _) rfl ⟨_, _, rfl, hn.out, hb⟩
  by_cases h2 : es.length ≤ 80
  case neg =>
    have hA : edAll xs es = none := if_neg (by omega)
    rw [hA]
    have h1i : ¬ (80 : Int) < (xs.length : Int) := by omega
    have h2i : (80 : Int) < (es.length : Int) := by omega
    have hn := hnil w (Below.refl _ _)
    have hb := bal' w (Obj.cells #[] 2)
    replace hn := (show Hid _ from hn)
    clear hv hes hnil hA h1 h2
    go_enter Try.func12, Try.ntmps12
    go_wp2
    exact bodyPost_ret (results_tmp2 rfl _ _ _) rfl ⟨_, _, rfl, hn.out, hb⟩
  have hA : edAll xs es = edRun xs es := if_pos ⟨h1, h2⟩
  rw [hA]
  have h1i : ¬ (80 : Int) < (xs.length : Int) := by omega
  have h2i : ¬ (80 : Int) < (es.length : Int) := by omega
  have hE : Hid (∀ j, j < es.length → ∃ b, a' = some ⟨b, 0, none⟩ ∧ ∀ W, Below w.heap.size w W → W.cell? ⟨b, j * 3, none⟩ = some (.int .i64 (es.getD j (0, 0, 0)).1) ∧ W.cell? ⟨b, j * 3 + 1, none⟩ = some (.int .i64 (es.getD j (0, 0, 0)).2.1) ∧ W.cell? ⟨b, j * 3 + 2, none⟩ = some (.int .i64 (es.getD j (0, 0, 0)).2.2)) := fun j hj => by
    rcases hes with h | ⟨b, hb, hlt, hc⟩
    · omega
    · refine ⟨b, hb, fun W k => ?_⟩
      have e : ∀ q, W.cell? ⟨b, q, none⟩ = w.cell? ⟨b, q, none⟩ := fun q => k.cell (p := ⟨b, q, none⟩) hlt
      obtain ⟨q0, q1, q2⟩ := edV_at es j hj
      rw [e, e, e, hc _ (by omega), hc _ (by omega), hc _ (by omega), q0, q1, q2]
      exact ⟨rfl, rfl, rfl⟩
  obtain ⟨R, hR⟩ : ∃ R, Hid (R = edRun xs es) := ⟨_, rfl⟩
  rw [← hR.out]
  have hDr : Hid (∀ j, j < es.length → es.drop j = es.getD j (0, 0, 0) :: es.drop (j + 1)) := fun j h => edDrop es j h
  have hDn : Hid (es.drop es.length = []) := List.drop_length
  replace hnil := (show Hid _ from hnil)
  obtain ⟨n, hn⟩ : ∃ n, Hid (n = es.length) := ⟨_, rfl⟩
  rw [← hn.out] at hE hDr hDn h2i ⊢
  have hn80 : n ≤ 80 := by have := hn.out; omega
  clear hes hA h2 hn
  have hxl : xs.length ≤ 1073741824 := by omega
  go_enter Try.func12, Try.ntmps12
  go_wp2_with (refine copy_some (by rfl) _ _ (by rfl) _ xs (by rfl) hv hxl (by rfl) ?_; intro g0 cap0 w1 ho hb hg0)
  have hRun0 : Hid (edRun xs (es.drop 0) = R) := by show _ = _; rw [List.drop_zero]; exact hR.out.symm
  replace ho := (show Hid _ from ho)
  clear hv hR h1i hxl
  go_wp2
  go_loopw [6, 7] (fun mv iv wr => ∃ (j : Nat) (ys : List Int) (g cap : Nat), j ≤ n ∧ iv = .int .i64 j ∧ mv = .slice (some ⟨g, 0, none⟩) ys.length cap ∧ OwnI wr w.heap.size (.slice (some ⟨g, 0, none⟩) ys.length cap) ys ∧ ys.length ≤ 80 ∧ Hid (edRun ys (es.drop j) = R) ∧ Below w.heap.size w wr) (fun _ iv _ => n - (intOf iv).toNat)
  case atStart => exact ⟨0, xs, g0, cap0, Nat.zero_le _, rfl, rfl, ho.out, h1, hRun0, hb⟩
  case round =>
    obtain ⟨j, ys, g, cap, hj, rfl, rfl, hy, hyl, hq, kb⟩ := hrel
    clear ho hb hRun0 h1 hg0
    by_cases hlt : j < n
    · have hi : (j : Int) < (n : Int) := by omega
      obtain ⟨b, hb, hc⟩ := hE.out j hlt
      subst hb
      obtain ⟨⟨k, a2, y⟩, hked⟩ : ∃ e, Hid (e = es.getD j (0, 0, 0)) := ⟨_, rfl⟩
      rw [← hked.out] at hc
      obtain ⟨c0, c1, c2⟩ := hc wr kb
      simp only at c0 c1 c2
      have hrun : Hid ((edOne ys (k, a2, y)).bind (fun m => edRun m (es.drop (j + 1))) = R) := by
        show _ = _
        rw [← hq.out, hDr.out j hlt, edRun_cons, ← hked.out]
      have hba := bal' wr (Obj.cells #[.int .i64 k, .int .i64 a2, .int .i64 y] 56)
      have hXe := BlkC.new wr 56 [.int .i64 k, .int .i64 a2, .int .i64 y]
      have hy1 := hy.below hba
      have kb1 := kb.trans (hba.mono kb.size)
      have hgl := (hy.lt g rfl)
      have hgB : ¬ g = wr.heap.size := by have := hgl.2; omega
      have hyi : (ys.length : Int) ≤ 80 := by omega
      replace hy1 := (show Hid _ from hy1)
      clear hc hked hq hy
      have hnf := hnil.out _ kb1
      have hbf := kb1.trans ((bal' (wr.alloc (Obj.cells #[.int .i64 k, .int .i64 a2, .int .i64 y] 56)) (Obj.cells #[] 2)).mono kb1.size)
      have hsz2 : (wr.alloc (Obj.cells #[.int .i64 k, .int .i64 a2, .int .i64 y] 56)).heap.size = wr.heap.size + 1 := by simp
      rw [hsz2] at hnf
      replace hnf := (show Hid _ from hnf)
      replace hbf := (show Hid _ from hbf)
      replace hsz2 := (show Hid _ from hsz2)
      have hl1 := fun hi W => l1In_any a2 0 hi W
      by_cases h2 : k = 2
      · subst h2
        by_cases p0 : 0 ≤ a2 ∧ a2 ≤ (ys.length : Int)
        · by_cases p1 : ys.length < 80
          · -- a number is put
            obtain ⟨i, rfl⟩ : ∃ i : Nat, a2 = (i : Int) := ⟨a2.toNat, by omega⟩
            have hm := hrun.out
            rw [edOne_put ys i y ⟨p0.1, p0.2, p1⟩] at hm
            replace hm := (show Hid (edRun (ys.take i ++ y :: ys.drop i) (es.drop (j + 1)) = R) from hm)
            have hl := fun W => hl1 (ys.length : Int) W
            rw [decide_eq_true p0] at hl
            clear hl1 hrun hnf hbf
            go_wp2_with fail
            have q1 : (ys.length : Int) < 80 := by omega
            clear c0 c1 c2
            obtain ⟨w2, hw2⟩ : ∃ w2, w2 = wr.alloc (Obj.cells #[.int .i64 2, .int .i64 i, .int .i64 y] 56) := ⟨_, rfl⟩
            rw [← hw2] at hba hXe hy1 kb1 hsz2 ⊢
            clear hw2
            have hz2 := hsz2.out
            obtain ⟨B, hB⟩ : ∃ B, Hid (B = wr.heap.size) := ⟨_, rfl⟩
            rw [← hB.out] at hXe hgB hz2 ⊢
            have hBl : B < w2.heap.size := by omega
            have hnB : ¬ B = w2.heap.size := by omega
            have hg2 : g < w2.heap.size := by have := hB.out; have := hgl.2; omega
            have b0 : w2.cell? ⟨B, 0, none⟩ = some (.int .i64 2) := cell_of_row w2 B 0 _ _ (0, 0) hXe
            have b1 : w2.cell? ⟨B, 1, none⟩ = some (.int .i64 i) := cell_of_row w2 B 1 _ _ (0, 0) hXe
            have b2 : w2.cell? ⟨B, 2, none⟩ = some (.int .i64 y) := cell_of_row w2 B 2 _ _ (0, 0) hXe
            have d1 : (w2.alloc (Obj.cells #[] 2)).cell? ⟨B, 1, none⟩ = some (.int .i64 i) := ((bal' w2 _).cell (p := ⟨B, 1, none⟩) hBl).trans b1
            refine (hl _).mono ?_
            rintro e w2' ⟨rfl, he⟩
            subst he
            have hil : i ≤ ys.length := by omega
            obtain ⟨A, hA⟩ : ∃ A, (if cap = i then some (⟨g, 0, none⟩ : Addr) else some ⟨g, i, none⟩) = some A := by split <;> exact ⟨_, rfl⟩
            have hcp := slN_drop hy1.out i hil
            rw [hA] at hcp
            have hcpl : (ys.drop i).length ≤ 1073741824 := by simp; omega
            have hdl : (ys.drop i).length = ys.length - i := by simp
            have hcapl : ys.length ≤ cap := by obtain ⟨_, _, _, h, _⟩ := own_cur (show w2'.ownsRow _ _ 1 _ ys.length _ from hy1.out); exact h
            have r1 : (0 : Int) ≤ (i : Int) := by omega
            have r2 : (i : Int) ≤ (ys.length : Int) := by omega
            have r7 : (i : Int) ≤ (cap : Int) := by omega
            clear hl hba
            replace hz2 := (show Hid _ from hz2)
            go_wp2_with (refine copy_some (by rfl) _ _ (by rfl) _ (ys.drop i) (by rfl) hcp hcpl (by rfl) ?_; intro g3 cap3 w3 ho3 hb3 hg3)
            have hz3 := hb3.size
            have kb3 := kb1.trans (hb3.mono kb1.size)
            have hy3 := hy1.out.below hb3
            have hX3 := BlkC.below hXe hb3
            have hne3 : ¬ g3 = g := by omega
            have hal := bal' w3 (Obj.cells #[.int .i64 y] 2)
            have hg3l := (ho3.lt g3 rfl).2
            have hpre := own_drew (World.ownsRow.alloc (own_cut (show w3.ownsRow w.heap.size 2 1 (.slice (some ⟨g, 0, none⟩) ys.length cap) ys.length (ys.map (Value.int .i64)) from hy3) hil) (Obj.cells #[.int .i64 y] 2))
            have hX4 := BlkC.below hX3 hal
            have ho4 := ho3.below hal
            have hS3 : w3.drew.cell? ⟨B, 1, none⟩ = some (.int .i64 i) ∧ w3.drew.cell? ⟨B, 2, none⟩ = some (.int .i64 y) := ⟨cell_of_row w3.drew B 1 _ _ (0, 0) hX3, cell_of_row w3.drew B 2 _ _ (0, 0) hX3⟩
            have hS4 : (w3.alloc (Obj.cells #[.int .i64 y] 2)).drew.cell? ⟨B, 1, none⟩ = some (.int .i64 i) ∧ (w3.alloc (Obj.cells #[.int .i64 y] 2)).drew.cell? ⟨B, 2, none⟩ = some (.int .i64 y) := ⟨cell_of_row _ B 1 _ _ (0, 0) hX4, cell_of_row _ B 2 _ _ (0, 0) hX4⟩
            have hn4 : ∀ q u, [Value.int .i64 y][q]? = some u → (w3.alloc (Obj.cells #[.int .i64 y] 2)).drew.cell? ((⟨w3.heap.size, 0, none⟩ : Addr).add q) = some u := fun q u h => by
              rw [Addr.add_lit, Nat.zero_add]
              exact (cell_of_row (w3.alloc (Obj.cells #[.int .i64 y] 2)) w3.heap.size q _ _ (0, 0) (heap_alloc_new w3 _)).trans (by simpa using h)
            have h1y : ∀ u ∈ [Value.int .i64 y], u.oneCell' = true := by intro u hu; simp at hu; subst hu; rfl
            have hk4 : ∀ (W : World), (w3.alloc (Obj.cells #[.int .i64 y] 2)).drew.grownBy W (some g) → (W.cell? ⟨B, 1, none⟩ = some (.int .i64 i) ∧ W.cell? ⟨B, 2, none⟩ = some (.int .i64 y)) ∧ (∀ q u, ((ys.drop i).map (Value.int .i64))[q]? = some u → W.cell? ((⟨g3, 0, none⟩ : Addr).add q) = some u) := fun W hg => by
              have hB4 : BlkC W B 56 [.int .i64 2, .int .i64 i, .int .i64 y] := BlkC.kept (show BlkC (w3.alloc (Obj.cells #[.int .i64 y] 2)).drew B 56 _ from hX4) hg (fun e => by have := Option.some.inj e; omega)
              have ho5 := OwnI.kept (show OwnI (w3.alloc (Obj.cells #[.int .i64 y] 2)).drew _ _ _ from ho4) hg (.inr (fun e => hne3 (Option.some.inj e)))
              refine ⟨⟨cell_of_row W B 1 _ _ (0, 0) hB4, cell_of_row W B 2 _ _ (0, 0) hB4⟩, fun q u h => ?_⟩
              exact World.ownsRow.cells ho5 rfl q u h
            have hk5 : ∀ (W W' : World) (g5 : Nat), (w3.alloc (Obj.cells #[.int .i64 y] 2)).drew.grownBy W (some g) → (g5 = g ∨ g5 = (w3.alloc (Obj.cells #[.int .i64 y] 2)).drew.heap.size) → W.grownBy W' (some g5) → W'.cell? ⟨B, 1, none⟩ = some (.int .i64 i) ∧ W'.cell? ⟨B, 2, none⟩ = some (.int .i64 y) := fun W W' g5 hg hat hg' => by
              have hB4 : BlkC W B 56 [.int .i64 2, .int .i64 i, .int .i64 y] := BlkC.kept (show BlkC (w3.alloc (Obj.cells #[.int .i64 y] 2)).drew B 56 _ from hX4) hg (fun e => by have := Option.some.inj e; omega)
              have hne : ¬ g5 = B := by
                rcases hat with h | h
                · omega
                · have : (w3.alloc (Obj.cells #[.int .i64 y] 2)).drew.heap.size = w3.heap.size + 1 := by simp
                  omega
              have hB5 : BlkC W' B 56 [.int .i64 2, .int .i64 i, .int .i64 y] := BlkC.kept hB4 hg' (fun e => hne (Option.some.inj e))
              exact ⟨cell_of_row W' B 1 _ _ (0, 0) hB5, cell_of_row W' B 2 _ _ (0, 0) hB5⟩
            replace hk5 := (show Hid _ from hk5)
            have hlen3 : ((ys.drop i).map (Value.int .i64)).length = (ys.length - i) * 1 := by simp
            have hgrd : w3.grownBy (w3.alloc (Obj.cells #[.int .i64 y] 2)).drew (some g) := grown_tr (World.grownBy_alloc w3 _ _) (grown_drew _ _)
            have hgr3 : w.heap.size ≤ w3.heap.size := kb3.size
            have hsz4 : (w3.alloc (Obj.cells #[.int .i64 y] 2)).drew.heap.size = w3.heap.size + 1 := by simp
            replace hgrd := (show Hid _ from hgrd)
            replace hk4 := (show Hid _ from hk4)
            replace hpre := (show Hid _ from hpre)
            replace hn4 := (show Hid _ from hn4)
            replace hlen3 := (show Hid _ from hlen3)
            replace hsz4 := (show Hid _ from hsz4)
            clear hy3 hX3 hX4 ho3 ho4 hal d1 b0 b1 b2 hXe hcp hb3
            go_wp2
            go_region_held3 (fun W => W.cell? ⟨B, 1, none⟩ = some (.int .i64 i) ∧ W.cell? ⟨B, 2, none⟩ = some (.int .i64 y)) (first | with_reducible assumption | with_reducible exact hS3 | with_reducible exact hS4)
              (first
                | (refine step_append_some (by rfl) _ _ _ (by rfl) w.heap.size 2 i0 (.int .i64 0) 1 8 under_ints hi0 hz0 hz1 hz2' rfl (by decide) g cap i _ (by rfl) hpre.out ⟨w3.heap.size, 0, none⟩ 1 1 [.int .i64 y] (by rfl) rfl hn4.out h1y (by unfold maxLen; omega) (by omega) (by rw [hsz4.out]; omega) ?_; intro g5 cap5 w5 ho5 hg5 hat5; obtain ⟨hS5, hn5⟩ := hk4.out w5 hg5)
                | (refine step_append_some (by rfl) _ _ _ (by rfl) w.heap.size 2 i0 (.int .i64 0) 1 8 under_ints hi0 hz0 hz1 hz2' rfl (by decide) g5 cap5 (i + 1) _ (by rfl) ho5 ⟨g3, 0, none⟩ (ys.length - i) cap3 _ (by rfl) hlen3.out hn5 (ints_one _) (by unfold maxLen; omega) (by omega) (by have := hg5.size; rw [hsz4.out] at this; omega) ?_; intro g6 cap6 w6 ho6 hg6 hat6; have hS6 := hk5.out w5 w6 g5 hg5 hat5 hg6))
            all_goals
              have kb4 := kb3.grown hgrd.out kb3.size (fun q e => by have := Option.some.inj e; omega)
              have kb5 := kb4.grown hg5 kb4.size (fun q e => by have := Option.some.inj e; omega)
              have kb6 := kb5.grown hg6 kb5.size (fun q e => by have := Option.some.inj e; have := kb4.size; rcases hat5 with h | h <;> omega)
              have e6 : i + 1 + (ys.length - i) = (ys.take i ++ y :: ys.drop i).length := by simp; omega
              have ho7 : OwnI w6 w.heap.size (.slice (some ⟨g6, 0, none⟩) (ys.take i ++ y :: ys.drop i).length cap6) (ys.take i ++ y :: ys.drop i) := by
                unfold OwnI
                rw [← e6]
                have e7 : (ys.take i ++ y :: ys.drop i).map (Value.int .i64) = List.take i (ys.map (Value.int .i64)) ++ [Value.int .i64 y] ++ (ys.drop i).map (Value.int .i64) := by simp
                rw [e7]
                exact ho6
              have hl7 : (ys.take i ++ y :: ys.drop i).length ≤ 80 := by omega
              replace ho7 := (show Hid _ from ho7)
              clear ho6 ho5 hg5 hg6 kb4 kb5 hS6 hS5 hn5 hS3 hS4 hpre hk4 hk5 hn4 hgrd hat5 hat6
              rw [e6]
              replace e6 := (show Hid _ from e6)
              go_wp2
              go_roundw
              case rel => exact ⟨j + 1, _, g6, cap6, by omega, by go_num, rfl, ho7.out, hl7, hm, kb6⟩
              case measure => simp [intOf]; omega
          · -- the list is full
            have hRn : R = none := by rw [← hrun.out, edOne_put' ys a2 y (by omega)]; rfl
            subst hRn
            have hl := fun W => hl1 (ys.length : Int) W
            rw [decide_eq_true p0] at hl
            have q1 : ¬ (ys.length : Int) < 80 := by omega
            clear hl1 hrun hba hXe
            go_wp2_with (go_at_call 38; refine (hl _).mono ?_; rintro e wq ⟨rfl, hwq⟩; subst hwq)
            exact bodyPost_ret (results_tmp2 rfl _ _ _) rfl ⟨_, _, rfl, hnf.out, hbf.out⟩
        · have hRn : R = none := by rw [← hrun.out, edOne_put' ys a2 y (by omega)]; rfl
          subst hRn
          have hl := fun W => hl1 (ys.length : Int) W
          rw [decide_eq_false p0] at hl
          clear hl1 hrun hba hXe
          go_wp2_with (go_at_call 38; refine (hl _).mono ?_; rintro e wq ⟨rfl, hwq⟩; subst hwq)
          exact bodyPost_ret (results_tmp2 rfl _ _ _) rfl ⟨_, _, rfl, hnf.out, hbf.out⟩
      have hw1 : IntKind.i64.wrap ((ys.length : Int) - 1) = (ys.length : Int) - 1 := by rw [IntKind.wrap_i64]; omega
      by_cases h1 : k = 1
      · subst h1
        by_cases p0 : 0 ≤ a2 ∧ a2 ≤ (ys.length : Int) - 1
        · -- a number is taken
          obtain ⟨i, rfl⟩ : ∃ i : Nat, a2 = (i : Int) := ⟨a2.toNat, by omega⟩
          have hm := hrun.out
          rw [edOne_take ys i y ⟨p0.1, by omega⟩] at hm
          replace hm := (show Hid (edRun (ys.take i ++ ys.drop (i + 1)) (es.drop (j + 1)) = R) from hm)
          have hl := fun W => hl1 ((ys.length : Int) - 1) W
          rw [decide_eq_true p0] at hl
          clear hl1 hrun hnf hbf
          go_wp2_with fail
          clear c0 c1 c2
          obtain ⟨w2, hw2⟩ : ∃ w2, w2 = wr.alloc (Obj.cells #[.int .i64 1, .int .i64 i, .int .i64 y] 56) := ⟨_, rfl⟩
          rw [← hw2] at hba hXe hy1 kb1 hsz2 ⊢
          clear hw2
          have hz2 := hsz2.out
          obtain ⟨B, hB⟩ : ∃ B, Hid (B = wr.heap.size) := ⟨_, rfl⟩
          rw [← hB.out] at hXe hgB hz2 ⊢
          have hBl : B < w2.heap.size := by omega
          have hnB : ¬ B = w2.heap.size := by omega
          have hg2 : g < w2.heap.size := by have := hB.out; have := hgl.2; omega
          have b0 : w2.cell? ⟨B, 0, none⟩ = some (.int .i64 1) := cell_of_row w2 B 0 _ _ (0, 0) hXe
          have b1 : w2.cell? ⟨B, 1, none⟩ = some (.int .i64 i) := cell_of_row w2 B 1 _ _ (0, 0) hXe
          refine (hl _).mono ?_
          rintro e w2' ⟨rfl, he⟩
          subst he
          have hil : i < ys.length := by omega
          have hcapl : ys.length ≤ cap := by obtain ⟨_, _, _, h, _⟩ := own_cur (show w2'.ownsRow _ _ 1 _ ys.length _ from hy1.out); exact h
          have r1 : (0 : Int) ≤ (i : Int) := by omega
          have r2 : (i : Int) ≤ (ys.length : Int) := by omega
          have r3 : (i : Int) + 1 ≤ (ys.length : Int) := by omega
          have r4 : IntKind.i64.wrap ((i : Int) + 1) = (i : Int) + 1 := by rw [IntKind.wrap_i64]; omega
          have r5 : (0 : Int) ≤ (i : Int) + 1 := by omega
          have r6 : ((i : Int) + 1).toNat = i + 1 := by omega
          have r7 : (i : Int) ≤ (cap : Int) := by omega
          obtain ⟨A, hA⟩ : ∃ A, (if cap = i + 1 then some (⟨g, 0, none⟩ : Addr) else some ⟨g, i + 1, none⟩) = some A := by split <;> exact ⟨_, rfl⟩
          have hal := bal' w2' (Obj.cells #[] 2)
          have ho0 : (w2'.alloc (Obj.cells #[] 2)).drew.ownsRow w.heap.size 2 1 (.slice (some ⟨w2'.heap.size, 0, none⟩) 0 0) 0 [] := World.ownsRow_lit (base := w.heap.size) (e := 2) (size := 1) w2' #[] 0 kb1.size (Nat.zero_le _) rfl
          have hX4 := BlkC.below hXe hal
          have hy4 := hy1.out.below hal
          have hS3 : w2'.drew.cell? ⟨B, 1, none⟩ = some (.int .i64 i) := b1
          have hS4 : (w2'.alloc (Obj.cells #[] 2)).drew.cell? ⟨B, 1, none⟩ = some (.int .i64 i) := cell_of_row _ B 1 _ _ (0, 0) hX4
          have hn4 : ∀ q u, ((ys.take i).map (Value.int .i64))[q]? = some u → (w2'.alloc (Obj.cells #[] 2)).drew.cell? ((⟨g, 0, none⟩ : Addr).add q) = some u := fun q u h => World.ownsRow.cells (slN_take hy4 i (by omega)) rfl q u h
          have hne : ¬ B = w2'.heap.size := hnB
          have hgne : ¬ g = w2'.heap.size := by omega
          have hk4 : ∀ (W : World), (w2'.alloc (Obj.cells #[] 2)).drew.grownBy W (some w2'.heap.size) → W.cell? ⟨B, 1, none⟩ = some (.int .i64 i) ∧ (∀ q u, ((ys.drop (i + 1)).map (Value.int .i64))[q]? = some u → W.cell? (A.add q) = some u) := fun W hg => by
            have hB4 : BlkC W B 56 [.int .i64 1, .int .i64 i, .int .i64 y] := BlkC.kept (show BlkC (w2'.alloc (Obj.cells #[] 2)).drew B 56 _ from hX4) hg (fun e => hne (Option.some.inj e).symm)
            have ho5 := OwnI.kept (show OwnI (w2'.alloc (Obj.cells #[] 2)).drew _ _ _ from hy4) hg (.inr (fun e => hgne (Option.some.inj e)))
            refine ⟨cell_of_row W B 1 _ _ (0, 0) hB4, fun q u h => ?_⟩
            have hsd := (slN_drop ho5 (i + 1) (by omega)).reads
            rw [hA] at hsd
            rcases hsd with ⟨h1, _⟩ | ⟨ad, c2, h1, h2⟩
            · cases h1
            · simp only [Value.slice.injEq, Option.some.injEq] at h1
              obtain ⟨e1, _, _⟩ := h1
              rw [e1]
              exact h2 q u h
          have hk5 : ∀ (W W' : World) (g5 : Nat), (w2'.alloc (Obj.cells #[] 2)).drew.grownBy W (some w2'.heap.size) → (g5 = w2'.heap.size ∨ g5 = (w2'.alloc (Obj.cells #[] 2)).drew.heap.size) → W.grownBy W' (some g5) → W'.cell? ⟨B, 1, none⟩ = some (.int .i64 i) := fun W W' g5 hg hat hg' => by
            have hB4 : BlkC W B 56 [.int .i64 1, .int .i64 i, .int .i64 y] := BlkC.kept (show BlkC (w2'.alloc (Obj.cells #[] 2)).drew B 56 _ from hX4) hg (fun e => hne (Option.some.inj e).symm)
            have hne5 : ¬ g5 = B := by
              rcases hat with h | h
              · omega
              · have : (w2'.alloc (Obj.cells #[] 2)).drew.heap.size = w2'.heap.size + 1 := by simp
                omega
            have hB5 : BlkC W' B 56 [.int .i64 1, .int .i64 i, .int .i64 y] := BlkC.kept hB4 hg' (fun e => hne5 (Option.some.inj e))
            exact cell_of_row W' B 1 _ _ (0, 0) hB5
          have hlen3 : ((ys.take i).map (Value.int .i64)).length = i * 1 := by simp; omega
          have hlen4 : ((ys.drop (i + 1)).map (Value.int .i64)).length = (ys.length - (i + 1)) * 1 := by simp
          have hgrd : w2'.grownBy (w2'.alloc (Obj.cells #[] 2)).drew none := grown_tr (World.grownBy_alloc w2' _ _) (grown_drew _ _)
          have hsz4 : (w2'.alloc (Obj.cells #[] 2)).drew.heap.size = w2'.heap.size + 1 := by simp
          have hgr3 : w.heap.size ≤ w2'.heap.size := kb1.size
          replace hgrd := (show Hid _ from hgrd)
          replace hk4 := (show Hid _ from hk4)
          replace hk5 := (show Hid _ from hk5)
          replace hn4 := (show Hid _ from hn4)
          replace hlen3 := (show Hid _ from hlen3)
          replace hlen4 := (show Hid _ from hlen4)
          replace hsz4 := (show Hid _ from hsz4)
          replace hz2 := (show Hid _ from hz2)
          clear hl hba hal hX4 hy4 hXe b1 hne
          go_wp2
          go_region_held3 (fun W => W.cell? ⟨B, 1, none⟩ = some (.int .i64 i)) (first | with_reducible assumption | with_reducible exact hS3 | with_reducible exact hS4)
            (first
              | (refine step_append_some (by rfl) _ _ _ (by rfl) w.heap.size 2 i0 (.int .i64 0) 1 8 under_ints hi0 hz0 hz1 hz2' rfl (by decide) w2'.heap.size 0 0 [] (by rfl) ho0 ⟨g, 0, none⟩ i cap _ (by rfl) hlen3.out hn4.out (ints_one _) (by unfold maxLen; omega) (by omega) (by rw [hsz4.out]; omega) ?_; intro g5 cap5 w5 ho5 hg5 hat5; have hkk := hk4.out w5 hg5; have hS5 := hkk.1; replace hkk := (show Hid _ from hkk); replace hat5 := (show Hid _ from hat5))
              | (refine step_append_some (by rfl) _ _ _ (by rfl) w.heap.size 2 i0 (.int .i64 0) 1 8 under_ints hi0 hz0 hz1 hz2' rfl (by decide) g5 cap5 (0 + i) _ (by rfl) ho5 A (ys.length - (i + 1)) (cap - (i + 1)) _ (by rfl) hlen4.out hkk.out.2 (ints_one _) (by unfold maxLen; omega) (by omega) (by have := hg5.size; rw [hsz4.out] at this; omega) ?_; intro g6 cap6 w6 ho6 hg6 hat6; have hS6 := hk5.out w5 w6 g5 hg5 hat5.out hg6))
          all_goals
            have kb4 := kb1.grown hgrd.out kb1.size (fun q e => by cases e)
            have kb5 := kb4.grown hg5 kb4.size (fun q e => by have := Option.some.inj e; omega)
            have kb6 := kb5.grown hg6 kb5.size (fun q e => by have := Option.some.inj e; have := kb4.size; rcases hat5.out with h | h <;> omega)
            have e6 : 0 + i + (ys.length - (i + 1)) = (ys.take i ++ ys.drop (i + 1)).length := by simp; omega
            have ho7 : OwnI w6 w.heap.size (.slice (some ⟨g6, 0, none⟩) (ys.take i ++ ys.drop (i + 1)).length cap6) (ys.take i ++ ys.drop (i + 1)) := by
              unfold OwnI
              rw [← e6, List.map_append]
              simpa using ho6
            have hl7 : (ys.take i ++ ys.drop (i + 1)).length ≤ 80 := by omega
            replace ho7 := (show Hid _ from ho7)
            clear ho6 ho5 hg5 hg6 kb4 kb5 hS6 hS5 hkk hS3 hS4 hk4 hk5 hn4 hgrd hat5 hat6
            rw [e6]
            replace e6 := (show Hid _ from e6)
            go_wp2
            go_roundw
            case rel => exact ⟨j + 1, _, g6, cap6, by omega, by go_num, by rw [← e6.out, Nat.zero_add], ho7.out, hl7, hm, kb6⟩
            case measure => simp [intOf]; omega
        · have hRn : R = none := by rw [← hrun.out, edOne_take' ys a2 y (by omega)]; rfl
          subst hRn
          have hl := fun W => hl1 ((ys.length : Int) - 1) W
          rw [decide_eq_false p0] at hl
          clear hl1 hrun hba hXe
          go_wp2_with (go_at_call 38; refine (hl _).mono ?_; rintro e wq ⟨rfl, hwq⟩; subst hwq)
          exact bodyPost_ret (results_tmp2 rfl _ _ _) rfl ⟨_, _, rfl, hnf.out, hbf.out⟩
      by_cases h3 : k = 3
      · subst h3
        by_cases p0 : 0 ≤ a2 ∧ a2 ≤ (ys.length : Int) - 1
        · -- a number is turned
          obtain ⟨i, rfl⟩ : ∃ i : Nat, a2 = (i : Int) := ⟨a2.toNat, by omega⟩
          have hil : i < ys.length := by omega
          have hm := hrun.out
          rw [edOne_turn ys i y ⟨p0.1, by omega⟩] at hm
          replace hm := (show Hid (edRun (ys.set i y) (es.drop (j + 1)) = R) from hm)
          have hl := fun W => hl1 ((ys.length : Int) - 1) W
          rw [decide_eq_true p0] at hl
          clear hl1 hrun hnf hbf
          go_wp2_with fail
          clear c0 c1 c2
          obtain ⟨w2, hw2⟩ : ∃ w2, w2 = wr.alloc (Obj.cells #[.int .i64 3, .int .i64 i, .int .i64 y] 56) := ⟨_, rfl⟩
          rw [← hw2] at hba hXe hy1 kb1 hsz2 ⊢
          clear hw2
          have hz2 := hsz2.out
          obtain ⟨B, hB⟩ : ∃ B, Hid (B = wr.heap.size) := ⟨_, rfl⟩
          rw [← hB.out] at hXe hgB hz2 ⊢
          have b0 : w2.cell? ⟨B, 0, none⟩ = some (.int .i64 3) := cell_of_row w2 B 0 _ _ (0, 0) hXe
          have b1 : w2.cell? ⟨B, 1, none⟩ = some (.int .i64 i) := cell_of_row w2 B 1 _ _ (0, 0) hXe
          have b2 : w2.cell? ⟨B, 2, none⟩ = some (.int .i64 y) := cell_of_row w2 B 2 _ _ (0, 0) hXe
          refine (hl _).mono ?_
          rintro e w2' ⟨rfl, he⟩
          subst he
          have hown : w2'.ownsRow w.heap.size 2 1 (.slice (some ⟨g, 0, none⟩) ys.length cap) ys.length (ys.map (Value.int .i64)) := hy1.out
          have hcell : w2'.cell? ⟨g, i, none⟩ = some (.int .i64 (ys.getD i 0)) := by
            rw [hown.cellAt i (by omega), List.getElem?_map, List.getElem?_eq_getElem hil]
            simp [hil]
          have hfz := hown.frozenAt i
          obtain ⟨o2, g2⟩ := hown.stored i (.int .i64 y)
          have hres : OwnI (w2'.setCell ⟨g, i, none⟩ (.int .i64 y)) w.heap.size (.slice (some ⟨g, 0, none⟩) (ys.set i y).length cap) (ys.set i y) := by
            unfold OwnI
            rw [List.length_set, List.map_set]
            exact o2
          have kb6 := kb1.grown g2 kb1.size (fun q e => by have := Option.some.inj e; have := hgl.1; omega)
          have r1 : (0 : Int) ≤ (i : Int) := by omega
          have r2 : (i : Int) < (ys.length : Int) := by omega
          have hl7 : (ys.set i y).length ≤ 80 := by rw [List.length_set]; exact hyl
          replace hres := (show Hid _ from hres)
          replace kb6 := (show Hid _ from kb6)
          replace hz2 := (show Hid _ from hz2)
          clear hl hba hXe hown o2 g2 hy1
          go_wp2
          go_roundw
          case rel => exact ⟨j + 1, _, g, cap, by omega, by go_num, by rw [List.length_set], hres.out, hl7, hm, kb6.out⟩
          case measure => simp [intOf]; omega
        · have hRn : R = none := by rw [← hrun.out, edOne_turn' ys a2 y (by omega)]; rfl
          subst hRn
          have hl := fun W => hl1 ((ys.length : Int) - 1) W
          rw [decide_eq_false p0] at hl
          clear hl1 hrun hba hXe
          go_wp2_with (go_at_call 38; refine (hl _).mono ?_; rintro e wq ⟨rfl, hwq⟩; subst hwq)
          exact bodyPost_ret (results_tmp2 rfl _ _ _) rfl ⟨_, _, rfl, hnf.out, hbf.out⟩
      · have hRn : R = none := by rw [← hrun.out, edOne_none ys k a2 y h1 h2 h3]; rfl
        subst hRn
        clear hl1 hrun hba hXe
        go_wp2
        exact bodyPost_ret (results_tmp2 rfl _ _ _) rfl ⟨_, _, rfl, hnf.out, hbf.out⟩
    · have hjn : j = n := by omega
      subst hjn
      have hi : ¬ (j : Int) < (j : Int) := by omega
      have hRs : R = some ys := by rw [← hq.out, hDn.out]; rfl
      subst hRs
      replace hy := (show Hid _ from hy)
      go_wp2
      exact bodyPost_ret (results_tmp2 rfl _ _ _) rfl ⟨_, _, rfl, hy.out, kb⟩
end Go.Proofs.Ytokoohmakjabnaa
namespace Go.Proofs.Ytokoohmakjabnaa
open Go.ChangeShapes Go.WideShapes Go.ChangeAt Go.RowKit
def alikeB (xs ys : List Int) (i j : Nat) : Bool := decide (0 < i ∧ 0 < j ∧ xs.getD (i - 1) 0 = ys.getD (j - 1) 0)
set_option maxHeartbeats 1000000 in
set_option maxRecDepth 20000 in
theorem alike_any (B : Nat) (va vb vw : Value) (L : Int) (R : Nat → Nat → Int) (xs ys : List Int) (w : World) (h : RtB w B va vb vw L R) (ha : SlI w va xs) (hb : SlI w vb ys) (hx : xs.length ≤ 40) (hy : ys.length ≤ 40) (i j : Nat) (hi : i ≤ xs.length) (hj : j ≤ ys.length) :
    Calls Try.prog 44 #[.pointer (some ⟨B, 0, none⟩), .int .i64 i, .int .i64 j] w fun e w' => e = .returned (.bool (alikeB xs ys i j)) ∧ Below w.heap.size w w' := by
  obtain ⟨r, hr⟩ : ∃ r, Hid (alikeB xs ys i j = r) := ⟨_, rfl⟩
  rw [hr.out]
  obtain ⟨a, c, rfl, hca⟩ := ha
  obtain ⟨a', c', rfl, hcb⟩ := hb
  obtain ⟨c0, c1, _, _⟩ := h.cells
  clear h
  by_cases h1 : i = 0
  · subst h1
    have e : r = false := by rw [← hr.out]; exact decide_eq_false (by omega)
    subst e
    clear hr hca hcb c0 c1
    go_enter Try.func44, Try.ntmps44
    go_wp2
    go_quiet (fail)
    go_wp2
    go_ret
    exact ⟨rfl, drwB w nq⟩
  by_cases h2 : j = 0
  · subst h2
    have e : r = false := by rw [← hr.out]; exact decide_eq_false (by omega)
    subst e
    have hi0 : (0 : Int) < (i : Int) := by omega
    have q1 : decide (0 < i) = true := decide_eq_true (by omega)
    clear hr hca hcb c0 c1
    go_enter Try.func44, Try.ntmps44
    go_wp2
    go_quiet (fail)
    go_wp2
    go_ret
    exact ⟨rfl, drwB w nq⟩
  obtain ⟨i1, hi1⟩ : ∃ i1, Hid (i = i1 + 1) := ⟨i - 1, by show i = i - 1 + 1; omega⟩
  obtain ⟨j1, hj1⟩ : ∃ j1, Hid (j = j1 + 1) := ⟨j - 1, by show j = j - 1 + 1; omega⟩
  have e3 : IntKind.i64.wrap ((i : Int) - 1) = (i1 : Int) := wid (by have := hi1.out; omega) (by omega) (by omega)
  have e8 : IntKind.i64.wrap ((j : Int) - 1) = (j1 : Int) := wid (by have := hj1.out; omega) (by omega) (by omega)
  have him : i1 < xs.length := by have := hi1.out; omega
  have hjm : j1 < ys.length := by have := hj1.out; omega
  have hi0 : (0 : Int) < (i : Int) := by omega
  have hj0 : (0 : Int) < (j : Int) := by omega
  have q1 : decide (0 < i) = true := decide_eq_true (by omega)
  have q2 : decide (0 < j) = true := decide_eq_true (by omega)
  rcases hca with h | ⟨b, off, rfl, hbb, hs1⟩
  · exfalso; rw [h] at him; simp at him
  rcases hcb with h | ⟨b', off', rfl, hbb', hs2⟩
  · exfalso; rw [h] at hjm; simp at hjm
  have k1 := hs1 i1 him
  have k2 := hs2 j1 hjm
  have hrr : r = decide (xs.getD i1 0 = ys.getD j1 0) := by
    rw [← hr.out]; unfold alikeB
    rw [show i - 1 = i1 by have := hi1.out; omega, show j - 1 = j1 by have := hj1.out; omega]
    have : (0 < i ∧ 0 < j ∧ xs.getD i1 0 = ys.getD j1 0) ↔ (xs.getD i1 0 = ys.getD j1 0) := ⟨fun h => h.2.2, fun h => ⟨by omega, by omega, h⟩⟩
    simp only [this]
  generalize xs.length = m at *
  generalize ys.length = n at *
  generalize xs.getD i1 0 = x at *
  generalize ys.getD j1 0 = y at *
  clear hr hs1 hs2
  by_cases hxy : x = y
  · subst hxy
    have e : r = true := by rw [hrr]; exact decide_eq_true rfl
    subst e
    clear hrr
    go_enter Try.func44, Try.ntmps44
    go_wp2
    go_quiet (fail)
    go_wp2
    go_ret
    exact ⟨rfl, drwB w nq⟩
  · have e : r = false := by rw [hrr]; exact decide_eq_false hxy
    subst e
    clear hrr
    have hq : (x == y) = false := by simpa using hxy
    go_enter Try.func44, Try.ntmps44
    go_wp2
    go_quiet (fail)
    go_wp2
    go_ret
    exact ⟨rfl, drwB w nq⟩
end Go.Proofs.Ytokoohmakjabnaa
namespace Go.Proofs.Ytokoohmakjabnaa
open Go.ChangeShapes Go.WideShapes Go.ChangeAt Go.RowKit
/-- The ways: a step's kind, and how many numbers fewer it leaves. -/
def waysL (t : Bool) : List (Int × Nat × Nat) := if t then [(3, 1, 1), (1, 1, 0), (2, 0, 1)] else [(1, 1, 0), (2, 0, 1)]
theorem fits_any (kd : Int) (fa fb i j : Nat) (w : World) :
    Calls Try.prog 45 #[.agg #[.int .i64 kd, .int .i64 fa, .int .i64 fb], .int .i64 i, .int .i64 j] w fun e w' => e = .returned (.bool (decide (fa ≤ i ∧ fb ≤ j))) ∧ Below w.heap.size w w' := by
  obtain ⟨r, hr⟩ : ∃ r, Hid (decide (fa ≤ i ∧ fb ≤ j) = r) := ⟨_, rfl⟩
  rw [hr.out]
  go_enter Try.func45, Try.ntmps45
  by_cases h1 : fa ≤ i
  · have h1i : (fa : Int) ≤ (i : Int) := by omega
    by_cases h2 : fb ≤ j
    · have h2i : (fb : Int) ≤ (j : Int) := by omega
      have e : r = true := by rw [← hr.out]; exact decide_eq_true ⟨h1, h2⟩
      subst e; clear hr
      go_wp2
      go_ret
      exact ⟨rfl, (Below.refl _ _).alloc (Nat.le_refl _) _⟩
    · have h2i : ¬ (fb : Int) ≤ (j : Int) := by omega
      have e : r = false := by rw [← hr.out]; exact decide_eq_false (fun h => h2 h.2)
      subst e; clear hr
      go_wp2
      go_ret
      exact ⟨rfl, (Below.refl _ _).alloc (Nat.le_refl _) _⟩
  · have h1i : ¬ (fa : Int) ≤ (i : Int) := by omega
    have e : r = false := by rw [← hr.out]; exact decide_eq_false (fun h => h1 h.1)
    subst e; clear hr
    go_wp2
    go_ret
    exact ⟨rfl, (Below.refl _ _).alloc (Nat.le_refl _) _⟩
/-- A slice of ways that can be read. -/
def WyS (w : World) (v : Value) (ws : List (Int × Nat × Nat)) : Prop :=
  ∃ V c, v = .slice (some ⟨V, 0, none⟩) ws.length c ∧ V < w.heap.size ∧ ∀ k, k < ws.length → w.cell? ⟨V, k * 3, none⟩ = some (.int .i64 (ws.getD k (0, 0, 0)).1) ∧ w.cell? ⟨V, k * 3 + 1, none⟩ = some (.int .i64 ((ws.getD k (0, 0, 0)).2.1 : Nat)) ∧ w.cell? ⟨V, k * 3 + 2, none⟩ = some (.int .i64 ((ws.getD k (0, 0, 0)).2.2 : Nat))
theorem WyS.below {w w' : World} {v : Value} {ws : List (Int × Nat × Nat)} (h : WyS w v ws) (hb : Below w.heap.size w w') : WyS w' v ws := by
  obtain ⟨V, c, hv, hlt, hc⟩ := h
  refine ⟨V, c, hv, Nat.lt_of_lt_of_le hlt hb.size, fun k hk => ?_⟩
  have e : ∀ q, w'.cell? ⟨V, q, none⟩ = w.cell? ⟨V, q, none⟩ := fun q => hb.cell (p := ⟨V, q, none⟩) hlt
  rw [e, e, e]; exact hc k hk
/-- One way more. -/
def wayS (R : Nat → Nat → Int) (i j : Nat) (acc : Int) (y : Int × Nat × Nat) : Int := if y.2.1 ≤ i ∧ y.2.2 ≤ j then min acc (R (i - y.2.1) (j - y.2.2) + 1) else acc
def waysS (R : Nat → Nat → Int) (i j : Nat) (ws : List (Int × Nat × Nat)) : Int := ws.foldl (wayS R i j) 160
theorem waysS_snoc (R : Nat → Nat → Int) (i j : Nat) (ws : List (Int × Nat × Nat)) (k : Nat) (h : k < ws.length) : waysS R i j (ws.take (k + 1)) = wayS R i j (waysS R i j (ws.take k)) (ws.getD k (0, 0, 0)) := by
  unfold waysS
  rw [List.take_succ_eq_append_getElem h, List.foldl_append]
  simp [h]
theorem edS_ways (t : Bool) (x y : Nat → Int) (R : Nat → Nat → Int) (i j : Nat) (h0 : ¬ (i = 0 ∧ j = 0)) (hn : ∀ i1 j1, i = i1 + 1 → j = j1 + 1 → ¬ x i1 = y j1) : edS t x y R i j = waysS R i j (waysL t) := by
  cases i with
  | zero =>
    cases j with
    | zero => exact absurd ⟨rfl, rfl⟩ h0
    | succ j => cases t <;> simp [edS, waysS, waysL, wayS]
  | succ i =>
    cases j with
    | zero => cases t <;> simp [edS, waysS, waysL, wayS]
    | succ j =>
      rw [edS, if_neg (hn i j rfl rfl)]
      cases t <;> simp [waysS, waysL, wayS]
theorem wayS_bd (R : Nat → Nat → Int) (i j : Nat) (hR : ∀ i' j', i' ≤ i → j' ≤ j → (i' < i ∨ j' < j) → 0 ≤ R i' j') (acc : Int) (y : Int × Nat × Nat) (hy : 0 < y.2.1 ∨ 0 < y.2.2) (h : 0 ≤ acc ∧ acc ≤ 160) : 0 ≤ wayS R i j acc y ∧ wayS R i j acc y ≤ 160 := by
  unfold wayS
  split
  · have := hR (i - y.2.1) (j - y.2.2) (by omega) (by omega) (by omega); omega
  · exact h
end Go.Proofs.Ytokoohmakjabnaa
