/- The function that draws bytes. -/
import Derived.Test.YticogomjpefoeaaDraw5
import Derived.Test.YticogomjpefoeaaM7
import Derived.Deep.DrawnRows
namespace Go.Proofs.Yticogomjpefoeaa
open Go.ChangeShapes Go.WideShapes Go.ChangeAt Go.RowKit
attribute [local go_sem ↓] Go.wp_at_zero Go.wp_at_succ

theorem u8_lit (w w1 : World) (g : Nat) (L : List Int) (hL : ∀ x ∈ L, 0 ≤ x ∧ x < 256) (t : TypeId) (hg : (w.alloc (.cells (L.map (Value.int .u8)).toArray t)).grownBy w1 (some g)) (hlt : g < w.heap.size) (k : Nat) (hk : k < L.length) :
    ∃ y, w1.cell? ⟨w.heap.size, k, none⟩ = some (.int .u8 y) ∧ 0 ≤ y ∧ y < 256 :=
  ⟨L.getD k 0, lit_pick L .u8 t hg hlt k hk, getD_all L hL k hk⟩

theorem conv_OwnB {w : World} {base : Nat} {v : Value} {L : List Int} (h : OwnB w base v L) : (convert 22 9 v).run Try.prog w = .ok (.string (strOfNums L)) w := by
  obtain ⟨g, cap, rfl, _, _, _, _, _, hc, _⟩ := h
  refine run_convert_bytes_arg w _ _ Try.underlying22 Try.underlying5 g 0 L.length cap L rfl ?_ _ Try.underlying9
  intro i hi
  rw [Nat.zero_add]
  have := hc i hi
  simpa [List.getD, hi] using this
theorem _root_.Go.World.grownBy.cell_eq {w w' : World} {row : Option Nat} (hg : w.grownBy w' row) (q : Addr) (hlt : q.block < w.heap.size) (hne : some q.block ≠ row) : w'.cell? q = w.cell? q := World.cell?_of_block (hg.block q.block hlt hne)
/-- What two parts of a row hold, in whatever world in which the row's block reads so. -/
theorem cells_cut {w : World} {base gb cap : Nat} {M : List Int} (h : OwnB w base (.slice (some ⟨gb, 0, none⟩) M.length cap) M) (k : Nat) (hk : k ≤ M.length) :
    gb < w.heap.size ∧ (∀ W : World, (∀ q : Addr, q.block = gb → W.cell? q = w.cell? q) → ∀ j u, ((M.drop k).map (Value.int .u8))[j]? = some u → W.cell? ((⟨gb, k, none⟩ : Addr).add j) = some u) ∧
    (∀ W : World, (∀ q : Addr, q.block = gb → W.cell? q = w.cell? q) → ∀ j u, ((M.take k).map (Value.int .u8))[j]? = some u → W.cell? ((⟨gb, 0, none⟩ : Addr).add j) = some u) := by
  obtain ⟨g', cap', hv, hb, hlt, hc, hm, hz, hi, hL⟩ := h
  simp only [Value.slice.injEq, Option.some.injEq, Addr.mk.injEq, and_true, true_and] at hv
  obtain ⟨hg, hcap⟩ := hv
  subst hg; subst hcap
  refine ⟨hlt, fun W hW j u hj => ?_, fun W hW j u hj => ?_⟩
  · have hj' : j < M.length - k := by have := (List.getElem?_eq_some_iff.1 hj).1; simpa using this
    have e : (⟨gb, k, none⟩ : Addr).add j = ⟨gb, k + j, none⟩ := by unfold Addr.add; split <;> simp_all
    rw [e, hW _ rfl, hi (k + j) (by omega), ← hj]
    have : k + j < M.length := by omega
    simp [List.getD, this]
  · have hj' : j < k := by have := (List.getElem?_eq_some_iff.1 hj).1; simp at this; omega
    have e : (⟨gb, 0, none⟩ : Addr).add j = ⟨gb, j, none⟩ := by unfold Addr.add; split <;> simp_all
    rw [e, hW _ rfl, hi j (by omega), ← hj]
    have h2 : j < M.length := by omega
    simp [List.getD, h2, hj']
theorem str_size (L : List Int) (h : ∀ x ∈ L, 0 ≤ x ∧ x < 256) : (strOfNums L).size = L.length := by rw [← nums_len, nums_str L h]

set_option maxHeartbeats 4000000 in
set_option maxRecDepth 20000 in
theorem l1DrawBytes_a (g : Nat) (v : Value) (xs : List Int) (w : World) (hc : CurAt w g v xs) :
    Calls Try.prog 45 #[.pointer (some ⟨g, 0, none⟩)] w fun e w' => ∃ s : ByteArray, e = .returned (.string s) ∧ s.size ≤ 40 ∧ CurAt w' g v xs ∧ w.grownBy w' (some g) := by
  obtain ⟨i0, hi, hz0, hz1, hz2⟩ := info_parts info_u8
  have hlt := hc.1
  go_enter Try.func45, Try.ntmps45
  go_wp2_with fail
  refine (l1DrawRunes_a g v xs _ hc).mono ?_
  rintro e w1 ⟨u, ys, rfl, hl, -, ho1, hc1, hg1⟩
  go_wp2_with fail
  refine (specText_any u ys _ (SlI.of_own ho1) (by omega)).mono ?_
  rintro e w2 ⟨rfl, hb2⟩
  have hs : (textV ys).size ≤ 32 := by
    have h1 := textL_len ys
    have h2 : (textV ys).size = (textL ys).length := by rw [← nums_text, nums_len]
    omega
  have hc2 := hc1.below hb2
  have hg2 := gtr hg1 (gbl hb2 (some g))
  clear ho1 hc1 hg1 hb2 hc
  generalize textV ys = s at *
  go_wp2_with fail
  refine (l1Once_a g v xs 2 _ hc2).mono ?_
  rintro e w3 ⟨b, rfl, hc3, hg3⟩
  have hg3 := gtr hg2 hg3
  clear hc2 hg2
  cases b
  · go_wp2
    go_ret
    exact ⟨s, rfl, by omega, hc3, hg3⟩
  · have hlt3 := hc3.1
    go_wp2_with (refine conv_step rfl _ rfl s rfl (by omega) ?_; intro vb w4 hob hg4)
    have hnl := nums_len s
    have hc4 := hc3.grown_own hg4 (by intro k hk; simp at hk)
    have hg4' := gtr hg3 (⟨hg4.os, hg4.tape, hg4.output, hg4.size, fun k hk _ => hg4.block k hk (by simp)⟩ : w3.grownBy w4 (some g))
    have hob4 := hob.base hg3.size
    have hg3s := hg3.size
    clear hob hg4 hc3 hg3
    generalize hL : nums s = L at *
    have hLl : L.length ≤ 32 := by omega
    clear hL hnl
    go_wp2_with fail
    refine (l1Below_a g v xs 3 _ hc4).mono ?_
    rintro e w5 ⟨x, rfl, hx0, hx1, _, hc5, hg5⟩
    obtain ⟨n, rfl⟩ : ∃ n : Nat, x = n := ⟨x.toNat, by omega⟩
    have hn : n ≤ 2 := by have := hx1 (by omega); omega
    have hob5 := hob4.grown hg5 (by intro k hk; cases hk; exact hlt)
    have hg5' := gtr hg4' hg5
    clear hg5 hc4 hg4' hob4 hx1 hx0
    go_wp2
    go_loopw [4, 5] (fun u i wr => ∃ (j : Nat) (M : List Int), i = .int .i64 j ∧ M.length + j ≤ 34 ∧ OwnB wr w.heap.size u M ∧ CurAt wr g v xs ∧ w.grownBy wr (some g)) (fun _ i _ => (intOf i).toNat)
    case atStart => exact ⟨n, L, rfl, by omega, hob5, hc5, hg5'⟩
    case round =>
      clear hob5 hc5 hg5'
      obtain ⟨j, M, rfl, hM, hob, hcw, hgw⟩ := hrel
      by_cases hj : 0 < j
      · have hji : 0 < (j : Int) := by omega
        go_wp2_with fail
        refine (l1Byte_a g v xs _ hcw).mono ?_
        rintro e w6 ⟨x, rfl, hx0, hx1, hc6, hg6⟩
        have hob6 := hob.grown hg6 (by intro k hk; cases hk; exact hlt)
        have hg6' := gtr hgw hg6
        clear hcw hob hgw hg6
        go_wp2_with fail
        refine (l1Below_a g v xs 9 _ (hc6.below (bal w6 _))).mono ?_
        rintro e w7 ⟨q, rfl, hq0, hq1, _, hc7, hg7⟩
        obtain ⟨k, rfl⟩ : ∃ k : Nat, q = k := ⟨q.toNat, by omega⟩
        have hk : k < 9 := by have := hq1 (by omega); omega
        have hki : (k : Int) < 9 := by omega
        obtain ⟨y, hcell, hy⟩ := u8_lit w6 w7 g [128, 194, 228, 240, 255, 237, 160, 192, x] (by intro z hz; simp at hz; omega) 5 hg7 hc6.1 k hk
        have hg7' := gtr (World.grownBy_alloc w6 _ (some g)) hg7
        have hob7 := hob6.grown hg7' (by intro k hk; cases hk; exact hlt)
        have hg7w := gtr hg6' hg7'
        have hsz7 := hg7w.size
        clear hg7 hg7' hg6' hob6 hc6 hq1 hq0
        go_wp2_with (at_builtin; refine append_byte rfl _ _ rfl w.heap.size _ M rfl (hob7.grown (World.grownBy_alloc w7 _ none) (by intro k hk; cases hk)) (by simp; omega) (by omega) ⟨_, 0, none⟩ 1 y hy rfl (by simp [go_sem]) ?_)
        intro v' w8 hob8 hg8
        have hown : ∀ k, u4.ownBlock = some k → w.heap.size ≤ k := by
          obtain ⟨gg, cap, hv, hb, _⟩ := hob7
          intro k hk; rw [hv] at hk; simp [Value.ownBlock] at hk; omega
        have hc8 := (hc7.below (bal w7 _)).grown_own hg8 (fun k hk => by have := hown k hk; omega)
        have hg8w := grownBy_own (gtr hg7w (World.grownBy_alloc w7 _ (some g))) hg8 hown
        clear hg8 hown hob7 hc7 hg7w
        go_wp2
        go_roundw
        case rel => exact ⟨j - 1, M ++ [y], by go_num, by simp; omega, hob8, hc8, hg8w⟩
        case measure => simp [intOf]; omega
      · have hji : ¬ 0 < (j : Int) := by omega
        have hM2 : M.length ≤ 34 := by omega
        clear hj hM
        have HO : Hid (OwnB wr w.heap.size u4 M) := hob
        obtain ⟨gb, cap, rfl, hbb, hltb, hcl, hm, hz, hcells, hLx⟩ := hob
        by_cases h0 : 0 < M.length
        · have h0i : 0 < (M.length : Int) := by omega
          clear hz hcells
          go_wp2_with fail
          refine (l1Once_a g v xs 2 _ hcw).mono ?_
          rintro e w7 ⟨b, rfl, hc7, hg7⟩
          have HO7 : Hid (OwnB w7 w.heap.size (.slice (some ⟨gb, 0, none⟩) M.length cap) M) := HO.out.grown hg7 (by intro k hk; cases hk; exact hlt)
          have hg7w := gtr hgw hg7
          clear hg7 hcw hgw HO
          cases b
          · have hcv := conv_OwnB HO7.out
            have hsz := str_size M hLx
            generalize strOfNums M = t at *
            go_wp2
            go_ret
            exact ⟨t, rfl, by omega, hc7, hg7w⟩
          · go_wp2_with fail
            refine (l1Below_a g v xs _ _ hc7).mono ?_
            rintro e w8 ⟨q, rfl, hq0, hq1, _, hc8, hg8⟩
            obtain ⟨k, rfl⟩ : ∃ k : Nat, q = k := ⟨q.toNat, by omega⟩
            have hk : k < M.length := by have := hq1 (by omega); omega
            have HO8 : Hid (OwnB w8 w.heap.size (.slice (some ⟨gb, 0, none⟩) M.length cap) M) := HO7.out.grown hg8 (by intro k hk; cases hk; exact hlt)
            have hg8w := gtr hg7w hg8
            clear hg8 hg7w HO7 hc7 hq1 hq0
            have hk0 : (0 : Int) ≤ (k : Int) := by omega
            have hk1 : (k : Int) ≤ (M.length : Int) := by omega
            have hk2 : (M.length : Int) ≤ (cap : Int) := by omega
            have hk3 : (k : Int) ≤ (cap : Int) := by omega
            have hkc : ¬ cap = k := by omega
            obtain ⟨hlt8, hn1, hn2⟩ := cells_cut HO8.out k (by omega)
            have ho0 : (w8.alloc (Obj.cells #[] 5)).drew.ownsRow w8.heap.size 5 1 (.slice (some ⟨w8.heap.size, 0, none⟩) 0 0) 0 [] := World.ownsRow_lit (base := w8.heap.size) (e := 5) (size := 1) w8 #[] 0 (Nat.le_refl _) (Nat.zero_le _) rfl
            have hA : ∀ q : Addr, q.block = gb → (w8.alloc (Obj.cells #[] 5)).drew.cell? q = w8.cell? q := fun q hq => (bal w8 _).cell (by rw [hq]; exact hlt8)
            have hl1 : (M.drop k).length = M.length - k := List.length_drop
            have hl2 : (M.take k).length = k := by rw [List.length_take]; omega
            go_wp2
            go_region_held3 (fun _ => True) (trivial) (first
              | (refine step_append_own (by rfl) _ _ _ (by rfl) w8.heap.size 5 i0 (.int .u8 0) 1 1 Try.underlying22 hi hz0 hz1 hz2 rfl (by decide) _ 0 [] (by rfl) ho0 ⟨gb, k, none⟩ (M.length - k) (cap - k) ((M.drop k).map (Value.int .u8)) (by rfl) (by rw [List.length_map, hl1, Nat.mul_one]) (hn1 _ hA) (ints_oneCell .u8 _) (by unfold maxLen; omega) (by omega) (by simp) ?_; intro v1 w9 ho9 hg9)
              | (refine step_append_own (by rfl) _ _ _ (by rfl) w8.heap.size 5 i0 (.int .u8 0) 1 1 Try.underlying22 hi hz0 hz1 hz2 rfl (by decide) v1 _ _ (by rfl) ho9 ⟨gb, 0, none⟩ k cap ((M.take k).map (Value.int .u8)) (by rfl) (by rw [List.length_map, hl2, Nat.mul_one]) (hn2 _ (fun q hq => (hg9.cell_eq q (by rw [hq]; simp; omega) (by rw [hq]; simp [Value.ownBlock]; omega)).trans (hA q hq))) (ints_oneCell .u8 _) (by unfold maxLen; omega) (by omega) (by have := hg9.size; simp at this; omega) ?_; intro v2 w10 ho10 hg10))
            have hc9 : CurAt (w8.alloc (Obj.cells #[] 5)).drew g v xs := by have := hc8.below (bal w8 (Obj.cells #[] 5)); exact this
            have hlt8' : g < w8.heap.size := hc8.1
            have hc9' := hc9.grown_own hg9 (fun q hq => by simp [Value.ownBlock] at hq; omega)
            have hv1 : ∀ q, v1.ownBlock = some q → w8.heap.size ≤ q := fun q hq => (ho9.lt q hq).1
            have hc10 := hc9'.grown_own hg10 (fun q hq => by have := hv1 q hq; omega)
            have hga : w8.grownBy (w8.alloc (Obj.cells #[] 5)).drew (some g) := gdr (World.grownBy_alloc w8 _ (some g)) 1
            have hg9w := grownBy_own (gtr hg8w hga) hg9 (fun q hq => by simp [Value.ownBlock] at hq; have := hg8w.size; omega)
            have hg10w := grownBy_own hg9w hg10 (fun q hq => by have := hv1 q hq; have := hg8w.size; omega)
            have hR : (M.drop k ++ M.take k).length = M.length := by rw [List.length_append, hl1, hl2]; omega
            have hoR : w10.ownsRow w8.heap.size 5 1 v2 (M.drop k ++ M.take k).length ((M.drop k ++ M.take k).map (Value.int .u8)) := by
              have e : 0 + (M.length - k) + k = (M.drop k ++ M.take k).length := by rw [hR]; omega
              rw [← e, List.map_append]
              simpa using ho10
            have hcv := conv_own hoR
            have hsz := str_size (M.drop k ++ M.take k) (by
              intro q hq
              rcases List.mem_append.1 hq with hq | hq
              · exact hLx q (List.mem_of_mem_drop hq)
              · exact hLx q (List.mem_of_mem_take hq))
            rw [hR] at hsz
            generalize strOfNums (M.drop k ++ M.take k) = t at *
            clear ho9 ho10 hoR hg9 hg10 hga hn1 hn2 hA ho0
            go_wp2
            go_ret
            exact ⟨t, rfl, by omega, hc10, hg10w⟩
        · have hM0 : M = [] := List.eq_nil_of_length_eq_zero (by omega)
          subst hM0
          have hcv := conv_OwnB HO.out
          have hsz := str_size [] (by simp)
          simp only [List.length_nil] at *
          generalize strOfNums [] = t at *
          go_wp2
          go_ret
          exact ⟨t, rfl, by omega, hcw, hgw⟩
end Go.Proofs.Yticogomjpefoeaa
