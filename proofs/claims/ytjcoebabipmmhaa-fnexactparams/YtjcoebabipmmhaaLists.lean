/- The laws' own helpers on lists of int64: like, marked, held. -/
import Derived.Test.YtjcoebabipmmhaaSlDefs
namespace Go.Proofs.Ytjcoebabipmmhaa
open Go.ChangeShapes Go.WideShapes Go.ChangeAt Go.RowKit

set_option maxHeartbeats 400000 in
theorem eqI_same (va vb : Value) (xs : List Int) (w : World) (ha : SlI w va xs) (hb : SlI w vb xs) (hl : xs.length ≤ 1073741824) :
    Calls Try.prog 13 #[va, vb] w fun e w' => e = .returned (.bool true) ∧ ∃ n, w' = w.drewN n := by
  by_cases h0 : xs = []
  · subst h0
    obtain ⟨a, c, rfl, _⟩ := ha
    obtain ⟨a', c', rfl, _⟩ := hb
    go_enter Try.func13, Try.ntmps13
    go_wp2
    refine wp_loop_rounds 1 ?_
    rw [rounds_succ]
    go_wp2
    go_ret
    exact ⟨rfl, 0, rfl⟩
  · obtain ⟨_, c, rfl, e | ⟨b, off, rfl, _, hca⟩⟩ := ha
    · exact absurd e h0
    · obtain ⟨_, c', rfl, e | ⟨b', off', rfl, _, hcb⟩⟩ := hb
      · exact absurd e h0
      · generalize hn : xs.length = n at *
        clear h0 hn
        go_enter Try.func13, Try.ntmps13
        go_wp2
        go_loopw [5] (fun i wr => ∃ k : Nat, k ≤ n ∧ i = .int .i64 k ∧ ∃ m, wr = w.drewN m) (fun i _ => n - (intOf i).toNat)
        case atStart => exact ⟨0, Nat.zero_le _, rfl, 0, rfl⟩
        case round =>
          obtain ⟨k, hk, rfl, m, rfl⟩ := hrel
          by_cases hlt : k < n
          · have h1 : w.cell? ⟨b, off + k, none⟩ = some (.int .i64 (xs.getD k 0)) := hca k hlt
            have h2 : w.cell? ⟨b', off' + k, none⟩ = some (.int .i64 (xs.getD k 0)) := hcb k hlt
            have hi : (k : Int) < (n : Int) := by omega
            generalize xs.getD k 0 = x at *
            clear hca hcb
            go_wp2
            go_quiet (fail)
            go_wp2
            go_roundw
            case rel => exact ⟨k + 1, by omega, by go_num, m + nq, by simp⟩
            case measure => simp [intOf]; omega
          · go_wp2
            go_ret
            exact ⟨rfl, m, rfl⟩

theorem grown_trans {a b c : World} {row : Option Nat} (h : a.grownBy b row) (k : b.grownBy c row) : a.grownBy c row :=
  ⟨k.os.trans h.os, k.tape.trans h.tape, k.output.trans h.output, Nat.le_trans h.size k.size, fun i hi hr => (k.block i (Nat.lt_of_lt_of_le hi h.size) hr).trans (h.block i hi hr)⟩
def marksI (k : Int) (n : Nat) : List Int := (List.range n).map fun (i : Nat) => k + (i : Int)
theorem marksI_len (k : Int) (n : Nat) : (marksI k n).length = n := by simp [marksI]
theorem marksI_at (k : Int) (n i : Nat) (h : i < n) : (marksI k n).getD i 0 = k + (i : Int) := by simp [marksI, h]

set_option maxHeartbeats 400000 in
theorem heldI_marks (v : Value) (k : Int) (n : Nat) (w : World) (hv : SlI w v (marksI k n)) (hk : 0 ≤ k ∧ k ≤ 1073741824) (hl : n ≤ 1073741824) :
    Calls Try.prog 17 #[v, .int .i64 k] w fun e w' => e = .returned (.int .i64 (k + n)) ∧ w' = w := by
  obtain ⟨a, c, rfl, e | ⟨b, off, rfl, _, hc⟩⟩ := hv
  · have h0 : n = 0 := by have := marksI_len k n; rw [e] at this; simpa using this.symm
    subst h0
    rw [marksI_len]
    go_enter Try.func17, Try.ntmps17
    go_wp2
    refine wp_loop_rounds 1 ?_
    rw [rounds_succ]
    go_wp2
    go_ret
    exact ⟨by simp, rfl⟩
  · rw [marksI_len] at hc ⊢
    have hc2 : ∀ i, i < n → w.cell? ⟨b, off + i, none⟩ = some (.int .i64 (k + (i : Int))) := fun i hi => by rw [hc i hi, marksI_at k n i hi]
    clear hc
    go_enter Try.func17, Try.ntmps17
    go_wp2
    go_loop [1, 5] (fun q i => ∃ j : Nat, j ≤ n ∧ i = .int .i64 j ∧ q = .int .i64 (k + (j : Int))) (fun _ i => n - (intOf i).toNat)
    case atStart => exact ⟨0, Nat.zero_le _, rfl, by simp⟩
    case round =>
      obtain ⟨j, hj, rfl, rfl⟩ := hrel
      by_cases hlt : j < n
      · have h1 := hc2 j hlt
        clear hc2
        go_wp2
        go_round
        case rel => exact ⟨j + 1, by omega, by go_num, by go_num⟩
        case measure => simp [intOf]; omega
      · have hjn : j = n := by omega
        subst hjn
        go_wp2
        go_ret
        exact ⟨rfl, rfl⟩

/-- Two lists' prefixes marked: what stands there while it is marked. -/
theorem marked_all (k : Int) (n : Nat) (ys : List Value) (hl : ys.length = n) (h : ∀ i, i < n → ys[i]? = some (.int .i64 (k + (i : Int)))) : ys = (marksI k n).map (Value.int .i64) := by
  apply List.ext_getElem?
  intro i
  by_cases hi : i < n
  · rw [h i hi]; simp [marksI, hi]
  · rw [List.getElem?_eq_none (by omega), List.getElem?_eq_none (by simp [marksI]; omega)]

set_option maxHeartbeats 400000 in
theorem markI_own (base : Nat) (v : Value) (k : Int) (n : Nat) (xs : List Value) (w : World) (hown : w.ownsRow base 2 1 v n xs) (hk : 0 ≤ k ∧ k ≤ 1073741824) (hl : n ≤ 1073741824) :
    Calls Try.prog 16 #[v, .int .i64 k] w fun e w' => e = .returned (.int .i64 (k + n)) ∧ w'.ownsRow base 2 1 v n ((marksI k n).map (Value.int .i64)) ∧ w.grownBy w' v.ownBlock := by
  have hlen := hown.1
  rcases hown.2 with ⟨rfl, rfl⟩ | ⟨g, cap, cur, rfl, hb, hg, _⟩
  · go_enter Try.func16, Try.ntmps16
    go_wp2
    refine wp_loop_rounds 1 ?_
    rw [rounds_succ]
    go_wp2
    go_ret
    exact ⟨by simp, World.ownsRow_nil _ _ _ _, World.grownBy.refl _ _⟩
  · clear hg
    go_enter Try.func16, Try.ntmps16
    go_wp2
    go_loopw [1, 5] (fun q i wr => ∃ (j : Nat) (ys : List Value), j ≤ n ∧ i = .int .i64 j ∧ q = .int .i64 (k + (j : Int)) ∧ wr.ownsRow base 2 1 (.slice (some ⟨g, 0, none⟩) n cap) n ys ∧ ys.length = n ∧ (∀ t, t < j → ys[t]? = some (.int .i64 (k + (t : Int)))) ∧ w.grownBy wr (some g)) (fun _ i _ => n - (intOf i).toNat)
    case atStart => exact ⟨0, xs, Nat.zero_le _, rfl, by simp, hown, by simpa using hlen, by simp, World.grownBy.refl _ _⟩
    case round =>
      obtain ⟨j, ys, hj, rfl, rfl, ho, hyl, hys, hgr⟩ := hrel
      by_cases hlt : j < n
      · have h1 : ∃ u, wr.cell? ⟨g, j, none⟩ = some u := by
          rw [ho.cellAt j (by omega)]; exact ⟨_, List.getElem?_eq_getElem (by omega)⟩
        obtain ⟨u, h1⟩ := h1
        have h2 := ho.frozenAt j
        have hst := ho.stored j (.int .i64 (k + (j : Int)))
        obtain ⟨hst1, hst2⟩ := hst
        clear ho
        go_wp2
        go_roundw
        case rel =>
          refine ⟨j + 1, ys.set j (.int .i64 (k + (j : Int))), by omega, by go_num, by go_num, hst1, by simpa using hyl, ?_, grown_trans hgr hst2⟩
          intro t ht
          by_cases e : t = j
          · subst e; simp [hyl, hlt]
          · rw [List.getElem?_set_ne (by omega)]; exact hys t (by omega)
        case measure => simp [intOf]; omega
      · have hjn : j = n := by omega
        subst hjn
        go_wp2
        go_ret
        exact ⟨rfl, by rw [← marked_all k j ys hyl hys]; exact ho, hgr⟩

end Go.Proofs.Ytjcoebabipmmhaa
