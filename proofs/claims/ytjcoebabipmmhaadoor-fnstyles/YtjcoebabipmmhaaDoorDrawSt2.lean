/- A style and params drawn. -/
import Derived.Test.YtjcoebabipmmhaaDoorDrawSt
import Derived.Test.YtjcoebabipmmhaaDoorS3
import Derived.OwnWalk
namespace Go.Proofs.YtjcoebabipmmhaaDoor
open Go.ChangeShapes Go.WideShapes Go.ChangeAt Go.RowKit

theorem below_gr {w0 w w' : World} {g : Nat} (hb : Below w0.heap.size w0 w) (hg : w.grownBy w' (some g)) (h : w0.heap.size ≤ g) : Below w0.heap.size w0 w' :=
  hb.grown hg hb.size (fun k hk => by cases hk; exact h)
def RP : List Int := [0, 1, 4, 7, 22, 24, 27, 30, 37, 38, 39, 40, 47, 48, 49, -1, 99]
/-- What stays while params are drawn: the answer's place, the style, the cursor, the list. -/
def DK (B5 g base : Nat) (s : St) (v : Value) (xs : List Int) (u : Value) (ys : List Int) (w0 W : World) : Prop :=
  StAt W w0.heap.size St.zero ∧ StAt W B5 s ∧ CurAt W g v xs ∧ W.ownsRow base 2 1 u ys.length (ys.map (Value.int .i64)) ∧ Below w0.heap.size w0 W ∧ base ≤ W.heap.size
theorem DK.draw {B5 g base : Nat} {s : St} {v : Value} {xs : List Int} {u : Value} {ys : List Int} {w0 W W' : World} (k : DK B5 g base s v xs u ys w0 W) (h0 : w0.heap.size < g) (h5 : g < B5) (hb : g < base) (hc : CurAt W' g v xs) (hg : W.grownBy W' (some g)) : DK B5 g base s v xs u ys w0 W' :=
  ⟨k.1.drawn hg (by omega), k.2.1.drawn hg (by omega), hc, own_grow k.2.2.2.1 hg hb, below_gr k.2.2.2.2.1 hg (by omega), Nat.le_trans k.2.2.2.2.2 hg.size⟩
theorem DK.below {B5 g base : Nat} {s : St} {v : Value} {xs : List Int} {u : Value} {ys : List Int} {w0 W W' : World} (k : DK B5 g base s v xs u ys w0 W) (hb : Below W.heap.size W W') : DK B5 g base s v xs u ys w0 W' :=
  ⟨k.1.below hb, k.2.1.below hb, k.2.2.1.below hb, k.2.2.2.1.below hb, k.2.2.2.2.1.trans (hb.mono k.2.2.2.2.1.size), Nat.le_trans k.2.2.2.2.2 hb.size⟩
theorem DK.list {B5 g base : Nat} {s : St} {v : Value} {xs : List Int} {u u' : Value} {ys ys' : List Int} {w0 W W' : World} (k : DK B5 g base s v xs u ys w0 W) (h0 : w0.heap.size < g) (h5 : g < B5) (hb5 : B5 < base) (ho : W'.ownsRow base 2 1 u' ys'.length (ys'.map (Value.int .i64))) (hg : W.grownBy W' u.ownBlock) : DK B5 g base s v xs u' ys' w0 W' := by
  have hr : ∀ q, u.ownBlock = some q → base ≤ q := fun q e => (k.2.2.2.1.lt q e).1
  exact ⟨k.1.grown hg (fun e => by have := hr _ e; omega), k.2.1.grown hg (fun e => by have := hr _ e; omega), k.2.2.1.grown_own hg (fun q e => by have := hr q e; omega), ho, k.2.2.2.2.1.grown hg k.2.2.2.2.1.size (fun q e => by have := hr q e; omega), Nat.le_trans k.2.2.2.2.2 hg.size⟩

/-- The answer: the style in its place, the list. -/
theorem DK.fin {B5 g base : Nat} {s : St} {v : Value} {xs : List Int} {u : Value} {ys : List Int} {w0 W : World} (k : DK B5 g base s v xs u ys w0 W) (hb : w0.heap.size < base) :
    (putSt W w0.heap.size s).ownsRow w0.heap.size 2 1 u ys.length (ys.map (Value.int .i64)) ∧ Below w0.heap.size w0 (putSt W w0.heap.size s) ∧ StAt (putSt W w0.heap.size s) w0.heap.size s := by
  have hg := putSt_grown W w0.heap.size s
  have ho := k.2.2.2.1.kept hg (by
    cases hq : u.ownBlock with
    | none => exact .inl rfl
    | some q => right; intro e; have := (k.2.2.2.1.lt q hq).1; cases e; omega)
  refine ⟨⟨ho.1, ?_⟩, own_lift k.2.2.2.2.1 hg (Nat.le_refl _), k.1.put s⟩
  rcases ho.2 with h2 | ⟨q, cap, cur, hv, hbg, r⟩
  · exact .inl h2
  · exact .inr ⟨q, cap, cur, hv, by omega, r⟩
theorem DK.made {B5 g : Nat} {s : St} {v : Value} {xs : List Int} {u u' : Value} {ys : List Int} {w0 W W' : World} {n : Nat} (k : DK B5 g (B5 + 1) s v xs u ys w0 W) (h0 : w0.heap.size < g) (h5 : g < B5)
    (ho : W'.ownsRow (B5 + 1) 2 1 u' n (madeCells (Value.int .i64 0).cells (n * 1)).toList) (hg : W.grownBy W' none) : DK B5 g (B5 + 1) s v xs u' (List.replicate n 0) w0 W' := by
  have e8 : (madeCells (Value.int .i64 0).cells (n * 1)).toList = (List.replicate n (0 : Int)).map (Value.int .i64) := by
    have := toList_madeCells_one (.int .i64 0) (n * 1)
    rw [Nat.mul_one] at this ⊢
    rw [List.map_replicate]
    exact this
  rw [e8] at ho
  exact k.list h0 h5 (Nat.lt_succ_self _) (by rw [List.length_replicate]; exact ho) ⟨hg.os, hg.tape, hg.output, hg.size, fun i h _ => hg.block i h (by simp)⟩
/-- Params that are drawn are small. -/
def RPok (ys : List Int) : Prop := ∀ y ∈ ys, -1 ≤ y ∧ y ≤ 99
theorem RPok.nil : RPok [] := fun y h => by simp at h
theorem RPok.snoc {ys : List Int} {y : Int} (h : RPok ys) (hy : RPok [y]) : RPok (ys ++ [y]) := fun z hz => by
  rcases List.mem_append.1 hz with hz | hz
  · exact h z hz
  · exact hy z hz
theorem RPok.get (q : Nat) (h : q < 17) : RPok [RP.getD q 0] := fun z hz => by
  have : ∀ q, q < 17 → -1 ≤ RP.getD q 0 ∧ RP.getD q 0 ≤ 99 := by decide
  rw [List.mem_singleton.1 hz]; exact this q h
theorem RPok.zeros (n : Nat) : RPok (List.replicate n 0) := fun z hz => by rw [(List.mem_replicate.1 hz).2]; omega
theorem RPok.wf {ys : List Int} (h : RPok ys) : ∀ x ∈ ys, -9223372036854775808 ≤ x ∧ x ≤ 9223372036854775807 := fun x hx => by have := h x hx; omega
set_option maxHeartbeats 4000000 in
set_option maxRecDepth 20000 in
theorem drawStyled_a (v : Value) (xs : List Int) (w : World) (hv : SlB w v xs) :
    Calls Tryd.prog 6 #[v] w fun e w' => ∃ (s : St) (u : Value) (ys : List Int), e = .returned (.tuple #[stV s, u]) ∧ ys.length ≤ 17 ∧ RPok ys ∧ w'.ownsRow w.heap.size 2 1 u ys.length (ys.map (Value.int .i64)) ∧ Below w.heap.size w w' := by
  obtain ⟨i0, hi, hz0, hz1, hz2⟩ := info_parts info_int64s
  have h0 := StAt.new w St.zero 25
  have hbA := bal w (Obj.cells #[.int .i64 0, .int .i64 0, .bool false, .bool false, .bool false] 25)
  have eA : (w.alloc (Obj.cells #[.int .i64 0, .int .i64 0, .bool false, .bool false, .bool false] 25)).heap.size = w.heap.size + 1 := by simp
  go_enter Tryd.func6, Tryd.ntmps6
  go_wp2_with fail
  refine (l1New_a v xs _ (hv.below hbA)).mono ?_
  rintro e w1 ⟨rfl, hc1, hb1⟩
  have k1 := h0.below hb1
  have hb1' := hbA.trans (hb1.mono (by simp))
  rw [eA] at hc1 ⊢
  clear h0 hbA hb1 eA
  go_wp2_with fail
  refine (l3DrawAny_a _ v xs _ hc1).mono ?_
  rintro e w2 ⟨s, rfl, hc2, hg2⟩
  have k2 := k1.drawn hg2 (by omega)
  have hb2 := below_gr hb1' hg2 (by omega)
  have hl2 : w.heap.size + 1 < w2.heap.size := hc2.1
  have kd : DK w2.heap.size (w.heap.size + 1) (w2.heap.size + 1) s v xs (.slice (some ⟨w2.heap.size + 1, 0, none⟩) 0 0) [] w ((w2.alloc (Obj.cells #[.int .i64 s.fore, .int .i64 s.back, .bool s.bold, .bool s.under, .bool s.turned] 25)).alloc (Obj.cells #[] 2)) := by
    refine ⟨(k2.below (bal _ _)).below (bal _ _), (StAt.new w2 s _).below (bal _ _), (hc2.below (bal _ _)).below (bal _ _), ?_, (hb2.trans ((bal _ _).mono hb2.size)).trans ((bal _ _).mono (by simp; omega)), by simp⟩
    have := World.ownsRow_lit (base := w2.heap.size + 1) (e := 2) (size := 1) (w2.alloc (Obj.cells #[.int .i64 s.fore, .int .i64 s.back, .bool s.bold, .bool s.under, .bool s.turned] 25)) #[] 0 (by simp) (Nat.zero_le _) rfl
    simpa using this
  clear k1 hc1 hb1' hg2 k2 hb2 hc2
  unfold stV
  go_wp2_with fail
  generalize (w2.alloc (Obj.cells #[.int .i64 s.fore, .int .i64 s.back, .bool s.bold, .bool s.under, .bool s.turned] 25)).alloc (Obj.cells #[] 2) = W2 at *
  generalize w2.heap.size = B5 at *
  refine (l1Below_a _ v xs 6 _ kd.2.2.1).mono ?_
  rintro e w3 ⟨x, rfl, hx0, hx1, _, hc3, hg3⟩
  have kd3 := kd.draw (by omega) hl2 (by omega) hc3 hg3
  obtain ⟨n, rfl⟩ : ∃ n : Nat, x = n := ⟨x.toNat, by omega⟩
  have hn : n ≤ 5 := by have := hx1 (by omega); omega
  clear kd hc3 hg3 hx1
  go_wp2
  go_loopw [6, 7] (fun u i wr => ∃ (j : Nat) (ys : List Int), i = .int .i64 j ∧ ys.length + j ≤ 5 ∧ RPok ys ∧ DK B5 (w.heap.size + 1) (B5 + 1) s v xs u ys w wr) (fun _ i _ => (intOf i).toNat)
  case atStart => exact ⟨n, [], rfl, by simpa using hn, RPok.nil, kd3⟩
  case round =>
    clear kd3
    obtain ⟨j, ys, rfl, hys, hok, k⟩ := hrel
    by_cases hj : 0 < j
    · have hji : 0 < (j : Int) := by omega
      go_wp2_with fail
      have hlr : w.heap.size + 1 < wr.heap.size := k.2.2.1.1
      refine (l1Below_a _ v xs 17 _ (k.2.2.1.below (bal wr _))).mono ?_
      rintro e w4 ⟨x, rfl, hx0, hx1, _, hc4, hg4⟩
      obtain ⟨q, rfl⟩ : ∃ q : Nat, x = q := ⟨x.toNat, by omega⟩
      have hq : q < 17 := by have := hx1 (by omega); omega
      have hqi : (q : Int) < 17 := by omega
      have hcell := lit_pick RP .i64 2 hg4 hlr q hq
      have k4 := (k.below (bal wr _)).draw (by omega) hl2 (by omega) hc4 hg4
      have hyk := RPok.get q hq
      generalize RP.getD q 0 = y at *
      clear k hg4 hx1 hc4
      go_wp2_with (at_builtin; refine wpList_append_own _ rfl _ _ 26 rfl (B5 + 1) 2 i0 (.int .i64 0) 1 8 Tryd.underlying26 hi hz0 hz1 hz2 rfl (by decide) _ _ _ rfl (k4.2.2.2.1.alloc _) ⟨_, 0, none⟩ 1 1 [.int .i64 y] rfl rfl ?c1 ?c2 ?c3 ?c4 ?c5 ?_)
      case c1 =>
        intro i u hi
        match i, hi with
        | 0, hi => simp at hi; subst hi; simp [Addr.add]
      case c2 => intro u hu; simp at hu; subst hu; rfl
      case c3 => unfold maxLen; omega
      case c4 => omega
      case c5 => have := k4.2.2.2.2.2; simp; omega
      · intro v' w5 ho5 hg5 _
        have k5 := (k4.below (bal w4 (Obj.cells #[.int .i64 y] 2))).list (u' := v') (ys' := ys ++ [y]) (by omega) hl2 (by omega) (by simpa using ho5) hg5
        clear k4 ho5 hg5
        go_wp2
        go_roundw
        case rel => exact ⟨j - 1, ys ++ [y], by go_num, by simp; omega, hok.snoc hyk, k5⟩
        case measure => simp [intOf]; omega
    · have hji : ¬ 0 < (j : Int) := by omega
      go_wp2_with fail
      refine (l1Once_a _ v xs 30 _ k.2.2.1).mono ?_
      rintro e w6 ⟨b, rfl, hc6, hg6⟩
      have k6 := k.draw (by omega) hl2 (by omega) hc6 hg6
      clear k hc6 hg6
      cases b
      · obtain ⟨oP, bP, kP⟩ := k6.fin (by omega)
        obtain ⟨k2, kB, _, _, _, _⟩ := k6
        obtain ⟨_, ⟨d0, d1, d2, d3, d4⟩, ⟨y0, y1, y2, y3, y4⟩⟩ := k2
        obtain ⟨_, ⟨f0, f1, f2, f3, f4⟩, _⟩ := kB
        obtain ⟨_, ⟨e0, e1, e2, e3, e4⟩, _⟩ := kP
        simp only [putSt, St.zero] at oP bP e0 e1 e2 e3 e4 d0 d1 d2 d3 d4
        go_wp2
        exact bodyPost_ret (v := .tuple #[.agg #[.int .i64 s.fore, .int .i64 s.back, .bool s.bold, .bool s.under, .bool s.turned], u6]) (by simp [results, Tryd.results6, go_sem, e0, e1, e2, e3, e4]) rfl ⟨s, u6, ys, rfl, by omega, hok, oP, bP⟩
      · go_wp2_with fail
        refine (l1Below_a _ v xs 2 _ k6.2.2.1).mono ?_
        rintro e w7 ⟨x, rfl, hx0, hx1, _, hc7, hg7⟩
        have k7 := k6.draw (by omega) hl2 (by omega) hc7 hg7
        obtain ⟨q, rfl⟩ : ∃ q : Nat, x = q := ⟨x.toNat, by omega⟩
        have hq : q < 2 := by have := hx1 (by omega); omega
        clear k6 hc7 hg7 hx1
        go_wp2_with (at_make; refine wpList_make_full _ rfl _ _ 26 rfl (B5 + 1) 2 i0 (.int .i64 0) 1 Tryd.underlying26 hi hz0 hz1 .i64 .i64 _ _ (16 + q) rfl rfl (by omega) (by omega) (by rw [hz2]; omega) (by unfold maxLen; omega) (k7.2.2.2.2.2) ?_; intro w8 ho8 hg8; have k8 := DK.made k7 (Nat.lt_succ_self _) hl2 ho8 hg8; have hh := k8; obtain ⟨⟨_, ⟨d0, d1, d2, d3, d4⟩, ⟨y0, y1, y2, y3, y4⟩⟩, ⟨_, ⟨f0, f1, f2, f3, f4⟩, _⟩, _⟩ := hh)
        obtain ⟨oP, bP, kP⟩ := k8.fin (by omega)
        obtain ⟨_, ⟨e0, e1, e2, e3, e4⟩, _⟩ := kP
        have hl8 : (List.replicate (16 + q) (0 : Int)).length ≤ 17 := by rw [List.length_replicate]; omega
        simp only [putSt] at oP bP e0 e1 e2 e3 e4
        exact bodyPost_ret (v := .tuple #[.agg #[.int .i64 s.fore, .int .i64 s.back, .bool s.bold, .bool s.under, .bool s.turned], .slice (some ⟨w7.heap.size, 0, none⟩) (16 + q) (16 + q)]) (by simp [results, Tryd.results6, go_sem, e0, e1, e2, e3, e4]) rfl ⟨s, _, List.replicate (16 + q) 0, rfl, hl8, RPok.zeros _, oP, bP⟩
end Go.Proofs.YtjcoebabipmmhaaDoor
