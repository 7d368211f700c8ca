/- Contracts of the specification's text of a row. -/
import Derived.Test.YteimcepkoclpbaaDoorRC4
import Derived.Test.YteimcepkoclpbaaDoorJPutA
namespace Go.Proofs.YteimcepkoclpbaaDoor
open Go.ChangeShapes Go.WideShapes Go.ChangeAt Go.RowKit

/-- How many cells stay when blanks at the end are left. -/
def trimN (xs : List Ce) : Nat → Nat
  | 0 => 0
  | n + 1 => if (atC xs n).rune = 32 then trimN xs n else n + 1
theorem trimN_le (xs : List Ce) : ∀ n, trimN xs n ≤ n
  | 0 => Nat.le_refl _
  | n + 1 => by unfold trimN; split; have := trimN_le xs n; omega; exact Nat.le_refl _
def runesUp (xs : List Ce) : Nat → List Int
  | 0 => []
  | n + 1 => if (atC xs n).part = 2 then runesUp xs n else runesUp xs n ++ [(atC xs n).rune]
theorem runesUp_len (xs : List Ce) : ∀ n, (runesUp xs n).length ≤ n
  | 0 => Nat.le_refl _
  | n + 1 => by unfold runesUp; split <;> have := runesUp_len xs n <;> simp <;> omega
def rowRunes (xs : List Ce) : List Int := runesUp xs (trimN xs xs.length)
def rowTextV (xs : List Ce) : ByteArray := if rowOkB xs = true then textV (rowRunes xs) else ⟨#[]⟩
/-- A list of numbers of this call's own beside what stays. -/
def OI (base : Nat) (v : Value) (L : List Int) (w0 W : World) : Prop := W.ownsRow base 2 1 v L.length (L.map (Value.int .i64)) ∧ Below w0.heap.size w0 W ∧ base ≤ W.heap.size ∧ w0.heap.size ≤ base
theorem info_i64r : (Tryd.prog.info? 2).map (fun i => (i.zero, i.size, i.bytes)) = some (some (.int .i64 0), 1, 8) := by kernel_rfl
theorem append_oi {w : World} {ops : Array Oper} {rest : List Oper} {o : Oper} {ac : Act} {Q : Exit → Act → World → Prop} (hgd : o.guard = none) (s x : Operand)
    (ho : o.op = .call { callee := .builtin .append, args := #[s, x], argTypes := #[59, 59] })
    (base : Nat) (v : Value) (L : List Int) (w0 : World) (y : Int) (hs : ac.eval s = v) (k : OI base v L w0 w) (hl : L.length < 2000000)
    (g : Nat) (hg0 : w.heap.size = g) (hx : ac.eval x = .slice (some ⟨g, 0, none⟩) 1 1)
    (h : ∀ v' w', OI base v' (L ++ [y]) w0 w' → wpList Tryd.prog ops Q rest (ac.put o.dst v') w') :
    wpList Tryd.prog ops Q (o :: rest) ac (w.alloc (.cells #[.int .i64 y] 2)) := by
  subst hg0
  obtain ⟨i0, hi, hz0, hz1, hz2⟩ := info_parts info_i64r
  obtain ⟨ko, kw, k1, k2⟩ := k
  have hb := bal' w (Obj.cells #[.int .i64 y] 2)
  refine wpList_append_own _ hgd s x _ ho base 2 i0 (.int .i64 0) 1 8 Tryd.underlying59 hi hz0 hz1 hz2 rfl (by decide) v L.length _ hs (ko.alloc _) ⟨w.heap.size, 0, none⟩ 1 1 [.int .i64 y] hx rfl ?_ (by intro u hu; simp at hu; subst hu; rfl) (by unfold maxLen; omega) (by omega) (by simp; omega) (fun v' w' ho' hg' _ => ?_)
  · intro j u hj
    match j, hj with
    | 0, hj => simp at hj; subst hj; simp [Addr.add]
  · have hrow : ∀ g, v.ownBlock = some g → base ≤ g := fun g e => (ko.lt g e).1
    refine h v' w' ⟨?_, (kw.trans (hb.mono kw.size)).grown hg' (kw.trans (hb.mono kw.size)).size (fun g e => by have := hrow g e; omega), by have := hg'.size; have := hb.size; omega, k2⟩
    rw [List.length_append, List.map_append]
    simpa using ho'
theorem SlC.atE {w : World} {a : Option Addr} {n c : Nat} {xs : List Ce} (h : SlC w (.slice a n c) xs) (j : Nat) (hj : j < xs.length) : ∃ b off, a = some ⟨b, off, none⟩ ∧ b < w.heap.size ∧ CeAt w b (off + j * 7) (atC xs j) := by
  obtain ⟨a', c', e, _, _, hr⟩ := h
  simp only [Value.slice.injEq] at e
  obtain ⟨rfl, rfl, rfl⟩ := e
  rcases hr with h | ⟨b, off, ha, hb, hi⟩
  · rw [h] at hj; simp at hj
  · exact ⟨b, off, ha, hb, hi j hj⟩
set_option maxHeartbeats 4000000 in
set_option maxRecDepth 20000 in
theorem l4Text_any (v : Value) (xs : List Ce) (w : World) (hv : SlC w v xs) (hl : xs.length ≤ 1000) :
    Calls Tryd.prog 58 #[v] w fun e w' => e = .returned (.string (textV (rowRunes xs))) ∧ Below w.heap.size w w' := by
  obtain ⟨a, c, rfl, hcp, hna, hr⟩ := id hv
  have hT : Hid (rowRunes xs = runesUp xs (trimN xs xs.length)) := rfl
  go_enter Tryd.func58, Tryd.ntmps58
  go_wp2
  go_loopw [3] (fun i wr => ∃ m : Nat, i = .int .i64 m ∧ m ≤ xs.length ∧ Hid (trimN xs m = trimN xs xs.length) ∧ wr = w) (fun i _ => (intOf i).toNat)
  case atStart => exact ⟨xs.length, rfl, Nat.le_refl _, rfl, rfl⟩
  case round =>
    obtain ⟨m, rfl, hm, ht, hw⟩ := hrel
    have hw' := hw.symm
    clear hw
    subst hw'
    by_cases h0 : m = 0
    · have hN : Hid (rowRunes xs = runesUp xs m) := by show _ = _; rw [hT.out, ← ht.out, h0]; rfl
      clear ht hT
      subst h0
      go_wp2
      refine wp_loop_rounds 1 ?_
      rw [rounds_succ]
      go_wp2_with fail
      refine (specText_any _ [] _ ⟨_, _, rfl, .inl rfl⟩ (by simp)).mono ?_
      rintro e w2 ⟨rfl, hb⟩
      go_wp2
      go_ret
      exact ⟨by rw [hN.out]; rfl, (bal' _ _).trans (hb.mono (by simp))⟩
    · obtain ⟨q, rfl⟩ : ∃ q, m = q + 1 := ⟨m - 1, by omega⟩
      have hk0 : (0 : Int) ≤ (q : Int) := by omega
      have hkx : (q : Int) < (xs.length : Int) := by omega
      have hkp : (0 : Int) < (q : Int) + 1 := by omega
      obtain ⟨b, off, ha, hbb, hat⟩ := hv.atE q (by omega)
      cases ha
      obtain ⟨c0, c1, c2, c3, c4, c5, c6⟩ := hat
      by_cases hr32 : (atC xs q).rune = 32
      · have br : ((atC xs q).rune == 32) = true := by simp [hr32]
        have ht2 : Hid (trimN xs q = trimN xs xs.length) := by show _ = _; rw [← ht.out, trimN, if_pos hr32]
        clear hr32 ht
        go_wp2
        go_roundw
        case rel => exact ⟨q, by go_num, by omega, ht2, trivial⟩
        case measure => first | (simp [intOf]; done) | (simp [intOf]; omega)
      · have br : ((atC xs q).rune == 32) = false := by simp [hr32]
        have hN : Hid (rowRunes xs = runesUp xs (q + 1)) := by show _ = _; rw [hT.out, ← ht.out, trimN, if_neg hr32]
        clear hr32 ht hT
        go_wp2
        have hmN : q + 1 ≤ xs.length := hm
        clear c0 c1 c2 c3 c4 c5 c6 br hkp hkx hk0 h0 hm
        generalize q + 1 = N at *
        go_loopw [4, 5] (fun u i wr => ∃ j : Nat, i = .int .i64 j ∧ j ≤ N ∧ OI w.heap.size u (runesUp xs j) w wr) (fun _ i _ => N - (intOf i).toNat)
        case atStart =>
          refine ⟨0, rfl, Nat.zero_le _, ?_, bal' _ _, by simp, Nat.le_refl _⟩
          have := World.ownsRow_lit (base := w.heap.size) (e := 2) (size := 1) w #[] 0 (Nat.le_refl _) (Nat.zero_le _) rfl
          simpa [runesUp] using this
        case round =>
          obtain ⟨j, rfl, hj, k⟩ := hrel
          by_cases hlt : j < N
          · have hji : (j : Int) < (N : Int) := by omega
            have hj0 : (0 : Int) ≤ (j : Int) := by omega
            have hjx : (j : Int) < (xs.length : Int) := by omega
            obtain ⟨b, off, ha, hbb, hat⟩ := (hv.below k.2.1).atE j (by omega)
            simp only [Option.some.injEq] at ha
            try subst ha
            try cases ha
            obtain ⟨d0, d1, d2, d3, d4, d5, d6⟩ := hat
            have hln : (runesUp xs j).length < 2000000 := by have := runesUp_len xs j; omega
            by_cases hp : (atC xs j).part = 2
            · have bp : ((atC xs j).part != 2) = false := by simp [hp]
              have hst : Hid (runesUp xs (j + 1) = runesUp xs j) := by show _ = _; rw [runesUp, if_pos hp]
              clear hp
              generalize runesUp xs j = L at *
              go_wp2
              go_roundw
              case rel => exact ⟨j + 1, by go_num, by omega, by rw [hst.out]; exact k⟩
              case measure => simp [intOf]; omega
            · have bp : ((atC xs j).part != 2) = true := by simp [hp]
              have hst : Hid (runesUp xs (j + 1) = runesUp xs j ++ [(atC xs j).rune]) := by show _ = _; rw [runesUp, if_neg hp]
              clear hp
              generalize runesUp xs j = L at *
              go_wp2_with (at_builtin; refine append_oi rfl _ _ rfl w.heap.size _ L w (atC xs j).rune rfl (by exact k) hln _ (by simp) rfl ?_; intro v' w' k2)
              clear k d0 d1 d2 d3 d4 d5 d6
              go_wp2
              go_roundw
              case rel => exact ⟨j + 1, by go_num, by omega, by rw [hst.out]; exact k2⟩
              case measure => simp [intOf]; omega
          · have hjn : j = N := by omega
            have hji : ¬ (j : Int) < (N : Int) := by omega
            subst hjn
            have hln := runesUp_len xs j
            generalize runesUp xs j = L at *
            go_wp2_with fail
            refine (specText_any _ L _ (SlI.of_own k.1) (by omega)).mono ?_
            rintro e w2 ⟨rfl, hb⟩
            go_wp2
            go_ret
            exact ⟨by rw [hN.out]; rfl, k.2.1.trans (hb.mono k.2.1.size)⟩
set_option maxHeartbeats 1000000 in
theorem specRowText_any (v : Value) (xs : List Ce) (w : World) (hv : SlC w v xs) (hl : xs.length ≤ 1048576) :
    Calls Tryd.prog 22 #[v] w fun e w' => e = .returned (.string (rowTextV xs)) ∧ Below w.heap.size w w' := by
  have hok := specRowOk_any v xs w hv hl
  cases hb : rowOkB xs
  · have hT : Hid (rowTextV xs = ⟨#[]⟩) := by show _ = _; unfold rowTextV; rw [if_neg (by rw [hb]; decide)]
    rw [hb] at hok
    go_enter Tryd.func22, Tryd.ntmps22
    go_wp2_with fail
    refine hok.mono ?_
    rintro e w1 ⟨rfl, hb1⟩
    clear hb hok
    go_wp2
    go_ret
    exact ⟨by rw [hT.out]; rfl, hb1⟩
  · have hT : Hid (rowTextV xs = textV (rowRunes xs)) := by show _ = _; unfold rowTextV; rw [if_pos hb]
    have hlen : xs.length ≤ 1000 := by rcases Classical.em (1 ≤ xs.length ∧ xs.length ≤ 60) with h | h; omega; rw [rowOkB_len xs h] at hb; cases hb
    have ht := fun W h => l4Text_any v xs W h hlen
    rw [hb] at hok
    go_enter Tryd.func22, Tryd.ntmps22
    go_wp2_with fail
    refine hok.mono ?_
    rintro e w1 ⟨rfl, hb1⟩
    clear hb hok
    go_wp2_with fail
    refine (ht _ (hv.below hb1)).mono ?_
    rintro e w2 ⟨rfl, hb2⟩
    go_wp2
    go_ret
    exact ⟨by rw [hT.out]; rfl, hb1.trans (hb2.mono hb1.size)⟩
end Go.Proofs.YteimcepkoclpbaaDoor
