/- Contracts: the program's tests on parsers. The laws' own helper: two lists alike. Contracts of the program's Parsed and Step: first part. What an argument that is a parser is, once it can be read. A struct of many cells, loaded and stored as a whole, behind a guard too. Contracts of formOf. Contracts of spec.l1Put, and bytes made a string. Contracts of the program's Put. Contracts of Put. Contracts of Get. Contract of impl.cutShort. Contract of spec.Get. Contract of spec.l1Part. A rune that is cut short: two ways to tell it are one. Plain mathematics on bytes. The two ways to tell a rune that is cut short are one. Contracts of FeederOk. A screen as numbers, and in memory. What an argument that is a screen is, once it can be read. Contracts of the specification's new grids. What changes within a range of blocks alone; a grid's rows within a range. Right rows: what keeps them right. Plain mathematics. Contract of the program's StyleOk. Two styles compared. Contracts of the program's RowOk. A cell whole in a block of its own. Contract of the program's RowOk. -/
import Derived.Test.YtlmnhlfklbgjdaaDoorP1
import Derived.Laws.AppendOwnNone
import Derived.ChangeOld
import Derived.Below
import Derived.Laws.Rows
import Derived.Laws.Tables
import Derived.Laws.BytesArg
import Derived.WalkSpells
import Derived.Laws.RangeAny
import Derived.Lib.OthersKept
import Derived.Deep.RegionWith
import Derived.WalkLawsBesides
import Derived.Deep.RegionHeld3
import Derived.Laws.StructEq
namespace Go.Proofs.YtlmnhlfklbgjdaaDoor
open Go.ChangeShapes Go.WideShapes Go.ChangeAt Go.RowKit
set_option maxHeartbeats 1000000 in
theorem allRunes_any (v : Value) (xs : List Int) (w : World) (hv : SlI w v xs) (hl : xs.length ≤ 1073741824) :
    Calls Tryd.prog 71 #[v] w fun e w' => e = .returned (.bool (runesB xs)) ∧ w' = w := by
  obtain ⟨a, c, rfl, hc⟩ := hv.cons
  clear hv
  go_enter Tryd.func71, Tryd.ntmps71
  go_wp2
  go_loop [4, 7] (fun _ i => ∃ j : Nat, i = .int .i64 j ∧ j ≤ xs.length ∧ Hid (∀ k, k < j → runeOk (xs.getD k 0) = true)) (fun _ i => xs.length - (intOf i).toNat)
  case atStart => exact ⟨0, rfl, Nat.zero_le _, (fun k hk => absurd hk (Nat.not_lt_zero k))⟩
  case round =>
    obtain ⟨j, rfl, hj, hall⟩ := hrel
    by_cases hlt : j < xs.length
    · have hji : (j : Int) < (xs.length : Int) := by omega
      have hj0 : (0 : Int) ≤ (j : Int) := by omega
      obtain ⟨b, off, rfl, hcj⟩ := hc j hlt
      have hno : runeOk (xs.getD j 0) = false → Hid (runesB xs = false) := fun h => runesB_no j hlt h
      have hstep : runeOk (xs.getD j 0) = true → Hid (∀ k, k < j + 1 → runeOk (xs.getD k 0) = true) := fun h => (show ∀ k, k < j + 1 → runeOk (xs.getD k 0) = true from fun k hk => by
        by_cases e : k = j
        · rw [e]; exact h
        · exact hall.out k (by omega))
      have hok := implRuneOk_any (xs.getD j 0) w
      clear hc hall
      generalize xs.getD j 0 = x at *
      generalize runeOk x = ok at *
      go_wp2_with fail
      refine hok.mono ?_
      rintro e w2 ⟨rfl, hw⟩
      subst hw
      clear hok
      cases ok
      · have hV := hno rfl
        clear hno hstep
        go_wp2
        go_ret
        exact ⟨by rw [hV.out]; rfl, rfl⟩
      · have hall2 := hstep rfl
        clear hno hstep
        go_wp2
        go_round
        case rel => exact ⟨j + 1, by go_num, by omega, hall2⟩
        case measure => simp [intOf]; omega
    · have hjn : j = xs.length := by omega
      have hji : ¬ (j : Int) < (xs.length : Int) := by omega
      have hV : Hid (runesB xs = true) := runesB_yes (by rw [← hjn]; exact hall.out)
      clear hc hall
      subst hjn
      go_wp2
      go_ret
      exact ⟨by rw [hV.out]; rfl, rfl⟩
set_option maxHeartbeats 1000000 in
theorem paramsOk_any (v : Value) (xs : List Int) (w : World) (hv : SlI w v xs) (hl : xs.length ≤ 1073741824) :
    Calls Tryd.prog 72 #[v] w fun e w' => e = .returned (.bool (paramsB xs && decide (xs.length ≤ 16))) ∧ w' = w := by
  obtain ⟨a, c, rfl, hc⟩ := hv.cons
  clear hv
  obtain ⟨rv, hrv⟩ : ∃ rv, Hid (rv = (paramsB xs && decide (xs.length ≤ 16))) := ⟨_, rfl⟩
  rw [← hrv.out]
  go_enter Tryd.func72, Tryd.ntmps72
  go_wp2
  go_loop [4, 7] (fun _ i => ∃ j : Nat, i = .int .i64 j ∧ j ≤ xs.length ∧ Hid (∀ k, k < j → 0 ≤ xs.getD k 0 ∧ xs.getD k 0 ≤ 9999)) (fun _ i => xs.length - (intOf i).toNat)
  case atStart => exact ⟨0, rfl, Nat.zero_le _, (fun k hk => absurd hk (Nat.not_lt_zero k))⟩
  case round =>
    obtain ⟨j, rfl, hj, hall⟩ := hrel
    by_cases hlt : j < xs.length
    · have hji : (j : Int) < (xs.length : Int) := by omega
      have hj0 : (0 : Int) ≤ (j : Int) := by omega
      obtain ⟨b, off, rfl, hcj⟩ := hc j hlt
      have hno : ¬ (0 ≤ xs.getD j 0 ∧ xs.getD j 0 ≤ 9999) → Hid (rv = false) := fun h => (show rv = false by rw [hrv.out, paramsB_no j hlt h]; rfl)
      have hstep : (0 ≤ xs.getD j 0 ∧ xs.getD j 0 ≤ 9999) → Hid (∀ k, k < j + 1 → 0 ≤ xs.getD k 0 ∧ xs.getD k 0 ≤ 9999) := fun h => (show ∀ k, k < j + 1 → 0 ≤ xs.getD k 0 ∧ xs.getD k 0 ≤ 9999 from fun k hk => by
        by_cases e : k = j
        · rw [e]; exact h
        · exact hall.out k (by omega))
      clear hc hall
      generalize xs.getD j 0 = x at *
      by_cases h1 : x < 0
      · have hV := hno (by omega)
        clear hno hstep
        go_wp2
        go_ret
        exact ⟨by rw [hV.out]; rfl, rfl⟩
      · by_cases h2 : 9999 < x
        · have hV := hno (by omega)
          clear hno hstep
          go_wp2
          go_ret
          exact ⟨by rw [hV.out]; rfl, rfl⟩
        · have hall2 := hstep (by omega)
          clear hno hstep
          go_wp2
          go_round
          case rel => exact ⟨j + 1, by go_num, by omega, hall2⟩
          case measure => simp [intOf]; omega
    · have hjn : j = xs.length := by omega
      have hji : ¬ (j : Int) < (xs.length : Int) := by omega
      have hV : Hid (rv = decide (xs.length ≤ 16)) := by
        show _ = _
        rw [hrv.out, paramsB_yes (by rw [← hjn]; exact hall.out), Bool.true_and]
      clear hc hall hrv
      subst hjn
      by_cases h3 : xs.length ≤ 16
      · have h3i : (xs.length : Int) ≤ 16 := by omega
        rw [decide_eq_true h3] at hV
        go_wp2
        go_ret
        exact ⟨by rw [hV.out]; simp, rfl⟩
      · have h3i : ¬ (xs.length : Int) ≤ 16 := by omega
        rw [decide_eq_false h3] at hV
        go_wp2
        go_ret
        exact ⟨by rw [hV.out]; simp, rfl⟩
theorem markOk_any (m : Int) (w : World) :
    Calls Tryd.prog 73 #[.int .i64 m] w fun e w' => e = .returned (.bool (decide (m = 0 ∨ m = 63))) ∧ w' = w := by
  by_cases h : m = 0
  · subst h
    go_enter Tryd.func73, Tryd.ntmps73
    go_wp2
    go_ret
    exact ⟨rfl, rfl⟩
  · by_cases h2 : m = 63
    · subst h2
      go_enter Tryd.func73, Tryd.ntmps73
      go_wp2
      go_ret
      exact ⟨rfl, rfl⟩
    · have hi : (m == 0) = false := by simp [h]
      have hi2 : (m == 63) = false := by simp [h2]
      have hV : Hid (decide (m = 0 ∨ m = 63) = false) := decide_eq_false (by omega)
      clear h h2
      go_enter Tryd.func73, Tryd.ntmps73
      go_wp2
      go_ret
      exact ⟨by rw [hV.out]; rfl, rfl⟩
theorem titleOk_any (v : Value) (xs : List Int) (w : World) (hv : SlI w v xs) (hl : xs.length ≤ 1073741824) :
    Calls Tryd.prog 54 #[v] w fun e w' => e = .returned (.bool (decide (xs.length ≤ 40) && runesB xs)) ∧ w' = w := by
  have hR := allRunes_any v xs w hv hl
  obtain ⟨a, c, rfl⟩ := hv.shp
  clear hv
  obtain ⟨rv, hrv⟩ : ∃ rv, Hid (rv = (decide (xs.length ≤ 40) && runesB xs)) := ⟨_, rfl⟩
  rw [← hrv.out]
  by_cases h3 : xs.length ≤ 40
  · have h3i : (xs.length : Int) ≤ 40 := by omega
    have hV : Hid (rv = runesB xs) := by show _ = _; rw [hrv.out, decide_eq_true h3, Bool.true_and]
    clear hrv
    generalize runesB xs = q at *
    go_enter Tryd.func54, Tryd.ntmps54
    go_wp2_with (go_at_call 71; refine hR.mono ?_; rintro e w' ⟨rfl, rfl⟩)
    go_ret
    exact ⟨by rw [hV.out]; first | rfl | simp, rfl⟩
  · have h3i : ¬ (xs.length : Int) ≤ 40 := by omega
    have hV : Hid (rv = false) := by show _ = _; rw [hrv.out, decide_eq_false h3, Bool.false_and]
    clear hR hrv
    go_enter Tryd.func54, Tryd.ntmps54
    go_wp2
    go_ret
    exact ⟨by rw [hV.out]; first | rfl | simp, rfl⟩
set_option maxHeartbeats 4000000 in
set_option maxRecDepth 20000 in
theorem implParserOk_any (p : Pa) (pv tv : Value) (w : World) (hp : SlI w pv p.params) (ht : SlI w tv p.text) (hpl : p.params.length ≤ 1073741824) (htl : p.text.length ≤ 1073741824) :
    Calls Tryd.prog 55 #[paV p pv tv] w fun e w' => e = .returned (.bool (okV p)) ∧ Below w.heap.size w w' := by
  obtain ⟨s, ps, m, ts⟩ := p
  have hb0 := bal' w (Obj.cells #[.int .i64 s, pv, .int .i64 m, tv] 40)
  have hP := PaC.new w s m pv tv 40
  have hp1 := hp.below hb0
  have ht1 := ht.below hb0
  have hR := titleOk_any tv ts _ ht1 htl
  have hQ := paramsOk_any pv ps _ hp1 hpl
  have hM := fun W => markOk_any m W
  obtain ⟨pa, pc, rfl⟩ := hp1.shp
  obtain ⟨ta, tc, rfl⟩ := ht1.shp
  simp only at *
  obtain ⟨rv, hrv⟩ : ∃ rv, Hid (rv = okV ⟨s, ps, m, ts⟩) := ⟨_, rfl⟩
  rw [← hrv.out]
  have hval : Hid (rv = (decide (1 ≤ s ∧ s ≤ 5) && (paramsB ps && decide (ps.length ≤ 16)) && decide (m = 0 ∨ m = 63) && (decide (ts.length ≤ 40) && runesB ts) && (decide (s = 3) || decide (ps.length = 0) && decide (m = 0)) && (decide (4 ≤ s) || decide (ts.length = 0)))) := by
    show _ = _
    rw [hrv.out]
    unfold okV
    rw [Bool.eq_iff_iff]
    simp only [Bool.and_eq_true, Bool.or_eq_true, decide_eq_true_eq]
    constructor
    · rintro ⟨⟨⟨a1, a2, a3, a4, a5, a6, a7⟩, a8⟩, a9⟩; exact ⟨⟨⟨⟨⟨⟨a1, a2⟩, a9, a3⟩, a4⟩, a5, a8⟩, a6⟩, a7⟩
    · rintro ⟨⟨⟨⟨⟨⟨a1, a2⟩, a9, a3⟩, a4⟩, a5, a8⟩, a6⟩, a7⟩; exact ⟨⟨⟨a1, a2, a3, a4, a5, a6, a7⟩, a8⟩, a9⟩
  have hps0 : ps.length = 0 → (paramsB ps && decide (ps.length ≤ 16)) = true := fun h => by
    rw [List.eq_nil_of_length_eq_zero h]; rfl
  have hts0 : ts.length = 0 → (decide (ts.length ≤ 40) && runesB ts) = true := fun h => by
    rw [List.eq_nil_of_length_eq_zero h]; rfl
  unfold paV
  obtain ⟨_, ⟨c0, c1, c2, c3⟩, _⟩ := id hP
  clear hP hp ht hp1 hrv ht1
  generalize (paramsB ps && decide (ps.length ≤ 16)) = qp at *
  generalize (decide (ts.length ≤ 40) && runesB ts) = qt at *
  generalize hnp : ps.length = np at *
  generalize hnt : ts.length = nt at *
  clear hnp hnt
  have zm : ∀ b, (b = true ↔ m = 0) → True := fun _ _ => trivial
  clear zm
  have hnm : m = 0 → decide (m = 0 ∨ m = 63) = true := fun h => by simp [h]
  generalize hmk : decide (m = 0 ∨ m = 63) = mk at *
  by_cases hs1 : s = 1 ∨ s = 2
  · have e1 : Hid (rv = (decide (np = 0) && decide (m = 0) && decide (nt = 0))) := by
      show _ = _
      rw [hval.out]
      by_cases z1 : np = 0
      · by_cases z2 : m = 0
        · by_cases z3 : nt = 0
          · rw [hps0 z1, hts0 z3, hnm z2]; rcases hs1 with rfl | rfl <;> simp [z1, z2, z3]
          · rcases hs1 with rfl | rfl <;> simp [z3]
        · rcases hs1 with rfl | rfl <;> simp [z2]
      · rcases hs1 with rfl | rfl <;> simp [z1]
    clear hval hps0 hts0 hnm hmk hR hQ hM
    by_cases z1 : np = 0
    · subst z1
      by_cases z2 : m = 0
      · subst z2
        by_cases z3 : nt = 0
        · subst z3
          rcases hs1 with rfl | rfl
          all_goals
            go_enter Tryd.func55, Tryd.ntmps55
            go_wp2
            go_ret
            exact ⟨by rw [e1.out]; rfl, hb0⟩
        · have z3i : ((nt : Int) == 0) = false := by simp; omega
          have e2 : Hid (rv = false) := by show _ = _; rw [e1.out]; simp [z3]
          clear e1 z3
          rcases hs1 with rfl | rfl
          all_goals
            go_enter Tryd.func55, Tryd.ntmps55
            go_wp2
            go_ret
            exact ⟨by rw [e2.out]; rfl, hb0⟩
      · have z2i : (m == 0) = false := by simp [z2]
        have e2 : Hid (rv = false) := by show _ = _; rw [e1.out]; simp [z2]
        clear e1 z2
        rcases hs1 with rfl | rfl
        all_goals
          go_enter Tryd.func55, Tryd.ntmps55
          go_wp2
          go_ret
          exact ⟨by rw [e2.out]; rfl, hb0⟩
    · have z1i : ((np : Int) == 0) = false := by simp; omega
      have e2 : Hid (rv = false) := by show _ = _; rw [e1.out]; simp [z1]
      clear e1 z1
      rcases hs1 with rfl | rfl
      all_goals
        go_enter Tryd.func55, Tryd.ntmps55
        go_wp2
        go_ret
        exact ⟨by rw [e2.out]; rfl, hb0⟩
  · by_cases hs3 : s = 3
    · subst hs3
      have e1 : Hid (rv = (qp && mk && decide (nt = 0))) := by
        show _ = _
        rw [hval.out]
        by_cases z3 : nt = 0
        · rw [hts0 z3]; simp [z3]
        · simp [z3]
      clear hval hps0 hts0 hnm hmk hR hs1
      cases qp
      · go_enter Tryd.func55, Tryd.ntmps55
        go_wp2_with (go_at_call 72; refine hQ.mono ?_; rintro e w' ⟨rfl, rfl⟩)
        go_ret
        exact ⟨by rw [e1.out]; rfl, hb0⟩
      · cases mk
        · go_enter Tryd.func55, Tryd.ntmps55
          go_wp2_with (first | (go_at_call 72; refine hQ.mono ?_; rintro e w' ⟨rfl, rfl⟩) | (go_at_call 73; refine (hM _).mono ?_; rintro e w' ⟨rfl, rfl⟩))
          go_ret
          exact ⟨by rw [e1.out]; rfl, hb0⟩
        · by_cases z3 : nt = 0
          · subst z3
            go_enter Tryd.func55, Tryd.ntmps55
            go_wp2_with (first | (go_at_call 72; refine hQ.mono ?_; rintro e w' ⟨rfl, rfl⟩) | (go_at_call 73; refine (hM _).mono ?_; rintro e w' ⟨rfl, rfl⟩))
            go_ret
            exact ⟨by rw [e1.out]; rfl, hb0⟩
          · have z3i : ((nt : Int) == 0) = false := by simp; omega
            have e2 : Hid (rv = false) := by show _ = _; rw [e1.out]; simp [z3]
            clear e1 z3
            go_enter Tryd.func55, Tryd.ntmps55
            go_wp2_with (first | (go_at_call 72; refine hQ.mono ?_; rintro e w' ⟨rfl, rfl⟩) | (go_at_call 73; refine (hM _).mono ?_; rintro e w' ⟨rfl, rfl⟩))
            go_ret
            exact ⟨by rw [e2.out]; rfl, hb0⟩
    · by_cases hs4 : s = 4 ∨ s = 5
      · have e1 : Hid (rv = (decide (np = 0) && decide (m = 0) && qt)) := by
          show _ = _
          rw [hval.out]
          by_cases z1 : np = 0
          · by_cases z2 : m = 0
            · rw [hps0 z1, hnm z2]; rcases hs4 with rfl | rfl <;> simp [z1, z2]
            · rcases hs4 with rfl | rfl <;> simp [z2]
          · rcases hs4 with rfl | rfl <;> simp [z1]
        clear hval hps0 hts0 hnm hmk hQ hM hs1 hs3
        by_cases z1 : np = 0
        · subst z1
          by_cases z2 : m = 0
          · subst z2
            rcases hs4 with rfl | rfl
            all_goals
              go_enter Tryd.func55, Tryd.ntmps55
              go_wp2_with (go_at_call 54; refine hR.mono ?_; rintro e w' ⟨rfl, rfl⟩)
              go_ret
              exact ⟨by rw [e1.out]; rfl, hb0⟩
          · have z2i : (m == 0) = false := by simp [z2]
            have e2 : Hid (rv = false) := by show _ = _; rw [e1.out]; simp [z2]
            clear e1 z2 hR
            rcases hs4 with rfl | rfl
            all_goals
              go_enter Tryd.func55, Tryd.ntmps55
              go_wp2
              go_ret
              exact ⟨by rw [e2.out]; rfl, hb0⟩
        · have z1i : ((np : Int) == 0) = false := by simp; omega
          have e2 : Hid (rv = false) := by show _ = _; rw [e1.out]; simp [z1]
          clear e1 z1 hR
          rcases hs4 with rfl | rfl
          all_goals
            go_enter Tryd.func55, Tryd.ntmps55
            go_wp2
            go_ret
            exact ⟨by rw [e2.out]; rfl, hb0⟩
      · have e1 : Hid (rv = false) := by
          show _ = _
          rw [hval.out, decide_eq_false (by omega)]; simp
        have i1 : (s == 1) = false := by simp; omega
        have i2 : (s == 2) = false := by simp; omega
        have i3 : (s == 3) = false := by simp; omega
        have i4 : (s == 4) = false := by simp; omega
        have i5 : (s == 5) = false := by simp; omega
        clear hval hps0 hts0 hnm hmk hR hQ hM hs1 hs3 hs4
        go_enter Tryd.func55, Tryd.ntmps55
        go_wp2
        go_ret
        exact ⟨by rw [e1.out]; rfl, hb0⟩
end Go.Proofs.YtlmnhlfklbgjdaaDoor
namespace Go.Proofs.YtlmnhlfklbgjdaaDoor
open Go.ChangeShapes Go.WideShapes Go.ChangeAt Go.RowKit
/-- A slice whose cells hold these values, one a place: what append takes its news from. -/
def ReadsRow (w : World) (u : Value) (news : List Value) : Prop :=
  (u = .slice none 0 0 ∧ news = []) ∨ ∃ ad c, u = .slice (some ad) news.length c ∧ ∀ j x, news[j]? = some x → w.cell? (ad.add j) = some x
theorem ReadsRow.of_own {w : World} {base : Nat} {e : TypeId} {v : Value} {n : Nat} {xs : List Value} (h : w.ownsRow base e 1 v n xs) : ReadsRow w v xs := by
  have hl : xs.length = n := by simpa using h.1
  rcases h.2 with ⟨rfl, rfl⟩ | ⟨g, cap, cur, hv, _⟩
  · exact .inl ⟨rfl, List.eq_nil_of_length_eq_zero hl⟩
  · exact .inr ⟨⟨g, 0, none⟩, cap, by rw [hv, hl], h.cells (by rw [hv]; rfl)⟩
theorem ReadsRow.below {w w' : World} {u : Value} {news : List Value} (h : ReadsRow w u news) (hb : Below w.heap.size w w') : ReadsRow w' u news := by
  rcases h with h | ⟨ad, c, hu, hc⟩
  · exact .inl h
  · refine .inr ⟨ad, c, hu, fun j x hx => ?_⟩
    have h1 := hc j x hx
    exact (hb.cell (World.block_lt_of_cell? w _ h1)).trans h1
end Go.Proofs.YtlmnhlfklbgjdaaDoor
namespace Go.Proofs.YtlmnhlfklbgjdaaDoor
open Go.ChangeShapes Go.WideShapes Go.ChangeAt Go.RowKit
/-- A slice that can be read, cut and copied. -/
def SlN (w : World) (v : Value) (xs : List Int) : Prop :=
  ∃ a c, v = .slice a xs.length c ∧ xs.length ≤ c ∧ (a = none → c = 0) ∧ (xs = [] ∨ ∃ b off, a = some ⟨b, off, none⟩ ∧ b < w.heap.size ∧ ∀ i, i < xs.length → w.cell? ⟨b, off + i, none⟩ = some (.int .i64 (xs.getD i 0)))
theorem SlN.l {w : World} {v : Value} {xs : List Int} (h : SlN w v xs) : SlL w v xs := by
  obtain ⟨a, c, hv, hc, _, hr⟩ := h
  exact ⟨a, c, hv, hc, hr⟩
theorem SlN.below {w w' : World} {v : Value} {xs : List Int} (h : SlN w v xs) (hb : Below w.heap.size w w') : SlN w' v xs := by
  obtain ⟨a, c, hv, hc0, hn, h | ⟨b, off, ha, hlt, hc⟩⟩ := h
  · exact ⟨a, c, hv, hc0, hn, .inl h⟩
  · exact ⟨a, c, hv, hc0, hn, .inr ⟨b, off, ha, Nat.lt_of_lt_of_le hlt hb.size, fun i hi => (hb.cell (p := ⟨b, off + i, none⟩) hlt).trans (hc i hi)⟩⟩
theorem SlN.of_own {w : World} {base : Nat} {v : Value} {xs : List Int} (h : OwnI w base v xs) : SlN w v xs := by
  rcases h.2 with ⟨rfl, h2⟩ | ⟨g, cap, cur, rfl, hb, hg, hn, hr⟩
  · exact ⟨none, 0, by rw [h2], by omega, fun _ => rfl, .inl (List.eq_nil_of_length_eq_zero h2)⟩
  · refine ⟨_, cap, rfl, hn, (fun e => by cases e), .inr ⟨g, 0, rfl, (Array.getElem?_eq_some_iff.1 hg).1, fun i hi => ?_⟩⟩
    have := World.ownsRow.cellAt h i (by omega)
    rw [Nat.zero_add, this]
    simp [hi]
theorem SlN.shp {w : World} {v : Value} {xs : List Int} (h : SlN w v xs) : ∃ a c, v = .slice a xs.length c := h.l.sl.shp
/-- Four cells of a parser are written. -/
def putP (w : World) (B : Nat) (s : Int) (pv : Value) (m : Int) (tv : Value) : World := (((w.setCell ⟨B, 0, none⟩ (.int .i64 s)).setCell ⟨B, 1, none⟩ pv).setCell ⟨B, 2, none⟩ (.int .i64 m)).setCell ⟨B, 3, none⟩ tv
theorem putP_grown (w : World) (B : Nat) (s : Int) (pv : Value) (m : Int) (tv : Value) : w.grownBy (putP w B s pv m tv) (some B) :=
  grown_tr (grown_tr (grown_tr (setCell_gr w B 0 _) (setCell_gr _ B 1 _)) (setCell_gr _ B 2 _)) (setCell_gr _ B 3 _)
theorem PaC.put {w : World} {B : Nat} {s m : Int} {pv tv : Value} (h : PaC w B s pv m tv) (s' m' : Int) (pv' tv' : Value) : PaC (putP w B s' pv' m' tv') B s' pv' m' tv' := by
  obtain ⟨hlt, ⟨c0, c1, c2, c3⟩, ⟨z0, z1, z2, z3⟩⟩ := h
  refine ⟨by simpa [putP] using hlt, ⟨?_, ?_, ?_, ?_⟩, ⟨?_, ?_, ?_, ?_⟩⟩
  all_goals simp only [putP]
  · simp [go_sem, c0]
  · simp [go_sem, c1]
  · simp [go_sem, c2]
  · simp [go_sem, c3]
  all_goals simp [go_sem, z0, z1, z2, z3]
end Go.Proofs.YtlmnhlfklbgjdaaDoor
namespace Go.Proofs.YtlmnhlfklbgjdaaDoor
open Go.ChangeShapes Go.WideShapes Go.ChangeAt Go.RowKit
section
variable {H : Type} {enc : TypeId × Value → H} {w : World} {base : Nat} {spare : Nat → Bool} {held : Bool}
theorem slN_of {w : World} {x : Addr} {l c : Nat} {zs : List Int} (hl : l ≤ c) (hz : l ≤ zs.length) (hc : ∀ i, i < zs.length → w.cell? (x.add i) = some (.int .i64 (zs.getD i 0))) : SlN w (.slice (some x) l c) (zs.take l) ∧ (zs.take l).length = l := by
  have hlen : (zs.take l).length = l := by rw [List.length_take]; omega
  refine ⟨⟨some x, c, by rw [hlen], by rw [hlen]; exact hl, (fun e => by cases e), ?_⟩, hlen⟩
  by_cases h0 : l = 0
  · left; subst h0; simp
  · right
    obtain ⟨b, off, spot⟩ := x
    have h1 := hc 0 (by omega)
    have hspot : spot = none := by simpa [Addr.add] using World.cell?_spot h1
    subst hspot
    refine ⟨b, off, rfl, World.block_lt_of_cell? w _ h1, fun i hi => ?_⟩
    rw [hlen] at hi
    have h2 := hc i (by omega)
    have e : (zs.take l).getD i 0 = zs.getD i 0 := by simp [List.getD, hi]
    rw [e, ← h2]
    by_cases hi0 : i = 0
    · subst hi0; simp [Addr.add]
    · simp [Addr.add, hi0]
theorem ints_tr {fuel : Nat} {cs : List Value} {y : DataW H × List MemPlace} (hf : DataW.trod enc Tryd.prog w base spare held fuel 27 cs = some y) :
    ∃ (v : Value) (xs : List Int), cs = [v] ∧ SlN w v xs ∧ xs.length ≤ maxLen := by
  rcases open_ints Tryd.underlying27 Tryd.underlying2 (by kernel_rfl) hf with ⟨hcs, _⟩ | ⟨x, l, c, zs, hcs, _, hl, hm, hz, _, hcell, hwz⟩
  · exact ⟨_, [], hcs, ⟨none, 0, rfl, Nat.le_refl _, fun _ => rfl, .inl rfl⟩, by simp⟩
  · have := slN_of (w := w) (x := x) hl (by rw [hz]; split <;> omega) hcell
    exact ⟨_, _, hcs, this.1, by rw [this.2]; omega⟩
end
end Go.Proofs.YtlmnhlfklbgjdaaDoor
namespace Go.Proofs.YtlmnhlfklbgjdaaDoor
open Go.ChangeShapes Go.WideShapes Go.ChangeAt Go.RowKit
theorem load_T {P : Program} {w : World} {ops : Array Oper} {rest : List Oper} {o : Oper} {a : Act} {Q : Exit → Act → World → Prop} (hgd : Region.wanted o (yielded ops a.tmps) = true) (t : TypeId) (x : Operand)
    (ho : o.op = .load t x) {e : TypeId} {B : Nat} {cs : Array Value} {fr : Nat × Nat} {d : TypeDesc} (hu : P.underlying t = some d) (hd : (match d with | .struct _ | .array _ _ => true | _ => false) = true) (hi : (P.info? t).map (·.size) = some cs.size) (hb : w.heap[B]? = some (.cells cs e fr)) (hx : a.eval x = .pointer (some ⟨B, 0, none⟩))
    (h : wpList P ops Q rest (a.put o.dst (.agg cs)) w) : wpList P ops Q (o :: rest) a w := by
  refine wpList_step fun K hK => ?_
  rw [if_pos hgd]
  exact wp_load_row t x ho B hx e cs fr d hb hu hd hi (hK _ _ h)
theorem setRow_gr (w : World) (g : Nat) (cs : Array Value) : w.grownBy (w.setRow g cs) (some g) := by
  refine ⟨rfl, rfl, rfl, by simp, fun k _ hk => ?_⟩
  have : ¬ g = k := fun e => hk (by rw [e])
  simp only [World.setRow]
  rw [Array.getElem?_modify]
  simp [this]
theorem store_T {P : Program} {w : World} {ops : Array Oper} {rest : List Oper} {o : Oper} {a : Act} {Q : Exit → Act → World → Prop} (hgd : Region.wanted o (yielded ops a.tmps) = true) (t : TypeId) (x y : Operand)
    (ho : o.op = .store t x y) {e : TypeId} {B : Nat} {old cs : Array Value} (hi : (P.info? t).map (·.size) = some cs.size) (hold : old.size = cs.size) (h1 : cs.toList.all (·.oneCell') = true) (hb : w.heap[B]? = some (.cells old e (0, 0))) (hx : a.eval x = .pointer (some ⟨B, 0, none⟩)) (hy : a.eval y = .agg cs)
    (h : ∀ w', w.grownBy w' (some B) → w'.heap[B]? = some (.cells cs e (0, 0)) → w'.heap.size = w.heap.size → wpList P ops Q rest (a.put o.dst undef) w') : wpList P ops Q (o :: rest) a w := by
  refine wpList_step fun K hK => ?_
  rw [if_pos hgd]
  exact wp_store_row t x y ho B cs hx hy e old hb hi hold (by rw [← Array.all_toList]; exact h1) (hK _ _ (h _ (setRow_gr w B cs) (setRow_heap w B old cs e (0, 0) hb) (by simp)))
def setV (L : List Value) : Nat → List Value → List Value
  | _, [] => L
  | k, v :: l => setV (L.set k v) (k + 1) l
theorem setCells_heap (B : Nat) (e : TypeId) : ∀ (l : List Value) (k : Nat) (w : World) (L : List Value), w.heap[B]? = some (.cells L.toArray e (0, 0)) → (w.setCells B k l).heap[B]? = some (.cells (setV L k l).toArray e (0, 0))
  | [], _, _, _, h => h
  | v :: l, k, w, _, h => setCells_heap B e l (k + 1) _ _ (by rw [heap_setCell_same w B k _ _ v h]; simp)
theorem setCells_gr (B : Nat) : ∀ (l : List Value) (k : Nat) (w : World), w.grownBy (w.setCells B k l) (some B)
  | [], _, _ => World.grownBy.refl _ _
  | v :: l, k, w => grown_tr (setCell_gr w B k v) (setCells_gr B l (k + 1) _)
theorem setCells_size (B : Nat) : ∀ (l : List Value) (k : Nat) (w : World), (w.setCells B k l).heap.size = w.heap.size
  | [], _, _ => rfl
  | v :: l, k, w => by rw [World.setCells, setCells_size B l]; simp
/-- A block's cells, named. -/
def BlkC (w : World) (B : Nat) (e : TypeId) (L : List Value) : Prop := w.heap[B]? = some (.cells L.toArray e (0, 0))
/-- A value into a part of a block. -/
theorem store_at {P : Program} {w : World} {ops : Array Oper} {rest : List Oper} {o : Oper} {a : Act} {Q : Exit → Act → World → Prop} (hgd : Region.wanted o (yielded ops a.tmps) = true) (t : TypeId) (x y : Operand)
    (ho : o.op = .store t x y) {e : TypeId} {B k n : Nat} {cs : List Value} {v : Value} (hi : (P.info? t).map (·.size) = some n) (hb : BlkC w B e cs) (hx : a.eval x = .pointer (some ⟨B, k, none⟩)) (hy : a.eval y = v) (hn : v.cells.size = n) (h1 : v.cells.toList.all (·.oneCell') = true) (hk : Nat.ble (k + n) cs.length = true)
    (h : ∀ w', w.grownBy w' (some B) → BlkC w' B e (setV cs k v.cells.toList) → w'.heap.size = w.heap.size → wpList P ops Q rest (a.put o.dst undef) w') : wpList P ops Q (o :: rest) a w := by
  have hk := Nat.le_of_ble_eq_true hk
  rw [← hn] at hi hk
  refine wpList_step fun K hK => ?_
  rw [if_pos hgd]
  have hs := run_storeCells_cells (P := P) B k v.cells.toList 0 w (fun j hj => by
      rw [cell_of_row w B _ cs.toArray e (0, 0) hb]
      simp at hj ⊢; omega) (fun j hj => frozen_of_row w B _ _ _ hb) (fun u hu => List.all_eq_true.1 h1 u hu)
  rw [Nat.add_zero] at hs
  unfold Oper.wp
  cases hq : P.info? t with
  | none => simp [hq] at hi
  | some i =>
    have hsz : v.cells.size = i.size := by simp [hq] at hi; omega
    simp [execOp, ho, hx, hy, Instr.storeAt, Instr.sureAddr, storeVar, sizeOf, typeInfo, hq, hsz, Result.andThen, hs]
    exact hK _ _ (h _ (setCells_gr B _ _ w) (setCells_heap B e _ _ w cs hb) (setCells_size B _ _ w))
end Go.Proofs.YtlmnhlfklbgjdaaDoor
namespace Go.Proofs.YtlmnhlfklbgjdaaDoor
open Go.ChangeShapes Go.WideShapes Go.ChangeAt Go.RowKit
theorem formOf_1 (r : Int) (w : World) (h : r ≤ 127) :
    Calls Tryd.prog 90 #[.int .i64 r] w fun e w' => e = .returned (.agg #[.int .i64 127, .int .i64 1, .int .i64 0]) ∧ Below w.heap.size w w' := by
  go_enter Tryd.func90, Tryd.ntmps90
  go_wp2
  refine wp_loop_rounds 1 ?_
  rw [rounds_succ]
  go_wp2
  exact bodyPost_ret (v := .agg #[.int .i64 127, .int .i64 1, .int .i64 0]) (by simp [results, Tryd.results90, go_sem]) rfl ⟨rfl, ((Below.refl _ _).alloc (Nat.le_refl _) _).alloc (by simp) _⟩

theorem formOf_2 (r : Int) (w : World) (h0 : 127 < r) (h : r ≤ 2047) :
    Calls Tryd.prog 90 #[.int .i64 r] w fun e w' => e = .returned (.agg #[.int .i64 2047, .int .i64 2, .int .i64 192]) ∧ Below w.heap.size w w' := by
  go_enter Tryd.func90, Tryd.ntmps90
  go_wp2
  refine wp_loop_rounds 2 ?_
  rw [rounds_succ]
  go_wp2
  rw [rounds_succ]
  go_wp2
  exact bodyPost_ret (v := .agg #[.int .i64 2047, .int .i64 2, .int .i64 192]) (by simp [results, Tryd.results90, go_sem]) rfl ⟨rfl, ((Below.refl _ _).alloc (Nat.le_refl _) _).alloc (by simp) _⟩

theorem formOf_3 (r : Int) (w : World) (h0 : 2047 < r) (h : r ≤ 65535) :
    Calls Tryd.prog 90 #[.int .i64 r] w fun e w' => e = .returned (.agg #[.int .i64 65535, .int .i64 3, .int .i64 224]) ∧ Below w.heap.size w w' := by
  go_enter Tryd.func90, Tryd.ntmps90
  go_wp2
  refine wp_loop_rounds 3 ?_
  rw [rounds_succ]
  go_wp2
  rw [rounds_succ]
  go_wp2
  rw [rounds_succ]
  go_wp2
  exact bodyPost_ret (v := .agg #[.int .i64 65535, .int .i64 3, .int .i64 224]) (by simp [results, Tryd.results90, go_sem]) rfl ⟨rfl, ((Below.refl _ _).alloc (Nat.le_refl _) _).alloc (by simp) _⟩

theorem formOf_4 (r : Int) (w : World) (h0 : 65535 < r) (h : r ≤ 1114111) :
    Calls Tryd.prog 90 #[.int .i64 r] w fun e w' => e = .returned (.agg #[.int .i64 1114111, .int .i64 4, .int .i64 240]) ∧ Below w.heap.size w w' := by
  go_enter Tryd.func90, Tryd.ntmps90
  go_wp2
  refine wp_loop_rounds 4 ?_
  rw [rounds_succ]
  go_wp2
  rw [rounds_succ]
  go_wp2
  rw [rounds_succ]
  go_wp2
  rw [rounds_succ]
  go_wp2
  exact bodyPost_ret (v := .agg #[.int .i64 1114111, .int .i64 4, .int .i64 240]) (by simp [results, Tryd.results90, go_sem]) rfl ⟨rfl, ((Below.refl _ _).alloc (Nat.le_refl _) _).alloc (by simp) _⟩


end Go.Proofs.YtlmnhlfklbgjdaaDoor
namespace Go.Proofs.YtlmnhlfklbgjdaaDoor
open Go.ChangeShapes Go.WideShapes Go.ChangeAt Go.RowKit
theorem make_1 (w : World) : (Instr.makeSlice 110 (.int .i64 1) (.int .i64 1)).run Tryd.prog w = .ok (.slice (some ⟨w.heap.size, 0, none⟩) 1 1) (w.alloc (.cells #[.int .u8 0] 5)) := by kernel_rfl
theorem conv_1 (w : World) (g : Nat) (hg : g = w.heap.size) (a : Int) : (convert 110 9 (.slice (some ⟨g, 0, none⟩) 1 1)).run Tryd.prog (w.alloc (.cells #[.int .u8 a] 5)) = .ok (.string (strOfNums [a])) (w.alloc (.cells #[.int .u8 a] 5))   := by
  subst hg
  refine run_convert_bytes_arg _ 110 5 Tryd.underlying110 Tryd.underlying5 _ 0 1 1 [a] rfl ?_ _ Tryd.underlying9
  intro i hi
  match i, hi with
  | 0, _ => simp [go_sem]
theorem make_2 (w : World) : (Instr.makeSlice 110 (.int .i64 2) (.int .i64 2)).run Tryd.prog w = .ok (.slice (some ⟨w.heap.size, 0, none⟩) 2 2) (w.alloc (.cells #[.int .u8 0, .int .u8 0] 5)) := by kernel_rfl
theorem conv_2 (w : World) (g : Nat) (hg : g = w.heap.size) (a b : Int) : (convert 110 9 (.slice (some ⟨g, 0, none⟩) 2 2)).run Tryd.prog (w.alloc (.cells #[.int .u8 a, .int .u8 b] 5)) = .ok (.string (strOfNums [a, b])) (w.alloc (.cells #[.int .u8 a, .int .u8 b] 5))   := by
  subst hg
  refine run_convert_bytes_arg _ 110 5 Tryd.underlying110 Tryd.underlying5 _ 0 2 2 [a, b] rfl ?_ _ Tryd.underlying9
  intro i hi
  match i, hi with
  | 0, _ => simp [go_sem]
  | 1, _ => simp [go_sem]
theorem make_3 (w : World) : (Instr.makeSlice 110 (.int .i64 3) (.int .i64 3)).run Tryd.prog w = .ok (.slice (some ⟨w.heap.size, 0, none⟩) 3 3) (w.alloc (.cells #[.int .u8 0, .int .u8 0, .int .u8 0] 5)) := by kernel_rfl
theorem conv_3 (w : World) (g : Nat) (hg : g = w.heap.size) (a b c : Int) : (convert 110 9 (.slice (some ⟨g, 0, none⟩) 3 3)).run Tryd.prog (w.alloc (.cells #[.int .u8 a, .int .u8 b, .int .u8 c] 5)) = .ok (.string (strOfNums [a, b, c])) (w.alloc (.cells #[.int .u8 a, .int .u8 b, .int .u8 c] 5))   := by
  subst hg
  refine run_convert_bytes_arg _ 110 5 Tryd.underlying110 Tryd.underlying5 _ 0 3 3 [a, b, c] rfl ?_ _ Tryd.underlying9
  intro i hi
  match i, hi with
  | 0, _ => simp [go_sem]
  | 1, _ => simp [go_sem]
  | 2, _ => simp [go_sem]
theorem make_4 (w : World) : (Instr.makeSlice 110 (.int .i64 4) (.int .i64 4)).run Tryd.prog w = .ok (.slice (some ⟨w.heap.size, 0, none⟩) 4 4) (w.alloc (.cells #[.int .u8 0, .int .u8 0, .int .u8 0, .int .u8 0] 5)) := by kernel_rfl
theorem conv_4 (w : World) (g : Nat) (hg : g = w.heap.size) (a b c d : Int) : (convert 110 9 (.slice (some ⟨g, 0, none⟩) 4 4)).run Tryd.prog (w.alloc (.cells #[.int .u8 a, .int .u8 b, .int .u8 c, .int .u8 d] 5)) = .ok (.string (strOfNums [a, b, c, d])) (w.alloc (.cells #[.int .u8 a, .int .u8 b, .int .u8 c, .int .u8 d] 5))   := by
  subst hg
  refine run_convert_bytes_arg _ 110 5 Tryd.underlying110 Tryd.underlying5 _ 0 4 4 [a, b, c, d] rfl ?_ _ Tryd.underlying9
  intro i hi
  match i, hi with
  | 0, _ => simp [go_sem]
  | 1, _ => simp [go_sem]
  | 2, _ => simp [go_sem]
  | 3, _ => simp [go_sem]

theorem ret_str {a b : ByteArray} (h : a = b) : Ending.returned (.string a) = .returned (.string b) := by rw [h]
theorem l1PutA_1 (r : Int) (w : World) (hb : 0 ≤ r ∧ r ≤ 1114111) (h : r < 128) :
    Calls Tryd.prog 88 #[.int .i64 r] w fun e w' => e = .returned (.slice (some ⟨w.heap.size, 0, none⟩) 1 1) ∧ w' = w.alloc (.cells #[.int .u8 r] 5) := by
  go_enter Tryd.func88, Tryd.ntmps88
  go_wp2
  go_ret
  exact ⟨rfl, rfl⟩

theorem l1PutA_2 (r : Int) (w : World) (hb : 0 ≤ r ∧ r ≤ 1114111) (h0 : 128 ≤ r) (h : r < 2048) :
    Calls Tryd.prog 88 #[.int .i64 r] w fun e w' => e = .returned (.slice (some ⟨w.heap.size, 0, none⟩) 2 2) ∧ w' = w.alloc (.cells #[.int .u8 (192 + r / 64), .int .u8 (128 + r % 64)] 5) := by
  go_enter Tryd.func88, Tryd.ntmps88
  go_wp2
  go_ret
  exact ⟨rfl, rfl⟩

theorem l1PutA_3 (r : Int) (w : World) (hb : 0 ≤ r ∧ r ≤ 1114111) (h0 : 2048 ≤ r) (h : r < 65536) :
    Calls Tryd.prog 88 #[.int .i64 r] w fun e w' => e = .returned (.slice (some ⟨w.heap.size, 0, none⟩) 3 3) ∧ w' = w.alloc (.cells #[.int .u8 (224 + r / 4096), .int .u8 (128 + r / 64 % 64), .int .u8 (128 + r % 64)] 5) := by
  go_enter Tryd.func88, Tryd.ntmps88
  go_wp2
  go_ret
  exact ⟨rfl, rfl⟩

theorem l1PutA_4 (r : Int) (w : World) (hb : 0 ≤ r ∧ r ≤ 1114111) (h0 : 65536 ≤ r) :
    Calls Tryd.prog 88 #[.int .i64 r] w fun e w' => e = .returned (.slice (some ⟨w.heap.size, 0, none⟩) 4 4) ∧ w' = w.alloc (.cells #[.int .u8 (240 + r / 262144), .int .u8 (128 + r / 4096 % 64), .int .u8 (128 + r / 64 % 64), .int .u8 (128 + r % 64)] 5) := by
  go_enter Tryd.func88, Tryd.ntmps88
  go_wp2
  go_ret
  exact ⟨rfl, rfl⟩

end Go.Proofs.YtlmnhlfklbgjdaaDoor
namespace Go.Proofs.YtlmnhlfklbgjdaaDoor
open Go.ChangeShapes Go.WideShapes Go.ChangeAt Go.RowKit
set_option maxHeartbeats 400000 in
theorem implPut_1 (r : Int) (w : World) (hk : runeOk r = true) (h : r < 128) :
    Calls Tryd.prog 86 #[.int .i64 r] w fun e w' => e = .returned (.string (strOfNums (putL r))) ∧ Below w.heap.size w w' := by
  have hbd := runeOk_bd r hk
  have hpl : Hid (putL r = _) := putL_1 r h
  have hmk := make_1
  have hcv := conv_1
  go_enter Tryd.func86, Tryd.ntmps86
  go_wp2_with (first | (go_at_call 81; refine (implRuneOk_any _ _).mono ?_; rintro e w' ⟨rfl, rfl⟩) | (go_at_call 90; refine (formOf_1 _ _ (by omega)).mono ?_; rintro e w' ⟨rfl, hb⟩))
  refine wp_loop_rounds 1 ?_
  rw [rounds_succ]
  go_wp2
  go_ret
  exact ⟨ret_str (by rw [hpl.out]), ((hb.alloc hb.size _).alloc (by have := hb.size; simp; omega) _)⟩


set_option maxHeartbeats 400000 in
theorem implPut_2 (r : Int) (w : World) (hk : runeOk r = true) (h0 : 128 ≤ r) (h : r < 2048) :
    Calls Tryd.prog 86 #[.int .i64 r] w fun e w' => e = .returned (.string (strOfNums (putL r))) ∧ Below w.heap.size w w' := by
  have hbd := runeOk_bd r hk
  have hpl : Hid (putL r = _) := putL_2 r h0 h
  have hmk := make_2
  have hcv := conv_2
  go_enter Tryd.func86, Tryd.ntmps86
  go_wp2_with (first | (go_at_call 81; refine (implRuneOk_any _ _).mono ?_; rintro e w' ⟨rfl, rfl⟩) | (go_at_call 90; refine (formOf_2 _ _ (by omega) (by omega)).mono ?_; rintro e w' ⟨rfl, hb⟩))
  refine wp_loop_rounds 2 ?_
  rw [rounds_succ]
  go_wp2
  rw [rounds_succ]
  go_wp2
  go_ret
  exact ⟨ret_str (by rw [hpl.out]), ((hb.alloc hb.size _).alloc (by have := hb.size; simp; omega) _)⟩


set_option maxHeartbeats 400000 in
theorem implPut_3 (r : Int) (w : World) (hk : runeOk r = true) (h0 : 2048 ≤ r) (h : r < 65536) :
    Calls Tryd.prog 86 #[.int .i64 r] w fun e w' => e = .returned (.string (strOfNums (putL r))) ∧ Below w.heap.size w w' := by
  have hbd := runeOk_bd r hk
  have hpl : Hid (putL r = _) := putL_3 r h0 h
  have hmk := make_3
  have hcv := conv_3
  go_enter Tryd.func86, Tryd.ntmps86
  go_wp2_with (first | (go_at_call 81; refine (implRuneOk_any _ _).mono ?_; rintro e w' ⟨rfl, rfl⟩) | (go_at_call 90; refine (formOf_3 _ _ (by omega) (by omega)).mono ?_; rintro e w' ⟨rfl, hb⟩))
  refine wp_loop_rounds 3 ?_
  rw [rounds_succ]
  go_wp2
  rw [rounds_succ]
  go_wp2
  rw [rounds_succ]
  go_wp2
  go_ret
  exact ⟨ret_str (by rw [hpl.out]), ((hb.alloc hb.size _).alloc (by have := hb.size; simp; omega) _)⟩


set_option maxHeartbeats 400000 in
theorem implPut_4 (r : Int) (w : World) (hk : runeOk r = true) (h0 : 65536 ≤ r) :
    Calls Tryd.prog 86 #[.int .i64 r] w fun e w' => e = .returned (.string (strOfNums (putL r))) ∧ Below w.heap.size w w' := by
  have hbd := runeOk_bd r hk
  have hpl : Hid (putL r = _) := putL_4 r h0
  have hmk := make_4
  have hcv := conv_4
  go_enter Tryd.func86, Tryd.ntmps86
  go_wp2_with (first | (go_at_call 81; refine (implRuneOk_any _ _).mono ?_; rintro e w' ⟨rfl, rfl⟩) | (go_at_call 90; refine (formOf_4 _ _ (by omega) (by omega)).mono ?_; rintro e w' ⟨rfl, hb⟩))
  refine wp_loop_rounds 4 ?_
  rw [rounds_succ]
  go_wp2
  rw [rounds_succ]
  go_wp2
  rw [rounds_succ]
  go_wp2
  rw [rounds_succ]
  go_wp2
  go_ret
  exact ⟨ret_str (by rw [hpl.out]), ((hb.alloc hb.size _).alloc (by have := hb.size; simp; omega) _)⟩


theorem implPut_any (r : Int) (w : World) :
    Calls Tryd.prog 86 #[.int .i64 r] w fun e w' => e = .returned (.string (putS r)) ∧ Below w.heap.size w w' := by
  by_cases hk : runeOk r = true
  · rw [putS_ok r hk]
    by_cases h1 : r < 128
    · exact implPut_1 r w hk h1
    · by_cases h2 : r < 2048
      · exact implPut_2 r w hk (by omega) h2
      · by_cases h3 : r < 65536
        · exact implPut_3 r w hk (by omega) h3
        · exact implPut_4 r w hk (by omega)
  · have hk' : runeOk r = false := by simpa using hk
    have hp : Hid (putS r = ⟨#[]⟩) := by show _ = _; simp [putS, hk']
    go_enter Tryd.func86, Tryd.ntmps86
    go_wp2_with (go_at_call 81; refine (implRuneOk_any _ _).mono ?_; rintro e w' ⟨rfl, rfl⟩)
    go_ret
    exact ⟨ret_str hp.out.symm, Below.refl _ _⟩

end Go.Proofs.YtlmnhlfklbgjdaaDoor
namespace Go.Proofs.YtlmnhlfklbgjdaaDoor
open Go.ChangeShapes Go.WideShapes Go.ChangeAt Go.RowKit
set_option maxHeartbeats 400000 in
theorem specPut_1 (r : Int) (w : World) (hk : runeOk r = true) (h : r < 128) :
    Calls Tryd.prog 83 #[.int .i64 r] w fun e w' => e = .returned (.string (strOfNums (putL r))) ∧ Below w.heap.size w w' := by
  have hbd := runeOk_bd r hk
  have hcv := conv_1
  go_enter Tryd.func83, Tryd.ntmps83
  go_wp2_with (first | (go_at_call 65; refine (specRuneOk_any _ _).mono ?_; rintro e w' ⟨rfl, rfl⟩) | (go_at_call 88; refine (l1PutA_1 _ _ (by omega) (by omega)).mono ?_; rintro e w' ⟨rfl, rfl⟩))
  go_ret
  exact ⟨ret_str (by simp only [putL]; rw [if_pos h]), (Below.refl _ _).alloc (Nat.le_refl _) _⟩

set_option maxHeartbeats 400000 in
theorem specPut_2 (r : Int) (w : World) (hk : runeOk r = true) (h0 : 128 ≤ r) (h : r < 2048) :
    Calls Tryd.prog 83 #[.int .i64 r] w fun e w' => e = .returned (.string (strOfNums (putL r))) ∧ Below w.heap.size w w' := by
  have hbd := runeOk_bd r hk
  have hcv := conv_2
  go_enter Tryd.func83, Tryd.ntmps83
  go_wp2_with (first | (go_at_call 65; refine (specRuneOk_any _ _).mono ?_; rintro e w' ⟨rfl, rfl⟩) | (go_at_call 88; refine (l1PutA_2 _ _ (by omega) (by omega) (by omega)).mono ?_; rintro e w' ⟨rfl, rfl⟩))
  go_ret
  exact ⟨ret_str (by simp only [putL]; rw [if_neg (by omega), if_pos h]), (Below.refl _ _).alloc (Nat.le_refl _) _⟩

set_option maxHeartbeats 400000 in
theorem specPut_3 (r : Int) (w : World) (hk : runeOk r = true) (h0 : 2048 ≤ r) (h : r < 65536) :
    Calls Tryd.prog 83 #[.int .i64 r] w fun e w' => e = .returned (.string (strOfNums (putL r))) ∧ Below w.heap.size w w' := by
  have hbd := runeOk_bd r hk
  have hcv := conv_3
  go_enter Tryd.func83, Tryd.ntmps83
  go_wp2_with (first | (go_at_call 65; refine (specRuneOk_any _ _).mono ?_; rintro e w' ⟨rfl, rfl⟩) | (go_at_call 88; refine (l1PutA_3 _ _ (by omega) (by omega) (by omega)).mono ?_; rintro e w' ⟨rfl, rfl⟩))
  go_ret
  exact ⟨ret_str (by simp only [putL]; rw [if_neg (by omega), if_neg (by omega), if_pos h]), (Below.refl _ _).alloc (Nat.le_refl _) _⟩

set_option maxHeartbeats 400000 in
theorem specPut_4 (r : Int) (w : World) (hk : runeOk r = true) (h0 : 65536 ≤ r) :
    Calls Tryd.prog 83 #[.int .i64 r] w fun e w' => e = .returned (.string (strOfNums (putL r))) ∧ Below w.heap.size w w' := by
  have hbd := runeOk_bd r hk
  have hcv := conv_4
  go_enter Tryd.func83, Tryd.ntmps83
  go_wp2_with (first | (go_at_call 65; refine (specRuneOk_any _ _).mono ?_; rintro e w' ⟨rfl, rfl⟩) | (go_at_call 88; refine (l1PutA_4 _ _ (by omega) (by omega)).mono ?_; rintro e w' ⟨rfl, rfl⟩))
  go_ret
  exact ⟨ret_str (by simp only [putL]; rw [if_neg (by omega), if_neg (by omega), if_neg (by omega)]), (Below.refl _ _).alloc (Nat.le_refl _) _⟩

theorem specPut_any (r : Int) (w : World) :
    Calls Tryd.prog 83 #[.int .i64 r] w fun e w' => e = .returned (.string (putS r)) ∧ Below w.heap.size w w' := by
  by_cases hk : runeOk r = true
  · rw [putS_ok r hk]
    by_cases h1 : r < 128
    · exact specPut_1 r w hk h1
    · by_cases h2 : r < 2048
      · exact specPut_2 r w hk (by omega) h2
      · by_cases h3 : r < 65536
        · exact specPut_3 r w hk (by omega) h3
        · exact specPut_4 r w hk (by omega)
  · have hk' : runeOk r = false := by simpa using hk
    have hp : Hid (putS r = ⟨#[]⟩) := by show _ = _; simp [putS, hk']
    go_enter Tryd.func83, Tryd.ntmps83
    go_wp2_with (go_at_call 65; refine (specRuneOk_any _ _).mono ?_; rintro e w' ⟨rfl, rfl⟩)
    go_ret
    exact ⟨ret_str hp.out.symm, Below.refl _ _⟩
end Go.Proofs.YtlmnhlfklbgjdaaDoor
namespace Go.Proofs.YtlmnhlfklbgjdaaDoor
open Go.ChangeShapes Go.WideShapes Go.ChangeAt Go.RowKit
theorem hasPrefixLite (s p : ByteArray) (w : World) (_hs : s.size ≤ maxLen) (_hp : p.size ≤ maxLen) :
    Calls Tryd.prog 91 #[.string s, .string p] w fun e w' => e = .returned (.bool (pref s p)) ∧ w' = w := by
  unfold maxLen at _hs _hp
  by_cases h : p.size ≤ s.size
  · have hq : Hid (pref s p = ((s.extract 0 p.size).toList == p.toList)) := by show _ = _; simp [pref, h]
    go_enter Tryd.func91, Tryd.ntmps91
    go_wp2
    go_ret
    exact ⟨ret_bool hq.out.symm, rfl⟩
  · have hq : Hid (pref s p = false) := by show _ = _; simp [pref, h]
    go_enter Tryd.func91, Tryd.ntmps91
    go_wp2
    go_ret
    exact ⟨ret_bool hq.out.symm, rfl⟩
theorem hasPrefix_any (s p : ByteArray) (w : World) (hs : s.size ≤ maxLen) (hp : p.size ≤ maxLen) :
    Calls Tryd.prog 87 #[.string s, .string p] w fun e w' => e = .returned (.bool (pref s p)) ∧ w' = w := by
  go_enter Tryd.func87, Tryd.ntmps87
  go_wp2_with (go_at_call 91; refine (hasPrefixLite _ _ _ hs hp).mono ?_; rintro e w' ⟨rfl, rfl⟩)
  go_ret
  exact ⟨rfl, rfl⟩

theorem ret_int {k : IntKind} {a b : Int} (h : a = b) : Ending.returned (.int k a) = .returned (.int k b) := by rw [h]
theorem l1Long_any (b : Int) (w : World) (hb : 0 ≤ b ∧ b < 256) :
    Calls Tryd.prog 77 #[.int .u8 b] w fun e w' => e = .returned (.int .i64 (longV b)) ∧ w' = w := by
  go_enter Tryd.func77, Tryd.ntmps77
  go_wp2
  all_goals
    go_ret
    refine ⟨?_, rfl⟩
    refine ret_int ?_
    unfold longV
    omega

theorem isEmpty_no (s : ByteArray) (h0 : 0 < s.size) : s.toList.isEmpty = false := by
  rw [ByteArray.toList_eq, List.isEmpty_eq_false_iff]; intro e; have := congrArg List.length e; simp at this; simp [this] at h0
theorem isEmpty_yes (s : ByteArray) (h0 : ¬ 0 < s.size) : s.toList.isEmpty = true := by
  rw [ByteArray.toList_eq, List.isEmpty_iff_length_eq_zero, Array.length_toList]; exact Nat.eq_zero_of_not_pos h0
theorem maxLen_pos (n : Nat) (h : n ≤ 4) : n ≤ maxLen := by unfold maxLen; omega
set_option maxHeartbeats 400000 in
theorem implGet_any (s : ByteArray) (w : World) (hs : s.size ≤ maxLen) :
    Calls Tryd.prog 82 #[.string s] w fun e w' => e = .returned (.tuple #[.int .i64 (getV s).1, .int .i64 (getV s).2]) ∧ Below w.heap.size w w' := by
  by_cases h0 : 0 < s.size
  · obtain ⟨hc1, hc2⟩ := getV_decode s h0
    have hbd := getV_bd s h0
    have hnx : ∀ ty, (Instr.next (.pointer (some ⟨w.heap.size, 0, none⟩)) true ty).run Tryd.prog (w.iter s 0) = .ok (.tuple #[.bool true, .int .i64 0, .int .i32 (getV s).1]) (w.iter s (Utf8.decode s 0).2) := by
      intro ty
      rw [run_next_any w s 0 ty h0, hc1]; simp
    have hcs := getV_cases s h0
    have h4 := maxLen_pos _ (putS_size4 (getV s).1)
    have h4' := putS_size4 (getV s).1
    generalize getV s = d at *
    obtain ⟨c, k⟩ := d
    simp only at hcs hbd hnx h4 h4' ⊢
    clear hc1 hc2
    rcases hcs with ⟨hr, hp, hk⟩ | ⟨hk, hp⟩
    · subst hk
      go_enter Tryd.func82, Tryd.ntmps82
      go_wp2
      refine wp_loop_rounds 1 ?_
      rw [rounds_succ]
      go_wp2_with (first | (go_at_call 86; refine (implPut_any _ _).mono ?_; rintro e w' ⟨rfl, hb⟩) | (go_at_call 87; refine (hasPrefix_any _ _ _ hs h4).mono ?_; rintro e w' ⟨rfl, rfl⟩))
      go_ret2
      exact ⟨rfl, ((Below.refl _ _).alloc (Nat.le_refl _) _).trans (hb.mono (by simp [World.iter]))⟩
    · simp only [Prod.mk.injEq] at hk
      obtain ⟨rfl, rfl⟩ := hk
      have hp := hp 65533 (by decide)
      go_enter Tryd.func82, Tryd.ntmps82
      go_wp2
      refine wp_loop_rounds 1 ?_
      rw [rounds_succ]
      go_wp2_with (first | (go_at_call 86; refine (implPut_any _ _).mono ?_; rintro e w' ⟨rfl, hb⟩) | (go_at_call 87; refine (hasPrefix_any _ _ _ hs h4).mono ?_; rintro e w' ⟨rfl, rfl⟩))
      go_ret2
      exact ⟨rfl, ((Below.refl _ _).alloc (Nat.le_refl _) _).trans (hb.mono (by simp [World.iter]))⟩
  · have hz : nums s = [] := List.length_eq_zero_iff.1 (by rw [nums_len]; omega)
    have hv : Hid (getV s = (0, 0)) := by show _ = _; simp [getV, hz, dec]
    have hnx : ∀ ty, (Instr.next (.pointer (some ⟨w.heap.size, 0, none⟩)) true ty).run Tryd.prog (w.iter s 0) = .ok (.tuple #[.bool false]) (w.iter s 0) := fun ty => run_next_end w s 0 ty h0
    go_enter Tryd.func82, Tryd.ntmps82
    go_wp2
    refine wp_loop_rounds 1 ?_
    rw [rounds_succ]
    go_wp2
    go_ret2
    exact ⟨by rw [hv.out]; rfl, (Below.refl _ _).alloc (Nat.le_refl _) _⟩
end Go.Proofs.YtlmnhlfklbgjdaaDoor
namespace Go.Proofs.YtlmnhlfklbgjdaaDoor
open Go.ChangeShapes Go.WideShapes Go.ChangeAt Go.RowKit
def T0 : ByteArray := { data := #[128] }
def T1 : ByteArray := { data := #[191] }
def T2 : ByteArray := { data := #[128, 128] }
def T3 : ByteArray := { data := #[191, 191] }
def T4 : ByteArray := { data := #[128, 128, 128] }
def T5 : ByteArray := { data := #[191, 191, 191] }
theorem T0_size : T0.size = 1 := rfl
theorem T1_size : T1.size = 1 := rfl
theorem T2_size : T2.size = 2 := rfl
theorem T3_size : T3.size = 2 := rfl
theorem T4_size : T4.size = 3 := rfl
theorem T5_size : T5.size = 3 := rfl
theorem tails_at0 (w : World) : (Instr.index 105 (.agg #[.string ⟨#[128]⟩, .string ⟨#[191]⟩, .string ⟨#[128, 128]⟩, .string ⟨#[191, 191]⟩, .string ⟨#[128, 128, 128]⟩, .string ⟨#[191, 191, 191]⟩]) (.int .i64 0)).run Tryd.prog w = .ok (.string T0) w := by kernel_rfl
theorem tails_at1 (w : World) : (Instr.index 105 (.agg #[.string ⟨#[128]⟩, .string ⟨#[191]⟩, .string ⟨#[128, 128]⟩, .string ⟨#[191, 191]⟩, .string ⟨#[128, 128, 128]⟩, .string ⟨#[191, 191, 191]⟩]) (.int .i64 1)).run Tryd.prog w = .ok (.string T1) w := by kernel_rfl
theorem tails_at2 (w : World) : (Instr.index 105 (.agg #[.string ⟨#[128]⟩, .string ⟨#[191]⟩, .string ⟨#[128, 128]⟩, .string ⟨#[191, 191]⟩, .string ⟨#[128, 128, 128]⟩, .string ⟨#[191, 191, 191]⟩]) (.int .i64 2)).run Tryd.prog w = .ok (.string T2) w := by kernel_rfl
theorem tails_at3 (w : World) : (Instr.index 105 (.agg #[.string ⟨#[128]⟩, .string ⟨#[191]⟩, .string ⟨#[128, 128]⟩, .string ⟨#[191, 191]⟩, .string ⟨#[128, 128, 128]⟩, .string ⟨#[191, 191, 191]⟩]) (.int .i64 3)).run Tryd.prog w = .ok (.string T3) w := by kernel_rfl
theorem tails_at4 (w : World) : (Instr.index 105 (.agg #[.string ⟨#[128]⟩, .string ⟨#[191]⟩, .string ⟨#[128, 128]⟩, .string ⟨#[191, 191]⟩, .string ⟨#[128, 128, 128]⟩, .string ⟨#[191, 191, 191]⟩]) (.int .i64 4)).run Tryd.prog w = .ok (.string T4) w := by kernel_rfl
theorem tails_at5 (w : World) : (Instr.index 105 (.agg #[.string ⟨#[128]⟩, .string ⟨#[191]⟩, .string ⟨#[128, 128]⟩, .string ⟨#[191, 191]⟩, .string ⟨#[128, 128, 128]⟩, .string ⟨#[191, 191, 191]⟩]) (.int .i64 5)).run Tryd.prog w = .ok (.string T5) w := by kernel_rfl
def cutB (h : ByteArray) : Bool := ((getV (h ++ T0)).2 == (h.size : Int) + 1) || ((getV (h ++ T1)).2 == (h.size : Int) + 1) || ((getV (h ++ T2)).2 == (h.size : Int) + 2) || ((getV (h ++ T3)).2 == (h.size : Int) + 2) || ((getV (h ++ T4)).2 == (h.size : Int) + 3) || ((getV (h ++ T5)).2 == (h.size : Int) + 3)

set_option maxHeartbeats 1000000 in
theorem cutShort_any (h : ByteArray) (w : World) (hs : h.size ≤ 3) :
    Calls Tryd.prog 74 #[.string h] w fun e w' => e = .returned (.bool (cutB h)) ∧ Below w.heap.size w w' := by
  have i0 := tails_at0
  have z0 := T0_size
  have i1 := tails_at1
  have z1 := T1_size
  have i2 := tails_at2
  have z2 := T2_size
  have i3 := tails_at3
  have z3 := T3_size
  have i4 := tails_at4
  have z4 := T4_size
  have i5 := tails_at5
  have z5 := T5_size
  have m0 : (h ++ T0).size ≤ maxLen := by rw [ByteArray.size_append]; unfold maxLen; omega
  have m1 : (h ++ T1).size ≤ maxLen := by rw [ByteArray.size_append]; unfold maxLen; omega
  have m2 : (h ++ T2).size ≤ maxLen := by rw [ByteArray.size_append]; unfold maxLen; omega
  have m3 : (h ++ T3).size ≤ maxLen := by rw [ByteArray.size_append]; unfold maxLen; omega
  have m4 : (h ++ T4).size ≤ maxLen := by rw [ByteArray.size_append]; unfold maxLen; omega
  have m5 : (h ++ T5).size ≤ maxLen := by rw [ByteArray.size_append]; unfold maxLen; omega
  have g0 := fun W => implGet_any (h ++ T0) W m0
  have g1 := fun W => implGet_any (h ++ T1) W m1
  have g2 := fun W => implGet_any (h ++ T2) W m2
  have g3 := fun W => implGet_any (h ++ T3) W m3
  have g4 := fun W => implGet_any (h ++ T4) W m4
  have g5 := fun W => implGet_any (h ++ T5) W m5
  have hb0 := fun o => (Below.refl w.heap.size w).alloc (Nat.le_refl _) o
  clear m0 m1 m2 m3 m4 m5
  go_enter Tryd.func74, Tryd.ntmps74
  go_wp2
  refine wp_loop_rounds 7 ?_
  rw [rounds_succ]
  go_wp2_with (go_at_call 82; refine (g0 _).mono ?_; rintro e w' ⟨rfl, hb⟩; replace hb := (hb0 _).trans (hb.mono (by simp)))
  · go_ret
    exact ⟨ret_bool (by simp only [cutB, *, Bool.true_or]), hb⟩
  rw [rounds_succ]
  go_wp2_with (go_at_call 82; refine (g1 _).mono ?_; rintro e w' ⟨rfl, hc⟩; replace hb := hb.trans (hc.mono hb.size))
  · go_ret
    exact ⟨ret_bool (by simp only [cutB, *, Bool.true_or, Bool.or_true]), hb⟩
  rw [rounds_succ]
  go_wp2_with (go_at_call 82; refine (g2 _).mono ?_; rintro e w' ⟨rfl, hc⟩; replace hb := hb.trans (hc.mono hb.size))
  · go_ret
    exact ⟨ret_bool (by simp only [cutB, *, Bool.true_or, Bool.false_or, Bool.or_true]), hb⟩
  rw [rounds_succ]
  go_wp2_with (go_at_call 82; refine (g3 _).mono ?_; rintro e w' ⟨rfl, hc⟩; replace hb := hb.trans (hc.mono hb.size))
  · go_ret
    exact ⟨ret_bool (by simp only [cutB, *, Bool.true_or, Bool.false_or, Bool.or_true]), hb⟩
  rw [rounds_succ]
  go_wp2_with (go_at_call 82; refine (g4 _).mono ?_; rintro e w' ⟨rfl, hc⟩; replace hb := hb.trans (hc.mono hb.size))
  · go_ret
    exact ⟨ret_bool (by simp only [cutB, *, Bool.true_or, Bool.false_or, Bool.or_true]), hb⟩
  rw [rounds_succ]
  go_wp2_with (go_at_call 82; refine (g5 _).mono ?_; rintro e w' ⟨rfl, hc⟩; replace hb := hb.trans (hc.mono hb.size))
  · go_ret
    exact ⟨ret_bool (by simp only [cutB, *, Bool.false_or, Bool.or_true]), hb⟩
  rw [rounds_succ]
  go_wp2
  go_ret
  exact ⟨ret_bool (by simp only [cutB, *, Bool.or_false]), hb⟩
end Go.Proofs.YtlmnhlfklbgjdaaDoor
namespace Go.Proofs.YtlmnhlfklbgjdaaDoor
open Go.ChangeShapes Go.WideShapes Go.ChangeAt Go.RowKit
theorem specGet_0 (s : ByteArray) (w : World) (h0 : ¬ 0 < s.size) :
    Calls Tryd.prog 78 #[.string s] w fun e w' => e = .returned (.tuple #[.int .i64 (getV s).1, .int .i64 (getV s).2]) ∧ Below w.heap.size w w' := by
  have hz : nums s = [] := List.length_eq_zero_iff.1 (by rw [nums_len]; omega)
  have hv : Hid (getV s = (0, 0)) := by show _ = _; simp [getV, hz, dec]
  have he := isEmpty_yes s h0
  go_enter Tryd.func78, Tryd.ntmps78
  go_wp2
  go_ret2
  exact ⟨by rw [hv.out]; rfl, Below.refl _ _⟩

set_option maxRecDepth 20000 in
theorem specGet_none (s : ByteArray) (w : World) (h0 : 0 < s.size) (hx : longV (s[0].toNat : Int) = 0) :
    Calls Tryd.prog 78 #[.string s] w fun e w' => e = .returned (.tuple #[.int .i64 (getV s).1, .int .i64 (getV s).2]) ∧ Below w.heap.size w w' := by
  have hv : Hid (getV s = (65533, 1)) := getV_short s h0 (Or.inl hx)
  have hl : Hid (longV (s[0].toNat : Int) = 0) := hx
  clear hx
  have he := isEmpty_no s h0
  have hb0 : (s[0].toNat : Int) < 256 := by have := s[0].toNat_lt; omega
  go_enter Tryd.func78, Tryd.ntmps78
  go_wp2_with (first | (go_at_call 77; refine (l1Long_any _ _ (by omega)).mono ?_; rw [hl.out]; rintro e w' ⟨rfl, rfl⟩))
  go_ret2
  exact ⟨by rw [hv.out]; rfl, Below.refl _ _⟩

set_option maxRecDepth 20000 in
theorem specGet_short (s : ByteArray) (w : World) (h0 : 0 < s.size) (n : Int) (hn : 1 < n ∧ n ≤ 4) (hs : (s.size : Int) < n) (hx : longV (s[0].toNat : Int) = n) :
    Calls Tryd.prog 78 #[.string s] w fun e w' => e = .returned (.tuple #[.int .i64 (getV s).1, .int .i64 (getV s).2]) ∧ Below w.heap.size w w' := by
  have hv : Hid (getV s = (65533, 1)) := getV_short s h0 (Or.inr (by omega))
  have hl : Hid (longV (s[0].toNat : Int) = n) := hx
  clear hx
  have he := isEmpty_no s h0
  have hb0 : (s[0].toNat : Int) < 256 := by have := s[0].toNat_lt; omega
  have hn0 : (n == 0) = false := by simp; omega
  go_enter Tryd.func78, Tryd.ntmps78
  go_wp2_with (first | (go_at_call 77; refine (l1Long_any _ _ (by omega)).mono ?_; rw [hl.out]; rintro e w' ⟨rfl, rfl⟩))
  go_ret2
  exact ⟨by rw [hv.out]; rfl, Below.refl _ _⟩

set_option maxRecDepth 20000 in
set_option maxHeartbeats 400000 in
theorem specGet_1 (s : ByteArray) (w : World) (h0 : 0 < s.size) (hs : s.size ≤ maxLen) (hx : longV (s[0].toNat : Int) = 1) :
    Calls Tryd.prog 78 #[.string s] w fun e w' => e = .returned (.tuple #[.int .i64 (getV s).1, .int .i64 (getV s).2]) ∧ Below w.heap.size w w' := by
  have hv : Hid (getV s = _) := getV_long s h0 1 (s[0].toNat : Int) hx (by omega) (by omega) (by rw [nums_take1 s h0]; rfl)
  have hl : Hid (longV (s[0].toNat : Int) = 1) := hx
  have he := isEmpty_no s h0
  have hb0 : (s[0].toNat : Int) < 256 := by have := s[0].toNat_lt; omega
  unfold maxLen at hs
  by_cases hk : ((putS (s[0].toNat : Int)).toList == (s.extract 0 1).toList) = true
  · have hv : Hid (getV s = ((s[0].toNat : Int), 1)) := by have := hv.out; rw [if_pos hk] at this; exact this
    clear hx
    go_enter Tryd.func78, Tryd.ntmps78
    go_wp2_with (first | (go_at_call 77; refine (l1Long_any _ _ (by omega)).mono ?_; rw [hl.out]; rintro e w' ⟨rfl, rfl⟩))
    refine wp_loop_rounds 1 ?_
    rw [rounds_succ]
    go_wp2
    go_region_with (go_at_call 83; refine (specPut_any _ _).mono ?_; rintro e w1 ⟨rfl, hb⟩)
    all_goals
      go_wp2
      go_ret2
      exact ⟨by rw [hv.out]; rfl, (Below.refl _ _).drew.trans hb⟩
  · have hk : ((putS (s[0].toNat : Int)).toList == (s.extract 0 1).toList) = false := by simpa using hk
    have hv : Hid (getV s = (65533, 1)) := by have := hv.out; rw [if_neg (by rw [hk]; decide)] at this; exact this
    clear hx
    go_enter Tryd.func78, Tryd.ntmps78
    go_wp2_with (first | (go_at_call 77; refine (l1Long_any _ _ (by omega)).mono ?_; rw [hl.out]; rintro e w' ⟨rfl, rfl⟩))
    refine wp_loop_rounds 1 ?_
    rw [rounds_succ]
    go_wp2
    go_region_with (go_at_call 83; refine (specPut_any _ _).mono ?_; rintro e w1 ⟨rfl, hb⟩)
    all_goals
      go_wp2
      go_ret2
      exact ⟨by rw [hv.out]; rfl, (Below.refl _ _).drew.trans hb⟩

set_option maxRecDepth 20000 in
set_option maxHeartbeats 400000 in
theorem specGet_2 (s : ByteArray) (w : World) (h0 : 0 < s.size) (h1 : 1 < s.size) (hs : s.size ≤ maxLen) (hx : longV (s[0].toNat : Int) = 2) :
    Calls Tryd.prog 78 #[.string s] w fun e w' => e = .returned (.tuple #[.int .i64 (getV s).1, .int .i64 (getV s).2]) ∧ Below w.heap.size w w' := by
  have hv : Hid (getV s = _) := getV_long s h0 2 ((s[0].toNat : Int) % (32 : Int) * (64 : Int) + (s[1].toNat : Int) % (64 : Int)) hx (by omega) (by omega) (by rw [nums_take2 s h1]; rfl)
  have hl : Hid (longV (s[0].toNat : Int) = 2) := hx
  have he := isEmpty_no s h0
  have hb0 : (s[0].toNat : Int) < 256 := by have := s[0].toNat_lt; omega
  have hb1 : (s[1].toNat : Int) < 256 := by have := s[1].toNat_lt; omega
  unfold maxLen at hs
  by_cases hk : ((putS ((s[0].toNat : Int) % (32 : Int) * (64 : Int) + (s[1].toNat : Int) % (64 : Int))).toList == (s.extract 0 2).toList) = true
  · have hv : Hid (getV s = (((s[0].toNat : Int) % (32 : Int) * (64 : Int) + (s[1].toNat : Int) % (64 : Int)), 2)) := by have := hv.out; rw [if_pos hk] at this; exact this
    clear hx
    go_enter Tryd.func78, Tryd.ntmps78
    go_wp2_with (first | (go_at_call 77; refine (l1Long_any _ _ (by omega)).mono ?_; rw [hl.out]; rintro e w' ⟨rfl, rfl⟩))
    refine wp_loop_rounds 2 ?_
    rw [rounds_succ]
    go_wp2
    rw [rounds_succ]
    go_wp2
    go_region_with (go_at_call 83; refine (specPut_any _ _).mono ?_; rintro e w1 ⟨rfl, hb⟩)
    all_goals
      go_wp2
      go_ret2
      exact ⟨by rw [hv.out]; rfl, (Below.refl _ _).drew.trans hb⟩
  · have hk : ((putS ((s[0].toNat : Int) % (32 : Int) * (64 : Int) + (s[1].toNat : Int) % (64 : Int))).toList == (s.extract 0 2).toList) = false := by simpa using hk
    have hv : Hid (getV s = (65533, 1)) := by have := hv.out; rw [if_neg (by rw [hk]; decide)] at this; exact this
    clear hx
    go_enter Tryd.func78, Tryd.ntmps78
    go_wp2_with (first | (go_at_call 77; refine (l1Long_any _ _ (by omega)).mono ?_; rw [hl.out]; rintro e w' ⟨rfl, rfl⟩))
    refine wp_loop_rounds 2 ?_
    rw [rounds_succ]
    go_wp2
    rw [rounds_succ]
    go_wp2
    go_region_with (go_at_call 83; refine (specPut_any _ _).mono ?_; rintro e w1 ⟨rfl, hb⟩)
    all_goals
      go_wp2
      go_ret2
      exact ⟨by rw [hv.out]; rfl, (Below.refl _ _).drew.trans hb⟩

set_option maxRecDepth 20000 in
set_option maxHeartbeats 400000 in
theorem specGet_3 (s : ByteArray) (w : World) (h0 : 0 < s.size) (h1 : 1 < s.size) (h2 : 2 < s.size) (hs : s.size ≤ maxLen) (hx : longV (s[0].toNat : Int) = 3) :
    Calls Tryd.prog 78 #[.string s] w fun e w' => e = .returned (.tuple #[.int .i64 (getV s).1, .int .i64 (getV s).2]) ∧ Below w.heap.size w w' := by
  have hv : Hid (getV s = _) := getV_long s h0 3 (((s[0].toNat : Int) % (16 : Int) * (64 : Int) + (s[1].toNat : Int) % (64 : Int)) * (64 : Int) + (s[2].toNat : Int) % (64 : Int)) hx (by omega) (by omega) (by rw [nums_take3 s h2]; rfl)
  have hl : Hid (longV (s[0].toNat : Int) = 3) := hx
  have he := isEmpty_no s h0
  have hb0 : (s[0].toNat : Int) < 256 := by have := s[0].toNat_lt; omega
  have hb1 : (s[1].toNat : Int) < 256 := by have := s[1].toNat_lt; omega
  have hb2 : (s[2].toNat : Int) < 256 := by have := s[2].toNat_lt; omega
  unfold maxLen at hs
  by_cases hk : ((putS (((s[0].toNat : Int) % (16 : Int) * (64 : Int) + (s[1].toNat : Int) % (64 : Int)) * (64 : Int) + (s[2].toNat : Int) % (64 : Int))).toList == (s.extract 0 3).toList) = true
  · have hv : Hid (getV s = ((((s[0].toNat : Int) % (16 : Int) * (64 : Int) + (s[1].toNat : Int) % (64 : Int)) * (64 : Int) + (s[2].toNat : Int) % (64 : Int)), 3)) := by have := hv.out; rw [if_pos hk] at this; exact this
    clear hx
    go_enter Tryd.func78, Tryd.ntmps78
    go_wp2_with (first | (go_at_call 77; refine (l1Long_any _ _ (by omega)).mono ?_; rw [hl.out]; rintro e w' ⟨rfl, rfl⟩))
    refine wp_loop_rounds 3 ?_
    rw [rounds_succ]
    go_wp2
    rw [rounds_succ]
    go_wp2
    rw [rounds_succ]
    go_wp2
    go_region_with (go_at_call 83; refine (specPut_any _ _).mono ?_; rintro e w1 ⟨rfl, hb⟩)
    all_goals
      go_wp2
      go_ret2
      exact ⟨by rw [hv.out]; rfl, (Below.refl _ _).drew.trans hb⟩
  · have hk : ((putS (((s[0].toNat : Int) % (16 : Int) * (64 : Int) + (s[1].toNat : Int) % (64 : Int)) * (64 : Int) + (s[2].toNat : Int) % (64 : Int))).toList == (s.extract 0 3).toList) = false := by simpa using hk
    have hv : Hid (getV s = (65533, 1)) := by have := hv.out; rw [if_neg (by rw [hk]; decide)] at this; exact this
    clear hx
    go_enter Tryd.func78, Tryd.ntmps78
    go_wp2_with (first | (go_at_call 77; refine (l1Long_any _ _ (by omega)).mono ?_; rw [hl.out]; rintro e w' ⟨rfl, rfl⟩))
    refine wp_loop_rounds 3 ?_
    rw [rounds_succ]
    go_wp2
    rw [rounds_succ]
    go_wp2
    rw [rounds_succ]
    go_wp2
    go_region_with (go_at_call 83; refine (specPut_any _ _).mono ?_; rintro e w1 ⟨rfl, hb⟩)
    all_goals
      go_wp2
      go_ret2
      exact ⟨by rw [hv.out]; rfl, (Below.refl _ _).drew.trans hb⟩

set_option maxRecDepth 20000 in
set_option maxHeartbeats 400000 in
theorem specGet_4 (s : ByteArray) (w : World) (h0 : 0 < s.size) (h1 : 1 < s.size) (h2 : 2 < s.size) (h3 : 3 < s.size) (hs : s.size ≤ maxLen) (hx : longV (s[0].toNat : Int) = 4) :
    Calls Tryd.prog 78 #[.string s] w fun e w' => e = .returned (.tuple #[.int .i64 (getV s).1, .int .i64 (getV s).2]) ∧ Below w.heap.size w w' := by
  have hv : Hid (getV s = _) := getV_long s h0 4 ((((s[0].toNat : Int) % (8 : Int) * (64 : Int) + (s[1].toNat : Int) % (64 : Int)) * (64 : Int) + (s[2].toNat : Int) % (64 : Int)) * (64 : Int) + (s[3].toNat : Int) % (64 : Int)) hx (by omega) (by omega) (by rw [nums_take4 s h3]; rfl)
  have hl : Hid (longV (s[0].toNat : Int) = 4) := hx
  have he := isEmpty_no s h0
  have hb0 : (s[0].toNat : Int) < 256 := by have := s[0].toNat_lt; omega
  have hb1 : (s[1].toNat : Int) < 256 := by have := s[1].toNat_lt; omega
  have hb2 : (s[2].toNat : Int) < 256 := by have := s[2].toNat_lt; omega
  have hb3 : (s[3].toNat : Int) < 256 := by have := s[3].toNat_lt; omega
  unfold maxLen at hs
  by_cases hk : ((putS ((((s[0].toNat : Int) % (8 : Int) * (64 : Int) + (s[1].toNat : Int) % (64 : Int)) * (64 : Int) + (s[2].toNat : Int) % (64 : Int)) * (64 : Int) + (s[3].toNat : Int) % (64 : Int))).toList == (s.extract 0 4).toList) = true
  · have hv : Hid (getV s = (((((s[0].toNat : Int) % (8 : Int) * (64 : Int) + (s[1].toNat : Int) % (64 : Int)) * (64 : Int) + (s[2].toNat : Int) % (64 : Int)) * (64 : Int) + (s[3].toNat : Int) % (64 : Int)), 4)) := by have := hv.out; rw [if_pos hk] at this; exact this
    clear hx
    go_enter Tryd.func78, Tryd.ntmps78
    go_wp2_with (first | (go_at_call 77; refine (l1Long_any _ _ (by omega)).mono ?_; rw [hl.out]; rintro e w' ⟨rfl, rfl⟩))
    refine wp_loop_rounds 4 ?_
    rw [rounds_succ]
    go_wp2
    rw [rounds_succ]
    go_wp2
    rw [rounds_succ]
    go_wp2
    rw [rounds_succ]
    go_wp2
    go_region_with (go_at_call 83; refine (specPut_any _ _).mono ?_; rintro e w1 ⟨rfl, hb⟩)
    all_goals
      go_wp2
      go_ret2
      exact ⟨by rw [hv.out]; rfl, (Below.refl _ _).drew.trans hb⟩
  · have hk : ((putS ((((s[0].toNat : Int) % (8 : Int) * (64 : Int) + (s[1].toNat : Int) % (64 : Int)) * (64 : Int) + (s[2].toNat : Int) % (64 : Int)) * (64 : Int) + (s[3].toNat : Int) % (64 : Int))).toList == (s.extract 0 4).toList) = false := by simpa using hk
    have hv : Hid (getV s = (65533, 1)) := by have := hv.out; rw [if_neg (by rw [hk]; decide)] at this; exact this
    clear hx
    go_enter Tryd.func78, Tryd.ntmps78
    go_wp2_with (first | (go_at_call 77; refine (l1Long_any _ _ (by omega)).mono ?_; rw [hl.out]; rintro e w' ⟨rfl, rfl⟩))
    refine wp_loop_rounds 4 ?_
    rw [rounds_succ]
    go_wp2
    rw [rounds_succ]
    go_wp2
    rw [rounds_succ]
    go_wp2
    rw [rounds_succ]
    go_wp2
    go_region_with (go_at_call 83; refine (specPut_any _ _).mono ?_; rintro e w1 ⟨rfl, hb⟩)
    all_goals
      go_wp2
      go_ret2
      exact ⟨by rw [hv.out]; rfl, (Below.refl _ _).drew.trans hb⟩

theorem specGet_any (s : ByteArray) (w : World) (hs : s.size ≤ maxLen) :
    Calls Tryd.prog 78 #[.string s] w fun e w' => e = .returned (.tuple #[.int .i64 (getV s).1, .int .i64 (getV s).2]) ∧ Below w.heap.size w w' := by
  by_cases h0 : 0 < s.size
  · by_cases l0 : longV (s[0].toNat : Int) = 0
    · exact specGet_none s w h0 l0
    · have hlv : longV (s[0].toNat : Int) = 1 ∨ longV (s[0].toNat : Int) = 2 ∨ longV (s[0].toNat : Int) = 3 ∨ longV (s[0].toNat : Int) = 4 := by
        revert l0; unfold longV; intro l0; omega
      rcases hlv with h | h | h | h
      · exact specGet_1 s w h0 hs h
      · by_cases k : 1 < s.size
        · exact specGet_2 s w h0 k hs h
        · exact specGet_short s w h0 2 (by omega) (by omega) h
      · by_cases k : 2 < s.size
        · exact specGet_3 s w h0 (by omega) k hs h
        · exact specGet_short s w h0 3 (by omega) (by omega) h
      · by_cases k : 3 < s.size
        · exact specGet_4 s w h0 (by omega) (by omega) k hs h
        · exact specGet_short s w h0 4 (by omega) (by omega) h
  · exact specGet_0 s w h0
end Go.Proofs.YtlmnhlfklbgjdaaDoor
namespace Go.Proofs.YtlmnhlfklbgjdaaDoor
open Go.ChangeShapes Go.WideShapes Go.ChangeAt Go.RowKit
def fillB (h : ByteArray) (n : Nat) : Bool := ((getV (h ++ ({ data := #[128, 128, 128] } : ByteArray).extract 0 (n - h.size))).2 == (n : Int)) || ((getV (h ++ ({ data := #[160, 128, 128] } : ByteArray).extract 0 (n - h.size))).2 == (n : Int)) || ((getV (h ++ ({ data := #[144, 128, 128] } : ByteArray).extract 0 (n - h.size))).2 == (n : Int)) || ((getV (h ++ ({ data := #[191, 191, 191] } : ByteArray).extract 0 (n - h.size))).2 == (n : Int)) || ((getV (h ++ ({ data := #[159, 191, 191] } : ByteArray).extract 0 (n - h.size))).2 == (n : Int)) || ((getV (h ++ ({ data := #[143, 191, 191] } : ByteArray).extract 0 (n - h.size))).2 == (n : Int))
def FillAt (g : Nat) (w : World) : Prop :=
  g < w.heap.size ∧ w.cell? ⟨g, 1, none⟩ = some (.string ({ data := #[160, 128, 128] } : ByteArray)) ∧ w.cell? ⟨g, 2, none⟩ = some (.string ({ data := #[144, 128, 128] } : ByteArray)) ∧ w.cell? ⟨g, 3, none⟩ = some (.string ({ data := #[191, 191, 191] } : ByteArray)) ∧ w.cell? ⟨g, 4, none⟩ = some (.string ({ data := #[159, 191, 191] } : ByteArray)) ∧ w.cell? ⟨g, 5, none⟩ = some (.string ({ data := #[143, 191, 191] } : ByteArray))
theorem FillAt.below {g : Nat} {w w' : World} (h : FillAt g w) (hb : Below w.heap.size w w') : FillAt g w' := by
  obtain ⟨hg, q1, q2, q3, q4, q5⟩ := h
  exact ⟨Nat.lt_of_lt_of_le hg hb.size, (hb.cell (p := ⟨g, 1, none⟩) hg).trans q1, (hb.cell (p := ⟨g, 2, none⟩) hg).trans q2, (hb.cell (p := ⟨g, 3, none⟩) hg).trans q3, (hb.cell (p := ⟨g, 4, none⟩) hg).trans q4, (hb.cell (p := ⟨g, 5, none⟩) hg).trans q5⟩
theorem fill_new (w : World) : FillAt w.heap.size (w.alloc (.cells #[(.string ({ data := #[128, 128, 128] } : ByteArray) : Value), (.string ({ data := #[160, 128, 128] } : ByteArray) : Value), (.string ({ data := #[144, 128, 128] } : ByteArray) : Value), (.string ({ data := #[191, 191, 191] } : ByteArray) : Value), (.string ({ data := #[159, 191, 191] } : ByteArray) : Value), (.string ({ data := #[143, 191, 191] } : ByteArray) : Value)] 9)) := by
  refine ⟨by simp, ?_, ?_, ?_, ?_, ?_⟩ <;> simp [go_sem]

set_option maxHeartbeats 2000000 in
set_option maxRecDepth 20000 in
theorem l1Part_long (h : ByteArray) (n : Nat) (w : World) (h0 : 0 < h.size) (hs : h.size ≤ 3) (hn : h.size < n ∧ n ≤ 4) (hx : longV (h[0].toNat : Int) = n) :
    Calls Tryd.prog 66 #[.string h] w fun e w' => e = .returned (.bool (fillB h n)) ∧ Below w.heap.size w w' := by
  have hl : Hid (longV (h[0].toNat : Int) = n) := hx
  clear hx
  have he := isEmpty_no h h0
  have hb0 : (h[0].toNat : Int) < 256 := by have := h[0].toNat_lt; omega
  have hlt : ¬ ((n : Int) ≤ (h.size : Int)) := by omega
  have hy0 := fun o => (Below.refl w.heap.size w).alloc (Nat.le_refl _) o
  have m0 : (h ++ ({ data := #[128, 128, 128] } : ByteArray).extract 0 (n - h.size)).size ≤ maxLen := by rw [ByteArray.size_append, ByteArray.size_extract]; unfold maxLen; omega
  have m1 : (h ++ ({ data := #[160, 128, 128] } : ByteArray).extract 0 (n - h.size)).size ≤ maxLen := by rw [ByteArray.size_append, ByteArray.size_extract]; unfold maxLen; omega
  have m2 : (h ++ ({ data := #[144, 128, 128] } : ByteArray).extract 0 (n - h.size)).size ≤ maxLen := by rw [ByteArray.size_append, ByteArray.size_extract]; unfold maxLen; omega
  have m3 : (h ++ ({ data := #[191, 191, 191] } : ByteArray).extract 0 (n - h.size)).size ≤ maxLen := by rw [ByteArray.size_append, ByteArray.size_extract]; unfold maxLen; omega
  have m4 : (h ++ ({ data := #[159, 191, 191] } : ByteArray).extract 0 (n - h.size)).size ≤ maxLen := by rw [ByteArray.size_append, ByteArray.size_extract]; unfold maxLen; omega
  have m5 : (h ++ ({ data := #[143, 191, 191] } : ByteArray).extract 0 (n - h.size)).size ≤ maxLen := by rw [ByteArray.size_append, ByteArray.size_extract]; unfold maxLen; omega
  have g0 := fun W => specGet_any (h ++ ({ data := #[128, 128, 128] } : ByteArray).extract 0 (n - h.size)) W m0
  have g1 := fun W => specGet_any (h ++ ({ data := #[160, 128, 128] } : ByteArray).extract 0 (n - h.size)) W m1
  have g2 := fun W => specGet_any (h ++ ({ data := #[144, 128, 128] } : ByteArray).extract 0 (n - h.size)) W m2
  have g3 := fun W => specGet_any (h ++ ({ data := #[191, 191, 191] } : ByteArray).extract 0 (n - h.size)) W m3
  have g4 := fun W => specGet_any (h ++ ({ data := #[159, 191, 191] } : ByteArray).extract 0 (n - h.size)) W m4
  have g5 := fun W => specGet_any (h ++ ({ data := #[143, 191, 191] } : ByteArray).extract 0 (n - h.size)) W m5
  clear m0 m1 m2 m3 m4 m5
  go_enter Tryd.func66, Tryd.ntmps66
  go_wp2_with (first | (go_at_call 77; refine (l1Long_any _ _ (by omega)).mono ?_; rw [hl.out]; rintro e w' ⟨rfl, hw⟩; subst w'))
  refine wp_loop_rounds 7 ?_
  rw [rounds_succ]
  go_wp2_with (go_at_call 78; refine (g0 _).mono ?_; rintro e w1 ⟨rfl, hb⟩; obtain ⟨hg, q1, q2, q3, q4, q5⟩ := (fill_new w).below hb; replace hb := (hy0 _).trans (hb.mono (by simp)))
  · go_ret
    exact ⟨ret_bool (by simp only [fillB, *, Bool.true_or]), hb⟩
  rw [rounds_succ]
  go_wp2_with (go_at_call 78; refine (g1 _).mono ?_; rintro e w1 ⟨rfl, hc⟩; replace hb := hb.trans (hc.mono hb.size); obtain ⟨hgx1, q1x1, q2x1, q3x1, q4x1, q5x1⟩ := FillAt.below ⟨hg, q1, q2, q3, q4, q5⟩ hc; clear hg q1 q2 q3 q4 q5)
  · go_ret
    exact ⟨ret_bool (by simp only [fillB, *, Bool.true_or, Bool.or_true]), hb⟩
  rw [rounds_succ]
  go_wp2_with (go_at_call 78; refine (g2 _).mono ?_; rintro e w1 ⟨rfl, hc⟩; replace hb := hb.trans (hc.mono hb.size); obtain ⟨hgx2, q1x2, q2x2, q3x2, q4x2, q5x2⟩ := FillAt.below ⟨hgx1, q1x1, q2x1, q3x1, q4x1, q5x1⟩ hc; clear hgx1 q1x1 q2x1 q3x1 q4x1 q5x1)
  · go_ret
    exact ⟨ret_bool (by simp only [fillB, *, Bool.true_or, Bool.false_or, Bool.or_true]), hb⟩
  rw [rounds_succ]
  go_wp2_with (go_at_call 78; refine (g3 _).mono ?_; rintro e w1 ⟨rfl, hc⟩; replace hb := hb.trans (hc.mono hb.size); obtain ⟨hgx3, q1x3, q2x3, q3x3, q4x3, q5x3⟩ := FillAt.below ⟨hgx2, q1x2, q2x2, q3x2, q4x2, q5x2⟩ hc; clear hgx2 q1x2 q2x2 q3x2 q4x2 q5x2)
  · go_ret
    exact ⟨ret_bool (by simp only [fillB, *, Bool.true_or, Bool.false_or, Bool.or_true]), hb⟩
  rw [rounds_succ]
  go_wp2_with (go_at_call 78; refine (g4 _).mono ?_; rintro e w1 ⟨rfl, hc⟩; replace hb := hb.trans (hc.mono hb.size); obtain ⟨hgx4, q1x4, q2x4, q3x4, q4x4, q5x4⟩ := FillAt.below ⟨hgx3, q1x3, q2x3, q3x3, q4x3, q5x3⟩ hc; clear hgx3 q1x3 q2x3 q3x3 q4x3 q5x3)
  · go_ret
    exact ⟨ret_bool (by simp only [fillB, *, Bool.true_or, Bool.false_or, Bool.or_true]), hb⟩
  rw [rounds_succ]
  go_wp2_with (go_at_call 78; refine (g5 _).mono ?_; rintro e w1 ⟨rfl, hc⟩; replace hb := hb.trans (hc.mono hb.size); obtain ⟨hgx5, q1x5, q2x5, q3x5, q4x5, q5x5⟩ := FillAt.below ⟨hgx4, q1x4, q2x4, q3x4, q4x4, q5x4⟩ hc; clear hgx4 q1x4 q2x4 q3x4 q4x4 q5x4)
  · go_ret
    exact ⟨ret_bool (by simp only [fillB, *, Bool.false_or, Bool.or_true]), hb⟩
  rw [rounds_succ]
  go_wp2
  go_ret
  exact ⟨ret_bool (by simp only [fillB, *, Bool.or_false]), hb⟩

theorem l1Part_no (h : ByteArray) (n : Int) (w : World) (h0 : 0 < h.size) (hn : n ≤ h.size) (hx : longV (h[0].toNat : Int) = n) :
    Calls Tryd.prog 66 #[.string h] w fun e w' => e = .returned (.bool false) ∧ Below w.heap.size w w' := by
  have hl : Hid (longV (h[0].toNat : Int) = n) := hx
  clear hx
  have he := isEmpty_no h h0
  have hb0 : (h[0].toNat : Int) < 256 := by have := h[0].toNat_lt; omega
  go_enter Tryd.func66, Tryd.ntmps66
  go_wp2_with (first | (go_at_call 77; refine (l1Long_any _ _ (by omega)).mono ?_; rw [hl.out]; rintro e w' ⟨rfl, rfl⟩))
  go_ret
  exact ⟨rfl, Below.refl _ _⟩

theorem l1Part_empty (h : ByteArray) (w : World) (h0 : ¬ 0 < h.size) :
    Calls Tryd.prog 66 #[.string h] w fun e w' => e = .returned (.bool true) ∧ Below w.heap.size w w' := by
  have he := isEmpty_yes h h0
  go_enter Tryd.func66, Tryd.ntmps66
  go_wp2
  go_ret
  exact ⟨rfl, Below.refl _ _⟩
end Go.Proofs.YtlmnhlfklbgjdaaDoor
namespace Go.Proofs.YtlmnhlfklbgjdaaDoor
theorem dec2_2 (b0 b1 : Int) : (dec [b0, b1]).2 = 2 ↔ 194 ≤ b0 ∧ b0 < 224 ∧ (128 ≤ b1 ∧ b1 < 192) := by
  simp only [dec]
  repeat' split
  all_goals (dsimp only; omega)
def p3 (b0 b1 : Int) : Prop := 224 ≤ b0 ∧ b0 < 240 ∧ (128 ≤ b1 ∧ b1 < 192) ∧ 32 ≤ (b0 - 224) * 64 + (b1 - 128) ∧ ((b0 - 224) * 64 + (b1 - 128) < 864 ∨ 895 < (b0 - 224) * 64 + (b1 - 128))
def p4 (b0 b1 : Int) : Prop := 240 ≤ b0 ∧ b0 < 248 ∧ (128 ≤ b1 ∧ b1 < 192) ∧ 16 ≤ (b0 - 240) * 64 + (b1 - 128) ∧ (b0 - 240) * 64 + (b1 - 128) ≤ 271
theorem dec2_3 (b0 b1 b2 : Int) : (dec [b0, b1, b2]).2 = 3 ↔ p3 b0 b1 ∧ (128 ≤ b2 ∧ b2 < 192) := by
  unfold p3
  simp only [dec, runeOk_iff]
  repeat' split
  all_goals (dsimp only; omega)
theorem dec2_4 (b0 b1 b2 b3 : Int) : (dec [b0, b1, b2, b3]).2 = 4 ↔ p4 b0 b1 ∧ (128 ≤ b2 ∧ b2 < 192) ∧ (128 ≤ b3 ∧ b3 < 192) := by
  unfold p4
  simp only [dec, runeOk_iff]
  repeat' split
  all_goals (dsimp only; omega)
theorem p3_any2 (b0 : Int) : (p3 b0 128 ∨ p3 b0 191) ↔ (224 ≤ b0 ∧ b0 < 240) := by unfold p3; omega
theorem p3_any6 (b0 : Int) : (p3 b0 128 ∨ p3 b0 160 ∨ p3 b0 144 ∨ p3 b0 191 ∨ p3 b0 159 ∨ p3 b0 143) ↔ (224 ≤ b0 ∧ b0 < 240) := by
  constructor
  · rintro (h | h | h | h | h | h) <;> (unfold p3 at h; omega)
  · intro h
    rcases (p3_any2 b0).2 h with h | h
    · exact .inl h
    · exact .inr (.inr (.inr (.inl h)))
theorem p4_any2 (b0 : Int) : (p4 b0 128 ∨ p4 b0 191) ↔ (240 ≤ b0 ∧ b0 < 245) := by unfold p4; omega
theorem p4_any6 (b0 : Int) : (p4 b0 128 ∨ p4 b0 160 ∨ p4 b0 144 ∨ p4 b0 191 ∨ p4 b0 159 ∨ p4 b0 143) ↔ (240 ≤ b0 ∧ b0 < 245) := by
  constructor
  · rintro (h | h | h | h | h | h) <;> (unfold p4 at h; omega)
  · intro h
    rcases (p4_any2 b0).2 h with h | h
    · exact .inl h
    · exact .inr (.inr (.inr (.inl h)))
theorem p3_long (b0 b1 : Int) (h : p3 b0 b1) : longV b0 = 3 := by unfold p3 at h; unfold longV; omega
theorem p4_long (b0 b1 : Int) (h : p4 b0 b1) : longV b0 = 4 := by unfold p4 at h; unfold longV; omega

theorem dec2_le (b0 : Int) (t : List Int) (hb : 0 ≤ b0) : (dec (b0 :: t)).2 ≤ 4 := by
  rcases put_dec b0 t hb with ⟨_, _, h3⟩ | ⟨h1, _⟩
  · rw [h3]; have := putL_len (dec (b0 :: t)).1; omega
  · rw [h1]; simp

end Go.Proofs.YtlmnhlfklbgjdaaDoor
namespace Go.Proofs.YtlmnhlfklbgjdaaDoor
theorem nums_app (a b : ByteArray) : nums (a ++ b) = nums a ++ nums b := by simp [nums, ByteArray.data_append]
theorem cut_nums (h : ByteArray) : cutB h = true ↔ ((dec (nums h ++ [128])).2 = (h.size : Int) + 1 ∨ (dec (nums h ++ [191])).2 = (h.size : Int) + 1 ∨ (dec (nums h ++ [128, 128])).2 = (h.size : Int) + 2 ∨ (dec (nums h ++ [191, 191])).2 = (h.size : Int) + 2 ∨ (dec (nums h ++ [128, 128, 128])).2 = (h.size : Int) + 3 ∨ (dec (nums h ++ [191, 191, 191])).2 = (h.size : Int) + 3) := by
  have e0 : nums T0 = [128] := rfl
  have e1 : nums T1 = [191] := rfl
  have e2 : nums T2 = [128, 128] := rfl
  have e3 : nums T3 = [191, 191] := rfl
  have e4 : nums T4 = [128, 128, 128] := rfl
  have e5 : nums T5 = [191, 191, 191] := rfl
  simp only [cutB, getV, nums_app, e0, e1, e2, e3, e4, e5, Bool.or_eq_true, beq_iff_eq, or_assoc]
theorem fill_nums (h : ByteArray) (n : Nat) : fillB h n = true ↔ ((dec (nums h ++ [128, 128, 128].take (n - h.size))).2 = n ∨ (dec (nums h ++ [160, 128, 128].take (n - h.size))).2 = n ∨ (dec (nums h ++ [144, 128, 128].take (n - h.size))).2 = n ∨ (dec (nums h ++ [191, 191, 191].take (n - h.size))).2 = n ∨ (dec (nums h ++ [159, 191, 191].take (n - h.size))).2 = n ∨ (dec (nums h ++ [143, 191, 191].take (n - h.size))).2 = n) := by
  have e0 : nums ⟨#[128, 128, 128]⟩ = [128, 128, 128] := rfl
  have e1 : nums ⟨#[160, 128, 128]⟩ = [160, 128, 128] := rfl
  have e2 : nums ⟨#[144, 128, 128]⟩ = [144, 128, 128] := rfl
  have e3 : nums ⟨#[191, 191, 191]⟩ = [191, 191, 191] := rfl
  have e4 : nums ⟨#[159, 191, 191]⟩ = [159, 191, 191] := rfl
  have e5 : nums ⟨#[143, 191, 191]⟩ = [143, 191, 191] := rfl
  simp only [fillB, getV, nums_app, nums_extract, e0, e1, e2, e3, e4, e5, List.drop_zero, Bool.or_eq_true, beq_iff_eq, or_assoc]

theorem no5 (b0 : Int) (t : List Int) (hb : 0 ≤ b0) (k : Int) (hk : 4 < k) : ¬ (dec (b0 :: t)).2 = k := by
  have := dec2_le b0 t hb; omega
theorem or6 {a b c d e f : Prop} : (a ∨ b ∨ c ∨ d ∨ e ∨ f) ↔ ((a ∨ b) ∨ (c ∨ d) ∨ (e ∨ f)) := by simp only [or_assoc]

theorem cut_1 (h : ByteArray) (b0 : Int) (hd : nums h = [b0]) (hz : h.size = 1) : cutB h = true ↔ (194 ≤ b0 ∧ b0 < 245) := by
  rw [cut_nums, hd, hz]
  simp only [List.cons_append, List.nil_append, Int.cast_ofNat_Int, Int.reduceAdd, dec2_2, dec2_3, dec2_4, Int.reduceLE, Int.reduceLT, and_true]
  rw [or6, p3_any2, p4_any2]
  omega
theorem fill_1 (h : ByteArray) (b0 : Int) (n : Nat) (hd : nums h = [b0]) (hz : h.size = 1) (hn : longV b0 = n) (h1 : 1 < n) : fillB h n = true ↔ (194 ≤ b0 ∧ b0 < 245) := by
  rw [fill_nums, hd, hz]
  have hc : n = 2 ∨ n = 3 ∨ n = 4 := by unfold longV at hn; omega
  rcases hc with rfl | rfl | rfl
  · simp only [Nat.reduceSub, List.take_succ_cons, List.take_zero, List.cons_append, List.nil_append, Int.cast_ofNat_Int, dec2_2, Int.reduceLE, Int.reduceLT, and_true]
    unfold longV at hn; omega
  · simp only [Nat.reduceSub, List.take_succ_cons, List.take_zero, List.cons_append, List.nil_append, Int.cast_ofNat_Int, dec2_3, Int.reduceLE, Int.reduceLT, and_true]
    rw [p3_any6]
    unfold longV at hn; omega
  · simp only [Nat.reduceSub, List.take_succ_cons, List.take_zero, List.cons_append, List.nil_append, Int.cast_ofNat_Int, dec2_4, Int.reduceLE, Int.reduceLT, and_true]
    rw [p4_any6]
    unfold longV at hn; omega
theorem cut_2 (h : ByteArray) (b0 b1 : Int) (hb : 0 ≤ b0) (hd : nums h = [b0, b1]) (hz : h.size = 2) : cutB h = true ↔ (p3 b0 b1 ∨ p4 b0 b1) := by
  rw [cut_nums, hd, hz]
  simp only [List.cons_append, List.nil_append, Int.cast_ofNat_Int, Int.reduceAdd, dec2_3, dec2_4, Int.reduceLE, Int.reduceLT, and_true, no5 b0 _ hb 5 (by omega), or_false, or_self]
  simp only [← or_assoc, or_self]
theorem fill_2 (h : ByteArray) (b0 b1 : Int) (n : Nat) (hd : nums h = [b0, b1]) (hz : h.size = 2) (hn : longV b0 = n) (h1 : 2 < n) : fillB h n = true ↔ (p3 b0 b1 ∨ p4 b0 b1) := by
  rw [fill_nums, hd, hz]
  have hc : n = 3 ∨ n = 4 := by unfold longV at hn; omega
  rcases hc with rfl | rfl
  · simp only [Nat.reduceSub, List.take_succ_cons, List.take_zero, List.cons_append, List.nil_append, Int.cast_ofNat_Int, dec2_3, Int.reduceLE, Int.reduceLT, and_true, or_self]
    constructor
    · exact .inl
    · rintro (h | h)
      · exact h
      · have := p4_long _ _ h; omega
  · simp only [Nat.reduceSub, List.take_succ_cons, List.take_zero, List.cons_append, List.nil_append, Int.cast_ofNat_Int, dec2_4, Int.reduceLE, Int.reduceLT, and_true, or_self]
    constructor
    · exact .inr
    · rintro (h | h)
      · have := p3_long _ _ h; omega
      · exact h
theorem cut_3 (h : ByteArray) (b0 b1 b2 : Int) (hb : 0 ≤ b0) (hd : nums h = [b0, b1, b2]) (hz : h.size = 3) : cutB h = true ↔ (p4 b0 b1 ∧ 128 ≤ b2 ∧ b2 < 192) := by
  rw [cut_nums, hd, hz]
  simp only [List.cons_append, List.nil_append, Int.cast_ofNat_Int, Int.reduceAdd, dec2_4, Int.reduceLE, Int.reduceLT, and_true, no5 b0 _ hb 5 (by omega), no5 b0 _ hb 6 (by omega), or_false, or_self]
theorem fill_3 (h : ByteArray) (b0 b1 b2 : Int) (n : Nat) (hd : nums h = [b0, b1, b2]) (hz : h.size = 3) (hn : longV b0 = n) (h1 : 3 < n) : fillB h n = true ↔ (p4 b0 b1 ∧ 128 ≤ b2 ∧ b2 < 192) := by
  rw [fill_nums, hd, hz]
  have hc : n = 4 := by unfold longV at hn; omega
  subst hc
  simp only [Nat.reduceSub, List.take_succ_cons, List.take_zero, List.cons_append, List.nil_append, Int.cast_ofNat_Int, dec2_4, Int.reduceLE, Int.reduceLT, and_true, or_self]

theorem eq_of_iff {a b : Bool} {p : Prop} (ha : a = true ↔ p) (hb : b = true ↔ p) : a = b := by rw [Bool.eq_iff_iff, ha, hb]
theorem no_of_iff {a : Bool} {p : Prop} (ha : a = true ↔ p) (hp : ¬ p) : a = false := by
  cases a
  · rfl
  · exact absurd (ha.1 rfl) hp
/-- The whole: cut short is told alike. -/
theorem short_same (h : ByteArray) (h0 : 0 < h.size) (hs : h.size ≤ 3) (n : Nat) (hn : longV ((h[0]'h0).toNat : Int) = n) :
    (n ≤ h.size → cutB h = false) ∧ (h.size < n → cutB h = fillB h n) := by
  have hl := nums_len h
  have g0 := nums_get h 0 h0
  have hbd := nums_bd h
  generalize ((h[0]'h0).toNat : Int) = x0 at *
  match hd : nums h with
  | [] => rw [hd] at hl; simp at hl; omega
  | [b0] =>
    rw [hd] at hl g0 hbd
    simp at g0
    subst g0
    have hz : h.size = 1 := by simpa using hl.symm
    have hc := cut_1 h b0 hd hz
    refine ⟨fun h1 => no_of_iff hc ?_, fun h1 => eq_of_iff hc (fill_1 h b0 n hd hz hn (by omega))⟩
    unfold longV at hn; omega
  | [b0, b1] =>
    rw [hd] at hl g0 hbd
    simp at g0
    subst g0
    have hz : h.size = 2 := by simpa using hl.symm
    have hc := cut_2 h b0 b1 (hbd b0 (by simp)).1 hd hz
    refine ⟨fun h1 => no_of_iff hc ?_, fun h1 => eq_of_iff hc (fill_2 h b0 b1 n hd hz hn (by omega))⟩
    rintro (h | h)
    · have := p3_long _ _ h; omega
    · have := p4_long _ _ h; omega
  | [b0, b1, b2] =>
    rw [hd] at hl g0 hbd
    simp at g0
    subst g0
    have hz : h.size = 3 := by simpa using hl.symm
    have hc := cut_3 h b0 b1 b2 (hbd b0 (by simp)).1 hd hz
    refine ⟨fun h1 => no_of_iff hc ?_, fun h1 => eq_of_iff hc (fill_3 h b0 b1 b2 n hd hz hn (by omega))⟩
    rintro ⟨h, _⟩
    have := p4_long _ _ h; omega
  | b0 :: b1 :: b2 :: b3 :: t => rw [hd] at hl; simp at hl; omega
end Go.Proofs.YtlmnhlfklbgjdaaDoor
namespace Go.Proofs.YtlmnhlfklbgjdaaDoor
open Go.ChangeShapes Go.WideShapes Go.ChangeAt Go.RowKit
def feedOk (h : ByteArray) : Bool := if 0 < h.size then decide (h.size ≤ 3) && cutB h else true
theorem feedOk_0 (h : ByteArray) (h0 : ¬ 0 < h.size) : feedOk h = true := by simp [feedOk, h0]
theorem feedOk_big (h : ByteArray) (h0 : ¬ h.size ≤ 3) : feedOk h = false := by simp [feedOk, h0]; omega
theorem feedOk_cut (h : ByteArray) (h0 : 0 < h.size) (h1 : h.size ≤ 3) : feedOk h = cutB h := by simp [feedOk, h0, h1]

set_option maxHeartbeats 400000 in
theorem implFeederOk_any (h : ByteArray) (w : World) :
    Calls Tryd.prog 56 #[.agg #[.string h]] w fun e w' => e = .returned (.bool (feedOk h)) ∧ Below w.heap.size w w' := by
  have hy0 := fun o => (Below.refl w.heap.size w).alloc (Nat.le_refl _) o
  by_cases h0 : 0 < h.size
  · have he := isEmpty_no h h0
    by_cases h1 : h.size ≤ 3
    · have hf : Hid (feedOk h = cutB h) := feedOk_cut h h0 h1
      have hi : (h.size : Int) ≤ 3 := by omega
      go_enter Tryd.func56, Tryd.ntmps56
      go_wp2_with (go_at_call 74; refine (cutShort_any h _ h1).mono ?_; rintro e w1 ⟨rfl, hb⟩)
      go_ret
      exact ⟨ret_bool hf.out.symm, (hy0 _).trans (hb.mono (by simp))⟩
    · have hf : Hid (feedOk h = false) := feedOk_big h h1
      have hi : ¬ (h.size : Int) ≤ 3 := by omega
      go_enter Tryd.func56, Tryd.ntmps56
      go_wp2
      go_ret
      exact ⟨ret_bool hf.out.symm, hy0 _⟩
  · have he := isEmpty_yes h h0
    have hf : Hid (feedOk h = true) := feedOk_0 h h0
    go_enter Tryd.func56, Tryd.ntmps56
    go_wp2
    go_ret
    exact ⟨ret_bool hf.out.symm, hy0 _⟩

theorem l1Part_any (h : ByteArray) (w : World) (hs : h.size ≤ 3) :
    Calls Tryd.prog 66 #[.string h] w fun e w' => e = .returned (.bool (feedOk h)) ∧ Below w.heap.size w w' := by
  by_cases h0 : 0 < h.size
  · rw [feedOk_cut h h0 hs]
    obtain ⟨n, hn, hn4⟩ : ∃ n : Nat, longV (h[0].toNat : Int) = n ∧ n ≤ 4 := by
      have : 0 ≤ longV (h[0].toNat : Int) ∧ longV (h[0].toNat : Int) ≤ 4 := by unfold longV; omega
      exact ⟨(longV (h[0].toNat : Int)).toNat, by omega, by omega⟩
    obtain ⟨s1, s2⟩ := short_same h h0 hs n hn
    by_cases hlt : h.size < n
    · rw [s2 hlt]; exact l1Part_long h n w h0 hs ⟨hlt, hn4⟩ hn
    · rw [s1 (by omega)]; exact l1Part_no h n w h0 (by omega) hn
  · rw [feedOk_0 h h0]; exact l1Part_empty h w h0

set_option maxHeartbeats 400000 in
theorem specFeederOk_any (h : ByteArray) (w : World) :
    Calls Tryd.prog 48 #[.agg #[.string h]] w fun e w' => e = .returned (.bool (feedOk h)) ∧ Below w.heap.size w w' := by
  have hy0 := fun o => (Below.refl w.heap.size w).alloc (Nat.le_refl _) o
  by_cases h1 : h.size ≤ 3
  · have hi : (h.size : Int) ≤ 3 := by omega
    go_enter Tryd.func48, Tryd.ntmps48
    go_wp2_with (go_at_call 66; refine (l1Part_any h _ h1).mono ?_; rintro e w1 ⟨rfl, hb⟩)
    go_ret
    exact ⟨rfl, (hy0 _).trans (hb.mono (by simp))⟩
  · have hf : Hid (feedOk h = false) := feedOk_big h h1
    have hi : ¬ (h.size : Int) ≤ 3 := by omega
    go_enter Tryd.func48, Tryd.ntmps48
    go_wp2
    go_ret
    exact ⟨ret_bool hf.out.symm, hy0 _⟩
end Go.Proofs.YtlmnhlfklbgjdaaDoor
namespace Go.Proofs.YtlmnhlfklbgjdaaDoor
open Go.ChangeShapes Go.WideShapes Go.ChangeAt Go.RowKit
structure Te where
  gc : Int
  g : List (List Ce)
  oc : Int
  o : List (List Ce)
  row : Int
  col : Int
  st : St
  top : Int
  bot : Int
  full : Bool
  wrap : Bool
  away : Bool
  hid : Bool
  sr : Int
  sc : Int
  ss : St
  ti : List Int
  pa : Pa
  fe : ByteArray
/-- The values of its lists. -/
structure Tv where
  g : Value
  o : Value
  ti : Value
  pp : Value
  pt : Value
def cellB (gc : Int) (n : Nat) (r c : Int) : Bool := decide (0 ≤ r ∧ r ≤ (n : Int) - 1) && decide (0 ≤ c ∧ c ≤ gc - 1)
def termOkB (t : Te) : Bool :=
  (gridOkB t.gc t.g && (gridOkB t.oc t.o && (decide (t.gc = t.oc) && decide (t.g.length = t.o.length)))) && ((cellB t.gc t.g.length t.row t.col && cellB t.gc t.g.length t.sr t.sc) &&
    (decide (0 ≤ t.top ∧ t.top ≤ t.bot ∧ t.bot ≤ (t.g.length : Int) - 1 ∧ ¬ (t.top = t.bot ∧ 0 < (t.g.length : Int) - 1)) && (decide (t.full = true → t.col = t.gc - 1) && ((t.st.ok && t.ss.ok) && ((decide (t.ti.length ≤ 40) && runesB t.ti) && (okV t.pa && feedOk t.fe))))))
def teCs (t : Te) (v : Tv) : Array Value := #[.int .i64 t.gc, v.g, .int .i64 t.oc, v.o, .int .i64 t.row, .int .i64 t.col, .int .i64 t.st.fore, .int .i64 t.st.back, .bool t.st.bold, .bool t.st.under, .bool t.st.turned, .int .i64 t.top, .int .i64 t.bot, .bool t.full, .bool t.wrap, .bool t.away, .bool t.hid, .int .i64 t.sr, .int .i64 t.sc, .int .i64 t.ss.fore, .int .i64 t.ss.back, .bool t.ss.bold, .bool t.ss.under, .bool t.ss.turned, v.ti, .int .i64 t.pa.state, v.pp, .int .i64 t.pa.mark, v.pt, .string t.fe]
def teV (t : Te) (v : Tv) : Value := .agg (teCs t v)
/-- A screen's block, whole. -/
def TeB (w : World) (B : Nat) (T : TypeId) (t : Te) (v : Tv) : Prop := w.heap[B]? = some (.cells (teCs t v) T (0, 0))
theorem TeB.lt {w : World} {B : Nat} {T : TypeId} {t : Te} {v : Tv} (h : TeB w B T t v) : B < w.heap.size := (Array.getElem?_eq_some_iff.1 h).1
theorem TeB.kept {w w' : World} {B : Nat} {T : TypeId} {t : Te} {v : Tv} {row : Option Nat} (h : TeB w B T t v) (hg : w.grownBy w' row) (hne : row ≠ some B) : TeB w' B T t v := by
  unfold TeB
  rw [hg.block B h.lt (Ne.symm hne)]
  exact h
theorem TeB.below {w w' : World} {B : Nat} {T : TypeId} {t : Te} {v : Tv} (h : TeB w B T t v) (hb : Below w.heap.size w w') : TeB w' B T t v := h.kept (gbl hb none) (by simp)
theorem TeB.new (w : World) (T : TypeId) (t : Te) (v : Tv) : TeB (w.alloc (.cells (teCs t v) T)) w.heap.size T t v := heap_alloc_new w _
theorem TeB.cells {w : World} {B : Nat} {T : TypeId} {t : Te} {v : Tv} (h : TeB w B T t v) :
    w.cell? ⟨B, 0, none⟩ = some (.int .i64 t.gc) ∧ w.cell? ⟨B, 1, none⟩ = some (v.g) ∧ w.cell? ⟨B, 2, none⟩ = some (.int .i64 t.oc) ∧ w.cell? ⟨B, 3, none⟩ = some (v.o) ∧ w.cell? ⟨B, 4, none⟩ = some (.int .i64 t.row) ∧ w.cell? ⟨B, 5, none⟩ = some (.int .i64 t.col) ∧ w.cell? ⟨B, 6, none⟩ = some (.int .i64 t.st.fore) ∧ w.cell? ⟨B, 7, none⟩ = some (.int .i64 t.st.back) ∧ w.cell? ⟨B, 8, none⟩ = some (.bool t.st.bold) ∧ w.cell? ⟨B, 9, none⟩ = some (.bool t.st.under) ∧ w.cell? ⟨B, 10, none⟩ = some (.bool t.st.turned) ∧ w.cell? ⟨B, 11, none⟩ = some (.int .i64 t.top) ∧ w.cell? ⟨B, 12, none⟩ = some (.int .i64 t.bot) ∧ w.cell? ⟨B, 13, none⟩ = some (.bool t.full) ∧ w.cell? ⟨B, 14, none⟩ = some (.bool t.wrap) ∧ w.cell? ⟨B, 15, none⟩ = some (.bool t.away) ∧ w.cell? ⟨B, 16, none⟩ = some (.bool t.hid) ∧ w.cell? ⟨B, 17, none⟩ = some (.int .i64 t.sr) ∧ w.cell? ⟨B, 18, none⟩ = some (.int .i64 t.sc) ∧ w.cell? ⟨B, 19, none⟩ = some (.int .i64 t.ss.fore) ∧ w.cell? ⟨B, 20, none⟩ = some (.int .i64 t.ss.back) ∧ w.cell? ⟨B, 21, none⟩ = some (.bool t.ss.bold) ∧ w.cell? ⟨B, 22, none⟩ = some (.bool t.ss.under) ∧ w.cell? ⟨B, 23, none⟩ = some (.bool t.ss.turned) ∧ w.cell? ⟨B, 24, none⟩ = some (v.ti) ∧ w.cell? ⟨B, 25, none⟩ = some (.int .i64 t.pa.state) ∧ w.cell? ⟨B, 26, none⟩ = some (v.pp) ∧ w.cell? ⟨B, 27, none⟩ = some (.int .i64 t.pa.mark) ∧ w.cell? ⟨B, 28, none⟩ = some (v.pt) ∧ w.cell? ⟨B, 29, none⟩ = some (.string t.fe) := by
  refine ⟨?_, ?_, ?_, ?_, ?_, ?_, ?_, ?_, ?_, ?_, ?_, ?_, ?_, ?_, ?_, ?_, ?_, ?_, ?_, ?_, ?_, ?_, ?_, ?_, ?_, ?_, ?_, ?_, ?_, ?_⟩ <;> (rw [cell_of_row w B _ _ _ (0, 0) h]; rfl)
theorem TeB.frozen {w : World} {B : Nat} {T : TypeId} {t : Te} {v : Tv} (h : TeB w B T t v) (k : Nat) : w.frozen? ⟨B, k, none⟩ = false := frozen_of_row w B k _ _ h
/-- A screen whose lists can be read. -/
def SlT (w : World) (t : Te) (v : Tv) : Prop := SlG w v.g t.g ∧ SlG w v.o t.o ∧ SlN w v.ti t.ti ∧ SlN w v.pp t.pa.params ∧ SlN w v.pt t.pa.text
theorem SlT.below {w w' : World} {t : Te} {v : Tv} (h : SlT w t v) (hb : Below w.heap.size w w') : SlT w' t v := ⟨h.1.below hb, h.2.1.below hb, h.2.2.1.below hb, h.2.2.2.1.below hb, h.2.2.2.2.below hb⟩
def SzT (n : Nat) (t : Te) : Prop := t.g.length ≤ n ∧ (∀ i, i < t.g.length → (rowX t.g i).length ≤ n) ∧ t.o.length ≤ n ∧ (∀ i, i < t.o.length → (rowX t.o i).length ≤ n) ∧ t.ti.length ≤ n ∧ t.pa.params.length ≤ n ∧ t.pa.text.length ≤ n
theorem slG_shp {w : World} {v : Value} {rows : List (List Ce)} (h : SlG w v rows) : ∃ a c, v = .slice a rows.length c := by
  obtain ⟨a, c, vs, rfl, _⟩ := h
  exact ⟨a, c, rfl⟩
theorem info_te : (Tryd.prog.info? 43).map (·.size) = some 30 := by kernel_rfl
theorem load_te {w : World} {ops : Array Oper} {rest : List Oper} {o : Oper} {a : Act} {Q : Exit → Act → World → Prop} {B : Nat} {t : Te} {v : Tv} (hb : TeB w B 43 t v) (hgd : Region.wanted o (yielded ops a.tmps) = true) (x : Operand)
    (ho : o.op = .load 43 x) (hx : a.eval x = .pointer (some ⟨B, 0, none⟩))
    (h : wpList Tryd.prog ops Q rest (a.put o.dst (.agg (teCs t v))) w) : wpList Tryd.prog ops Q (o :: rest) a w :=
  load_T (cs := teCs t v) hgd 43 x ho Tryd.underlying43 rfl info_te hb hx h
end Go.Proofs.YtlmnhlfklbgjdaaDoor
namespace Go.Proofs.YtlmnhlfklbgjdaaDoor
open Go.ChangeShapes Go.WideShapes Go.ChangeAt Go.RowKit
section
variable {H : Type} {enc : TypeId × Value → H} {w : World} {base : Nat} {spare : Nat → Bool} {held : Bool}
set_option maxRecDepth 20000 in
theorem grid_cs {fuel : Nat} {cs : List Value} {y : DataW H × List MemPlace} (hf : DataW.trod enc Tryd.prog w base spare held fuel 24 cs = some y) :
    ∃ (cols : Int) (u : Value) (rows : List (List Ce)), cs = [.int .i64 cols, u] ∧ SlG w u rows ∧ rows.length ≤ maxLen ∧ ∀ i, i < rows.length → (rowX rows i).length ≤ maxLen := by
  obtain ⟨xs, n, _, _, hl, hlen, hfs⟩ := DataW.trod_struct Tryd.underlying24 hf
  have e : Tryd.prog.cellsOf 24 = 2 := by kernel_rfl
  have ei : Tryd.prog.cellsOf 2 = 1 := by kernel_rfl
  have er : Tryd.prog.cellsOf 22 = 1 := by kernel_rfl
  match cs, hl.trans e, xs, hlen with
  | [c0, c1], _, [x0, x1], _ =>
    have h0 := hfs 0 _ rfl
    have h1 := hfs 1 _ rfl
    simp [ei, er] at h0 h1
    obtain ⟨k0, q0, _, _⟩ := DataW.trod_int Tryd.underlying2 h0
    obtain ⟨u, rows, q1, hs, hle, hxl⟩ := rows_tr h1
    simp at q0 q1
    subst q0; subst q1
    exact ⟨_, _, rows, rfl, hs, hle, hxl⟩
set_option maxRecDepth 20000 in
theorem parser_cs {fuel : Nat} {cs : List Value} {y : DataW H × List MemPlace} (hf : DataW.trod enc Tryd.prog w base spare held fuel 29 cs = some y) :
    ∃ (q : Pa) (pv tv : Value), cs = [.int .i64 q.state, pv, .int .i64 q.mark, tv] ∧ SlN w pv q.params ∧ SlN w tv q.text ∧ q.params.length ≤ maxLen ∧ q.text.length ≤ maxLen := by
  obtain ⟨xs, n, _, _, hl, hlen, hfs⟩ := DataW.trod_struct Tryd.underlying29 hf
  have e : Tryd.prog.cellsOf 29 = 4 := by kernel_rfl
  have ei : Tryd.prog.cellsOf 2 = 1 := by kernel_rfl
  have er : Tryd.prog.cellsOf 27 = 1 := by kernel_rfl
  match cs, hl.trans e, xs, hlen with
  | [c0, c1, c2, c3], _, [x0, x1, x2, x3], _ =>
    have h0 := hfs 0 _ rfl
    have h1 := hfs 1 _ rfl
    have h2 := hfs 2 _ rfl
    have h3 := hfs 3 _ rfl
    simp [ei, er] at h0 h1 h2 h3
    obtain ⟨k0, q0, _, _⟩ := DataW.trod_int Tryd.underlying2 h0
    obtain ⟨u1, y1, q1, s1, l1⟩ := ints_tr h1
    obtain ⟨k2, q2, _, _⟩ := DataW.trod_int Tryd.underlying2 h2
    obtain ⟨u3, y3, q3, s3, l3⟩ := ints_tr h3
    simp at q0 q1 q2 q3
    subst q0; subst q1; subst q2; subst q3
    exact ⟨⟨k0, y1, k2, y3⟩, _, _, rfl, s1, s3, l1, l3⟩
set_option maxRecDepth 20000 in
theorem feeder_cs {fuel : Nat} {cs : List Value} {y : DataW H × List MemPlace} (hf : DataW.trod enc Tryd.prog w base spare held fuel 31 cs = some y) :
    ∃ s : ByteArray, cs = [.string s] ∧ s.size ≤ maxLen := by
  obtain ⟨xs, n, _, _, hl, hlen, hfs⟩ := DataW.trod_struct Tryd.underlying31 hf
  have e : Tryd.prog.cellsOf 31 = 1 := by kernel_rfl
  have e2 : Tryd.prog.cellsOf 9 = 1 := by kernel_rfl
  match cs, hl.trans e, xs, hlen with
  | [c0], _, [x0], _ =>
    have h0 := hfs 0 _ rfl
    simp [e2] at h0
    obtain ⟨s, hs, _, hm⟩ := DataW.trod_string Tryd.underlying9 h0
    simp at hs
    subst hs
    exact ⟨s, rfl, hm⟩
theorem split1 (cs : List Value) (a k b : Nat) (h : a + k = b) : cs.drop a = (cs.drop a).take k ++ cs.drop b := by
  subst h
  rw [← List.drop_drop]
  exact (List.take_append_drop k (cs.drop a)).symm
set_option maxRecDepth 20000 in
set_option maxHeartbeats 2000000 in
theorem term_cs {fuel : Nat} {cs : List Value} {y : DataW H × List MemPlace} (hf : DataW.trod enc Tryd.prog w base spare held fuel 33 cs = some y) :
    ∃ (t : Te) (u : Tv), cs = (teCs t u).toList ∧ SlT w t u ∧ SzT maxLen t ∧ t.fe.size ≤ maxLen := by
  obtain ⟨xs, n, _, _, hl, hlen, hfs⟩ := DataW.trod_struct Tryd.underlying33 hf
  have e : Tryd.prog.cellsOf 33 = 30 := by kernel_rfl
  have eg : Tryd.prog.cellsOf 24 = 2 := by kernel_rfl
  have ei : Tryd.prog.cellsOf 2 = 1 := by kernel_rfl
  have eb : Tryd.prog.cellsOf 4 = 1 := by kernel_rfl
  have es : Tryd.prog.cellsOf 26 = 5 := by kernel_rfl
  have el : Tryd.prog.cellsOf 27 = 1 := by kernel_rfl
  have ep : Tryd.prog.cellsOf 29 = 4 := by kernel_rfl
  have ef : Tryd.prog.cellsOf 31 = 1 := by kernel_rfl
  have hn : xs.length = 17 := hlen
  have hget : ∀ i, i < 17 → ∃ y, xs[i]? = some y := fun i hi => ⟨xs[i]'(by omega), List.getElem?_eq_getElem (by omega)⟩
  clear hlen hf
  obtain ⟨y0, hy0⟩ := hget 0 (by decide)
  have h0 : DataW.trod enc Tryd.prog w base spare held n 24 ((cs.drop 0).take (Tryd.prog.cellsOf 24)) = some y0 := (hfs 0 _ rfl).trans hy0
  rw [eg] at h0
  obtain ⟨k0, u0, r0, q0, s0, l0, m0⟩ := grid_cs h0
  obtain ⟨y1, hy1⟩ := hget 1 (by decide)
  have h1 : DataW.trod enc Tryd.prog w base spare held n 24 ((cs.drop 2).take (Tryd.prog.cellsOf 24)) = some y1 := (hfs 1 _ rfl).trans hy1
  rw [eg] at h1
  obtain ⟨k1, u1, r1, q1, s1, l1, m1⟩ := grid_cs h1
  obtain ⟨y2, hy2⟩ := hget 2 (by decide)
  have h2 : DataW.trod enc Tryd.prog w base spare held n 2 ((cs.drop 4).take (Tryd.prog.cellsOf 2)) = some y2 := (hfs 2 _ rfl).trans hy2
  rw [ei] at h2
  obtain ⟨k2, q2, _, _⟩ := DataW.trod_int Tryd.underlying2 h2
  obtain ⟨y3, hy3⟩ := hget 3 (by decide)
  have h3 : DataW.trod enc Tryd.prog w base spare held n 2 ((cs.drop 5).take (Tryd.prog.cellsOf 2)) = some y3 := (hfs 3 _ rfl).trans hy3
  rw [ei] at h3
  obtain ⟨k3, q3, _, _⟩ := DataW.trod_int Tryd.underlying2 h3
  obtain ⟨y4, hy4⟩ := hget 4 (by decide)
  have h4 : DataW.trod enc Tryd.prog w base spare held n 26 ((cs.drop 6).take (Tryd.prog.cellsOf 26)) = some y4 := (hfs 4 _ rfl).trans hy4
  rw [es] at h4
  obtain ⟨k4, q4⟩ := style_cs h4
  obtain ⟨y5, hy5⟩ := hget 5 (by decide)
  have h5 : DataW.trod enc Tryd.prog w base spare held n 2 ((cs.drop 11).take (Tryd.prog.cellsOf 2)) = some y5 := (hfs 5 _ rfl).trans hy5
  rw [ei] at h5
  obtain ⟨k5, q5, _, _⟩ := DataW.trod_int Tryd.underlying2 h5
  obtain ⟨y6, hy6⟩ := hget 6 (by decide)
  have h6 : DataW.trod enc Tryd.prog w base spare held n 2 ((cs.drop 12).take (Tryd.prog.cellsOf 2)) = some y6 := (hfs 6 _ rfl).trans hy6
  rw [ei] at h6
  obtain ⟨k6, q6, _, _⟩ := DataW.trod_int Tryd.underlying2 h6
  obtain ⟨y7, hy7⟩ := hget 7 (by decide)
  have h7 : DataW.trod enc Tryd.prog w base spare held n 4 ((cs.drop 13).take (Tryd.prog.cellsOf 4)) = some y7 := (hfs 7 _ rfl).trans hy7
  rw [eb] at h7
  obtain ⟨k7, q7, _⟩ := DataW.trod_bool Tryd.underlying4 h7
  obtain ⟨y8, hy8⟩ := hget 8 (by decide)
  have h8 : DataW.trod enc Tryd.prog w base spare held n 4 ((cs.drop 14).take (Tryd.prog.cellsOf 4)) = some y8 := (hfs 8 _ rfl).trans hy8
  rw [eb] at h8
  obtain ⟨k8, q8, _⟩ := DataW.trod_bool Tryd.underlying4 h8
  obtain ⟨y9, hy9⟩ := hget 9 (by decide)
  have h9 : DataW.trod enc Tryd.prog w base spare held n 4 ((cs.drop 15).take (Tryd.prog.cellsOf 4)) = some y9 := (hfs 9 _ rfl).trans hy9
  rw [eb] at h9
  obtain ⟨k9, q9, _⟩ := DataW.trod_bool Tryd.underlying4 h9
  obtain ⟨y10, hy10⟩ := hget 10 (by decide)
  have h10 : DataW.trod enc Tryd.prog w base spare held n 4 ((cs.drop 16).take (Tryd.prog.cellsOf 4)) = some y10 := (hfs 10 _ rfl).trans hy10
  rw [eb] at h10
  obtain ⟨k10, q10, _⟩ := DataW.trod_bool Tryd.underlying4 h10
  obtain ⟨y11, hy11⟩ := hget 11 (by decide)
  have h11 : DataW.trod enc Tryd.prog w base spare held n 2 ((cs.drop 17).take (Tryd.prog.cellsOf 2)) = some y11 := (hfs 11 _ rfl).trans hy11
  rw [ei] at h11
  obtain ⟨k11, q11, _, _⟩ := DataW.trod_int Tryd.underlying2 h11
  obtain ⟨y12, hy12⟩ := hget 12 (by decide)
  have h12 : DataW.trod enc Tryd.prog w base spare held n 2 ((cs.drop 18).take (Tryd.prog.cellsOf 2)) = some y12 := (hfs 12 _ rfl).trans hy12
  rw [ei] at h12
  obtain ⟨k12, q12, _, _⟩ := DataW.trod_int Tryd.underlying2 h12
  obtain ⟨y13, hy13⟩ := hget 13 (by decide)
  have h13 : DataW.trod enc Tryd.prog w base spare held n 26 ((cs.drop 19).take (Tryd.prog.cellsOf 26)) = some y13 := (hfs 13 _ rfl).trans hy13
  rw [es] at h13
  obtain ⟨k13, q13⟩ := style_cs h13
  obtain ⟨y14, hy14⟩ := hget 14 (by decide)
  have h14 : DataW.trod enc Tryd.prog w base spare held n 27 ((cs.drop 24).take (Tryd.prog.cellsOf 27)) = some y14 := (hfs 14 _ rfl).trans hy14
  rw [el] at h14
  obtain ⟨u14, k14, q14, s14, l14⟩ := ints_tr h14
  obtain ⟨y15, hy15⟩ := hget 15 (by decide)
  have h15 : DataW.trod enc Tryd.prog w base spare held n 29 ((cs.drop 25).take (Tryd.prog.cellsOf 29)) = some y15 := (hfs 15 _ rfl).trans hy15
  rw [ep] at h15
  obtain ⟨k15, u15, v15, q15, s15, l15, m15, n15⟩ := parser_cs h15
  obtain ⟨y16, hy16⟩ := hget 16 (by decide)
  have h16 : DataW.trod enc Tryd.prog w base spare held n 31 ((cs.drop 29).take (Tryd.prog.cellsOf 31)) = some y16 := (hfs 16 _ rfl).trans hy16
  rw [ef] at h16
  obtain ⟨k16, q16, l16⟩ := feeder_cs h16
  have z17 : cs.drop 30 = [] := List.drop_eq_nil_of_le (by rw [hl, e]; exact Nat.le_refl _)
  have z16 : cs.drop 29 = [.string k16] := by rw [split1 cs 29 1 30 rfl, q16, z17]; rfl
  have z15 : cs.drop 25 = [.int .i64 k15.state, u15, .int .i64 k15.mark, v15, .string k16] := by rw [split1 cs 25 4 29 rfl, q15, z16]; rfl
  have z14 : cs.drop 24 = [u14, .int .i64 k15.state, u15, .int .i64 k15.mark, v15, .string k16] := by rw [split1 cs 24 1 25 rfl, q14, z15]; rfl
  have z13 : cs.drop 19 = [.int .i64 k13.fore, .int .i64 k13.back, .bool k13.bold, .bool k13.under, .bool k13.turned, u14, .int .i64 k15.state, u15, .int .i64 k15.mark, v15, .string k16] := by rw [split1 cs 19 5 24 rfl, q13, z14]; rfl
  have z12 : cs.drop 18 = [.int .i64 k12, .int .i64 k13.fore, .int .i64 k13.back, .bool k13.bold, .bool k13.under, .bool k13.turned, u14, .int .i64 k15.state, u15, .int .i64 k15.mark, v15, .string k16] := by rw [split1 cs 18 1 19 rfl, q12, z13]; rfl
  have z11 : cs.drop 17 = [.int .i64 k11, .int .i64 k12, .int .i64 k13.fore, .int .i64 k13.back, .bool k13.bold, .bool k13.under, .bool k13.turned, u14, .int .i64 k15.state, u15, .int .i64 k15.mark, v15, .string k16] := by rw [split1 cs 17 1 18 rfl, q11, z12]; rfl
  have z10 : cs.drop 16 = [.bool k10, .int .i64 k11, .int .i64 k12, .int .i64 k13.fore, .int .i64 k13.back, .bool k13.bold, .bool k13.under, .bool k13.turned, u14, .int .i64 k15.state, u15, .int .i64 k15.mark, v15, .string k16] := by rw [split1 cs 16 1 17 rfl, q10, z11]; rfl
  have z9 : cs.drop 15 = [.bool k9, .bool k10, .int .i64 k11, .int .i64 k12, .int .i64 k13.fore, .int .i64 k13.back, .bool k13.bold, .bool k13.under, .bool k13.turned, u14, .int .i64 k15.state, u15, .int .i64 k15.mark, v15, .string k16] := by rw [split1 cs 15 1 16 rfl, q9, z10]; rfl
  have z8 : cs.drop 14 = [.bool k8, .bool k9, .bool k10, .int .i64 k11, .int .i64 k12, .int .i64 k13.fore, .int .i64 k13.back, .bool k13.bold, .bool k13.under, .bool k13.turned, u14, .int .i64 k15.state, u15, .int .i64 k15.mark, v15, .string k16] := by rw [split1 cs 14 1 15 rfl, q8, z9]; rfl
  have z7 : cs.drop 13 = [.bool k7, .bool k8, .bool k9, .bool k10, .int .i64 k11, .int .i64 k12, .int .i64 k13.fore, .int .i64 k13.back, .bool k13.bold, .bool k13.under, .bool k13.turned, u14, .int .i64 k15.state, u15, .int .i64 k15.mark, v15, .string k16] := by rw [split1 cs 13 1 14 rfl, q7, z8]; rfl
  have z6 : cs.drop 12 = [.int .i64 k6, .bool k7, .bool k8, .bool k9, .bool k10, .int .i64 k11, .int .i64 k12, .int .i64 k13.fore, .int .i64 k13.back, .bool k13.bold, .bool k13.under, .bool k13.turned, u14, .int .i64 k15.state, u15, .int .i64 k15.mark, v15, .string k16] := by rw [split1 cs 12 1 13 rfl, q6, z7]; rfl
  have z5 : cs.drop 11 = [.int .i64 k5, .int .i64 k6, .bool k7, .bool k8, .bool k9, .bool k10, .int .i64 k11, .int .i64 k12, .int .i64 k13.fore, .int .i64 k13.back, .bool k13.bold, .bool k13.under, .bool k13.turned, u14, .int .i64 k15.state, u15, .int .i64 k15.mark, v15, .string k16] := by rw [split1 cs 11 1 12 rfl, q5, z6]; rfl
  have z4 : cs.drop 6 = [.int .i64 k4.fore, .int .i64 k4.back, .bool k4.bold, .bool k4.under, .bool k4.turned, .int .i64 k5, .int .i64 k6, .bool k7, .bool k8, .bool k9, .bool k10, .int .i64 k11, .int .i64 k12, .int .i64 k13.fore, .int .i64 k13.back, .bool k13.bold, .bool k13.under, .bool k13.turned, u14, .int .i64 k15.state, u15, .int .i64 k15.mark, v15, .string k16] := by rw [split1 cs 6 5 11 rfl, q4, z5]; rfl
  have z3 : cs.drop 5 = [.int .i64 k3, .int .i64 k4.fore, .int .i64 k4.back, .bool k4.bold, .bool k4.under, .bool k4.turned, .int .i64 k5, .int .i64 k6, .bool k7, .bool k8, .bool k9, .bool k10, .int .i64 k11, .int .i64 k12, .int .i64 k13.fore, .int .i64 k13.back, .bool k13.bold, .bool k13.under, .bool k13.turned, u14, .int .i64 k15.state, u15, .int .i64 k15.mark, v15, .string k16] := by rw [split1 cs 5 1 6 rfl, q3, z4]; rfl
  have z2 : cs.drop 4 = [.int .i64 k2, .int .i64 k3, .int .i64 k4.fore, .int .i64 k4.back, .bool k4.bold, .bool k4.under, .bool k4.turned, .int .i64 k5, .int .i64 k6, .bool k7, .bool k8, .bool k9, .bool k10, .int .i64 k11, .int .i64 k12, .int .i64 k13.fore, .int .i64 k13.back, .bool k13.bold, .bool k13.under, .bool k13.turned, u14, .int .i64 k15.state, u15, .int .i64 k15.mark, v15, .string k16] := by rw [split1 cs 4 1 5 rfl, q2, z3]; rfl
  have z1 : cs.drop 2 = [.int .i64 k1, u1, .int .i64 k2, .int .i64 k3, .int .i64 k4.fore, .int .i64 k4.back, .bool k4.bold, .bool k4.under, .bool k4.turned, .int .i64 k5, .int .i64 k6, .bool k7, .bool k8, .bool k9, .bool k10, .int .i64 k11, .int .i64 k12, .int .i64 k13.fore, .int .i64 k13.back, .bool k13.bold, .bool k13.under, .bool k13.turned, u14, .int .i64 k15.state, u15, .int .i64 k15.mark, v15, .string k16] := by rw [split1 cs 2 2 4 rfl, q1, z2]; rfl
  have z0 : cs.drop 0 = [.int .i64 k0, u0, .int .i64 k1, u1, .int .i64 k2, .int .i64 k3, .int .i64 k4.fore, .int .i64 k4.back, .bool k4.bold, .bool k4.under, .bool k4.turned, .int .i64 k5, .int .i64 k6, .bool k7, .bool k8, .bool k9, .bool k10, .int .i64 k11, .int .i64 k12, .int .i64 k13.fore, .int .i64 k13.back, .bool k13.bold, .bool k13.under, .bool k13.turned, u14, .int .i64 k15.state, u15, .int .i64 k15.mark, v15, .string k16] := by rw [split1 cs 0 2 2 rfl, q0, z1]; rfl
  refine ⟨⟨k0, r0, k1, r1, k2, k3, k4, k5, k6, k7, k8, k9, k10, k11, k12, k13, k14, k15, k16⟩, ⟨u0, u1, u14, u15, v15⟩, z0, ⟨s0, s1, s14, s15, l15⟩, ⟨l0, m0, l1, m1, l14, m15, n15⟩, l16⟩
set_option maxRecDepth 20000 in
theorem term_view {b0 : Nat} {r : Reach} {v : Value} {d : DataW H} {p : List MemPlace} (hv : Value.okWide Tryd.prog w r b0 33 v) (h : DataW.Trod enc Tryd.prog w base spare held 33 v d p) :
    ∃ (t : Te) (u : Tv), v = teV t u ∧ SlT w t u ∧ SzT maxLen t ∧ t.fe.size ≤ maxLen := by
  obtain ⟨cs, rfl, _⟩ := okWide_struct Tryd.underlying33 hv
  obtain ⟨fuel, hf⟩ := h
  obtain ⟨t, u, h1, h2, h3, h4⟩ := term_cs hf
  refine ⟨t, u, ?_, h2, h3, h4⟩
  unfold teV
  congr 1
  exact Array.toList_inj.1 h1
end
end Go.Proofs.YtlmnhlfklbgjdaaDoor
namespace Go.Proofs.YtlmnhlfklbgjdaaDoor
open Go.ChangeShapes Go.WideShapes Go.ChangeAt Go.RowKit
/-- A grid in a block of its own, open to stores. -/
def GrW (w : World) (B : Nat) (cols : Int) (v : Value) : Prop :=
  B < w.heap.size ∧ (w.cell? ⟨B, 0, none⟩ = some (.int .i64 cols) ∧ w.cell? ⟨B, 1, none⟩ = some v) ∧ (w.frozen? ⟨B, 0, none⟩ = false ∧ w.frozen? ⟨B, 1, none⟩ = false)
theorem GrW.grown {w w' : World} {B : Nat} {cols : Int} {v : Value} {row : Option Nat} (h : GrW w B cols v) (hg : w.grownBy w' row) (hr : row ≠ some B) : GrW w' B cols v := by
  have hb := hg.block B h.1 (Ne.symm hr)
  have hc : ∀ k, w'.cell? ⟨B, k, none⟩ = w.cell? ⟨B, k, none⟩ := fun k => World.cell?_of_block (w := w) hb
  have hz : ∀ k, w'.frozen? ⟨B, k, none⟩ = w.frozen? ⟨B, k, none⟩ := fun k => World.frozen?_of_block (w := w) hb
  refine ⟨Nat.lt_of_lt_of_le h.1 hg.size, ?_, ?_⟩
  · rw [hc, hc]; exact h.2.1
  · rw [hz, hz]; exact h.2.2
theorem GrW.below {w w' : World} {B : Nat} {cols : Int} {v : Value} (h : GrW w B cols v) (hb : Below w.heap.size w w') : GrW w' B cols v := h.grown (gbl hb none) (by simp)
theorem GrW.new (w : World) (cols : Int) (v : Value) (t : TypeId) : GrW (w.alloc (.cells #[.int .i64 cols, v] t)) w.heap.size cols v :=
  ⟨by simp, ⟨by simp [go_sem], by simp [go_sem]⟩, ⟨by simp [go_sem], by simp [go_sem]⟩⟩
/-- Other rows are written there. -/
def putG (w : World) (B : Nat) (v : Value) : World := w.setCell ⟨B, 1, none⟩ v
theorem putG_grown (w : World) (B : Nat) (v : Value) : w.grownBy (putG w B v) (some B) := setCell_gr w B 1 _
theorem GrW.put {w : World} {B : Nat} {cols : Int} {v : Value} (h : GrW w B cols v) (v' : Value) : GrW (putG w B v') B cols v' := by
  obtain ⟨hlt, ⟨c0, c1⟩, ⟨z0, z1⟩⟩ := h
  refine ⟨by simpa [putG] using hlt, ⟨?_, ?_⟩, ⟨?_, ?_⟩⟩
  all_goals simp only [putG]
  · rw [setCell_ne' _ _ _ _ _ (by decide)]; exact c0
  · simp [go_sem, c1]
  · simp [go_sem, z0]
  · simp [go_sem, z1]
/-- Another grid is written there whole. -/
def putG2 (w : World) (B : Nat) (cols : Int) (v : Value) : World := (w.setCell ⟨B, 0, none⟩ (.int .i64 cols)).setCell ⟨B, 1, none⟩ v
theorem putG2_grown (w : World) (B : Nat) (cols : Int) (v : Value) : w.grownBy (putG2 w B cols v) (some B) := grown_tr (setCell_gr w B 0 _) (setCell_gr _ B 1 _)
theorem GrW.put2 {w : World} {B : Nat} {cols : Int} {v : Value} (h : GrW w B cols v) (cols' : Int) (v' : Value) : GrW (putG2 w B cols' v') B cols' v' := by
  obtain ⟨hlt, ⟨c0, c1⟩, ⟨z0, z1⟩⟩ := h
  refine ⟨by simpa [putG2] using hlt, ⟨?_, ?_⟩, ⟨?_, ?_⟩⟩
  all_goals simp only [putG2]
  · rw [setCell_ne' _ _ _ _ _ (by decide)]; simp [go_sem, c0]
  · simp [go_sem, c1]
  · simp [go_sem, z0]
  · simp [go_sem, z1]
theorem OwnG.kept {w w' : World} {base B : Nat} {v : Value} {rows : List (List Ce)} {row : Option Nat} (h : OwnG w base B v rows) (hg : w.grownBy w' row) (hne : ∀ g, row = some g → g < base) : OwnG w' base B v rows := by
  obtain ⟨vs, hl, ho, hr, hB, hd⟩ := h
  refine ⟨vs, hl, World.ownsRow.kept ho hg ?_, fun i hi => (hr i hi).kept hg ?_, hB, hd⟩
  · cases hv : v.ownBlock with
    | none => exact .inl rfl
    | some q => right; intro e; have := hne q e.symm; have := (ho.lt q hv).1; omega
  · cases hv : (rowV vs i).ownBlock with
    | none => exact .inl rfl
    | some q => right; intro e; have := hne q e.symm; have := ((hr i hi).lt q hv).1; omega
theorem OwnG.lt {w : World} {base B : Nat} {v : Value} {rows : List (List Ce)} (h : OwnG w base B v rows) : ∀ g, v.ownBlock = some g → base ≤ g ∧ g < w.heap.size := by
  obtain ⟨vs, hl, ho, _⟩ := h
  exact fun g e => ho.lt g e
theorem OwnG.up {w : World} {base B B' : Nat} {v : Value} {rows : List (List Ce)} (h : OwnG w base B v rows) (hb : B ≤ B') : OwnG w base B' v rows := by
  obtain ⟨vs, hl, ho, hr, hB, hd⟩ := h
  exact ⟨vs, hl, ho, hr, fun i hi g e => Nat.lt_of_lt_of_le (hB i hi g e) hb, hd⟩
end Go.Proofs.YtlmnhlfklbgjdaaDoor
namespace Go.Proofs.YtlmnhlfklbgjdaaDoor
open Go.ChangeShapes Go.WideShapes Go.ChangeAt Go.RowKit
/-- Nothing changes but the blocks from lo to below hi; new ones may come. -/
def GrB (lo hi : Nat) (w w' : World) : Prop := w'.os = w.os ∧ w'.tape = w.tape ∧ w'.output = w.output ∧ w.heap.size ≤ w'.heap.size ∧ ∀ k, k < w.heap.size → (k < lo ∨ hi ≤ k) → w'.heap[k]? = w.heap[k]?
theorem GrB.refl (lo hi : Nat) (w : World) : GrB lo hi w w := ⟨rfl, rfl, rfl, Nat.le_refl _, fun _ _ _ => rfl⟩
theorem GrB.trans {lo hi : Nat} {a b c : World} (h : GrB lo hi a b) (k : GrB lo hi b c) : GrB lo hi a c :=
  ⟨k.1.trans h.1, k.2.1.trans h.2.1, k.2.2.1.trans h.2.2.1, Nat.le_trans h.2.2.2.1 k.2.2.2.1, fun i hi ho => (k.2.2.2.2 i (Nat.lt_of_lt_of_le hi h.2.2.2.1) ho).trans (h.2.2.2.2 i hi ho)⟩
theorem GrB.size {lo hi : Nat} {w w' : World} (h : GrB lo hi w w') : w.heap.size ≤ w'.heap.size := h.2.2.2.1
theorem GrB.of_grown {lo hi : Nat} {w w' : World} {row : Option Nat} (h : w.grownBy w' row) (hr : ∀ g, row = some g → lo ≤ g ∧ g < hi) : GrB lo hi w w' :=
  ⟨h.os, h.tape, h.output, h.size, fun k hk ho => h.block k hk (fun e => by have := hr k e.symm; omega)⟩
theorem GrB.mono {lo hi lo' hi' : Nat} {w w' : World} (h : GrB lo hi w w') (h1 : lo' ≤ lo) (h2 : hi ≤ hi') : GrB lo' hi' w w' :=
  ⟨h.1, h.2.1, h.2.2.1, h.2.2.2.1, fun k hk ho => h.2.2.2.2 k hk (by omega)⟩
theorem GrB.cell {lo hi k o : Nat} {w w' : World} (h : GrB lo hi w w') (hk : k < w.heap.size) (ho : k < lo ∨ hi ≤ k) : w'.cell? ⟨k, o, none⟩ = w.cell? ⟨k, o, none⟩ := World.cell?_of_block (w := w) (h.2.2.2.2 k hk ho)
theorem GrB.frozen {lo hi k o : Nat} {w w' : World} (h : GrB lo hi w w') (hk : k < w.heap.size) (ho : k < lo ∨ hi ≤ k) : w'.frozen? ⟨k, o, none⟩ = w.frozen? ⟨k, o, none⟩ := World.frozen?_of_block (w := w) (h.2.2.2.2 k hk ho)
/-- A slice of rows of this call's own, its values named. -/
def OwnV (w : World) (base B : Nat) (v : Value) (vs : List Value) (rows : List (List Ce)) : Prop :=
  vs.length = rows.length ∧ w.ownsRow base 84 1 v rows.length vs ∧ (∀ i, i < rows.length → OwnC w base (rowV vs i) (rowX rows i)) ∧
    (∀ i, i < rows.length → ∀ g, (rowV vs i).ownBlock = some g → g < B) ∧ (∀ i j, i < j → j < rows.length → ∀ g, (rowV vs i).ownBlock = some g → (rowV vs j).ownBlock ≠ some g)
theorem OwnG.v {w : World} {base B : Nat} {v : Value} {rows : List (List Ce)} (h : OwnG w base B v rows) : ∃ vs, OwnV w base B v vs rows := h
theorem OwnV.g {w : World} {base B : Nat} {v : Value} {vs : List Value} {rows : List (List Ce)} (h : OwnV w base B v vs rows) : OwnG w base B v rows := ⟨vs, h⟩
theorem OwnV.apart {w : World} {base B : Nat} {v : Value} {vs : List Value} {rows : List (List Ce)} (h : OwnV w base B v vs rows) {i j : Nat} (hi : i < rows.length) (hj : j < rows.length) (hij : i ≠ j) : (rowV vs i).ownBlock = none ∨ (rowV vs i).ownBlock ≠ (rowV vs j).ownBlock := by
  cases hv : (rowV vs i).ownBlock with
  | none => exact .inl rfl
  | some g =>
    right
    intro e
    rcases Nat.lt_or_gt_of_ne hij with c | c
    · exact h.2.2.2.2 i j c hj g hv e.symm
    · exact h.2.2.2.2 j i c hi g e.symm hv
theorem OwnV.below {w w' : World} {base B : Nat} {v : Value} {vs : List Value} {rows : List (List Ce)} (h : OwnV w base B v vs rows) (hb : Below w.heap.size w w') : OwnV w' base B v vs rows :=
  ⟨h.1, World.ownsRow.below h.2.1 hb, fun i hi => (h.2.2.1 i hi).below hb, h.2.2.2.1, h.2.2.2.2⟩
theorem OwnV.up {w : World} {base B B' : Nat} {v : Value} {vs : List Value} {rows : List (List Ce)} (h : OwnV w base B v vs rows) (hb : B ≤ B') : OwnV w base B' v vs rows :=
  ⟨h.1, h.2.1, h.2.2.1, fun i hi g e => Nat.lt_of_lt_of_le (h.2.2.2.1 i hi g e) hb, h.2.2.2.2⟩
theorem OwnV.shape {w : World} {base B : Nat} {v : Value} {vs : List Value} {rows : List (List Ce)} (h : OwnV w base B v vs rows) : (v = .slice none 0 0 ∧ rows = []) ∨ ∃ g cap, v = .slice (some ⟨g, 0, none⟩) rows.length cap ∧ base ≤ g ∧ g < w.heap.size ∧ rows.length ≤ cap := h.g.shape
theorem OwnV.cell {w : World} {base B g n cap : Nat} {vs : List Value} {rows : List (List Ce)} (h : OwnV w base B (.slice (some ⟨g, 0, none⟩) n cap) vs rows) (hn : rows.length = n) (i : Nat) (hi : i < n) : w.cell? ⟨g, i, none⟩ = some (rowV vs i) := by
  subst hn
  rw [World.ownsRow.cellAt h.2.1 i (by have := h.1; omega), rowV_get (by have := h.1; omega)]
theorem OwnV.frozen {w : World} {base B g n cap : Nat} {vs : List Value} {rows : List (List Ce)} (h : OwnV w base B (.slice (some ⟨g, 0, none⟩) n cap) vs rows) (hn : rows.length = n) (i : Nat) : w.frozen? ⟨g, i, none⟩ = false := by
  subst hn
  exact World.ownsRow.frozenAt h.2.1 i
/-- All of it lies from lo to below hi. -/
def OwnR (w : World) (lo hi : Nat) (v : Value) (rows : List (List Ce)) : Prop := OwnG w lo hi v rows ∧ (∀ g, v.ownBlock = some g → g < hi) ∧ hi ≤ w.heap.size
theorem OwnR.of {w : World} {lo : Nat} {v : Value} {rows : List (List Ce)} (h : OwnG w lo w.heap.size v rows) : OwnR w lo w.heap.size v rows := ⟨h, fun g e => (h.lt g e).2, Nat.le_refl _⟩
theorem OwnR.below {base B : Nat} {w w' : World} {v : Value} {rows : List (List Ce)} (h : OwnR w base B v rows) (hb : Below w.heap.size w w') : OwnR w' base B v rows := ⟨h.1.below hb, h.2.1, Nat.le_trans h.2.2 hb.size⟩
theorem OwnR.sl {base B : Nat} {w : World} {v : Value} {rows : List (List Ce)} (h : OwnR w base B v rows) : SlG w v rows := SlG.of_own h.1
end Go.Proofs.YtlmnhlfklbgjdaaDoor
namespace Go.Proofs.YtlmnhlfklbgjdaaDoor
theorem atC_ge {l : List Ce} {i : Nat} (h : l.length ≤ i) : atC l i = Ce.zero := by simp [atC, List.getD, List.getElem?_eq_none h]
/-- A cell that is right by itself. -/
def c1 (c : Ce) : Prop := c.st.ok = true ∧ ((c.part = 0 ∧ widthV c.rune = 1) ∨ (c.part = 1 ∧ widthV c.rune = 2) ∨ (c.part = 2 ∧ c.rune = 0))
def Right (l : List Ce) : Prop :=
  (∀ i, i < l.length → c1 (atC l i)) ∧ (∀ i, (atC l i).part = 1 → (atC l (i + 1)).part = 2 ∧ (atC l (i + 1)).st = (atC l i).st) ∧ (∀ i, (atC l i).part = 2 → 0 < i ∧ (atC l (i - 1)).part = 1)
def Semi (l : List Ce) : Prop :=
  (∀ i, i < l.length → c1 (atC l i)) ∧ (∀ i, (atC l i).part = 1 → (atC l (i + 1)).part = 2 → (atC l (i + 1)).st = (atC l i).st)
theorem part_lt {l : List Ce} {i : Nat} (h : (atC l i).part ≠ 0) : i < l.length := by
  rcases Nat.lt_or_ge i l.length with h1 | h1
  · exact h1
  · rw [atC_ge h1] at h; exact absurd rfl h
theorem right_iff (l : List Ce) : rowOkB l = true ↔ (1 ≤ l.length ∧ l.length ≤ 60) ∧ Right l := by
  rw [rowOkB_iff]
  constructor
  · rintro ⟨hl, h⟩
    refine ⟨hl, ?_, ?_, ?_⟩
    · intro i hi
      have := h i hi
      unfold cellOkB at this
      rw [Bool.and_eq_true] at this
      refine ⟨this.1, ?_⟩
      have h2 := this.2
      by_cases h0 : (atC l i).part = 0
      · rw [if_pos h0] at h2; exact .inl ⟨h0, by simpa using h2⟩
      · rw [if_neg h0] at h2
        by_cases h1 : (atC l i).part = 1
        · rw [if_pos h1] at h2; simp at h2; exact .inr (.inl ⟨h1, h2.1⟩)
        · rw [if_neg h1] at h2
          by_cases h3 : (atC l i).part = 2
          · rw [if_pos h3] at h2; simp at h2; exact .inr (.inr ⟨h3, h2.1⟩)
          · rw [if_neg h3] at h2; cases h2
    · intro i h1
      have hi : i < l.length := part_lt (by rw [h1]; decide)
      have := h i hi
      unfold cellOkB at this
      rw [Bool.and_eq_true, if_neg (by rw [h1]; decide), if_pos h1] at this
      have h2 := this.2; simp at h2
      exact ⟨h2.2.2.1, h2.2.2.2⟩
    · intro i h1
      have hi : i < l.length := part_lt (by rw [h1]; decide)
      have := h i hi
      unfold cellOkB at this
      rw [Bool.and_eq_true, if_neg (by rw [h1]; decide), if_neg (by rw [h1]; decide), if_pos h1] at this
      have h2 := this.2; simp at h2
      exact h2.2
  · rintro ⟨hl, h1, h2, h3⟩
    refine ⟨hl, fun i hi => ?_⟩
    have hc := h1 i hi
    unfold cellOkB
    rw [hc.1, Bool.true_and]
    rcases hc.2 with ⟨e, ew⟩ | ⟨e, ew⟩ | ⟨e, ew⟩
    · rw [if_pos e, ew]; rfl
    · have := h2 i e
      have hlt : i + 1 < l.length := part_lt (by rw [this.1]; decide)
      rw [if_neg (by rw [e]; decide), if_pos e, ew]
      simp [hlt, this.1, this.2]
    · have := h3 i e
      rw [if_neg (by rw [e]; decide), if_neg (by rw [e]; decide), if_pos e, ew]
      simp [this.1, this.2]
theorem Right.c1 {l : List Ce} (h : Right l) {i : Nat} (hi : i < l.length) : c1 (atC l i) := h.1 i hi
theorem Semi.take {l : List Ce} (h : Semi l) (n : Nat) : Semi (l.take n) := by
  have e : ∀ i, atC (l.take n) i = if i < n then atC l i else Ce.zero := fun i => by
    by_cases hi : i < n
    · rw [if_pos hi, atC_take l n i hi]
    · rw [if_neg hi, atC_ge (by rw [List.length_take]; omega)]
  refine ⟨fun i hi => ?_, fun i h1 h2 => ?_⟩
  · rw [List.length_take] at hi
    rw [e, if_pos (by omega)]
    exact h.1 i (by omega)
  · rw [e] at h1 h2 ⊢
    rw [e]
    split at h1
    · split at h2
      · rename_i q1 q2
        rw [if_pos q2, if_pos q1]
        exact h.2 i h1 h2
      · exact absurd h2 (by decide)
    · exact absurd h1 (by decide)
theorem Semi.drop {l : List Ce} (h : Semi l) (n : Nat) : Semi (l.drop n) := by
  refine ⟨fun i hi => ?_, fun i h1 h2 => ?_⟩
  · rw [List.length_drop] at hi
    rw [atC_drop]; exact h.1 (n + i) (by omega)
  · rw [atC_drop] at h1 h2 ⊢
    rw [atC_drop]
    have := h.2 (n + i) h1 (by rw [Nat.add_assoc]; exact h2)
    rwa [Nat.add_assoc] at this
theorem app_at (l m : List Ce) (i : Nat) : atC (l ++ m) i = if i < l.length then atC l i else atC m (i - l.length) := by
  by_cases h : i < l.length
  · rw [if_pos h, atC_append_left l m i h]
  · rw [if_neg h]
    have := atC_append_right l m (i - l.length)
    rwa [show l.length + (i - l.length) = i by omega] at this
theorem Right.append {l m : List Ce} (h : Right l) (k : Right m) : Right (l ++ m) := by
  refine ⟨fun i hi => ?_, fun i h1 => ?_, fun i h2 => ?_⟩
  · rw [List.length_append] at hi
    rw [app_at]
    split
    · rename_i q; exact h.1 i q
    · exact k.1 _ (by omega)
  · rw [app_at] at h1
    split at h1
    · have := h.2.1 i h1
      have hlt : i + 1 < l.length := part_lt (by rw [this.1]; decide)
      rename_i q
      rw [app_at, app_at, if_pos hlt, if_pos q]; exact this
    · rename_i q
      have := k.2.1 _ h1
      rw [app_at, app_at, if_neg (by omega), if_neg q]
      rwa [show i + 1 - l.length = i - l.length + 1 by omega]
  · rw [app_at] at h2
    split at h2
    · rename_i q
      have := h.2.2 i h2
      rw [app_at, if_pos (by omega)]; exact this
    · rename_i q
      have := k.2.2 _ h2
      rw [app_at, if_neg (by omega)]
      refine ⟨by omega, ?_⟩
      rw [show i - 1 - l.length = i - l.length - 1 by omega]; exact this.2
end Go.Proofs.YtlmnhlfklbgjdaaDoor
namespace Go.Proofs.YtlmnhlfklbgjdaaDoor
open Go.ChangeShapes Go.WideShapes Go.ChangeAt Go.RowKit
theorem colorOk_any (x : Int) (w : World) :
    Calls Tryd.prog 70 #[.int .i64 x] w fun e w' => e = .returned (.bool (decide (0 ≤ x ∧ x ≤ 8))) ∧ w' = w := by
  by_cases h1 : 0 ≤ x
  · go_enter Tryd.func70, Tryd.ntmps70
    go_wp2
    go_ret
    exact ⟨ret_bool (by simp [h1]), rfl⟩
  · go_enter Tryd.func70, Tryd.ntmps70
    go_wp2
    go_ret
    exact ⟨ret_bool (by simp; omega), rfl⟩
set_option maxHeartbeats 400000 in
theorem implStyleOk_any (s : St) (w : World) :
    Calls Tryd.prog 53 #[stV s] w fun e w' => e = .returned (.bool s.ok) ∧ Below w.heap.size w w' := by
  obtain ⟨f, b, bo, un, tu⟩ := s
  have hok : Hid ((St.mk f b bo un tu).ok = decide (0 ≤ f ∧ f ≤ 8 ∧ 0 ≤ b ∧ b ≤ 8)) := rfl
  unfold stV
  simp only
  go_enter Tryd.func53, Tryd.ntmps53
  go_wp2_with (go_at_call 70; refine (colorOk_any _ _).mono ?_; rintro e w' ⟨rfl, hw⟩; subst hw)
  all_goals
    go_ret
    refine ⟨ret_bool ?_, (Below.refl _ _).alloc (Nat.le_refl _) _⟩
    rw [hok.out]
    clear hok
    by_cases h1 : 0 ≤ f ∧ f ≤ 8
    · by_cases h2 : 0 ≤ b ∧ b ≤ 8
      · have h3 : 0 ≤ f ∧ f ≤ 8 ∧ 0 ≤ b ∧ b ≤ 8 := ⟨h1.1, h1.2, h2⟩
        simp_all
      · have h3 : ¬ (0 ≤ f ∧ f ≤ 8 ∧ 0 ≤ b ∧ b ≤ 8) := fun h => h2 h.2.2
        simp_all
        try omega
    · have h3 : ¬ (0 ≤ f ∧ f ≤ 8 ∧ 0 ≤ b ∧ b ≤ 8) := fun h => h1 ⟨h.1, h.2.1⟩
      simp_all
end Go.Proofs.YtlmnhlfklbgjdaaDoor
namespace Go.Proofs.YtlmnhlfklbgjdaaDoor
open Go.ChangeShapes Go.WideShapes Go.ChangeAt Go.RowKit
theorem st_iff (f b : Int) (bo un tu : Bool) (f' b' : Int) (bo' un' tu' : Bool) : (St.mk f b bo un tu = St.mk f' b' bo' un' tu') ↔ (f = f' ∧ b = b' ∧ bo = bo' ∧ un = un' ∧ tu = tu') := by
  constructor
  · intro e; cases e; simp
  · rintro ⟨rfl, rfl, rfl, rfl, rfl⟩; rfl
set_option maxHeartbeats 1000000 in
theorem eq_st (a b : St) (W : World) : (Op.equalIn 10000 39 (.agg #[.int .i64 a.fore, .int .i64 a.back, .bool a.bold, .bool a.under, .bool a.turned]) (.agg #[.int .i64 b.fore, .int .i64 b.back, .bool b.bold, .bool b.under, .bool b.turned])).run Tryd.prog W = .ok (decide (a = b)) W := by
  have hu := Tryd.underlying39
  have hi := Tryd.underlying2
  have hb := Tryd.underlying4
  obtain ⟨f, g, bo, un, tu⟩ := a
  obtain ⟨f', g', bo', un', tu'⟩ := b
  simp only [st_iff]
  rw [run_equalIn_struct W 9999 _ _ _ (by simp [Program.fieldsOf, hu]) (by kernel_rfl)]
  by_cases h1 : f = f' <;> by_cases h2 : g = g' <;> by_cases h3 : bo = bo' <;> by_cases h4 : un = un' <;> by_cases h5 : tu = tu' <;> simp [Program.fieldsOf, hu, hi, hb, Op.eqFields, go_sem, h1, h2, h3, h4, h5, Result.andThen]
end Go.Proofs.YtlmnhlfklbgjdaaDoor
namespace Go.Proofs.YtlmnhlfklbgjdaaDoor
open Go.ChangeShapes Go.WideShapes Go.ChangeAt Go.RowKit
attribute [local go_sem ↓] eq_st
def c1B (c : Ce) : Bool := c.st.ok && (if c.part = 0 then decide (widthV c.rune = 1) else if c.part = 1 then decide (widthV c.rune = 2) else if c.part = 2 then decide (c.rune = 0) else false)
theorem c1B_iff (c : Ce) : c1B c = true ↔ c1 c := by
  unfold c1B c1
  rw [Bool.and_eq_true]
  constructor
  · rintro ⟨h, h2⟩
    refine ⟨h, ?_⟩
    split at h2
    · rename_i e; exact .inl ⟨e, by simpa using h2⟩
    · split at h2
      · rename_i e; exact .inr (.inl ⟨e, by simpa using h2⟩)
      · split at h2
        · rename_i e; exact .inr (.inr ⟨e, by simpa using h2⟩)
        · cases h2
  · rintro ⟨h, ⟨e, h2⟩ | ⟨e, h2⟩ | ⟨e, h2⟩⟩
    · exact ⟨h, by rw [if_pos e]; simpa using h2⟩
    · exact ⟨h, by rw [if_neg (by rw [e]; decide), if_pos e]; simpa using h2⟩
    · exact ⟨h, by rw [if_neg (by rw [e]; decide), if_neg (by rw [e]; decide), if_pos e]; simpa using h2⟩
def joinB (a c : Ce) : Bool := if a.part = 1 then decide (c.part = 2) && decide (c.st = a.st) else !decide (c.part = 2)
set_option maxHeartbeats 1000000 in
theorem cellOk_any (c : Ce) (w : World) (hS : SpansAt w) :
    Calls Tryd.prog 84 #[ceV c] w fun e w' => e = .returned (.bool (c1B c)) ∧ Below w.heap.size w w' := by
  obtain ⟨r, ⟨f, b, bo, un, tu⟩, p⟩ := c
  have hok := fun W => implStyleOk_any ⟨f, b, bo, un, tu⟩ W
  have hwd := fun W h => implWidth_any r W h
  have hB : Hid (c1B ⟨r, ⟨f, b, bo, un, tu⟩, p⟩ = ((St.mk f b bo un tu).ok && (if p = 0 then decide (widthV r = 1) else if p = 1 then decide (widthV r = 2) else if p = 2 then decide (r = 0) else false))) := rfl
  have hbA := bal' w (Obj.cells #[.int .i64 r, .int .i64 f, .int .i64 b, .bool bo, .bool un, .bool tu, .int .i64 p] 65)
  have hlt := hS.lt
  unfold ceV stV at *
  generalize (St.mk f b bo un tu).ok = ok at *
  generalize widthV r = wd at *
  cases ok
  · go_enter Tryd.func84, Tryd.ntmps84
    go_wp2_with fail
    refine (hok _).mono ?_
    rintro e w1 ⟨rfl, hb1⟩
    go_wp2
    go_ret
    exact ⟨by rw [hB.out]; rfl, hbA.trans (hb1.mono hbA.size)⟩
  · have hsp := hS.below hbA hlt
    have hcp : (w.alloc (Obj.cells #[.int .i64 r, .int .i64 f, .int .i64 b, .bool bo, .bool un, .bool tu, .int .i64 p] 65)).cell? ⟨w.heap.size, 6, none⟩ = some (.int .i64 p) := by simp [go_sem]
    have hcr : (w.alloc (Obj.cells #[.int .i64 r, .int .i64 f, .int .i64 b, .bool bo, .bool un, .bool tu, .int .i64 p] 65)).cell? ⟨w.heap.size, 0, none⟩ = some (.int .i64 r) := by simp [go_sem]
    have hsz : w.heap.size < (w.alloc (Obj.cells #[.int .i64 r, .int .i64 f, .int .i64 b, .bool bo, .bool un, .bool tu, .int .i64 p] 65)).heap.size := by simp
    go_enter Tryd.func84, Tryd.ntmps84
    go_wp2_with fail
    generalize w.alloc (Obj.cells #[.int .i64 r, .int .i64 f, .int .i64 b, .bool bo, .bool un, .bool tu, .int .i64 p] 65) = W0 at *
    refine (hok _).mono ?_
    rintro e w1 ⟨rfl, hb1⟩
    have d6 : w1.cell? ⟨w.heap.size, 6, none⟩ = some (.int .i64 p) := (hb1.cell (p := ⟨w.heap.size, 6, none⟩) hsz).trans hcp
    have d0 : w1.cell? ⟨w.heap.size, 0, none⟩ = some (.int .i64 r) := (hb1.cell (p := ⟨w.heap.size, 0, none⟩) hsz).trans hcr
    have hs1 := hsp.below hb1 hsp.lt
    have kb := hbA.trans (hb1.mono hbA.size)
    clear hb1 hcp hcr hok hsp hbA hsz
    have hwd1 := hwd w1 hs1
    clear hwd hs1 hS
    by_cases p0 : p = 0
    · have e0 : (p == 0) = true := by simp [p0]
      have hB2 : Hid (c1B ⟨r, ⟨f, b, bo, un, tu⟩, p⟩ = decide (wd = 1)) := by show _ = _; rw [hB.out, if_pos p0]; rfl
      clear p0 hB
      go_wp2_with fail
      refine hwd1.mono ?_
      rintro e w2 ⟨rfl, hb2⟩
      go_wp2
      go_ret
      exact ⟨by rw [hB2.out]; first | rfl | (simp; done), kb.trans (hb2.mono kb.size)⟩
    · have e0 : (p == 0) = false := by simp [p0]
      by_cases p1 : p = 1
      · have e1 : (p == 1) = true := by simp [p1]
        have hB2 : Hid (c1B ⟨r, ⟨f, b, bo, un, tu⟩, p⟩ = decide (wd = 2)) := by show _ = _; rw [hB.out, if_neg p0, if_pos p1]; rfl
        clear p0 p1 hB
        go_wp2_with fail
        refine hwd1.mono ?_
        rintro e w2 ⟨rfl, hb2⟩
        go_wp2
        go_ret
        exact ⟨by rw [hB2.out]; first | rfl | (simp; done), kb.trans (hb2.mono kb.size)⟩
      · have e1 : (p == 1) = false := by simp [p1]
        clear hwd1
        by_cases p2 : p = 2
        · have e2 : (p == 2) = true := by simp [p2]
          have hB2 : Hid (c1B ⟨r, ⟨f, b, bo, un, tu⟩, p⟩ = decide (r = 0)) := by show _ = _; rw [hB.out, if_neg p0, if_neg p1, if_pos p2]; rfl
          clear p0 p1 p2 hB
          go_wp2
          go_ret
          exact ⟨by rw [hB2.out]; first | rfl | (simp; done), kb⟩
        · have e2 : (p == 2) = false := by simp [p2]
          have hB2 : Hid (c1B ⟨r, ⟨f, b, bo, un, tu⟩, p⟩ = false) := by show _ = _; rw [hB.out, if_neg p0, if_neg p1, if_neg p2]; rfl
          clear p0 p1 p2 hB
          go_wp2
          go_ret
          exact ⟨by rw [hB2.out]; rfl, kb⟩
set_option maxHeartbeats 1000000 in
theorem joins_any (a c : Ce) (w : World) :
    Calls Tryd.prog 85 #[ceV a, ceV c] w fun e w' => e = .returned (.bool (joinB a c)) ∧ Below w.heap.size w w' := by
  have hB : Hid (joinB a c = if a.part = 1 then decide (c.part = 2) && decide (c.st = a.st) else !decide (c.part = 2)) := rfl
  have kb : Below w.heap.size w ((w.alloc (Obj.cells #[.int .i64 a.rune, .int .i64 a.st.fore, .int .i64 a.st.back, .bool a.st.bold, .bool a.st.under, .bool a.st.turned, .int .i64 a.part] 65)).alloc (Obj.cells #[.int .i64 c.rune, .int .i64 c.st.fore, .int .i64 c.st.back, .bool c.st.bold, .bool c.st.under, .bool c.st.turned, .int .i64 c.part] 65)) := ((Below.refl _ _).alloc (Nat.le_refl _) _).alloc (by simp) _
  unfold ceV
  by_cases h1 : a.part = 1
  · have b1 : (a.part == 1) = true := by simp [h1]
    by_cases h2 : c.part = 2
    · have b2 : (c.part == 2) = true := by simp [h2]
      have hB2 : Hid (joinB a c = decide (c.st = a.st)) := by show _ = _; rw [hB.out, if_pos h1, decide_eq_true h2]; rfl
      clear h1 h2 hB
      go_enter Tryd.func85, Tryd.ntmps85
      go_wp2
      go_ret
      exact ⟨by rw [hB2.out]; first | rfl | (simp; done), kb⟩
    · have b2 : (c.part == 2) = false := by simp [h2]
      have hB2 : Hid (joinB a c = false) := by show _ = _; rw [hB.out, if_pos h1, decide_eq_false h2]; rfl
      clear h1 h2 hB
      go_enter Tryd.func85, Tryd.ntmps85
      go_wp2
      go_ret
      exact ⟨by rw [hB2.out]; first | rfl | (simp; done), kb⟩
  · have b1 : (a.part == 1) = false := by simp [h1]
    have hB2 : Hid (joinB a c = !decide (c.part = 2)) := by show _ = _; rw [hB.out, if_neg h1]
    clear h1 hB
    go_enter Tryd.func85, Tryd.ntmps85
    go_wp2
    go_ret
    exact ⟨by rw [hB2.out]; first | rfl | (simp; done), kb⟩
end Go.Proofs.YtlmnhlfklbgjdaaDoor
namespace Go.Proofs.YtlmnhlfklbgjdaaDoor
open Go.ChangeShapes Go.WideShapes Go.ChangeAt Go.RowKit
/-- A cell whole in block B, writable. -/
def CeF (w : World) (B : Nat) (c : Ce) : Prop :=
  B < w.heap.size ∧ (w.cell? ⟨B, 0, none⟩ = some (.int .i64 c.rune) ∧ w.cell? ⟨B, 1, none⟩ = some (.int .i64 c.st.fore) ∧ w.cell? ⟨B, 2, none⟩ = some (.int .i64 c.st.back) ∧ w.cell? ⟨B, 3, none⟩ = some (.bool c.st.bold) ∧ w.cell? ⟨B, 4, none⟩ = some (.bool c.st.under) ∧ w.cell? ⟨B, 5, none⟩ = some (.bool c.st.turned) ∧ w.cell? ⟨B, 6, none⟩ = some (.int .i64 c.part)) ∧
    (w.frozen? ⟨B, 0, none⟩ = false ∧ w.frozen? ⟨B, 1, none⟩ = false ∧ w.frozen? ⟨B, 2, none⟩ = false ∧ w.frozen? ⟨B, 3, none⟩ = false ∧ w.frozen? ⟨B, 4, none⟩ = false ∧ w.frozen? ⟨B, 5, none⟩ = false ∧ w.frozen? ⟨B, 6, none⟩ = false)
theorem CeF.new (w : World) (c : Ce) (t : TypeId) : CeF (w.alloc (.cells #[.int .i64 c.rune, .int .i64 c.st.fore, .int .i64 c.st.back, .bool c.st.bold, .bool c.st.under, .bool c.st.turned, .int .i64 c.part] t)) w.heap.size c :=
  ⟨by simp, ⟨by simp [go_sem], by simp [go_sem], by simp [go_sem], by simp [go_sem], by simp [go_sem], by simp [go_sem], by simp [go_sem]⟩, ⟨by simp [go_sem], by simp [go_sem], by simp [go_sem], by simp [go_sem], by simp [go_sem], by simp [go_sem], by simp [go_sem]⟩⟩
theorem CeF.grown {w w' : World} {B : Nat} {c : Ce} {row : Option Nat} (h : CeF w B c) (hg : w.grownBy w' row) (hr : row ≠ some B) : CeF w' B c := by
  have hb := hg.block B h.1 (Ne.symm hr)
  have hc : ∀ k, w'.cell? ⟨B, k, none⟩ = w.cell? ⟨B, k, none⟩ := fun k => World.cell?_of_block (w := w) hb
  have hz : ∀ k, w'.frozen? ⟨B, k, none⟩ = w.frozen? ⟨B, k, none⟩ := fun k => World.frozen?_of_block (w := w) hb
  refine ⟨Nat.lt_of_lt_of_le h.1 hg.size, ?_, ?_⟩
  · rw [hc, hc, hc, hc, hc, hc, hc]; exact h.2.1
  · rw [hz, hz, hz, hz, hz, hz, hz]; exact h.2.2
theorem CeF.below {w w' : World} {B : Nat} {c : Ce} (h : CeF w B c) (hb : Below w.heap.size w w') : CeF w' B c := h.grown (gbl hb none) (by simp)
/-- Another cell is written there whole. -/
def putF (w : World) (B : Nat) (c : Ce) : World := (((((((w.setCell ⟨B, 0, none⟩ (.int .i64 c.rune)).setCell ⟨B, 1, none⟩ (.int .i64 c.st.fore)).setCell ⟨B, 2, none⟩ (.int .i64 c.st.back)).setCell ⟨B, 3, none⟩ (.bool c.st.bold)).setCell ⟨B, 4, none⟩ (.bool c.st.under)).setCell ⟨B, 5, none⟩ (.bool c.st.turned)).setCell ⟨B, 6, none⟩ (.int .i64 c.part))
theorem putF_grown (w : World) (B : Nat) (c : Ce) : w.grownBy (putF w B c) (some B) :=
  grown_tr (grown_tr (grown_tr (grown_tr (grown_tr (grown_tr (setCell_gr w B 0 _) (setCell_gr _ B 1 _)) (setCell_gr _ B 2 _)) (setCell_gr _ B 3 _)) (setCell_gr _ B 4 _)) (setCell_gr _ B 5 _)) (setCell_gr _ B 6 _)
theorem CeF.put {w : World} {B : Nat} {c : Ce} (h : CeF w B c) (c' : Ce) : CeF (putF w B c') B c' := by
  obtain ⟨hlt, ⟨c0, c1, c2, c3, c4, c5, c6⟩, ⟨z0, z1, z2, z3, z4, z5, z6⟩⟩ := h
  refine ⟨by simpa [putF] using hlt, ⟨?_, ?_, ?_, ?_, ?_, ?_, ?_⟩, ⟨?_, ?_, ?_, ?_, ?_, ?_, ?_⟩⟩
  all_goals simp only [putF]
  · rw [setCell_ne' _ _ _ _ _ (by decide), setCell_ne' _ _ _ _ _ (by decide), setCell_ne' _ _ _ _ _ (by decide), setCell_ne' _ _ _ _ _ (by decide), setCell_ne' _ _ _ _ _ (by decide), setCell_ne' _ _ _ _ _ (by decide)]; simp [go_sem, c0]
  · rw [setCell_ne' _ _ _ _ _ (by decide), setCell_ne' _ _ _ _ _ (by decide), setCell_ne' _ _ _ _ _ (by decide), setCell_ne' _ _ _ _ _ (by decide), setCell_ne' _ _ _ _ _ (by decide)]; simp [go_sem, c1]
  · rw [setCell_ne' _ _ _ _ _ (by decide), setCell_ne' _ _ _ _ _ (by decide), setCell_ne' _ _ _ _ _ (by decide), setCell_ne' _ _ _ _ _ (by decide)]; simp [go_sem, c2]
  · rw [setCell_ne' _ _ _ _ _ (by decide), setCell_ne' _ _ _ _ _ (by decide), setCell_ne' _ _ _ _ _ (by decide)]; simp [go_sem, c3]
  · rw [setCell_ne' _ _ _ _ _ (by decide), setCell_ne' _ _ _ _ _ (by decide)]; simp [go_sem, c4]
  · rw [setCell_ne' _ _ _ _ _ (by decide)]; simp [go_sem, c5]
  · simp [go_sem, c6]
  · simp [go_sem, z0]
  · simp [go_sem, z1]
  · simp [go_sem, z2]
  · simp [go_sem, z3]
  · simp [go_sem, z4]
  · simp [go_sem, z5]
  · simp [go_sem, z6]
theorem SlC.src {w : World} {a : Option Addr} {n c : Nat} {xs : List Ce} (h : SlC w (.slice a n c) xs) (h0 : 0 < xs.length) : ∃ b off, a = some ⟨b, off, none⟩ ∧ ∀ i, i < xs.length → CeAt w b (off + i * 7) (atC xs i) := by
  obtain ⟨a', c', e, _, _, hr⟩ := h
  simp only [Value.slice.injEq] at e
  obtain ⟨rfl, _, rfl⟩ := e
  rcases hr with h | ⟨b, off, ha, _, hi⟩
  · rw [h] at h0; simp at h0
  · exact ⟨b, off, ha, hi⟩
end Go.Proofs.YtlmnhlfklbgjdaaDoor
namespace Go.Proofs.YtlmnhlfklbgjdaaDoor
open Go.ChangeShapes Go.WideShapes Go.ChangeAt Go.RowKit
def aheadC (xs : List Ce) (j : Nat) : Ce := if j = 0 then Ce.zero else atC xs (j - 1)
theorem aheadC_zero (xs : List Ce) : aheadC xs 0 = Ce.zero := rfl
theorem aheadC_succ (xs : List Ce) (j : Nat) : aheadC xs (j + 1) = atC xs j := by simp [aheadC]
theorem row_joins {xs : List Ce} (h : Right xs) (i : Nat) : joinB (aheadC xs i) (atC xs i) = true := by
  unfold joinB
  cases i with
  | zero =>
    rw [aheadC_zero, if_neg (by decide)]
    have : ¬ (atC xs 0).part = 2 := fun e => absurd (h.2.2 0 e).1 (by decide)
    simp [this]
  | succ i =>
    rw [aheadC_succ]
    by_cases e : (atC xs i).part = 1
    · have := h.2.1 i e
      rw [if_pos e]; simp [this.1, this.2]
    · rw [if_neg e]
      have : ¬ (atC xs (i + 1)).part = 2 := fun e2 => by
        have := (h.2.2 _ e2).2
        rw [Nat.add_sub_cancel] at this; exact e this
      simp [this]
theorem row_no_cell {xs : List Ce} {i : Nat} (hi : i < xs.length) (h : c1B (atC xs i) = false) : rowOkB xs = false := by
  cases hr : rowOkB xs with
  | false => rfl
  | true =>
    have := (c1B_iff _).2 (((right_iff xs).1 hr).2.1 i hi)
    rw [h] at this; cases this
theorem row_no_join {xs : List Ce} {i : Nat} (h : joinB (aheadC xs i) (atC xs i) = false) : rowOkB xs = false := by
  cases hr : rowOkB xs with
  | false => rfl
  | true =>
    have := row_joins ((right_iff xs).1 hr).2 i
    rw [h] at this; cases this
theorem row_end {xs : List Ce} (hl : 1 ≤ xs.length ∧ xs.length ≤ 60) (h : ∀ i, i < xs.length → c1B (atC xs i) = true ∧ joinB (aheadC xs i) (atC xs i) = true) : rowOkB xs = !decide ((aheadC xs xs.length).part = 1) := by
  have hlast : aheadC xs xs.length = atC xs (xs.length - 1) := by unfold aheadC; rw [if_neg (by omega)]
  by_cases e : (aheadC xs xs.length).part = 1
  · rw [decide_eq_true e]
    cases hr : rowOkB xs with
    | false => rfl
    | true =>
      rw [hlast] at e
      have := (((right_iff xs).1 hr).2.2.1 _ e).1
      rw [atC_ge (by omega)] at this
      exact absurd this (by decide)
  · rw [decide_eq_false e]
    show rowOkB xs = true
    rw [right_iff]
    refine ⟨hl, fun i hi => (c1B_iff _).1 (h i hi).1, fun i h1 => ?_, fun i h2 => ?_⟩
    · have hi : i < xs.length := part_lt (by rw [h1]; decide)
      by_cases c : i + 1 < xs.length
      · have := (h (i + 1) c).2
        unfold joinB at this
        rw [aheadC_succ, if_pos h1] at this
        simpa using this
      · exfalso
        rw [hlast, show xs.length - 1 = i by omega] at e
        exact e h1
    · have hi : i < xs.length := part_lt (by rw [h2]; decide)
      have := (h i hi).2
      unfold joinB at this
      cases i with
      | zero => rw [aheadC_zero, if_neg (by decide), h2] at this; simp at this
      | succ i =>
        rw [aheadC_succ] at this
        by_cases c : (atC xs i).part = 1
        · exact ⟨by omega, by rw [Nat.add_sub_cancel]; exact c⟩
        · rw [if_neg c, h2] at this; simp at this
set_option maxHeartbeats 4000000 in
set_option maxRecDepth 20000 in
theorem implRowOk_any (v : Value) (xs : List Ce) (w : World) (hS : SpansAt w) (hv : SlC w v xs) (hl : xs.length ≤ 1048576) :
    Calls Tryd.prog 80 #[v] w fun e w' => e = .returned (.bool (rowOkB xs)) ∧ Below w.heap.size w w' := by
  obtain ⟨a, c, rfl, hcp, hnc, _⟩ := id hv
  have hlt := hS.lt
  by_cases h0 : xs.length < 1
  · have h0i : (xs.length : Int) < 1 := by omega
    have hV : Hid (rowOkB xs = false) := rowOkB_len xs (by omega)
    go_enter Tryd.func80, Tryd.ntmps80
    go_wp2
    go_ret
    exact ⟨by rw [hV.out]; rfl, Below.refl _ _⟩
  · have h0i : ¬ (xs.length : Int) < 1 := by omega
    by_cases h60 : 60 < xs.length
    · have h60i : (60 : Int) < (xs.length : Int) := by omega
      have hV : Hid (rowOkB xs = false) := rowOkB_len xs (by omega)
      go_enter Tryd.func80, Tryd.ntmps80
      go_wp2
      go_ret
      exact ⟨by rw [hV.out]; rfl, Below.refl _ _⟩
    · have h60i : ¬ (60 : Int) < (xs.length : Int) := by omega
      have hco := fun c W h => cellOk_any c W h
      have hjo := fun a c W => joins_any a c W
      have hbA := bal' w (Obj.cells #[.int .i64 0, .int .i64 0, .int .i64 0, .bool false, .bool false, .bool false, .int .i64 0] 65)
      have hz := CeF.new w Ce.zero 65
      simp only [Ce.zero, St.zero] at hz
      unfold ceV at *
      go_enter Tryd.func80, Tryd.ntmps80
      go_wp2
      go_loopw [17, 5] (fun i _ wr => ∃ j : Nat, i = .int .i64 j ∧ j ≤ xs.length ∧ CeF wr w.heap.size (aheadC xs j) ∧ Below w.heap.size w wr ∧ Hid (∀ i, i < j → c1B (atC xs i) = true ∧ joinB (aheadC xs i) (atC xs i) = true)) (fun i _ _ => xs.length - (intOf i).toNat)
      case atStart => exact ⟨0, rfl, Nat.zero_le _, hz, hbA, fun i h => absurd h (Nat.not_lt_zero i)⟩
      case round =>
        clear hz hbA
        obtain ⟨j, rfl, hj, hA, hb, hall⟩ := hrel
        by_cases hlj : j < xs.length
        · have hji : (j : Int) < (xs.length : Int) := by omega
          have hj0 : (0 : Int) ≤ (j : Int) := by omega
          obtain ⟨b, off, rfl, hsrc⟩ := (hv.below hb).src (by omega)
          have hat := hsrc j hlj
          have hno1 := fun h => row_no_cell (xs := xs) hlj h
          have hno2 := fun h => row_no_join (xs := xs) (i := j) h
          have hsu : Hid (aheadC xs (j + 1) = atC xs j) := aheadC_succ xs j
          have hX := CeF.new wr (atC xs j) 65
          have hbX := bal' wr (Obj.cells #[.int .i64 (atC xs j).rune, .int .i64 (atC xs j).st.fore, .int .i64 (atC xs j).st.back, .bool (atC xs j).st.bold, .bool (atC xs j).st.under, .bool (atC xs j).st.turned, .int .i64 (atC xs j).part] 65)
          have hA1 := hA.below hbX
          have hb1 := hb.trans (hbX.mono hb.size)
          have hstep : c1B (atC xs j) = true → joinB (aheadC xs j) (atC xs j) = true → Hid (∀ i, i < j + 1 → c1B (atC xs i) = true ∧ joinB (aheadC xs i) (atC xs i) = true) := fun h1 h2 => (show ∀ i, i < j + 1 → c1B (atC xs i) = true ∧ joinB (aheadC xs i) (atC xs i) = true from fun i hi => by
            by_cases e : i = j
            · rw [e]; exact ⟨h1, h2⟩
            · exact hall.out i (by omega))
          obtain ⟨c0, c1, c2, c3, c4, c5, c6⟩ := hat
          have hne : w.heap.size ≠ wr.heap.size := by have := hA.1; omega
          generalize atC xs j = x at *
          generalize aheadC xs j = ah at *
          clear hsrc hall hA hb hbX
          go_wp2_with fail
          generalize wr.alloc (Obj.cells #[.int .i64 x.rune, .int .i64 x.st.fore, .int .i64 x.st.back, .bool x.st.bold, .bool x.st.under, .bool x.st.turned, .int .i64 x.part] 65) = W1 at *
          refine (hco x _ (hS.below hb1 hlt)).mono ?_
          rintro e w2 ⟨rfl, hb2⟩
          have hX2 := hX.below hb2
          have hA2 := hA1.below hb2
          have hb2' := hb1.trans (hb2.mono hb1.size)
          clear hX hA1 hb2 c0 c1 c2 c3 c4 c5 c6 hb1 hco
          cases hc1 : c1B x
          · have hV : Hid (rowOkB xs = false) := hno1 hc1
            clear hno1 hno2 hstep hc1 hX2 hA2 hjo
            go_wp2
            go_ret
            exact ⟨by rw [hV.out]; rfl, hb2'⟩
          · obtain ⟨_, ⟨c0, c1, c2, c3, c4, c5, c6⟩, _⟩ := id hX2
            obtain ⟨_, ⟨d0, d1, d2, d3, d4, d5, d6⟩, _⟩ := id hA2
            go_wp2_with fail
            refine (hjo ah x _).mono ?_
            rintro e w3 ⟨rfl, hb3⟩
            have hX3 := hX2.below hb3
            have hA3 := hA2.below hb3
            have hb3' := hb2'.trans (hb3.mono hb2'.size)
            clear hX2 hA2 hb3 c0 c1 c2 c3 c4 c5 c6 d0 d1 d2 d3 d4 d5 d6 hb2' hjo
            cases hc2 : joinB ah x
            · have hV : Hid (rowOkB xs = false) := hno2 hc2
              clear hno1 hno2 hstep hc1 hc2 hX3 hA3
              go_wp2
              go_ret
              exact ⟨by rw [hV.out]; rfl, hb3'⟩
            · have hall := hstep hc1 hc2
              have hAp := hA3.put x
              have hbp := hb3'.grown (putF_grown w3 w.heap.size x) hb3'.size (fun k hk => by cases hk; exact Nat.le_refl _)
              obtain ⟨_, ⟨c0, c1, c2, c3, c4, c5, c6⟩, _⟩ := id hX3
              obtain ⟨_, ⟨d0, d1, d2, d3, d4, d5, d6⟩, ⟨f0, f1, f2, f3, f4, f5, f6⟩⟩ := id hA3
              clear hno1 hno2 hstep hc1 hc2 hX3 hA3
              simp only [putF] at hAp hbp
              go_wp2
              go_roundw
              case rel => exact ⟨j + 1, by go_num, by omega, by rw [hsu.out]; exact hAp, hbp, hall⟩
              case measure => simp [intOf]; omega
        · have hjn : j = xs.length := by omega
          have hji : ¬ (j : Int) < (xs.length : Int) := by omega
          have hV : Hid (rowOkB xs = !decide ((aheadC xs xs.length).part = 1)) := row_end ⟨by omega, by omega⟩ (by rw [← hjn]; exact hall.out)
          rw [← hjn] at hV
          obtain ⟨_, ⟨d0, d1, d2, d3, d4, d5, d6⟩, _⟩ := id hA
          clear hco hjo hall
          generalize aheadC xs j = ah at *
          go_wp2
          go_ret
          exact ⟨by rw [hV.out]; first | rfl | (simp; done), hb⟩
end Go.Proofs.YtlmnhlfklbgjdaaDoor
