/- Contracts: the program's tests on parsers. The laws' own helper: two lists alike. Contracts of the program's Parsed and Step: first part. What an argument that is a parser is, once it can be read. A struct of many cells, loaded and stored as a whole, behind a guard too. Contracts of formOf. Contracts of spec.l1Put, and bytes made a string. Contracts of the program's Put. Contracts of Put. Contracts of Get. Contract of impl.cutShort. Contract of spec.Get. Contract of spec.l1Part. A rune that is cut short: two ways to tell it are one. Plain mathematics on bytes. The two ways to tell a rune that is cut short are one. Contracts of FeederOk. A screen as numbers, and in memory. What an argument that is a screen is, once it can be read. The laws' own copy of a style. Contracts of the small functions on styles. Contracts of Styled as the specification has it. Two styles compared. Contracts of Params as the specification has it. Contracts of Params as the specification has it: all cases. Contracts of the digits as the specification has them. Contracts of Sign as the specification has it. The bytes that make a screen, as numbers. strconv's small numbers. strconv.AppendInt of a number from 0 to 99 in base 10, onto a row of the call's own. -/
import Derived.Test.YtlmnhlfklbgjdaaGreatDoorP1
import Derived.Laws.AppendOwnNone
import Derived.ChangeOld
import Derived.Below
import Derived.Laws.Rows
import Derived.Laws.Tables
import Derived.Laws.BytesArg
import Derived.WalkSpells
import Derived.Laws.RangeAny
import Derived.Lib.OthersKept
import Derived.Deep.RegionWith
import Derived.WalkLawsBesides
import Derived.Deep.RegionHeld3
import Derived.Deep.DrawnRows
import Derived.Laws.StructEq
import Derived.Laws.AppendOwn
import Derived.OwnWalk
import Derived.Lib.AppendStr
import Derived.Lib.SlBytesConst
namespace Go.Proofs.YtlmnhlfklbgjdaaGreatDoor
open Go.ChangeShapes Go.WideShapes Go.ChangeAt Go.RowKit
set_option maxHeartbeats 1000000 in
theorem allRunes_any (v : Value) (xs : List Int) (w : World) (hv : SlI w v xs) (hl : xs.length ≤ 1073741824) :
    Calls Tryz.prog 105 #[v] w fun e w' => e = .returned (.bool (runesB xs)) ∧ w' = w := by
  obtain ⟨a, c, rfl, hc⟩ := hv.cons
  clear hv
  go_enter Tryz.func105, Tryz.ntmps105
  go_wp2
  go_loop [4, 7] (fun _ i => ∃ j : Nat, i = .int .i64 j ∧ j ≤ xs.length ∧ Hid (∀ k, k < j → runeOk (xs.getD k 0) = true)) (fun _ i => xs.length - (intOf i).toNat)
  case atStart => exact ⟨0, rfl, Nat.zero_le _, (fun k hk => absurd hk (Nat.not_lt_zero k))⟩
  case round =>
    obtain ⟨j, rfl, hj, hall⟩ := hrel
    by_cases hlt : j < xs.length
    · have hji : (j : Int) < (xs.length : Int) := by omega
      have hj0 : (0 : Int) ≤ (j : Int) := by omega
      obtain ⟨b, off, rfl, hcj⟩ := hc j hlt
      have hno : runeOk (xs.getD j 0) = false → Hid (runesB xs = false) := fun h => runesB_no j hlt h
      have hstep : runeOk (xs.getD j 0) = true → Hid (∀ k, k < j + 1 → runeOk (xs.getD k 0) = true) := fun h => (show ∀ k, k < j + 1 → runeOk (xs.getD k 0) = true from fun k hk => by
        by_cases e : k = j
        · rw [e]; exact h
        · exact hall.out k (by omega))
      have hok := implRuneOk_any (xs.getD j 0) w
      clear hc hall
      generalize xs.getD j 0 = x at *
      generalize runeOk x = ok at *
      go_wp2_with fail
      refine hok.mono ?_
      rintro e w2 ⟨rfl, hw⟩
      subst hw
      clear hok
      cases ok
      · have hV := hno rfl
        clear hno hstep
        go_wp2
        go_ret
        exact ⟨by rw [hV.out]; rfl, rfl⟩
      · have hall2 := hstep rfl
        clear hno hstep
        go_wp2
        go_round
        case rel => exact ⟨j + 1, by go_num, by omega, hall2⟩
        case measure => simp [intOf]; omega
    · have hjn : j = xs.length := by omega
      have hji : ¬ (j : Int) < (xs.length : Int) := by omega
      have hV : Hid (runesB xs = true) := runesB_yes (by rw [← hjn]; exact hall.out)
      clear hc hall
      subst hjn
      go_wp2
      go_ret
      exact ⟨by rw [hV.out]; rfl, rfl⟩
set_option maxHeartbeats 1000000 in
theorem paramsOk_any (v : Value) (xs : List Int) (w : World) (hv : SlI w v xs) (hl : xs.length ≤ 1073741824) :
    Calls Tryz.prog 106 #[v] w fun e w' => e = .returned (.bool (paramsB xs && decide (xs.length ≤ 16))) ∧ w' = w := by
  obtain ⟨a, c, rfl, hc⟩ := hv.cons
  clear hv
  obtain ⟨rv, hrv⟩ : ∃ rv, Hid (rv = (paramsB xs && decide (xs.length ≤ 16))) := ⟨_, rfl⟩
  rw [← hrv.out]
  go_enter Tryz.func106, Tryz.ntmps106
  go_wp2
  go_loop [4, 7] (fun _ i => ∃ j : Nat, i = .int .i64 j ∧ j ≤ xs.length ∧ Hid (∀ k, k < j → 0 ≤ xs.getD k 0 ∧ xs.getD k 0 ≤ 9999)) (fun _ i => xs.length - (intOf i).toNat)
  case atStart => exact ⟨0, rfl, Nat.zero_le _, (fun k hk => absurd hk (Nat.not_lt_zero k))⟩
  case round =>
    obtain ⟨j, rfl, hj, hall⟩ := hrel
    by_cases hlt : j < xs.length
    · have hji : (j : Int) < (xs.length : Int) := by omega
      have hj0 : (0 : Int) ≤ (j : Int) := by omega
      obtain ⟨b, off, rfl, hcj⟩ := hc j hlt
      have hno : ¬ (0 ≤ xs.getD j 0 ∧ xs.getD j 0 ≤ 9999) → Hid (rv = false) := fun h => (show rv = false by rw [hrv.out, paramsB_no j hlt h]; rfl)
      have hstep : (0 ≤ xs.getD j 0 ∧ xs.getD j 0 ≤ 9999) → Hid (∀ k, k < j + 1 → 0 ≤ xs.getD k 0 ∧ xs.getD k 0 ≤ 9999) := fun h => (show ∀ k, k < j + 1 → 0 ≤ xs.getD k 0 ∧ xs.getD k 0 ≤ 9999 from fun k hk => by
        by_cases e : k = j
        · rw [e]; exact h
        · exact hall.out k (by omega))
      clear hc hall
      generalize xs.getD j 0 = x at *
      by_cases h1 : x < 0
      · have hV := hno (by omega)
        clear hno hstep
        go_wp2
        go_ret
        exact ⟨by rw [hV.out]; rfl, rfl⟩
      · by_cases h2 : 9999 < x
        · have hV := hno (by omega)
          clear hno hstep
          go_wp2
          go_ret
          exact ⟨by rw [hV.out]; rfl, rfl⟩
        · have hall2 := hstep (by omega)
          clear hno hstep
          go_wp2
          go_round
          case rel => exact ⟨j + 1, by go_num, by omega, hall2⟩
          case measure => simp [intOf]; omega
    · have hjn : j = xs.length := by omega
      have hji : ¬ (j : Int) < (xs.length : Int) := by omega
      have hV : Hid (rv = decide (xs.length ≤ 16)) := by
        show _ = _
        rw [hrv.out, paramsB_yes (by rw [← hjn]; exact hall.out), Bool.true_and]
      clear hc hall hrv
      subst hjn
      by_cases h3 : xs.length ≤ 16
      · have h3i : (xs.length : Int) ≤ 16 := by omega
        rw [decide_eq_true h3] at hV
        go_wp2
        go_ret
        exact ⟨by rw [hV.out]; simp, rfl⟩
      · have h3i : ¬ (xs.length : Int) ≤ 16 := by omega
        rw [decide_eq_false h3] at hV
        go_wp2
        go_ret
        exact ⟨by rw [hV.out]; simp, rfl⟩
theorem markOk_any (m : Int) (w : World) :
    Calls Tryz.prog 107 #[.int .i64 m] w fun e w' => e = .returned (.bool (decide (m = 0 ∨ m = 63))) ∧ w' = w := by
  by_cases h : m = 0
  · subst h
    go_enter Tryz.func107, Tryz.ntmps107
    go_wp2
    go_ret
    exact ⟨rfl, rfl⟩
  · by_cases h2 : m = 63
    · subst h2
      go_enter Tryz.func107, Tryz.ntmps107
      go_wp2
      go_ret
      exact ⟨rfl, rfl⟩
    · have hi : (m == 0) = false := by simp [h]
      have hi2 : (m == 63) = false := by simp [h2]
      have hV : Hid (decide (m = 0 ∨ m = 63) = false) := decide_eq_false (by omega)
      clear h h2
      go_enter Tryz.func107, Tryz.ntmps107
      go_wp2
      go_ret
      exact ⟨by rw [hV.out]; rfl, rfl⟩
theorem titleOk_any (v : Value) (xs : List Int) (w : World) (hv : SlI w v xs) (hl : xs.length ≤ 1073741824) :
    Calls Tryz.prog 70 #[v] w fun e w' => e = .returned (.bool (decide (xs.length ≤ 40) && runesB xs)) ∧ w' = w := by
  have hR := allRunes_any v xs w hv hl
  obtain ⟨a, c, rfl⟩ := hv.shp
  clear hv
  obtain ⟨rv, hrv⟩ : ∃ rv, Hid (rv = (decide (xs.length ≤ 40) && runesB xs)) := ⟨_, rfl⟩
  rw [← hrv.out]
  by_cases h3 : xs.length ≤ 40
  · have h3i : (xs.length : Int) ≤ 40 := by omega
    have hV : Hid (rv = runesB xs) := by show _ = _; rw [hrv.out, decide_eq_true h3, Bool.true_and]
    clear hrv
    generalize runesB xs = q at *
    go_enter Tryz.func70, Tryz.ntmps70
    go_wp2_with (go_at_call 105; refine hR.mono ?_; rintro e w' ⟨rfl, rfl⟩)
    go_ret
    exact ⟨by rw [hV.out]; first | rfl | simp, rfl⟩
  · have h3i : ¬ (xs.length : Int) ≤ 40 := by omega
    have hV : Hid (rv = false) := by show _ = _; rw [hrv.out, decide_eq_false h3, Bool.false_and]
    clear hR hrv
    go_enter Tryz.func70, Tryz.ntmps70
    go_wp2
    go_ret
    exact ⟨by rw [hV.out]; first | rfl | simp, rfl⟩
set_option maxHeartbeats 4000000 in
set_option maxRecDepth 20000 in
theorem implParserOk_any (p : Pa) (pv tv : Value) (w : World) (hp : SlI w pv p.params) (ht : SlI w tv p.text) (hpl : p.params.length ≤ 1073741824) (htl : p.text.length ≤ 1073741824) :
    Calls Tryz.prog 71 #[paV p pv tv] w fun e w' => e = .returned (.bool (okV p)) ∧ Below w.heap.size w w' := by
  obtain ⟨s, ps, m, ts⟩ := p
  have hb0 := bal' w (Obj.cells #[.int .i64 s, pv, .int .i64 m, tv] 31)
  have hP := PaC.new w s m pv tv 31
  have hp1 := hp.below hb0
  have ht1 := ht.below hb0
  have hR := titleOk_any tv ts _ ht1 htl
  have hQ := paramsOk_any pv ps _ hp1 hpl
  have hM := fun W => markOk_any m W
  obtain ⟨pa, pc, rfl⟩ := hp1.shp
  obtain ⟨ta, tc, rfl⟩ := ht1.shp
  simp only at *
  obtain ⟨rv, hrv⟩ : ∃ rv, Hid (rv = okV ⟨s, ps, m, ts⟩) := ⟨_, rfl⟩
  rw [← hrv.out]
  have hval : Hid (rv = (decide (1 ≤ s ∧ s ≤ 5) && (paramsB ps && decide (ps.length ≤ 16)) && decide (m = 0 ∨ m = 63) && (decide (ts.length ≤ 40) && runesB ts) && (decide (s = 3) || decide (ps.length = 0) && decide (m = 0)) && (decide (4 ≤ s) || decide (ts.length = 0)))) := by
    show _ = _
    rw [hrv.out]
    unfold okV
    rw [Bool.eq_iff_iff]
    simp only [Bool.and_eq_true, Bool.or_eq_true, decide_eq_true_eq]
    constructor
    · rintro ⟨⟨⟨a1, a2, a3, a4, a5, a6, a7⟩, a8⟩, a9⟩; exact ⟨⟨⟨⟨⟨⟨a1, a2⟩, a9, a3⟩, a4⟩, a5, a8⟩, a6⟩, a7⟩
    · rintro ⟨⟨⟨⟨⟨⟨a1, a2⟩, a9, a3⟩, a4⟩, a5, a8⟩, a6⟩, a7⟩; exact ⟨⟨⟨a1, a2, a3, a4, a5, a6, a7⟩, a8⟩, a9⟩
  have hps0 : ps.length = 0 → (paramsB ps && decide (ps.length ≤ 16)) = true := fun h => by
    rw [List.eq_nil_of_length_eq_zero h]; rfl
  have hts0 : ts.length = 0 → (decide (ts.length ≤ 40) && runesB ts) = true := fun h => by
    rw [List.eq_nil_of_length_eq_zero h]; rfl
  unfold paV
  obtain ⟨_, ⟨c0, c1, c2, c3⟩, _⟩ := id hP
  clear hP hp ht hp1 hrv ht1
  generalize (paramsB ps && decide (ps.length ≤ 16)) = qp at *
  generalize (decide (ts.length ≤ 40) && runesB ts) = qt at *
  generalize hnp : ps.length = np at *
  generalize hnt : ts.length = nt at *
  clear hnp hnt
  have zm : ∀ b, (b = true ↔ m = 0) → True := fun _ _ => trivial
  clear zm
  have hnm : m = 0 → decide (m = 0 ∨ m = 63) = true := fun h => by simp [h]
  generalize hmk : decide (m = 0 ∨ m = 63) = mk at *
  by_cases hs1 : s = 1 ∨ s = 2
  · have e1 : Hid (rv = (decide (np = 0) && decide (m = 0) && decide (nt = 0))) := by
      show _ = _
      rw [hval.out]
      by_cases z1 : np = 0
      · by_cases z2 : m = 0
        · by_cases z3 : nt = 0
          · rw [hps0 z1, hts0 z3, hnm z2]; rcases hs1 with rfl | rfl <;> simp [z1, z2, z3]
          · rcases hs1 with rfl | rfl <;> simp [z3]
        · rcases hs1 with rfl | rfl <;> simp [z2]
      · rcases hs1 with rfl | rfl <;> simp [z1]
    clear hval hps0 hts0 hnm hmk hR hQ hM
    by_cases z1 : np = 0
    · subst z1
      by_cases z2 : m = 0
      · subst z2
        by_cases z3 : nt = 0
        · subst z3
          rcases hs1 with rfl | rfl
          all_goals
            go_enter Tryz.func71, Tryz.ntmps71
            go_wp2
            go_ret
            exact ⟨by rw [e1.out]; rfl, hb0⟩
        · have z3i : ((nt : Int) == 0) = false := by simp; omega
          have e2 : Hid (rv = false) := by show _ = _; rw [e1.out]; simp [z3]
          clear e1 z3
          rcases hs1 with rfl | rfl
          all_goals
            go_enter Tryz.func71, Tryz.ntmps71
            go_wp2
            go_ret
            exact ⟨by rw [e2.out]; rfl, hb0⟩
      · have z2i : (m == 0) = false := by simp [z2]
        have e2 : Hid (rv = false) := by show _ = _; rw [e1.out]; simp [z2]
        clear e1 z2
        rcases hs1 with rfl | rfl
        all_goals
          go_enter Tryz.func71, Tryz.ntmps71
          go_wp2
          go_ret
          exact ⟨by rw [e2.out]; rfl, hb0⟩
    · have z1i : ((np : Int) == 0) = false := by simp; omega
      have e2 : Hid (rv = false) := by show _ = _; rw [e1.out]; simp [z1]
      clear e1 z1
      rcases hs1 with rfl | rfl
      all_goals
        go_enter Tryz.func71, Tryz.ntmps71
        go_wp2
        go_ret
        exact ⟨by rw [e2.out]; rfl, hb0⟩
  · by_cases hs3 : s = 3
    · subst hs3
      have e1 : Hid (rv = (qp && mk && decide (nt = 0))) := by
        show _ = _
        rw [hval.out]
        by_cases z3 : nt = 0
        · rw [hts0 z3]; simp [z3]
        · simp [z3]
      clear hval hps0 hts0 hnm hmk hR hs1
      cases qp
      · go_enter Tryz.func71, Tryz.ntmps71
        go_wp2_with (go_at_call 106; refine hQ.mono ?_; rintro e w' ⟨rfl, rfl⟩)
        go_ret
        exact ⟨by rw [e1.out]; rfl, hb0⟩
      · cases mk
        · go_enter Tryz.func71, Tryz.ntmps71
          go_wp2_with (first | (go_at_call 106; refine hQ.mono ?_; rintro e w' ⟨rfl, rfl⟩) | (go_at_call 107; refine (hM _).mono ?_; rintro e w' ⟨rfl, rfl⟩))
          go_ret
          exact ⟨by rw [e1.out]; rfl, hb0⟩
        · by_cases z3 : nt = 0
          · subst z3
            go_enter Tryz.func71, Tryz.ntmps71
            go_wp2_with (first | (go_at_call 106; refine hQ.mono ?_; rintro e w' ⟨rfl, rfl⟩) | (go_at_call 107; refine (hM _).mono ?_; rintro e w' ⟨rfl, rfl⟩))
            go_ret
            exact ⟨by rw [e1.out]; rfl, hb0⟩
          · have z3i : ((nt : Int) == 0) = false := by simp; omega
            have e2 : Hid (rv = false) := by show _ = _; rw [e1.out]; simp [z3]
            clear e1 z3
            go_enter Tryz.func71, Tryz.ntmps71
            go_wp2_with (first | (go_at_call 106; refine hQ.mono ?_; rintro e w' ⟨rfl, rfl⟩) | (go_at_call 107; refine (hM _).mono ?_; rintro e w' ⟨rfl, rfl⟩))
            go_ret
            exact ⟨by rw [e2.out]; rfl, hb0⟩
    · by_cases hs4 : s = 4 ∨ s = 5
      · have e1 : Hid (rv = (decide (np = 0) && decide (m = 0) && qt)) := by
          show _ = _
          rw [hval.out]
          by_cases z1 : np = 0
          · by_cases z2 : m = 0
            · rw [hps0 z1, hnm z2]; rcases hs4 with rfl | rfl <;> simp [z1, z2]
            · rcases hs4 with rfl | rfl <;> simp [z2]
          · rcases hs4 with rfl | rfl <;> simp [z1]
        clear hval hps0 hts0 hnm hmk hQ hM hs1 hs3
        by_cases z1 : np = 0
        · subst z1
          by_cases z2 : m = 0
          · subst z2
            rcases hs4 with rfl | rfl
            all_goals
              go_enter Tryz.func71, Tryz.ntmps71
              go_wp2_with (go_at_call 70; refine hR.mono ?_; rintro e w' ⟨rfl, rfl⟩)
              go_ret
              exact ⟨by rw [e1.out]; rfl, hb0⟩
          · have z2i : (m == 0) = false := by simp [z2]
            have e2 : Hid (rv = false) := by show _ = _; rw [e1.out]; simp [z2]
            clear e1 z2 hR
            rcases hs4 with rfl | rfl
            all_goals
              go_enter Tryz.func71, Tryz.ntmps71
              go_wp2
              go_ret
              exact ⟨by rw [e2.out]; rfl, hb0⟩
        · have z1i : ((np : Int) == 0) = false := by simp; omega
          have e2 : Hid (rv = false) := by show _ = _; rw [e1.out]; simp [z1]
          clear e1 z1 hR
          rcases hs4 with rfl | rfl
          all_goals
            go_enter Tryz.func71, Tryz.ntmps71
            go_wp2
            go_ret
            exact ⟨by rw [e2.out]; rfl, hb0⟩
      · have e1 : Hid (rv = false) := by
          show _ = _
          rw [hval.out, decide_eq_false (by omega)]; simp
        have i1 : (s == 1) = false := by simp; omega
        have i2 : (s == 2) = false := by simp; omega
        have i3 : (s == 3) = false := by simp; omega
        have i4 : (s == 4) = false := by simp; omega
        have i5 : (s == 5) = false := by simp; omega
        clear hval hps0 hts0 hnm hmk hR hQ hM hs1 hs3 hs4
        go_enter Tryz.func71, Tryz.ntmps71
        go_wp2
        go_ret
        exact ⟨by rw [e1.out]; rfl, hb0⟩
end Go.Proofs.YtlmnhlfklbgjdaaGreatDoor
namespace Go.Proofs.YtlmnhlfklbgjdaaGreatDoor
open Go.ChangeShapes Go.WideShapes Go.ChangeAt Go.RowKit
/-- A slice whose cells hold these values, one a place: what append takes its news from. -/
def ReadsRow (w : World) (u : Value) (news : List Value) : Prop :=
  (u = .slice none 0 0 ∧ news = []) ∨ ∃ ad c, u = .slice (some ad) news.length c ∧ ∀ j x, news[j]? = some x → w.cell? (ad.add j) = some x
theorem ReadsRow.of_own {w : World} {base : Nat} {e : TypeId} {v : Value} {n : Nat} {xs : List Value} (h : w.ownsRow base e 1 v n xs) : ReadsRow w v xs := by
  have hl : xs.length = n := by simpa using h.1
  rcases h.2 with ⟨rfl, rfl⟩ | ⟨g, cap, cur, hv, _⟩
  · exact .inl ⟨rfl, List.eq_nil_of_length_eq_zero hl⟩
  · exact .inr ⟨⟨g, 0, none⟩, cap, by rw [hv, hl], h.cells (by rw [hv]; rfl)⟩
theorem ReadsRow.below {w w' : World} {u : Value} {news : List Value} (h : ReadsRow w u news) (hb : Below w.heap.size w w') : ReadsRow w' u news := by
  rcases h with h | ⟨ad, c, hu, hc⟩
  · exact .inl h
  · refine .inr ⟨ad, c, hu, fun j x hx => ?_⟩
    have h1 := hc j x hx
    exact (hb.cell (World.block_lt_of_cell? w _ h1)).trans h1
end Go.Proofs.YtlmnhlfklbgjdaaGreatDoor
namespace Go.Proofs.YtlmnhlfklbgjdaaGreatDoor
open Go.ChangeShapes Go.WideShapes Go.ChangeAt Go.RowKit
/-- A slice that can be read, cut and copied. -/
def SlN (w : World) (v : Value) (xs : List Int) : Prop :=
  ∃ a c, v = .slice a xs.length c ∧ xs.length ≤ c ∧ (a = none → c = 0) ∧ (xs = [] ∨ ∃ b off, a = some ⟨b, off, none⟩ ∧ b < w.heap.size ∧ ∀ i, i < xs.length → w.cell? ⟨b, off + i, none⟩ = some (.int .i64 (xs.getD i 0)))
theorem SlN.l {w : World} {v : Value} {xs : List Int} (h : SlN w v xs) : SlL w v xs := by
  obtain ⟨a, c, hv, hc, _, hr⟩ := h
  exact ⟨a, c, hv, hc, hr⟩
theorem SlN.below {w w' : World} {v : Value} {xs : List Int} (h : SlN w v xs) (hb : Below w.heap.size w w') : SlN w' v xs := by
  obtain ⟨a, c, hv, hc0, hn, h | ⟨b, off, ha, hlt, hc⟩⟩ := h
  · exact ⟨a, c, hv, hc0, hn, .inl h⟩
  · exact ⟨a, c, hv, hc0, hn, .inr ⟨b, off, ha, Nat.lt_of_lt_of_le hlt hb.size, fun i hi => (hb.cell (p := ⟨b, off + i, none⟩) hlt).trans (hc i hi)⟩⟩
theorem SlN.of_own {w : World} {base : Nat} {v : Value} {xs : List Int} (h : OwnI w base v xs) : SlN w v xs := by
  rcases h.2 with ⟨rfl, h2⟩ | ⟨g, cap, cur, rfl, hb, hg, hn, hr⟩
  · exact ⟨none, 0, by rw [h2], by omega, fun _ => rfl, .inl (List.eq_nil_of_length_eq_zero h2)⟩
  · refine ⟨_, cap, rfl, hn, (fun e => by cases e), .inr ⟨g, 0, rfl, (Array.getElem?_eq_some_iff.1 hg).1, fun i hi => ?_⟩⟩
    have := World.ownsRow.cellAt h i (by omega)
    rw [Nat.zero_add, this]
    simp [hi]
theorem SlN.shp {w : World} {v : Value} {xs : List Int} (h : SlN w v xs) : ∃ a c, v = .slice a xs.length c := h.l.sl.shp
/-- Four cells of a parser are written. -/
def putP (w : World) (B : Nat) (s : Int) (pv : Value) (m : Int) (tv : Value) : World := (((w.setCell ⟨B, 0, none⟩ (.int .i64 s)).setCell ⟨B, 1, none⟩ pv).setCell ⟨B, 2, none⟩ (.int .i64 m)).setCell ⟨B, 3, none⟩ tv
theorem putP_grown (w : World) (B : Nat) (s : Int) (pv : Value) (m : Int) (tv : Value) : w.grownBy (putP w B s pv m tv) (some B) :=
  grown_tr (grown_tr (grown_tr (setCell_gr w B 0 _) (setCell_gr _ B 1 _)) (setCell_gr _ B 2 _)) (setCell_gr _ B 3 _)
theorem PaC.put {w : World} {B : Nat} {s m : Int} {pv tv : Value} (h : PaC w B s pv m tv) (s' m' : Int) (pv' tv' : Value) : PaC (putP w B s' pv' m' tv') B s' pv' m' tv' := by
  obtain ⟨hlt, ⟨c0, c1, c2, c3⟩, ⟨z0, z1, z2, z3⟩⟩ := h
  refine ⟨by simpa [putP] using hlt, ⟨?_, ?_, ?_, ?_⟩, ⟨?_, ?_, ?_, ?_⟩⟩
  all_goals simp only [putP]
  · simp [go_sem, c0]
  · simp [go_sem, c1]
  · simp [go_sem, c2]
  · simp [go_sem, c3]
  all_goals simp [go_sem, z0, z1, z2, z3]
theorem AnsOk.grown {w w' : World} {base b : Nat} {pv tv av : Value} {p : Pa} {A : List Ac} (h : AnsOk w base pv tv p av A) (hg : w.grownBy w' (some b)) (hb : b < base) : AnsOk w' base pv tv p av A := by
  obtain ⟨X, h1, h2, h3⟩ := h
  refine ⟨X, h1, h2.kept hg (.inr fun e => ?_), h3.kept hg fun p hp => .inr fun e => ?_⟩
  · have := (h2.lt b e).1; omega
  · have := ((h3.1 p hp).lt b e).1; omega
end Go.Proofs.YtlmnhlfklbgjdaaGreatDoor
namespace Go.Proofs.YtlmnhlfklbgjdaaGreatDoor
open Go.ChangeShapes Go.WideShapes Go.ChangeAt Go.RowKit
section
variable {H : Type} {enc : TypeId × Value → H} {w : World} {base : Nat} {spare : Nat → Bool} {held : Bool}
theorem slN_of {w : World} {x : Addr} {l c : Nat} {zs : List Int} (hl : l ≤ c) (hz : l ≤ zs.length) (hc : ∀ i, i < zs.length → w.cell? (x.add i) = some (.int .i64 (zs.getD i 0))) : SlN w (.slice (some x) l c) (zs.take l) ∧ (zs.take l).length = l := by
  have hlen : (zs.take l).length = l := by rw [List.length_take]; omega
  refine ⟨⟨some x, c, by rw [hlen], by rw [hlen]; exact hl, (fun e => by cases e), ?_⟩, hlen⟩
  by_cases h0 : l = 0
  · left; subst h0; simp
  · right
    obtain ⟨b, off, spot⟩ := x
    have h1 := hc 0 (by omega)
    have hspot : spot = none := by simpa [Addr.add] using World.cell?_spot h1
    subst hspot
    refine ⟨b, off, rfl, World.block_lt_of_cell? w _ h1, fun i hi => ?_⟩
    rw [hlen] at hi
    have h2 := hc i (by omega)
    have e : (zs.take l).getD i 0 = zs.getD i 0 := by simp [List.getD, hi]
    rw [e, ← h2]
    by_cases hi0 : i = 0
    · subst hi0; simp [Addr.add]
    · simp [Addr.add, hi0]
theorem ints_tr {fuel : Nat} {cs : List Value} {y : DataW H × List MemPlace} (hf : DataW.trod enc Tryz.prog w base spare held fuel 29 cs = some y) :
    ∃ (v : Value) (xs : List Int), cs = [v] ∧ SlN w v xs ∧ xs.length ≤ maxLen := by
  rcases open_ints Tryz.underlying29 Tryz.underlying2 (by kernel_rfl) hf with ⟨hcs, _⟩ | ⟨x, l, c, zs, hcs, _, hl, hm, hz, _, hcell, hwz⟩
  · exact ⟨_, [], hcs, ⟨none, 0, rfl, Nat.le_refl _, fun _ => rfl, .inl rfl⟩, by simp⟩
  · have := slN_of (w := w) (x := x) hl (by rw [hz]; split <;> omega) hcell
    exact ⟨_, _, hcs, this.1, by rw [this.2]; omega⟩
end
end Go.Proofs.YtlmnhlfklbgjdaaGreatDoor
namespace Go.Proofs.YtlmnhlfklbgjdaaGreatDoor
open Go.ChangeShapes Go.WideShapes Go.ChangeAt Go.RowKit
theorem load_T {P : Program} {w : World} {ops : Array Oper} {rest : List Oper} {o : Oper} {a : Act} {Q : Exit → Act → World → Prop} (hgd : Region.wanted o (yielded ops a.tmps) = true) (t : TypeId) (x : Operand)
    (ho : o.op = .load t x) {e : TypeId} {B : Nat} {cs : Array Value} {fr : Nat × Nat} {d : TypeDesc} (hu : P.underlying t = some d) (hd : (match d with | .struct _ | .array _ _ => true | _ => false) = true) (hi : (P.info? t).map (·.size) = some cs.size) (hb : w.heap[B]? = some (.cells cs e fr)) (hx : a.eval x = .pointer (some ⟨B, 0, none⟩))
    (h : wpList P ops Q rest (a.put o.dst (.agg cs)) w) : wpList P ops Q (o :: rest) a w := by
  refine wpList_step fun K hK => ?_
  rw [if_pos hgd]
  exact wp_load_row t x ho B hx e cs fr d hb hu hd hi (hK _ _ h)
theorem setRow_gr (w : World) (g : Nat) (cs : Array Value) : w.grownBy (w.setRow g cs) (some g) := by
  refine ⟨rfl, rfl, rfl, by simp, fun k _ hk => ?_⟩
  have : ¬ g = k := fun e => hk (by rw [e])
  simp only [World.setRow]
  rw [Array.getElem?_modify]
  simp [this]
theorem store_T {P : Program} {w : World} {ops : Array Oper} {rest : List Oper} {o : Oper} {a : Act} {Q : Exit → Act → World → Prop} (hgd : Region.wanted o (yielded ops a.tmps) = true) (t : TypeId) (x y : Operand)
    (ho : o.op = .store t x y) {e : TypeId} {B : Nat} {old cs : Array Value} (hi : (P.info? t).map (·.size) = some cs.size) (hold : old.size = cs.size) (h1 : cs.toList.all (·.oneCell') = true) (hb : w.heap[B]? = some (.cells old e (0, 0))) (hx : a.eval x = .pointer (some ⟨B, 0, none⟩)) (hy : a.eval y = .agg cs)
    (h : ∀ w', w.grownBy w' (some B) → w'.heap[B]? = some (.cells cs e (0, 0)) → w'.heap.size = w.heap.size → wpList P ops Q rest (a.put o.dst undef) w') : wpList P ops Q (o :: rest) a w := by
  refine wpList_step fun K hK => ?_
  rw [if_pos hgd]
  exact wp_store_row t x y ho B cs hx hy e old hb hi hold (by rw [← Array.all_toList]; exact h1) (hK _ _ (h _ (setRow_gr w B cs) (setRow_heap w B old cs e (0, 0) hb) (by simp)))
def setV (L : List Value) : Nat → List Value → List Value
  | _, [] => L
  | k, v :: l => setV (L.set k v) (k + 1) l
theorem setCells_heap (B : Nat) (e : TypeId) : ∀ (l : List Value) (k : Nat) (w : World) (L : List Value), w.heap[B]? = some (.cells L.toArray e (0, 0)) → (w.setCells B k l).heap[B]? = some (.cells (setV L k l).toArray e (0, 0))
  | [], _, _, _, h => h
  | v :: l, k, w, _, h => setCells_heap B e l (k + 1) _ _ (by rw [heap_setCell_same w B k _ _ v h]; simp)
theorem setCells_gr (B : Nat) : ∀ (l : List Value) (k : Nat) (w : World), w.grownBy (w.setCells B k l) (some B)
  | [], _, _ => World.grownBy.refl _ _
  | v :: l, k, w => grown_tr (setCell_gr w B k v) (setCells_gr B l (k + 1) _)
theorem setCells_size (B : Nat) : ∀ (l : List Value) (k : Nat) (w : World), (w.setCells B k l).heap.size = w.heap.size
  | [], _, _ => rfl
  | v :: l, k, w => by rw [World.setCells, setCells_size B l]; simp
/-- A block's cells, named. -/
def BlkC (w : World) (B : Nat) (e : TypeId) (L : List Value) : Prop := w.heap[B]? = some (.cells L.toArray e (0, 0))
/-- A value into a part of a block. -/
theorem store_at {P : Program} {w : World} {ops : Array Oper} {rest : List Oper} {o : Oper} {a : Act} {Q : Exit → Act → World → Prop} (hgd : Region.wanted o (yielded ops a.tmps) = true) (t : TypeId) (x y : Operand)
    (ho : o.op = .store t x y) {e : TypeId} {B k n : Nat} {cs : List Value} {v : Value} (hi : (P.info? t).map (·.size) = some n) (hb : BlkC w B e cs) (hx : a.eval x = .pointer (some ⟨B, k, none⟩)) (hy : a.eval y = v) (hn : v.cells.size = n) (h1 : v.cells.toList.all (·.oneCell') = true) (hk : Nat.ble (k + n) cs.length = true)
    (h : ∀ w', w.grownBy w' (some B) → BlkC w' B e (setV cs k v.cells.toList) → w'.heap.size = w.heap.size → wpList P ops Q rest (a.put o.dst undef) w') : wpList P ops Q (o :: rest) a w := by
  have hk := Nat.le_of_ble_eq_true hk
  rw [← hn] at hi hk
  refine wpList_step fun K hK => ?_
  rw [if_pos hgd]
  have hs := run_storeCells_cells (P := P) B k v.cells.toList 0 w (fun j hj => by
      rw [cell_of_row w B _ cs.toArray e (0, 0) hb]
      simp at hj ⊢; omega) (fun j hj => frozen_of_row w B _ _ _ hb) (fun u hu => List.all_eq_true.1 h1 u hu)
  rw [Nat.add_zero] at hs
  unfold Oper.wp
  cases hq : P.info? t with
  | none => simp [hq] at hi
  | some i =>
    have hsz : v.cells.size = i.size := by simp [hq] at hi; omega
    simp [execOp, ho, hx, hy, Instr.storeAt, Instr.sureAddr, storeVar, sizeOf, typeInfo, hq, hsz, Result.andThen, hs]
    exact hK _ _ (h _ (setCells_gr B _ _ w) (setCells_heap B e _ _ w cs hb) (setCells_size B _ _ w))
end Go.Proofs.YtlmnhlfklbgjdaaGreatDoor
namespace Go.Proofs.YtlmnhlfklbgjdaaGreatDoor
open Go.ChangeShapes Go.WideShapes Go.ChangeAt Go.RowKit
theorem formOf_1 (r : Int) (w : World) (h : r ≤ 127) :
    Calls Tryz.prog 137 #[.int .i64 r] w fun e w' => e = .returned (.agg #[.int .i64 127, .int .i64 1, .int .i64 0]) ∧ Below w.heap.size w w' := by
  go_enter Tryz.func137, Tryz.ntmps137
  go_wp2
  refine wp_loop_rounds 1 ?_
  rw [rounds_succ]
  go_wp2
  exact bodyPost_ret (v := .agg #[.int .i64 127, .int .i64 1, .int .i64 0]) (by simp [results, Tryz.results137, go_sem]) rfl ⟨rfl, ((Below.refl _ _).alloc (Nat.le_refl _) _).alloc (by simp) _⟩

theorem formOf_2 (r : Int) (w : World) (h0 : 127 < r) (h : r ≤ 2047) :
    Calls Tryz.prog 137 #[.int .i64 r] w fun e w' => e = .returned (.agg #[.int .i64 2047, .int .i64 2, .int .i64 192]) ∧ Below w.heap.size w w' := by
  go_enter Tryz.func137, Tryz.ntmps137
  go_wp2
  refine wp_loop_rounds 2 ?_
  rw [rounds_succ]
  go_wp2
  rw [rounds_succ]
  go_wp2
  exact bodyPost_ret (v := .agg #[.int .i64 2047, .int .i64 2, .int .i64 192]) (by simp [results, Tryz.results137, go_sem]) rfl ⟨rfl, ((Below.refl _ _).alloc (Nat.le_refl _) _).alloc (by simp) _⟩

theorem formOf_3 (r : Int) (w : World) (h0 : 2047 < r) (h : r ≤ 65535) :
    Calls Tryz.prog 137 #[.int .i64 r] w fun e w' => e = .returned (.agg #[.int .i64 65535, .int .i64 3, .int .i64 224]) ∧ Below w.heap.size w w' := by
  go_enter Tryz.func137, Tryz.ntmps137
  go_wp2
  refine wp_loop_rounds 3 ?_
  rw [rounds_succ]
  go_wp2
  rw [rounds_succ]
  go_wp2
  rw [rounds_succ]
  go_wp2
  exact bodyPost_ret (v := .agg #[.int .i64 65535, .int .i64 3, .int .i64 224]) (by simp [results, Tryz.results137, go_sem]) rfl ⟨rfl, ((Below.refl _ _).alloc (Nat.le_refl _) _).alloc (by simp) _⟩

theorem formOf_4 (r : Int) (w : World) (h0 : 65535 < r) (h : r ≤ 1114111) :
    Calls Tryz.prog 137 #[.int .i64 r] w fun e w' => e = .returned (.agg #[.int .i64 1114111, .int .i64 4, .int .i64 240]) ∧ Below w.heap.size w w' := by
  go_enter Tryz.func137, Tryz.ntmps137
  go_wp2
  refine wp_loop_rounds 4 ?_
  rw [rounds_succ]
  go_wp2
  rw [rounds_succ]
  go_wp2
  rw [rounds_succ]
  go_wp2
  rw [rounds_succ]
  go_wp2
  exact bodyPost_ret (v := .agg #[.int .i64 1114111, .int .i64 4, .int .i64 240]) (by simp [results, Tryz.results137, go_sem]) rfl ⟨rfl, ((Below.refl _ _).alloc (Nat.le_refl _) _).alloc (by simp) _⟩


end Go.Proofs.YtlmnhlfklbgjdaaGreatDoor
namespace Go.Proofs.YtlmnhlfklbgjdaaGreatDoor
open Go.ChangeShapes Go.WideShapes Go.ChangeAt Go.RowKit
theorem make_1 (w : World) : (Instr.makeSlice 22 (.int .i64 1) (.int .i64 1)).run Tryz.prog w = .ok (.slice (some ⟨w.heap.size, 0, none⟩) 1 1) (w.alloc (.cells #[.int .u8 0] 5)) := by kernel_rfl
theorem conv_1 (w : World) (g : Nat) (hg : g = w.heap.size) (a : Int) : (convert 22 9 (.slice (some ⟨g, 0, none⟩) 1 1)).run Tryz.prog (w.alloc (.cells #[.int .u8 a] 5)) = .ok (.string (strOfNums [a])) (w.alloc (.cells #[.int .u8 a] 5))   := by
  subst hg
  refine run_convert_bytes_arg _ 22 5 Tryz.underlying22 Tryz.underlying5 _ 0 1 1 [a] rfl ?_ _ Tryz.underlying9
  intro i hi
  match i, hi with
  | 0, _ => simp [go_sem]
theorem make_2 (w : World) : (Instr.makeSlice 22 (.int .i64 2) (.int .i64 2)).run Tryz.prog w = .ok (.slice (some ⟨w.heap.size, 0, none⟩) 2 2) (w.alloc (.cells #[.int .u8 0, .int .u8 0] 5)) := by kernel_rfl
theorem conv_2 (w : World) (g : Nat) (hg : g = w.heap.size) (a b : Int) : (convert 22 9 (.slice (some ⟨g, 0, none⟩) 2 2)).run Tryz.prog (w.alloc (.cells #[.int .u8 a, .int .u8 b] 5)) = .ok (.string (strOfNums [a, b])) (w.alloc (.cells #[.int .u8 a, .int .u8 b] 5))   := by
  subst hg
  refine run_convert_bytes_arg _ 22 5 Tryz.underlying22 Tryz.underlying5 _ 0 2 2 [a, b] rfl ?_ _ Tryz.underlying9
  intro i hi
  match i, hi with
  | 0, _ => simp [go_sem]
  | 1, _ => simp [go_sem]
theorem make_3 (w : World) : (Instr.makeSlice 22 (.int .i64 3) (.int .i64 3)).run Tryz.prog w = .ok (.slice (some ⟨w.heap.size, 0, none⟩) 3 3) (w.alloc (.cells #[.int .u8 0, .int .u8 0, .int .u8 0] 5)) := by kernel_rfl
theorem conv_3 (w : World) (g : Nat) (hg : g = w.heap.size) (a b c : Int) : (convert 22 9 (.slice (some ⟨g, 0, none⟩) 3 3)).run Tryz.prog (w.alloc (.cells #[.int .u8 a, .int .u8 b, .int .u8 c] 5)) = .ok (.string (strOfNums [a, b, c])) (w.alloc (.cells #[.int .u8 a, .int .u8 b, .int .u8 c] 5))   := by
  subst hg
  refine run_convert_bytes_arg _ 22 5 Tryz.underlying22 Tryz.underlying5 _ 0 3 3 [a, b, c] rfl ?_ _ Tryz.underlying9
  intro i hi
  match i, hi with
  | 0, _ => simp [go_sem]
  | 1, _ => simp [go_sem]
  | 2, _ => simp [go_sem]
theorem make_4 (w : World) : (Instr.makeSlice 22 (.int .i64 4) (.int .i64 4)).run Tryz.prog w = .ok (.slice (some ⟨w.heap.size, 0, none⟩) 4 4) (w.alloc (.cells #[.int .u8 0, .int .u8 0, .int .u8 0, .int .u8 0] 5)) := by kernel_rfl
theorem conv_4 (w : World) (g : Nat) (hg : g = w.heap.size) (a b c d : Int) : (convert 22 9 (.slice (some ⟨g, 0, none⟩) 4 4)).run Tryz.prog (w.alloc (.cells #[.int .u8 a, .int .u8 b, .int .u8 c, .int .u8 d] 5)) = .ok (.string (strOfNums [a, b, c, d])) (w.alloc (.cells #[.int .u8 a, .int .u8 b, .int .u8 c, .int .u8 d] 5))   := by
  subst hg
  refine run_convert_bytes_arg _ 22 5 Tryz.underlying22 Tryz.underlying5 _ 0 4 4 [a, b, c, d] rfl ?_ _ Tryz.underlying9
  intro i hi
  match i, hi with
  | 0, _ => simp [go_sem]
  | 1, _ => simp [go_sem]
  | 2, _ => simp [go_sem]
  | 3, _ => simp [go_sem]

theorem ret_str {a b : ByteArray} (h : a = b) : Ending.returned (.string a) = .returned (.string b) := by rw [h]
theorem l1PutA_1 (r : Int) (w : World) (hb : 0 ≤ r ∧ r ≤ 1114111) (h : r < 128) :
    Calls Tryz.prog 91 #[.int .i64 r] w fun e w' => e = .returned (.slice (some ⟨w.heap.size, 0, none⟩) 1 1) ∧ w' = w.alloc (.cells #[.int .u8 r] 5) := by
  go_enter Tryz.func91, Tryz.ntmps91
  go_wp2
  go_ret
  exact ⟨rfl, rfl⟩

theorem l1PutA_2 (r : Int) (w : World) (hb : 0 ≤ r ∧ r ≤ 1114111) (h0 : 128 ≤ r) (h : r < 2048) :
    Calls Tryz.prog 91 #[.int .i64 r] w fun e w' => e = .returned (.slice (some ⟨w.heap.size, 0, none⟩) 2 2) ∧ w' = w.alloc (.cells #[.int .u8 (192 + r / 64), .int .u8 (128 + r % 64)] 5) := by
  go_enter Tryz.func91, Tryz.ntmps91
  go_wp2
  go_ret
  exact ⟨rfl, rfl⟩

theorem l1PutA_3 (r : Int) (w : World) (hb : 0 ≤ r ∧ r ≤ 1114111) (h0 : 2048 ≤ r) (h : r < 65536) :
    Calls Tryz.prog 91 #[.int .i64 r] w fun e w' => e = .returned (.slice (some ⟨w.heap.size, 0, none⟩) 3 3) ∧ w' = w.alloc (.cells #[.int .u8 (224 + r / 4096), .int .u8 (128 + r / 64 % 64), .int .u8 (128 + r % 64)] 5) := by
  go_enter Tryz.func91, Tryz.ntmps91
  go_wp2
  go_ret
  exact ⟨rfl, rfl⟩

theorem l1PutA_4 (r : Int) (w : World) (hb : 0 ≤ r ∧ r ≤ 1114111) (h0 : 65536 ≤ r) :
    Calls Tryz.prog 91 #[.int .i64 r] w fun e w' => e = .returned (.slice (some ⟨w.heap.size, 0, none⟩) 4 4) ∧ w' = w.alloc (.cells #[.int .u8 (240 + r / 262144), .int .u8 (128 + r / 4096 % 64), .int .u8 (128 + r / 64 % 64), .int .u8 (128 + r % 64)] 5) := by
  go_enter Tryz.func91, Tryz.ntmps91
  go_wp2
  go_ret
  exact ⟨rfl, rfl⟩

end Go.Proofs.YtlmnhlfklbgjdaaGreatDoor
namespace Go.Proofs.YtlmnhlfklbgjdaaGreatDoor
open Go.ChangeShapes Go.WideShapes Go.ChangeAt Go.RowKit
set_option maxHeartbeats 400000 in
theorem implPut_1 (r : Int) (w : World) (hk : runeOk r = true) (h : r < 128) :
    Calls Tryz.prog 109 #[.int .i64 r] w fun e w' => e = .returned (.string (strOfNums (putL r))) ∧ Below w.heap.size w w' := by
  have hbd := runeOk_bd r hk
  have hpl : Hid (putL r = _) := putL_1 r h
  have hmk := make_1
  have hcv := conv_1
  go_enter Tryz.func109, Tryz.ntmps109
  go_wp2_with (first | (go_at_call 135; refine (implRuneOk_any _ _).mono ?_; rintro e w' ⟨rfl, rfl⟩) | (go_at_call 137; refine (formOf_1 _ _ (by omega)).mono ?_; rintro e w' ⟨rfl, hb⟩))
  refine wp_loop_rounds 1 ?_
  rw [rounds_succ]
  go_wp2
  go_ret
  exact ⟨ret_str (by rw [hpl.out]), ((hb.alloc hb.size _).alloc (by have := hb.size; simp; omega) _)⟩


set_option maxHeartbeats 400000 in
theorem implPut_2 (r : Int) (w : World) (hk : runeOk r = true) (h0 : 128 ≤ r) (h : r < 2048) :
    Calls Tryz.prog 109 #[.int .i64 r] w fun e w' => e = .returned (.string (strOfNums (putL r))) ∧ Below w.heap.size w w' := by
  have hbd := runeOk_bd r hk
  have hpl : Hid (putL r = _) := putL_2 r h0 h
  have hmk := make_2
  have hcv := conv_2
  go_enter Tryz.func109, Tryz.ntmps109
  go_wp2_with (first | (go_at_call 135; refine (implRuneOk_any _ _).mono ?_; rintro e w' ⟨rfl, rfl⟩) | (go_at_call 137; refine (formOf_2 _ _ (by omega) (by omega)).mono ?_; rintro e w' ⟨rfl, hb⟩))
  refine wp_loop_rounds 2 ?_
  rw [rounds_succ]
  go_wp2
  rw [rounds_succ]
  go_wp2
  go_ret
  exact ⟨ret_str (by rw [hpl.out]), ((hb.alloc hb.size _).alloc (by have := hb.size; simp; omega) _)⟩


set_option maxHeartbeats 400000 in
theorem implPut_3 (r : Int) (w : World) (hk : runeOk r = true) (h0 : 2048 ≤ r) (h : r < 65536) :
    Calls Tryz.prog 109 #[.int .i64 r] w fun e w' => e = .returned (.string (strOfNums (putL r))) ∧ Below w.heap.size w w' := by
  have hbd := runeOk_bd r hk
  have hpl : Hid (putL r = _) := putL_3 r h0 h
  have hmk := make_3
  have hcv := conv_3
  go_enter Tryz.func109, Tryz.ntmps109
  go_wp2_with (first | (go_at_call 135; refine (implRuneOk_any _ _).mono ?_; rintro e w' ⟨rfl, rfl⟩) | (go_at_call 137; refine (formOf_3 _ _ (by omega) (by omega)).mono ?_; rintro e w' ⟨rfl, hb⟩))
  refine wp_loop_rounds 3 ?_
  rw [rounds_succ]
  go_wp2
  rw [rounds_succ]
  go_wp2
  rw [rounds_succ]
  go_wp2
  go_ret
  exact ⟨ret_str (by rw [hpl.out]), ((hb.alloc hb.size _).alloc (by have := hb.size; simp; omega) _)⟩


set_option maxHeartbeats 400000 in
theorem implPut_4 (r : Int) (w : World) (hk : runeOk r = true) (h0 : 65536 ≤ r) :
    Calls Tryz.prog 109 #[.int .i64 r] w fun e w' => e = .returned (.string (strOfNums (putL r))) ∧ Below w.heap.size w w' := by
  have hbd := runeOk_bd r hk
  have hpl : Hid (putL r = _) := putL_4 r h0
  have hmk := make_4
  have hcv := conv_4
  go_enter Tryz.func109, Tryz.ntmps109
  go_wp2_with (first | (go_at_call 135; refine (implRuneOk_any _ _).mono ?_; rintro e w' ⟨rfl, rfl⟩) | (go_at_call 137; refine (formOf_4 _ _ (by omega) (by omega)).mono ?_; rintro e w' ⟨rfl, hb⟩))
  refine wp_loop_rounds 4 ?_
  rw [rounds_succ]
  go_wp2
  rw [rounds_succ]
  go_wp2
  rw [rounds_succ]
  go_wp2
  rw [rounds_succ]
  go_wp2
  go_ret
  exact ⟨ret_str (by rw [hpl.out]), ((hb.alloc hb.size _).alloc (by have := hb.size; simp; omega) _)⟩


theorem implPut_any (r : Int) (w : World) :
    Calls Tryz.prog 109 #[.int .i64 r] w fun e w' => e = .returned (.string (putS r)) ∧ Below w.heap.size w w' := by
  by_cases hk : runeOk r = true
  · rw [putS_ok r hk]
    by_cases h1 : r < 128
    · exact implPut_1 r w hk h1
    · by_cases h2 : r < 2048
      · exact implPut_2 r w hk (by omega) h2
      · by_cases h3 : r < 65536
        · exact implPut_3 r w hk (by omega) h3
        · exact implPut_4 r w hk (by omega)
  · have hk' : runeOk r = false := by simpa using hk
    have hp : Hid (putS r = ⟨#[]⟩) := by show _ = _; simp [putS, hk']
    go_enter Tryz.func109, Tryz.ntmps109
    go_wp2_with (go_at_call 135; refine (implRuneOk_any _ _).mono ?_; rintro e w' ⟨rfl, rfl⟩)
    go_ret
    exact ⟨ret_str hp.out.symm, Below.refl _ _⟩

end Go.Proofs.YtlmnhlfklbgjdaaGreatDoor
namespace Go.Proofs.YtlmnhlfklbgjdaaGreatDoor
open Go.ChangeShapes Go.WideShapes Go.ChangeAt Go.RowKit
set_option maxHeartbeats 400000 in
theorem specPut_1 (r : Int) (w : World) (hk : runeOk r = true) (h : r < 128) :
    Calls Tryz.prog 35 #[.int .i64 r] w fun e w' => e = .returned (.string (strOfNums (putL r))) ∧ Below w.heap.size w w' := by
  have hbd := runeOk_bd r hk
  have hcv := conv_1
  go_enter Tryz.func35, Tryz.ntmps35
  go_wp2_with (first | (go_at_call 90; refine (specRuneOk_any _ _).mono ?_; rintro e w' ⟨rfl, rfl⟩) | (go_at_call 91; refine (l1PutA_1 _ _ (by omega) (by omega)).mono ?_; rintro e w' ⟨rfl, rfl⟩))
  go_ret
  exact ⟨ret_str (by simp only [putL]; rw [if_pos h]), (Below.refl _ _).alloc (Nat.le_refl _) _⟩

set_option maxHeartbeats 400000 in
theorem specPut_2 (r : Int) (w : World) (hk : runeOk r = true) (h0 : 128 ≤ r) (h : r < 2048) :
    Calls Tryz.prog 35 #[.int .i64 r] w fun e w' => e = .returned (.string (strOfNums (putL r))) ∧ Below w.heap.size w w' := by
  have hbd := runeOk_bd r hk
  have hcv := conv_2
  go_enter Tryz.func35, Tryz.ntmps35
  go_wp2_with (first | (go_at_call 90; refine (specRuneOk_any _ _).mono ?_; rintro e w' ⟨rfl, rfl⟩) | (go_at_call 91; refine (l1PutA_2 _ _ (by omega) (by omega) (by omega)).mono ?_; rintro e w' ⟨rfl, rfl⟩))
  go_ret
  exact ⟨ret_str (by simp only [putL]; rw [if_neg (by omega), if_pos h]), (Below.refl _ _).alloc (Nat.le_refl _) _⟩

set_option maxHeartbeats 400000 in
theorem specPut_3 (r : Int) (w : World) (hk : runeOk r = true) (h0 : 2048 ≤ r) (h : r < 65536) :
    Calls Tryz.prog 35 #[.int .i64 r] w fun e w' => e = .returned (.string (strOfNums (putL r))) ∧ Below w.heap.size w w' := by
  have hbd := runeOk_bd r hk
  have hcv := conv_3
  go_enter Tryz.func35, Tryz.ntmps35
  go_wp2_with (first | (go_at_call 90; refine (specRuneOk_any _ _).mono ?_; rintro e w' ⟨rfl, rfl⟩) | (go_at_call 91; refine (l1PutA_3 _ _ (by omega) (by omega) (by omega)).mono ?_; rintro e w' ⟨rfl, rfl⟩))
  go_ret
  exact ⟨ret_str (by simp only [putL]; rw [if_neg (by omega), if_neg (by omega), if_pos h]), (Below.refl _ _).alloc (Nat.le_refl _) _⟩

set_option maxHeartbeats 400000 in
theorem specPut_4 (r : Int) (w : World) (hk : runeOk r = true) (h0 : 65536 ≤ r) :
    Calls Tryz.prog 35 #[.int .i64 r] w fun e w' => e = .returned (.string (strOfNums (putL r))) ∧ Below w.heap.size w w' := by
  have hbd := runeOk_bd r hk
  have hcv := conv_4
  go_enter Tryz.func35, Tryz.ntmps35
  go_wp2_with (first | (go_at_call 90; refine (specRuneOk_any _ _).mono ?_; rintro e w' ⟨rfl, rfl⟩) | (go_at_call 91; refine (l1PutA_4 _ _ (by omega) (by omega)).mono ?_; rintro e w' ⟨rfl, rfl⟩))
  go_ret
  exact ⟨ret_str (by simp only [putL]; rw [if_neg (by omega), if_neg (by omega), if_neg (by omega)]), (Below.refl _ _).alloc (Nat.le_refl _) _⟩

theorem specPut_any (r : Int) (w : World) :
    Calls Tryz.prog 35 #[.int .i64 r] w fun e w' => e = .returned (.string (putS r)) ∧ Below w.heap.size w w' := by
  by_cases hk : runeOk r = true
  · rw [putS_ok r hk]
    by_cases h1 : r < 128
    · exact specPut_1 r w hk h1
    · by_cases h2 : r < 2048
      · exact specPut_2 r w hk (by omega) h2
      · by_cases h3 : r < 65536
        · exact specPut_3 r w hk (by omega) h3
        · exact specPut_4 r w hk (by omega)
  · have hk' : runeOk r = false := by simpa using hk
    have hp : Hid (putS r = ⟨#[]⟩) := by show _ = _; simp [putS, hk']
    go_enter Tryz.func35, Tryz.ntmps35
    go_wp2_with (go_at_call 90; refine (specRuneOk_any _ _).mono ?_; rintro e w' ⟨rfl, rfl⟩)
    go_ret
    exact ⟨ret_str hp.out.symm, Below.refl _ _⟩
end Go.Proofs.YtlmnhlfklbgjdaaGreatDoor
namespace Go.Proofs.YtlmnhlfklbgjdaaGreatDoor
open Go.ChangeShapes Go.WideShapes Go.ChangeAt Go.RowKit
theorem hasPrefixLite (s p : ByteArray) (w : World) (_hs : s.size ≤ maxLen) (_hp : p.size ≤ maxLen) :
    Calls Tryz.prog 173 #[.string s, .string p] w fun e w' => e = .returned (.bool (pref s p)) ∧ w' = w := by
  unfold maxLen at _hs _hp
  by_cases h : p.size ≤ s.size
  · have hq : Hid (pref s p = ((s.extract 0 p.size).toList == p.toList)) := by show _ = _; simp [pref, h]
    go_enter Tryz.func173, Tryz.ntmps173
    go_wp2
    go_ret
    exact ⟨ret_bool hq.out.symm, rfl⟩
  · have hq : Hid (pref s p = false) := by show _ = _; simp [pref, h]
    go_enter Tryz.func173, Tryz.ntmps173
    go_wp2
    go_ret
    exact ⟨ret_bool hq.out.symm, rfl⟩
theorem hasPrefix_any (s p : ByteArray) (w : World) (hs : s.size ≤ maxLen) (hp : p.size ≤ maxLen) :
    Calls Tryz.prog 163 #[.string s, .string p] w fun e w' => e = .returned (.bool (pref s p)) ∧ w' = w := by
  go_enter Tryz.func163, Tryz.ntmps163
  go_wp2_with (go_at_call 173; refine (hasPrefixLite _ _ _ hs hp).mono ?_; rintro e w' ⟨rfl, rfl⟩)
  go_ret
  exact ⟨rfl, rfl⟩

theorem ret_int {k : IntKind} {a b : Int} (h : a = b) : Ending.returned (.int k a) = .returned (.int k b) := by rw [h]
theorem l1Long_any (b : Int) (w : World) (hb : 0 ≤ b ∧ b < 256) :
    Calls Tryz.prog 130 #[.int .u8 b] w fun e w' => e = .returned (.int .i64 (longV b)) ∧ w' = w := by
  go_enter Tryz.func130, Tryz.ntmps130
  go_wp2
  all_goals
    go_ret
    refine ⟨?_, rfl⟩
    refine ret_int ?_
    unfold longV
    omega

theorem isEmpty_no (s : ByteArray) (h0 : 0 < s.size) : s.toList.isEmpty = false := by
  rw [ByteArray.toList_eq, List.isEmpty_eq_false_iff]; intro e; have := congrArg List.length e; simp at this; simp [this] at h0
theorem isEmpty_yes (s : ByteArray) (h0 : ¬ 0 < s.size) : s.toList.isEmpty = true := by
  rw [ByteArray.toList_eq, List.isEmpty_iff_length_eq_zero, Array.length_toList]; exact Nat.eq_zero_of_not_pos h0
theorem maxLen_pos (n : Nat) (h : n ≤ 4) : n ≤ maxLen := by unfold maxLen; omega
set_option maxHeartbeats 400000 in
theorem implGet_any (s : ByteArray) (w : World) (hs : s.size ≤ maxLen) :
    Calls Tryz.prog 136 #[.string s] w fun e w' => e = .returned (.tuple #[.int .i64 (getV s).1, .int .i64 (getV s).2]) ∧ Below w.heap.size w w' := by
  by_cases h0 : 0 < s.size
  · obtain ⟨hc1, hc2⟩ := getV_decode s h0
    have hbd := getV_bd s h0
    have hnx : ∀ ty, (Instr.next (.pointer (some ⟨w.heap.size, 0, none⟩)) true ty).run Tryz.prog (w.iter s 0) = .ok (.tuple #[.bool true, .int .i64 0, .int .i32 (getV s).1]) (w.iter s (Utf8.decode s 0).2) := by
      intro ty
      rw [run_next_any w s 0 ty h0, hc1]; simp
    have hcs := getV_cases s h0
    have h4 := maxLen_pos _ (putS_size4 (getV s).1)
    have h4' := putS_size4 (getV s).1
    generalize getV s = d at *
    obtain ⟨c, k⟩ := d
    simp only at hcs hbd hnx h4 h4' ⊢
    clear hc1 hc2
    rcases hcs with ⟨hr, hp, hk⟩ | ⟨hk, hp⟩
    · subst hk
      go_enter Tryz.func136, Tryz.ntmps136
      go_wp2
      refine wp_loop_rounds 1 ?_
      rw [rounds_succ]
      go_wp2_with (first | (go_at_call 109; refine (implPut_any _ _).mono ?_; rintro e w' ⟨rfl, hb⟩) | (go_at_call 163; refine (hasPrefix_any _ _ _ hs h4).mono ?_; rintro e w' ⟨rfl, rfl⟩))
      go_ret2
      exact ⟨rfl, ((Below.refl _ _).alloc (Nat.le_refl _) _).trans (hb.mono (by simp [World.iter]))⟩
    · simp only [Prod.mk.injEq] at hk
      obtain ⟨rfl, rfl⟩ := hk
      have hp := hp 65533 (by decide)
      go_enter Tryz.func136, Tryz.ntmps136
      go_wp2
      refine wp_loop_rounds 1 ?_
      rw [rounds_succ]
      go_wp2_with (first | (go_at_call 109; refine (implPut_any _ _).mono ?_; rintro e w' ⟨rfl, hb⟩) | (go_at_call 163; refine (hasPrefix_any _ _ _ hs h4).mono ?_; rintro e w' ⟨rfl, rfl⟩))
      go_ret2
      exact ⟨rfl, ((Below.refl _ _).alloc (Nat.le_refl _) _).trans (hb.mono (by simp [World.iter]))⟩
  · have hz : nums s = [] := List.length_eq_zero_iff.1 (by rw [nums_len]; omega)
    have hv : Hid (getV s = (0, 0)) := by show _ = _; simp [getV, hz, dec]
    have hnx : ∀ ty, (Instr.next (.pointer (some ⟨w.heap.size, 0, none⟩)) true ty).run Tryz.prog (w.iter s 0) = .ok (.tuple #[.bool false]) (w.iter s 0) := fun ty => run_next_end w s 0 ty h0
    go_enter Tryz.func136, Tryz.ntmps136
    go_wp2
    refine wp_loop_rounds 1 ?_
    rw [rounds_succ]
    go_wp2
    go_ret2
    exact ⟨by rw [hv.out]; rfl, (Below.refl _ _).alloc (Nat.le_refl _) _⟩
end Go.Proofs.YtlmnhlfklbgjdaaGreatDoor
namespace Go.Proofs.YtlmnhlfklbgjdaaGreatDoor
open Go.ChangeShapes Go.WideShapes Go.ChangeAt Go.RowKit
def T0 : ByteArray := { data := #[128] }
def T1 : ByteArray := { data := #[191] }
def T2 : ByteArray := { data := #[128, 128] }
def T3 : ByteArray := { data := #[191, 191] }
def T4 : ByteArray := { data := #[128, 128, 128] }
def T5 : ByteArray := { data := #[191, 191, 191] }
theorem T0_size : T0.size = 1 := rfl
theorem T1_size : T1.size = 1 := rfl
theorem T2_size : T2.size = 2 := rfl
theorem T3_size : T3.size = 2 := rfl
theorem T4_size : T4.size = 3 := rfl
theorem T5_size : T5.size = 3 := rfl
theorem tails_at0 (w : World) : (Instr.index 161 (.agg #[.string ⟨#[128]⟩, .string ⟨#[191]⟩, .string ⟨#[128, 128]⟩, .string ⟨#[191, 191]⟩, .string ⟨#[128, 128, 128]⟩, .string ⟨#[191, 191, 191]⟩]) (.int .i64 0)).run Tryz.prog w = .ok (.string T0) w := by kernel_rfl
theorem tails_at1 (w : World) : (Instr.index 161 (.agg #[.string ⟨#[128]⟩, .string ⟨#[191]⟩, .string ⟨#[128, 128]⟩, .string ⟨#[191, 191]⟩, .string ⟨#[128, 128, 128]⟩, .string ⟨#[191, 191, 191]⟩]) (.int .i64 1)).run Tryz.prog w = .ok (.string T1) w := by kernel_rfl
theorem tails_at2 (w : World) : (Instr.index 161 (.agg #[.string ⟨#[128]⟩, .string ⟨#[191]⟩, .string ⟨#[128, 128]⟩, .string ⟨#[191, 191]⟩, .string ⟨#[128, 128, 128]⟩, .string ⟨#[191, 191, 191]⟩]) (.int .i64 2)).run Tryz.prog w = .ok (.string T2) w := by kernel_rfl
theorem tails_at3 (w : World) : (Instr.index 161 (.agg #[.string ⟨#[128]⟩, .string ⟨#[191]⟩, .string ⟨#[128, 128]⟩, .string ⟨#[191, 191]⟩, .string ⟨#[128, 128, 128]⟩, .string ⟨#[191, 191, 191]⟩]) (.int .i64 3)).run Tryz.prog w = .ok (.string T3) w := by kernel_rfl
theorem tails_at4 (w : World) : (Instr.index 161 (.agg #[.string ⟨#[128]⟩, .string ⟨#[191]⟩, .string ⟨#[128, 128]⟩, .string ⟨#[191, 191]⟩, .string ⟨#[128, 128, 128]⟩, .string ⟨#[191, 191, 191]⟩]) (.int .i64 4)).run Tryz.prog w = .ok (.string T4) w := by kernel_rfl
theorem tails_at5 (w : World) : (Instr.index 161 (.agg #[.string ⟨#[128]⟩, .string ⟨#[191]⟩, .string ⟨#[128, 128]⟩, .string ⟨#[191, 191]⟩, .string ⟨#[128, 128, 128]⟩, .string ⟨#[191, 191, 191]⟩]) (.int .i64 5)).run Tryz.prog w = .ok (.string T5) w := by kernel_rfl
def cutB (h : ByteArray) : Bool := ((getV (h ++ T0)).2 == (h.size : Int) + 1) || ((getV (h ++ T1)).2 == (h.size : Int) + 1) || ((getV (h ++ T2)).2 == (h.size : Int) + 2) || ((getV (h ++ T3)).2 == (h.size : Int) + 2) || ((getV (h ++ T4)).2 == (h.size : Int) + 3) || ((getV (h ++ T5)).2 == (h.size : Int) + 3)

set_option maxHeartbeats 1000000 in
theorem cutShort_any (h : ByteArray) (w : World) (hs : h.size ≤ 3) :
    Calls Tryz.prog 108 #[.string h] w fun e w' => e = .returned (.bool (cutB h)) ∧ Below w.heap.size w w' := by
  have i0 := tails_at0
  have z0 := T0_size
  have i1 := tails_at1
  have z1 := T1_size
  have i2 := tails_at2
  have z2 := T2_size
  have i3 := tails_at3
  have z3 := T3_size
  have i4 := tails_at4
  have z4 := T4_size
  have i5 := tails_at5
  have z5 := T5_size
  have m0 : (h ++ T0).size ≤ maxLen := by rw [ByteArray.size_append]; unfold maxLen; omega
  have m1 : (h ++ T1).size ≤ maxLen := by rw [ByteArray.size_append]; unfold maxLen; omega
  have m2 : (h ++ T2).size ≤ maxLen := by rw [ByteArray.size_append]; unfold maxLen; omega
  have m3 : (h ++ T3).size ≤ maxLen := by rw [ByteArray.size_append]; unfold maxLen; omega
  have m4 : (h ++ T4).size ≤ maxLen := by rw [ByteArray.size_append]; unfold maxLen; omega
  have m5 : (h ++ T5).size ≤ maxLen := by rw [ByteArray.size_append]; unfold maxLen; omega
  have g0 := fun W => implGet_any (h ++ T0) W m0
  have g1 := fun W => implGet_any (h ++ T1) W m1
  have g2 := fun W => implGet_any (h ++ T2) W m2
  have g3 := fun W => implGet_any (h ++ T3) W m3
  have g4 := fun W => implGet_any (h ++ T4) W m4
  have g5 := fun W => implGet_any (h ++ T5) W m5
  have hb0 := fun o => (Below.refl w.heap.size w).alloc (Nat.le_refl _) o
  clear m0 m1 m2 m3 m4 m5
  go_enter Tryz.func108, Tryz.ntmps108
  go_wp2
  refine wp_loop_rounds 7 ?_
  rw [rounds_succ]
  go_wp2_with (go_at_call 136; refine (g0 _).mono ?_; rintro e w' ⟨rfl, hb⟩; replace hb := (hb0 _).trans (hb.mono (by simp)))
  · go_ret
    exact ⟨ret_bool (by simp only [cutB, *, Bool.true_or]), hb⟩
  rw [rounds_succ]
  go_wp2_with (go_at_call 136; refine (g1 _).mono ?_; rintro e w' ⟨rfl, hc⟩; replace hb := hb.trans (hc.mono hb.size))
  · go_ret
    exact ⟨ret_bool (by simp only [cutB, *, Bool.true_or, Bool.or_true]), hb⟩
  rw [rounds_succ]
  go_wp2_with (go_at_call 136; refine (g2 _).mono ?_; rintro e w' ⟨rfl, hc⟩; replace hb := hb.trans (hc.mono hb.size))
  · go_ret
    exact ⟨ret_bool (by simp only [cutB, *, Bool.true_or, Bool.false_or, Bool.or_true]), hb⟩
  rw [rounds_succ]
  go_wp2_with (go_at_call 136; refine (g3 _).mono ?_; rintro e w' ⟨rfl, hc⟩; replace hb := hb.trans (hc.mono hb.size))
  · go_ret
    exact ⟨ret_bool (by simp only [cutB, *, Bool.true_or, Bool.false_or, Bool.or_true]), hb⟩
  rw [rounds_succ]
  go_wp2_with (go_at_call 136; refine (g4 _).mono ?_; rintro e w' ⟨rfl, hc⟩; replace hb := hb.trans (hc.mono hb.size))
  · go_ret
    exact ⟨ret_bool (by simp only [cutB, *, Bool.true_or, Bool.false_or, Bool.or_true]), hb⟩
  rw [rounds_succ]
  go_wp2_with (go_at_call 136; refine (g5 _).mono ?_; rintro e w' ⟨rfl, hc⟩; replace hb := hb.trans (hc.mono hb.size))
  · go_ret
    exact ⟨ret_bool (by simp only [cutB, *, Bool.false_or, Bool.or_true]), hb⟩
  rw [rounds_succ]
  go_wp2
  go_ret
  exact ⟨ret_bool (by simp only [cutB, *, Bool.or_false]), hb⟩
end Go.Proofs.YtlmnhlfklbgjdaaGreatDoor
namespace Go.Proofs.YtlmnhlfklbgjdaaGreatDoor
open Go.ChangeShapes Go.WideShapes Go.ChangeAt Go.RowKit
theorem specGet_0 (s : ByteArray) (w : World) (h0 : ¬ 0 < s.size) :
    Calls Tryz.prog 120 #[.string s] w fun e w' => e = .returned (.tuple #[.int .i64 (getV s).1, .int .i64 (getV s).2]) ∧ Below w.heap.size w w' := by
  have hz : nums s = [] := List.length_eq_zero_iff.1 (by rw [nums_len]; omega)
  have hv : Hid (getV s = (0, 0)) := by show _ = _; simp [getV, hz, dec]
  have he := isEmpty_yes s h0
  go_enter Tryz.func120, Tryz.ntmps120
  go_wp2
  go_ret2
  exact ⟨by rw [hv.out]; rfl, Below.refl _ _⟩

set_option maxRecDepth 20000 in
theorem specGet_none (s : ByteArray) (w : World) (h0 : 0 < s.size) (hx : longV (s[0].toNat : Int) = 0) :
    Calls Tryz.prog 120 #[.string s] w fun e w' => e = .returned (.tuple #[.int .i64 (getV s).1, .int .i64 (getV s).2]) ∧ Below w.heap.size w w' := by
  have hv : Hid (getV s = (65533, 1)) := getV_short s h0 (Or.inl hx)
  have hl : Hid (longV (s[0].toNat : Int) = 0) := hx
  clear hx
  have he := isEmpty_no s h0
  have hb0 : (s[0].toNat : Int) < 256 := by have := s[0].toNat_lt; omega
  go_enter Tryz.func120, Tryz.ntmps120
  go_wp2_with (first | (go_at_call 130; refine (l1Long_any _ _ (by omega)).mono ?_; rw [hl.out]; rintro e w' ⟨rfl, rfl⟩))
  go_ret2
  exact ⟨by rw [hv.out]; rfl, Below.refl _ _⟩

set_option maxRecDepth 20000 in
theorem specGet_short (s : ByteArray) (w : World) (h0 : 0 < s.size) (n : Int) (hn : 1 < n ∧ n ≤ 4) (hs : (s.size : Int) < n) (hx : longV (s[0].toNat : Int) = n) :
    Calls Tryz.prog 120 #[.string s] w fun e w' => e = .returned (.tuple #[.int .i64 (getV s).1, .int .i64 (getV s).2]) ∧ Below w.heap.size w w' := by
  have hv : Hid (getV s = (65533, 1)) := getV_short s h0 (Or.inr (by omega))
  have hl : Hid (longV (s[0].toNat : Int) = n) := hx
  clear hx
  have he := isEmpty_no s h0
  have hb0 : (s[0].toNat : Int) < 256 := by have := s[0].toNat_lt; omega
  have hn0 : (n == 0) = false := by simp; omega
  go_enter Tryz.func120, Tryz.ntmps120
  go_wp2_with (first | (go_at_call 130; refine (l1Long_any _ _ (by omega)).mono ?_; rw [hl.out]; rintro e w' ⟨rfl, rfl⟩))
  go_ret2
  exact ⟨by rw [hv.out]; rfl, Below.refl _ _⟩

set_option maxRecDepth 20000 in
set_option maxHeartbeats 400000 in
theorem specGet_1 (s : ByteArray) (w : World) (h0 : 0 < s.size) (hs : s.size ≤ maxLen) (hx : longV (s[0].toNat : Int) = 1) :
    Calls Tryz.prog 120 #[.string s] w fun e w' => e = .returned (.tuple #[.int .i64 (getV s).1, .int .i64 (getV s).2]) ∧ Below w.heap.size w w' := by
  have hv : Hid (getV s = _) := getV_long s h0 1 (s[0].toNat : Int) hx (by omega) (by omega) (by rw [nums_take1 s h0]; rfl)
  have hl : Hid (longV (s[0].toNat : Int) = 1) := hx
  have he := isEmpty_no s h0
  have hb0 : (s[0].toNat : Int) < 256 := by have := s[0].toNat_lt; omega
  unfold maxLen at hs
  by_cases hk : ((putS (s[0].toNat : Int)).toList == (s.extract 0 1).toList) = true
  · have hv : Hid (getV s = ((s[0].toNat : Int), 1)) := by have := hv.out; rw [if_pos hk] at this; exact this
    clear hx
    go_enter Tryz.func120, Tryz.ntmps120
    go_wp2_with (first | (go_at_call 130; refine (l1Long_any _ _ (by omega)).mono ?_; rw [hl.out]; rintro e w' ⟨rfl, rfl⟩))
    refine wp_loop_rounds 1 ?_
    rw [rounds_succ]
    go_wp2
    go_region_with (go_at_call 35; refine (specPut_any _ _).mono ?_; rintro e w1 ⟨rfl, hb⟩)
    all_goals
      go_wp2
      go_ret2
      exact ⟨by rw [hv.out]; rfl, (Below.refl _ _).drew.trans hb⟩
  · have hk : ((putS (s[0].toNat : Int)).toList == (s.extract 0 1).toList) = false := by simpa using hk
    have hv : Hid (getV s = (65533, 1)) := by have := hv.out; rw [if_neg (by rw [hk]; decide)] at this; exact this
    clear hx
    go_enter Tryz.func120, Tryz.ntmps120
    go_wp2_with (first | (go_at_call 130; refine (l1Long_any _ _ (by omega)).mono ?_; rw [hl.out]; rintro e w' ⟨rfl, rfl⟩))
    refine wp_loop_rounds 1 ?_
    rw [rounds_succ]
    go_wp2
    go_region_with (go_at_call 35; refine (specPut_any _ _).mono ?_; rintro e w1 ⟨rfl, hb⟩)
    all_goals
      go_wp2
      go_ret2
      exact ⟨by rw [hv.out]; rfl, (Below.refl _ _).drew.trans hb⟩

set_option maxRecDepth 20000 in
set_option maxHeartbeats 400000 in
theorem specGet_2 (s : ByteArray) (w : World) (h0 : 0 < s.size) (h1 : 1 < s.size) (hs : s.size ≤ maxLen) (hx : longV (s[0].toNat : Int) = 2) :
    Calls Tryz.prog 120 #[.string s] w fun e w' => e = .returned (.tuple #[.int .i64 (getV s).1, .int .i64 (getV s).2]) ∧ Below w.heap.size w w' := by
  have hv : Hid (getV s = _) := getV_long s h0 2 ((s[0].toNat : Int) % (32 : Int) * (64 : Int) + (s[1].toNat : Int) % (64 : Int)) hx (by omega) (by omega) (by rw [nums_take2 s h1]; rfl)
  have hl : Hid (longV (s[0].toNat : Int) = 2) := hx
  have he := isEmpty_no s h0
  have hb0 : (s[0].toNat : Int) < 256 := by have := s[0].toNat_lt; omega
  have hb1 : (s[1].toNat : Int) < 256 := by have := s[1].toNat_lt; omega
  unfold maxLen at hs
  by_cases hk : ((putS ((s[0].toNat : Int) % (32 : Int) * (64 : Int) + (s[1].toNat : Int) % (64 : Int))).toList == (s.extract 0 2).toList) = true
  · have hv : Hid (getV s = (((s[0].toNat : Int) % (32 : Int) * (64 : Int) + (s[1].toNat : Int) % (64 : Int)), 2)) := by have := hv.out; rw [if_pos hk] at this; exact this
    clear hx
    go_enter Tryz.func120, Tryz.ntmps120
    go_wp2_with (first | (go_at_call 130; refine (l1Long_any _ _ (by omega)).mono ?_; rw [hl.out]; rintro e w' ⟨rfl, rfl⟩))
    refine wp_loop_rounds 2 ?_
    rw [rounds_succ]
    go_wp2
    rw [rounds_succ]
    go_wp2
    go_region_with (go_at_call 35; refine (specPut_any _ _).mono ?_; rintro e w1 ⟨rfl, hb⟩)
    all_goals
      go_wp2
      go_ret2
      exact ⟨by rw [hv.out]; rfl, (Below.refl _ _).drew.trans hb⟩
  · have hk : ((putS ((s[0].toNat : Int) % (32 : Int) * (64 : Int) + (s[1].toNat : Int) % (64 : Int))).toList == (s.extract 0 2).toList) = false := by simpa using hk
    have hv : Hid (getV s = (65533, 1)) := by have := hv.out; rw [if_neg (by rw [hk]; decide)] at this; exact this
    clear hx
    go_enter Tryz.func120, Tryz.ntmps120
    go_wp2_with (first | (go_at_call 130; refine (l1Long_any _ _ (by omega)).mono ?_; rw [hl.out]; rintro e w' ⟨rfl, rfl⟩))
    refine wp_loop_rounds 2 ?_
    rw [rounds_succ]
    go_wp2
    rw [rounds_succ]
    go_wp2
    go_region_with (go_at_call 35; refine (specPut_any _ _).mono ?_; rintro e w1 ⟨rfl, hb⟩)
    all_goals
      go_wp2
      go_ret2
      exact ⟨by rw [hv.out]; rfl, (Below.refl _ _).drew.trans hb⟩

set_option maxRecDepth 20000 in
set_option maxHeartbeats 400000 in
theorem specGet_3 (s : ByteArray) (w : World) (h0 : 0 < s.size) (h1 : 1 < s.size) (h2 : 2 < s.size) (hs : s.size ≤ maxLen) (hx : longV (s[0].toNat : Int) = 3) :
    Calls Tryz.prog 120 #[.string s] w fun e w' => e = .returned (.tuple #[.int .i64 (getV s).1, .int .i64 (getV s).2]) ∧ Below w.heap.size w w' := by
  have hv : Hid (getV s = _) := getV_long s h0 3 (((s[0].toNat : Int) % (16 : Int) * (64 : Int) + (s[1].toNat : Int) % (64 : Int)) * (64 : Int) + (s[2].toNat : Int) % (64 : Int)) hx (by omega) (by omega) (by rw [nums_take3 s h2]; rfl)
  have hl : Hid (longV (s[0].toNat : Int) = 3) := hx
  have he := isEmpty_no s h0
  have hb0 : (s[0].toNat : Int) < 256 := by have := s[0].toNat_lt; omega
  have hb1 : (s[1].toNat : Int) < 256 := by have := s[1].toNat_lt; omega
  have hb2 : (s[2].toNat : Int) < 256 := by have := s[2].toNat_lt; omega
  unfold maxLen at hs
  by_cases hk : ((putS (((s[0].toNat : Int) % (16 : Int) * (64 : Int) + (s[1].toNat : Int) % (64 : Int)) * (64 : Int) + (s[2].toNat : Int) % (64 : Int))).toList == (s.extract 0 3).toList) = true
  · have hv : Hid (getV s = ((((s[0].toNat : Int) % (16 : Int) * (64 : Int) + (s[1].toNat : Int) % (64 : Int)) * (64 : Int) + (s[2].toNat : Int) % (64 : Int)), 3)) := by have := hv.out; rw [if_pos hk] at this; exact this
    clear hx
    go_enter Tryz.func120, Tryz.ntmps120
    go_wp2_with (first | (go_at_call 130; refine (l1Long_any _ _ (by omega)).mono ?_; rw [hl.out]; rintro e w' ⟨rfl, rfl⟩))
    refine wp_loop_rounds 3 ?_
    rw [rounds_succ]
    go_wp2
    rw [rounds_succ]
    go_wp2
    rw [rounds_succ]
    go_wp2
    go_region_with (go_at_call 35; refine (specPut_any _ _).mono ?_; rintro e w1 ⟨rfl, hb⟩)
    all_goals
      go_wp2
      go_ret2
      exact ⟨by rw [hv.out]; rfl, (Below.refl _ _).drew.trans hb⟩
  · have hk : ((putS (((s[0].toNat : Int) % (16 : Int) * (64 : Int) + (s[1].toNat : Int) % (64 : Int)) * (64 : Int) + (s[2].toNat : Int) % (64 : Int))).toList == (s.extract 0 3).toList) = false := by simpa using hk
    have hv : Hid (getV s = (65533, 1)) := by have := hv.out; rw [if_neg (by rw [hk]; decide)] at this; exact this
    clear hx
    go_enter Tryz.func120, Tryz.ntmps120
    go_wp2_with (first | (go_at_call 130; refine (l1Long_any _ _ (by omega)).mono ?_; rw [hl.out]; rintro e w' ⟨rfl, rfl⟩))
    refine wp_loop_rounds 3 ?_
    rw [rounds_succ]
    go_wp2
    rw [rounds_succ]
    go_wp2
    rw [rounds_succ]
    go_wp2
    go_region_with (go_at_call 35; refine (specPut_any _ _).mono ?_; rintro e w1 ⟨rfl, hb⟩)
    all_goals
      go_wp2
      go_ret2
      exact ⟨by rw [hv.out]; rfl, (Below.refl _ _).drew.trans hb⟩

set_option maxRecDepth 20000 in
set_option maxHeartbeats 400000 in
theorem specGet_4 (s : ByteArray) (w : World) (h0 : 0 < s.size) (h1 : 1 < s.size) (h2 : 2 < s.size) (h3 : 3 < s.size) (hs : s.size ≤ maxLen) (hx : longV (s[0].toNat : Int) = 4) :
    Calls Tryz.prog 120 #[.string s] w fun e w' => e = .returned (.tuple #[.int .i64 (getV s).1, .int .i64 (getV s).2]) ∧ Below w.heap.size w w' := by
  have hv : Hid (getV s = _) := getV_long s h0 4 ((((s[0].toNat : Int) % (8 : Int) * (64 : Int) + (s[1].toNat : Int) % (64 : Int)) * (64 : Int) + (s[2].toNat : Int) % (64 : Int)) * (64 : Int) + (s[3].toNat : Int) % (64 : Int)) hx (by omega) (by omega) (by rw [nums_take4 s h3]; rfl)
  have hl : Hid (longV (s[0].toNat : Int) = 4) := hx
  have he := isEmpty_no s h0
  have hb0 : (s[0].toNat : Int) < 256 := by have := s[0].toNat_lt; omega
  have hb1 : (s[1].toNat : Int) < 256 := by have := s[1].toNat_lt; omega
  have hb2 : (s[2].toNat : Int) < 256 := by have := s[2].toNat_lt; omega
  have hb3 : (s[3].toNat : Int) < 256 := by have := s[3].toNat_lt; omega
  unfold maxLen at hs
  by_cases hk : ((putS ((((s[0].toNat : Int) % (8 : Int) * (64 : Int) + (s[1].toNat : Int) % (64 : Int)) * (64 : Int) + (s[2].toNat : Int) % (64 : Int)) * (64 : Int) + (s[3].toNat : Int) % (64 : Int))).toList == (s.extract 0 4).toList) = true
  · have hv : Hid (getV s = (((((s[0].toNat : Int) % (8 : Int) * (64 : Int) + (s[1].toNat : Int) % (64 : Int)) * (64 : Int) + (s[2].toNat : Int) % (64 : Int)) * (64 : Int) + (s[3].toNat : Int) % (64 : Int)), 4)) := by have := hv.out; rw [if_pos hk] at this; exact this
    clear hx
    go_enter Tryz.func120, Tryz.ntmps120
    go_wp2_with (first | (go_at_call 130; refine (l1Long_any _ _ (by omega)).mono ?_; rw [hl.out]; rintro e w' ⟨rfl, rfl⟩))
    refine wp_loop_rounds 4 ?_
    rw [rounds_succ]
    go_wp2
    rw [rounds_succ]
    go_wp2
    rw [rounds_succ]
    go_wp2
    rw [rounds_succ]
    go_wp2
    go_region_with (go_at_call 35; refine (specPut_any _ _).mono ?_; rintro e w1 ⟨rfl, hb⟩)
    all_goals
      go_wp2
      go_ret2
      exact ⟨by rw [hv.out]; rfl, (Below.refl _ _).drew.trans hb⟩
  · have hk : ((putS ((((s[0].toNat : Int) % (8 : Int) * (64 : Int) + (s[1].toNat : Int) % (64 : Int)) * (64 : Int) + (s[2].toNat : Int) % (64 : Int)) * (64 : Int) + (s[3].toNat : Int) % (64 : Int))).toList == (s.extract 0 4).toList) = false := by simpa using hk
    have hv : Hid (getV s = (65533, 1)) := by have := hv.out; rw [if_neg (by rw [hk]; decide)] at this; exact this
    clear hx
    go_enter Tryz.func120, Tryz.ntmps120
    go_wp2_with (first | (go_at_call 130; refine (l1Long_any _ _ (by omega)).mono ?_; rw [hl.out]; rintro e w' ⟨rfl, rfl⟩))
    refine wp_loop_rounds 4 ?_
    rw [rounds_succ]
    go_wp2
    rw [rounds_succ]
    go_wp2
    rw [rounds_succ]
    go_wp2
    rw [rounds_succ]
    go_wp2
    go_region_with (go_at_call 35; refine (specPut_any _ _).mono ?_; rintro e w1 ⟨rfl, hb⟩)
    all_goals
      go_wp2
      go_ret2
      exact ⟨by rw [hv.out]; rfl, (Below.refl _ _).drew.trans hb⟩

theorem specGet_any (s : ByteArray) (w : World) (hs : s.size ≤ maxLen) :
    Calls Tryz.prog 120 #[.string s] w fun e w' => e = .returned (.tuple #[.int .i64 (getV s).1, .int .i64 (getV s).2]) ∧ Below w.heap.size w w' := by
  by_cases h0 : 0 < s.size
  · by_cases l0 : longV (s[0].toNat : Int) = 0
    · exact specGet_none s w h0 l0
    · have hlv : longV (s[0].toNat : Int) = 1 ∨ longV (s[0].toNat : Int) = 2 ∨ longV (s[0].toNat : Int) = 3 ∨ longV (s[0].toNat : Int) = 4 := by
        revert l0; unfold longV; intro l0; omega
      rcases hlv with h | h | h | h
      · exact specGet_1 s w h0 hs h
      · by_cases k : 1 < s.size
        · exact specGet_2 s w h0 k hs h
        · exact specGet_short s w h0 2 (by omega) (by omega) h
      · by_cases k : 2 < s.size
        · exact specGet_3 s w h0 (by omega) k hs h
        · exact specGet_short s w h0 3 (by omega) (by omega) h
      · by_cases k : 3 < s.size
        · exact specGet_4 s w h0 (by omega) (by omega) k hs h
        · exact specGet_short s w h0 4 (by omega) (by omega) h
  · exact specGet_0 s w h0
end Go.Proofs.YtlmnhlfklbgjdaaGreatDoor
namespace Go.Proofs.YtlmnhlfklbgjdaaGreatDoor
open Go.ChangeShapes Go.WideShapes Go.ChangeAt Go.RowKit
def fillB (h : ByteArray) (n : Nat) : Bool := ((getV (h ++ ({ data := #[128, 128, 128] } : ByteArray).extract 0 (n - h.size))).2 == (n : Int)) || ((getV (h ++ ({ data := #[160, 128, 128] } : ByteArray).extract 0 (n - h.size))).2 == (n : Int)) || ((getV (h ++ ({ data := #[144, 128, 128] } : ByteArray).extract 0 (n - h.size))).2 == (n : Int)) || ((getV (h ++ ({ data := #[191, 191, 191] } : ByteArray).extract 0 (n - h.size))).2 == (n : Int)) || ((getV (h ++ ({ data := #[159, 191, 191] } : ByteArray).extract 0 (n - h.size))).2 == (n : Int)) || ((getV (h ++ ({ data := #[143, 191, 191] } : ByteArray).extract 0 (n - h.size))).2 == (n : Int))
def FillAt (g : Nat) (w : World) : Prop :=
  g < w.heap.size ∧ w.cell? ⟨g, 1, none⟩ = some (.string ({ data := #[160, 128, 128] } : ByteArray)) ∧ w.cell? ⟨g, 2, none⟩ = some (.string ({ data := #[144, 128, 128] } : ByteArray)) ∧ w.cell? ⟨g, 3, none⟩ = some (.string ({ data := #[191, 191, 191] } : ByteArray)) ∧ w.cell? ⟨g, 4, none⟩ = some (.string ({ data := #[159, 191, 191] } : ByteArray)) ∧ w.cell? ⟨g, 5, none⟩ = some (.string ({ data := #[143, 191, 191] } : ByteArray))
theorem FillAt.below {g : Nat} {w w' : World} (h : FillAt g w) (hb : Below w.heap.size w w') : FillAt g w' := by
  obtain ⟨hg, q1, q2, q3, q4, q5⟩ := h
  exact ⟨Nat.lt_of_lt_of_le hg hb.size, (hb.cell (p := ⟨g, 1, none⟩) hg).trans q1, (hb.cell (p := ⟨g, 2, none⟩) hg).trans q2, (hb.cell (p := ⟨g, 3, none⟩) hg).trans q3, (hb.cell (p := ⟨g, 4, none⟩) hg).trans q4, (hb.cell (p := ⟨g, 5, none⟩) hg).trans q5⟩
theorem fill_new (w : World) : FillAt w.heap.size (w.alloc (.cells #[(.string ({ data := #[128, 128, 128] } : ByteArray) : Value), (.string ({ data := #[160, 128, 128] } : ByteArray) : Value), (.string ({ data := #[144, 128, 128] } : ByteArray) : Value), (.string ({ data := #[191, 191, 191] } : ByteArray) : Value), (.string ({ data := #[159, 191, 191] } : ByteArray) : Value), (.string ({ data := #[143, 191, 191] } : ByteArray) : Value)] 9)) := by
  refine ⟨by simp, ?_, ?_, ?_, ?_, ?_⟩ <;> simp [go_sem]

set_option maxHeartbeats 2000000 in
set_option maxRecDepth 20000 in
theorem l1Part_long (h : ByteArray) (n : Nat) (w : World) (h0 : 0 < h.size) (hs : h.size ≤ 3) (hn : h.size < n ∧ n ≤ 4) (hx : longV (h[0].toNat : Int) = n) :
    Calls Tryz.prog 96 #[.string h] w fun e w' => e = .returned (.bool (fillB h n)) ∧ Below w.heap.size w w' := by
  have hl : Hid (longV (h[0].toNat : Int) = n) := hx
  clear hx
  have he := isEmpty_no h h0
  have hb0 : (h[0].toNat : Int) < 256 := by have := h[0].toNat_lt; omega
  have hlt : ¬ ((n : Int) ≤ (h.size : Int)) := by omega
  have hy0 := fun o => (Below.refl w.heap.size w).alloc (Nat.le_refl _) o
  have m0 : (h ++ ({ data := #[128, 128, 128] } : ByteArray).extract 0 (n - h.size)).size ≤ maxLen := by rw [ByteArray.size_append, ByteArray.size_extract]; unfold maxLen; omega
  have m1 : (h ++ ({ data := #[160, 128, 128] } : ByteArray).extract 0 (n - h.size)).size ≤ maxLen := by rw [ByteArray.size_append, ByteArray.size_extract]; unfold maxLen; omega
  have m2 : (h ++ ({ data := #[144, 128, 128] } : ByteArray).extract 0 (n - h.size)).size ≤ maxLen := by rw [ByteArray.size_append, ByteArray.size_extract]; unfold maxLen; omega
  have m3 : (h ++ ({ data := #[191, 191, 191] } : ByteArray).extract 0 (n - h.size)).size ≤ maxLen := by rw [ByteArray.size_append, ByteArray.size_extract]; unfold maxLen; omega
  have m4 : (h ++ ({ data := #[159, 191, 191] } : ByteArray).extract 0 (n - h.size)).size ≤ maxLen := by rw [ByteArray.size_append, ByteArray.size_extract]; unfold maxLen; omega
  have m5 : (h ++ ({ data := #[143, 191, 191] } : ByteArray).extract 0 (n - h.size)).size ≤ maxLen := by rw [ByteArray.size_append, ByteArray.size_extract]; unfold maxLen; omega
  have g0 := fun W => specGet_any (h ++ ({ data := #[128, 128, 128] } : ByteArray).extract 0 (n - h.size)) W m0
  have g1 := fun W => specGet_any (h ++ ({ data := #[160, 128, 128] } : ByteArray).extract 0 (n - h.size)) W m1
  have g2 := fun W => specGet_any (h ++ ({ data := #[144, 128, 128] } : ByteArray).extract 0 (n - h.size)) W m2
  have g3 := fun W => specGet_any (h ++ ({ data := #[191, 191, 191] } : ByteArray).extract 0 (n - h.size)) W m3
  have g4 := fun W => specGet_any (h ++ ({ data := #[159, 191, 191] } : ByteArray).extract 0 (n - h.size)) W m4
  have g5 := fun W => specGet_any (h ++ ({ data := #[143, 191, 191] } : ByteArray).extract 0 (n - h.size)) W m5
  clear m0 m1 m2 m3 m4 m5
  go_enter Tryz.func96, Tryz.ntmps96
  go_wp2_with (first | (go_at_call 130; refine (l1Long_any _ _ (by omega)).mono ?_; rw [hl.out]; rintro e w' ⟨rfl, hw⟩; subst w'))
  refine wp_loop_rounds 7 ?_
  rw [rounds_succ]
  go_wp2_with (go_at_call 120; refine (g0 _).mono ?_; rintro e w1 ⟨rfl, hb⟩; obtain ⟨hg, q1, q2, q3, q4, q5⟩ := (fill_new w).below hb; replace hb := (hy0 _).trans (hb.mono (by simp)))
  · go_ret
    exact ⟨ret_bool (by simp only [fillB, *, Bool.true_or]), hb⟩
  rw [rounds_succ]
  go_wp2_with (go_at_call 120; refine (g1 _).mono ?_; rintro e w1 ⟨rfl, hc⟩; replace hb := hb.trans (hc.mono hb.size); obtain ⟨hgx1, q1x1, q2x1, q3x1, q4x1, q5x1⟩ := FillAt.below ⟨hg, q1, q2, q3, q4, q5⟩ hc; clear hg q1 q2 q3 q4 q5)
  · go_ret
    exact ⟨ret_bool (by simp only [fillB, *, Bool.true_or, Bool.or_true]), hb⟩
  rw [rounds_succ]
  go_wp2_with (go_at_call 120; refine (g2 _).mono ?_; rintro e w1 ⟨rfl, hc⟩; replace hb := hb.trans (hc.mono hb.size); obtain ⟨hgx2, q1x2, q2x2, q3x2, q4x2, q5x2⟩ := FillAt.below ⟨hgx1, q1x1, q2x1, q3x1, q4x1, q5x1⟩ hc; clear hgx1 q1x1 q2x1 q3x1 q4x1 q5x1)
  · go_ret
    exact ⟨ret_bool (by simp only [fillB, *, Bool.true_or, Bool.false_or, Bool.or_true]), hb⟩
  rw [rounds_succ]
  go_wp2_with (go_at_call 120; refine (g3 _).mono ?_; rintro e w1 ⟨rfl, hc⟩; replace hb := hb.trans (hc.mono hb.size); obtain ⟨hgx3, q1x3, q2x3, q3x3, q4x3, q5x3⟩ := FillAt.below ⟨hgx2, q1x2, q2x2, q3x2, q4x2, q5x2⟩ hc; clear hgx2 q1x2 q2x2 q3x2 q4x2 q5x2)
  · go_ret
    exact ⟨ret_bool (by simp only [fillB, *, Bool.true_or, Bool.false_or, Bool.or_true]), hb⟩
  rw [rounds_succ]
  go_wp2_with (go_at_call 120; refine (g4 _).mono ?_; rintro e w1 ⟨rfl, hc⟩; replace hb := hb.trans (hc.mono hb.size); obtain ⟨hgx4, q1x4, q2x4, q3x4, q4x4, q5x4⟩ := FillAt.below ⟨hgx3, q1x3, q2x3, q3x3, q4x3, q5x3⟩ hc; clear hgx3 q1x3 q2x3 q3x3 q4x3 q5x3)
  · go_ret
    exact ⟨ret_bool (by simp only [fillB, *, Bool.true_or, Bool.false_or, Bool.or_true]), hb⟩
  rw [rounds_succ]
  go_wp2_with (go_at_call 120; refine (g5 _).mono ?_; rintro e w1 ⟨rfl, hc⟩; replace hb := hb.trans (hc.mono hb.size); obtain ⟨hgx5, q1x5, q2x5, q3x5, q4x5, q5x5⟩ := FillAt.below ⟨hgx4, q1x4, q2x4, q3x4, q4x4, q5x4⟩ hc; clear hgx4 q1x4 q2x4 q3x4 q4x4 q5x4)
  · go_ret
    exact ⟨ret_bool (by simp only [fillB, *, Bool.false_or, Bool.or_true]), hb⟩
  rw [rounds_succ]
  go_wp2
  go_ret
  exact ⟨ret_bool (by simp only [fillB, *, Bool.or_false]), hb⟩

theorem l1Part_no (h : ByteArray) (n : Int) (w : World) (h0 : 0 < h.size) (hn : n ≤ h.size) (hx : longV (h[0].toNat : Int) = n) :
    Calls Tryz.prog 96 #[.string h] w fun e w' => e = .returned (.bool false) ∧ Below w.heap.size w w' := by
  have hl : Hid (longV (h[0].toNat : Int) = n) := hx
  clear hx
  have he := isEmpty_no h h0
  have hb0 : (h[0].toNat : Int) < 256 := by have := h[0].toNat_lt; omega
  go_enter Tryz.func96, Tryz.ntmps96
  go_wp2_with (first | (go_at_call 130; refine (l1Long_any _ _ (by omega)).mono ?_; rw [hl.out]; rintro e w' ⟨rfl, rfl⟩))
  go_ret
  exact ⟨rfl, Below.refl _ _⟩

theorem l1Part_empty (h : ByteArray) (w : World) (h0 : ¬ 0 < h.size) :
    Calls Tryz.prog 96 #[.string h] w fun e w' => e = .returned (.bool true) ∧ Below w.heap.size w w' := by
  have he := isEmpty_yes h h0
  go_enter Tryz.func96, Tryz.ntmps96
  go_wp2
  go_ret
  exact ⟨rfl, Below.refl _ _⟩
end Go.Proofs.YtlmnhlfklbgjdaaGreatDoor
namespace Go.Proofs.YtlmnhlfklbgjdaaGreatDoor
theorem dec2_2 (b0 b1 : Int) : (dec [b0, b1]).2 = 2 ↔ 194 ≤ b0 ∧ b0 < 224 ∧ (128 ≤ b1 ∧ b1 < 192) := by
  simp only [dec]
  repeat' split
  all_goals (dsimp only; omega)
def p3 (b0 b1 : Int) : Prop := 224 ≤ b0 ∧ b0 < 240 ∧ (128 ≤ b1 ∧ b1 < 192) ∧ 32 ≤ (b0 - 224) * 64 + (b1 - 128) ∧ ((b0 - 224) * 64 + (b1 - 128) < 864 ∨ 895 < (b0 - 224) * 64 + (b1 - 128))
def p4 (b0 b1 : Int) : Prop := 240 ≤ b0 ∧ b0 < 248 ∧ (128 ≤ b1 ∧ b1 < 192) ∧ 16 ≤ (b0 - 240) * 64 + (b1 - 128) ∧ (b0 - 240) * 64 + (b1 - 128) ≤ 271
theorem dec2_3 (b0 b1 b2 : Int) : (dec [b0, b1, b2]).2 = 3 ↔ p3 b0 b1 ∧ (128 ≤ b2 ∧ b2 < 192) := by
  unfold p3
  simp only [dec, runeOk_iff]
  repeat' split
  all_goals (dsimp only; omega)
theorem dec2_4 (b0 b1 b2 b3 : Int) : (dec [b0, b1, b2, b3]).2 = 4 ↔ p4 b0 b1 ∧ (128 ≤ b2 ∧ b2 < 192) ∧ (128 ≤ b3 ∧ b3 < 192) := by
  unfold p4
  simp only [dec, runeOk_iff]
  repeat' split
  all_goals (dsimp only; omega)
theorem p3_any2 (b0 : Int) : (p3 b0 128 ∨ p3 b0 191) ↔ (224 ≤ b0 ∧ b0 < 240) := by unfold p3; omega
theorem p3_any6 (b0 : Int) : (p3 b0 128 ∨ p3 b0 160 ∨ p3 b0 144 ∨ p3 b0 191 ∨ p3 b0 159 ∨ p3 b0 143) ↔ (224 ≤ b0 ∧ b0 < 240) := by
  constructor
  · rintro (h | h | h | h | h | h) <;> (unfold p3 at h; omega)
  · intro h
    rcases (p3_any2 b0).2 h with h | h
    · exact .inl h
    · exact .inr (.inr (.inr (.inl h)))
theorem p4_any2 (b0 : Int) : (p4 b0 128 ∨ p4 b0 191) ↔ (240 ≤ b0 ∧ b0 < 245) := by unfold p4; omega
theorem p4_any6 (b0 : Int) : (p4 b0 128 ∨ p4 b0 160 ∨ p4 b0 144 ∨ p4 b0 191 ∨ p4 b0 159 ∨ p4 b0 143) ↔ (240 ≤ b0 ∧ b0 < 245) := by
  constructor
  · rintro (h | h | h | h | h | h) <;> (unfold p4 at h; omega)
  · intro h
    rcases (p4_any2 b0).2 h with h | h
    · exact .inl h
    · exact .inr (.inr (.inr (.inl h)))
theorem p3_long (b0 b1 : Int) (h : p3 b0 b1) : longV b0 = 3 := by unfold p3 at h; unfold longV; omega
theorem p4_long (b0 b1 : Int) (h : p4 b0 b1) : longV b0 = 4 := by unfold p4 at h; unfold longV; omega

theorem dec2_le (b0 : Int) (t : List Int) (hb : 0 ≤ b0) : (dec (b0 :: t)).2 ≤ 4 := by
  rcases put_dec b0 t hb with ⟨_, _, h3⟩ | ⟨h1, _⟩
  · rw [h3]; have := putL_len (dec (b0 :: t)).1; omega
  · rw [h1]; simp

end Go.Proofs.YtlmnhlfklbgjdaaGreatDoor
namespace Go.Proofs.YtlmnhlfklbgjdaaGreatDoor
theorem nums_app (a b : ByteArray) : nums (a ++ b) = nums a ++ nums b := by simp [nums, ByteArray.data_append]
theorem cut_nums (h : ByteArray) : cutB h = true ↔ ((dec (nums h ++ [128])).2 = (h.size : Int) + 1 ∨ (dec (nums h ++ [191])).2 = (h.size : Int) + 1 ∨ (dec (nums h ++ [128, 128])).2 = (h.size : Int) + 2 ∨ (dec (nums h ++ [191, 191])).2 = (h.size : Int) + 2 ∨ (dec (nums h ++ [128, 128, 128])).2 = (h.size : Int) + 3 ∨ (dec (nums h ++ [191, 191, 191])).2 = (h.size : Int) + 3) := by
  have e0 : nums T0 = [128] := rfl
  have e1 : nums T1 = [191] := rfl
  have e2 : nums T2 = [128, 128] := rfl
  have e3 : nums T3 = [191, 191] := rfl
  have e4 : nums T4 = [128, 128, 128] := rfl
  have e5 : nums T5 = [191, 191, 191] := rfl
  simp only [cutB, getV, nums_app, e0, e1, e2, e3, e4, e5, Bool.or_eq_true, beq_iff_eq, or_assoc]
theorem fill_nums (h : ByteArray) (n : Nat) : fillB h n = true ↔ ((dec (nums h ++ [128, 128, 128].take (n - h.size))).2 = n ∨ (dec (nums h ++ [160, 128, 128].take (n - h.size))).2 = n ∨ (dec (nums h ++ [144, 128, 128].take (n - h.size))).2 = n ∨ (dec (nums h ++ [191, 191, 191].take (n - h.size))).2 = n ∨ (dec (nums h ++ [159, 191, 191].take (n - h.size))).2 = n ∨ (dec (nums h ++ [143, 191, 191].take (n - h.size))).2 = n) := by
  have e0 : nums ⟨#[128, 128, 128]⟩ = [128, 128, 128] := rfl
  have e1 : nums ⟨#[160, 128, 128]⟩ = [160, 128, 128] := rfl
  have e2 : nums ⟨#[144, 128, 128]⟩ = [144, 128, 128] := rfl
  have e3 : nums ⟨#[191, 191, 191]⟩ = [191, 191, 191] := rfl
  have e4 : nums ⟨#[159, 191, 191]⟩ = [159, 191, 191] := rfl
  have e5 : nums ⟨#[143, 191, 191]⟩ = [143, 191, 191] := rfl
  simp only [fillB, getV, nums_app, nums_extract, e0, e1, e2, e3, e4, e5, List.drop_zero, Bool.or_eq_true, beq_iff_eq, or_assoc]

theorem no5 (b0 : Int) (t : List Int) (hb : 0 ≤ b0) (k : Int) (hk : 4 < k) : ¬ (dec (b0 :: t)).2 = k := by
  have := dec2_le b0 t hb; omega
theorem or6 {a b c d e f : Prop} : (a ∨ b ∨ c ∨ d ∨ e ∨ f) ↔ ((a ∨ b) ∨ (c ∨ d) ∨ (e ∨ f)) := by simp only [or_assoc]

theorem cut_1 (h : ByteArray) (b0 : Int) (hd : nums h = [b0]) (hz : h.size = 1) : cutB h = true ↔ (194 ≤ b0 ∧ b0 < 245) := by
  rw [cut_nums, hd, hz]
  simp only [List.cons_append, List.nil_append, Int.cast_ofNat_Int, Int.reduceAdd, dec2_2, dec2_3, dec2_4, Int.reduceLE, Int.reduceLT, and_true]
  rw [or6, p3_any2, p4_any2]
  omega
theorem fill_1 (h : ByteArray) (b0 : Int) (n : Nat) (hd : nums h = [b0]) (hz : h.size = 1) (hn : longV b0 = n) (h1 : 1 < n) : fillB h n = true ↔ (194 ≤ b0 ∧ b0 < 245) := by
  rw [fill_nums, hd, hz]
  have hc : n = 2 ∨ n = 3 ∨ n = 4 := by unfold longV at hn; omega
  rcases hc with rfl | rfl | rfl
  · simp only [Nat.reduceSub, List.take_succ_cons, List.take_zero, List.cons_append, List.nil_append, Int.cast_ofNat_Int, dec2_2, Int.reduceLE, Int.reduceLT, and_true]
    unfold longV at hn; omega
  · simp only [Nat.reduceSub, List.take_succ_cons, List.take_zero, List.cons_append, List.nil_append, Int.cast_ofNat_Int, dec2_3, Int.reduceLE, Int.reduceLT, and_true]
    rw [p3_any6]
    unfold longV at hn; omega
  · simp only [Nat.reduceSub, List.take_succ_cons, List.take_zero, List.cons_append, List.nil_append, Int.cast_ofNat_Int, dec2_4, Int.reduceLE, Int.reduceLT, and_true]
    rw [p4_any6]
    unfold longV at hn; omega
theorem cut_2 (h : ByteArray) (b0 b1 : Int) (hb : 0 ≤ b0) (hd : nums h = [b0, b1]) (hz : h.size = 2) : cutB h = true ↔ (p3 b0 b1 ∨ p4 b0 b1) := by
  rw [cut_nums, hd, hz]
  simp only [List.cons_append, List.nil_append, Int.cast_ofNat_Int, Int.reduceAdd, dec2_3, dec2_4, Int.reduceLE, Int.reduceLT, and_true, no5 b0 _ hb 5 (by omega), or_false, or_self]
  simp only [← or_assoc, or_self]
theorem fill_2 (h : ByteArray) (b0 b1 : Int) (n : Nat) (hd : nums h = [b0, b1]) (hz : h.size = 2) (hn : longV b0 = n) (h1 : 2 < n) : fillB h n = true ↔ (p3 b0 b1 ∨ p4 b0 b1) := by
  rw [fill_nums, hd, hz]
  have hc : n = 3 ∨ n = 4 := by unfold longV at hn; omega
  rcases hc with rfl | rfl
  · simp only [Nat.reduceSub, List.take_succ_cons, List.take_zero, List.cons_append, List.nil_append, Int.cast_ofNat_Int, dec2_3, Int.reduceLE, Int.reduceLT, and_true, or_self]
    constructor
    · exact .inl
    · rintro (h | h)
      · exact h
      · have := p4_long _ _ h; omega
  · simp only [Nat.reduceSub, List.take_succ_cons, List.take_zero, List.cons_append, List.nil_append, Int.cast_ofNat_Int, dec2_4, Int.reduceLE, Int.reduceLT, and_true, or_self]
    constructor
    · exact .inr
    · rintro (h | h)
      · have := p3_long _ _ h; omega
      · exact h
theorem cut_3 (h : ByteArray) (b0 b1 b2 : Int) (hb : 0 ≤ b0) (hd : nums h = [b0, b1, b2]) (hz : h.size = 3) : cutB h = true ↔ (p4 b0 b1 ∧ 128 ≤ b2 ∧ b2 < 192) := by
  rw [cut_nums, hd, hz]
  simp only [List.cons_append, List.nil_append, Int.cast_ofNat_Int, Int.reduceAdd, dec2_4, Int.reduceLE, Int.reduceLT, and_true, no5 b0 _ hb 5 (by omega), no5 b0 _ hb 6 (by omega), or_false, or_self]
theorem fill_3 (h : ByteArray) (b0 b1 b2 : Int) (n : Nat) (hd : nums h = [b0, b1, b2]) (hz : h.size = 3) (hn : longV b0 = n) (h1 : 3 < n) : fillB h n = true ↔ (p4 b0 b1 ∧ 128 ≤ b2 ∧ b2 < 192) := by
  rw [fill_nums, hd, hz]
  have hc : n = 4 := by unfold longV at hn; omega
  subst hc
  simp only [Nat.reduceSub, List.take_succ_cons, List.take_zero, List.cons_append, List.nil_append, Int.cast_ofNat_Int, dec2_4, Int.reduceLE, Int.reduceLT, and_true, or_self]

theorem eq_of_iff {a b : Bool} {p : Prop} (ha : a = true ↔ p) (hb : b = true ↔ p) : a = b := by rw [Bool.eq_iff_iff, ha, hb]
theorem no_of_iff {a : Bool} {p : Prop} (ha : a = true ↔ p) (hp : ¬ p) : a = false := by
  cases a
  · rfl
  · exact absurd (ha.1 rfl) hp
/-- The whole: cut short is told alike. -/
theorem short_same (h : ByteArray) (h0 : 0 < h.size) (hs : h.size ≤ 3) (n : Nat) (hn : longV ((h[0]'h0).toNat : Int) = n) :
    (n ≤ h.size → cutB h = false) ∧ (h.size < n → cutB h = fillB h n) := by
  have hl := nums_len h
  have g0 := nums_get h 0 h0
  have hbd := nums_bd h
  generalize ((h[0]'h0).toNat : Int) = x0 at *
  match hd : nums h with
  | [] => rw [hd] at hl; simp at hl; omega
  | [b0] =>
    rw [hd] at hl g0 hbd
    simp at g0
    subst g0
    have hz : h.size = 1 := by simpa using hl.symm
    have hc := cut_1 h b0 hd hz
    refine ⟨fun h1 => no_of_iff hc ?_, fun h1 => eq_of_iff hc (fill_1 h b0 n hd hz hn (by omega))⟩
    unfold longV at hn; omega
  | [b0, b1] =>
    rw [hd] at hl g0 hbd
    simp at g0
    subst g0
    have hz : h.size = 2 := by simpa using hl.symm
    have hc := cut_2 h b0 b1 (hbd b0 (by simp)).1 hd hz
    refine ⟨fun h1 => no_of_iff hc ?_, fun h1 => eq_of_iff hc (fill_2 h b0 b1 n hd hz hn (by omega))⟩
    rintro (h | h)
    · have := p3_long _ _ h; omega
    · have := p4_long _ _ h; omega
  | [b0, b1, b2] =>
    rw [hd] at hl g0 hbd
    simp at g0
    subst g0
    have hz : h.size = 3 := by simpa using hl.symm
    have hc := cut_3 h b0 b1 b2 (hbd b0 (by simp)).1 hd hz
    refine ⟨fun h1 => no_of_iff hc ?_, fun h1 => eq_of_iff hc (fill_3 h b0 b1 b2 n hd hz hn (by omega))⟩
    rintro ⟨h, _⟩
    have := p4_long _ _ h; omega
  | b0 :: b1 :: b2 :: b3 :: t => rw [hd] at hl; simp at hl; omega
end Go.Proofs.YtlmnhlfklbgjdaaGreatDoor
namespace Go.Proofs.YtlmnhlfklbgjdaaGreatDoor
open Go.ChangeShapes Go.WideShapes Go.ChangeAt Go.RowKit
def feedOk (h : ByteArray) : Bool := if 0 < h.size then decide (h.size ≤ 3) && cutB h else true
theorem feedOk_0 (h : ByteArray) (h0 : ¬ 0 < h.size) : feedOk h = true := by simp [feedOk, h0]
theorem feedOk_big (h : ByteArray) (h0 : ¬ h.size ≤ 3) : feedOk h = false := by simp [feedOk, h0]; omega
theorem feedOk_cut (h : ByteArray) (h0 : 0 < h.size) (h1 : h.size ≤ 3) : feedOk h = cutB h := by simp [feedOk, h0, h1]

set_option maxHeartbeats 400000 in
theorem implFeederOk_any (h : ByteArray) (w : World) :
    Calls Tryz.prog 72 #[.agg #[.string h]] w fun e w' => e = .returned (.bool (feedOk h)) ∧ Below w.heap.size w w' := by
  have hy0 := fun o => (Below.refl w.heap.size w).alloc (Nat.le_refl _) o
  by_cases h0 : 0 < h.size
  · have he := isEmpty_no h h0
    by_cases h1 : h.size ≤ 3
    · have hf : Hid (feedOk h = cutB h) := feedOk_cut h h0 h1
      have hi : (h.size : Int) ≤ 3 := by omega
      go_enter Tryz.func72, Tryz.ntmps72
      go_wp2_with (go_at_call 108; refine (cutShort_any h _ h1).mono ?_; rintro e w1 ⟨rfl, hb⟩)
      go_ret
      exact ⟨ret_bool hf.out.symm, (hy0 _).trans (hb.mono (by simp))⟩
    · have hf : Hid (feedOk h = false) := feedOk_big h h1
      have hi : ¬ (h.size : Int) ≤ 3 := by omega
      go_enter Tryz.func72, Tryz.ntmps72
      go_wp2
      go_ret
      exact ⟨ret_bool hf.out.symm, hy0 _⟩
  · have he := isEmpty_yes h h0
    have hf : Hid (feedOk h = true) := feedOk_0 h h0
    go_enter Tryz.func72, Tryz.ntmps72
    go_wp2
    go_ret
    exact ⟨ret_bool hf.out.symm, hy0 _⟩

theorem l1Part_any (h : ByteArray) (w : World) (hs : h.size ≤ 3) :
    Calls Tryz.prog 96 #[.string h] w fun e w' => e = .returned (.bool (feedOk h)) ∧ Below w.heap.size w w' := by
  by_cases h0 : 0 < h.size
  · rw [feedOk_cut h h0 hs]
    obtain ⟨n, hn, hn4⟩ : ∃ n : Nat, longV (h[0].toNat : Int) = n ∧ n ≤ 4 := by
      have : 0 ≤ longV (h[0].toNat : Int) ∧ longV (h[0].toNat : Int) ≤ 4 := by unfold longV; omega
      exact ⟨(longV (h[0].toNat : Int)).toNat, by omega, by omega⟩
    obtain ⟨s1, s2⟩ := short_same h h0 hs n hn
    by_cases hlt : h.size < n
    · rw [s2 hlt]; exact l1Part_long h n w h0 hs ⟨hlt, hn4⟩ hn
    · rw [s1 (by omega)]; exact l1Part_no h n w h0 (by omega) hn
  · rw [feedOk_0 h h0]; exact l1Part_empty h w h0

set_option maxHeartbeats 400000 in
theorem specFeederOk_any (h : ByteArray) (w : World) :
    Calls Tryz.prog 49 #[.agg #[.string h]] w fun e w' => e = .returned (.bool (feedOk h)) ∧ Below w.heap.size w w' := by
  have hy0 := fun o => (Below.refl w.heap.size w).alloc (Nat.le_refl _) o
  by_cases h1 : h.size ≤ 3
  · have hi : (h.size : Int) ≤ 3 := by omega
    go_enter Tryz.func49, Tryz.ntmps49
    go_wp2_with (go_at_call 96; refine (l1Part_any h _ h1).mono ?_; rintro e w1 ⟨rfl, hb⟩)
    go_ret
    exact ⟨rfl, (hy0 _).trans (hb.mono (by simp))⟩
  · have hf : Hid (feedOk h = false) := feedOk_big h h1
    have hi : ¬ (h.size : Int) ≤ 3 := by omega
    go_enter Tryz.func49, Tryz.ntmps49
    go_wp2
    go_ret
    exact ⟨ret_bool hf.out.symm, hy0 _⟩
end Go.Proofs.YtlmnhlfklbgjdaaGreatDoor
namespace Go.Proofs.YtlmnhlfklbgjdaaGreatDoor
open Go.ChangeShapes Go.WideShapes Go.ChangeAt Go.RowKit
structure Te where
  gc : Int
  g : List (List Ce)
  oc : Int
  o : List (List Ce)
  row : Int
  col : Int
  st : St
  top : Int
  bot : Int
  full : Bool
  wrap : Bool
  away : Bool
  hid : Bool
  sr : Int
  sc : Int
  ss : St
  ti : List Int
  pa : Pa
  fe : ByteArray
/-- The values of its lists. -/
structure Tv where
  g : Value
  o : Value
  ti : Value
  pp : Value
  pt : Value
def cellB (gc : Int) (n : Nat) (r c : Int) : Bool := decide (0 ≤ r ∧ r ≤ (n : Int) - 1) && decide (0 ≤ c ∧ c ≤ gc - 1)
def termOkB (t : Te) : Bool :=
  (gridOkB t.gc t.g && (gridOkB t.oc t.o && (decide (t.gc = t.oc) && decide (t.g.length = t.o.length)))) && ((cellB t.gc t.g.length t.row t.col && cellB t.gc t.g.length t.sr t.sc) &&
    (decide (0 ≤ t.top ∧ t.top ≤ t.bot ∧ t.bot ≤ (t.g.length : Int) - 1 ∧ ¬ (t.top = t.bot ∧ 0 < (t.g.length : Int) - 1)) && (decide (t.full = true → t.col = t.gc - 1) && ((t.st.ok && t.ss.ok) && ((decide (t.ti.length ≤ 40) && runesB t.ti) && (okV t.pa && feedOk t.fe))))))
def teCs (t : Te) (v : Tv) : Array Value := #[.int .i64 t.gc, v.g, .int .i64 t.oc, v.o, .int .i64 t.row, .int .i64 t.col, .int .i64 t.st.fore, .int .i64 t.st.back, .bool t.st.bold, .bool t.st.under, .bool t.st.turned, .int .i64 t.top, .int .i64 t.bot, .bool t.full, .bool t.wrap, .bool t.away, .bool t.hid, .int .i64 t.sr, .int .i64 t.sc, .int .i64 t.ss.fore, .int .i64 t.ss.back, .bool t.ss.bold, .bool t.ss.under, .bool t.ss.turned, v.ti, .int .i64 t.pa.state, v.pp, .int .i64 t.pa.mark, v.pt, .string t.fe]
def teV (t : Te) (v : Tv) : Value := .agg (teCs t v)
/-- A screen's block, whole. -/
def TeB (w : World) (B : Nat) (T : TypeId) (t : Te) (v : Tv) : Prop := w.heap[B]? = some (.cells (teCs t v) T (0, 0))
theorem TeB.lt {w : World} {B : Nat} {T : TypeId} {t : Te} {v : Tv} (h : TeB w B T t v) : B < w.heap.size := (Array.getElem?_eq_some_iff.1 h).1
theorem TeB.kept {w w' : World} {B : Nat} {T : TypeId} {t : Te} {v : Tv} {row : Option Nat} (h : TeB w B T t v) (hg : w.grownBy w' row) (hne : row ≠ some B) : TeB w' B T t v := by
  unfold TeB
  rw [hg.block B h.lt (Ne.symm hne)]
  exact h
theorem TeB.below {w w' : World} {B : Nat} {T : TypeId} {t : Te} {v : Tv} (h : TeB w B T t v) (hb : Below w.heap.size w w') : TeB w' B T t v := h.kept (gbl hb none) (by simp)
theorem TeB.new (w : World) (T : TypeId) (t : Te) (v : Tv) : TeB (w.alloc (.cells (teCs t v) T)) w.heap.size T t v := heap_alloc_new w _
theorem TeB.cells {w : World} {B : Nat} {T : TypeId} {t : Te} {v : Tv} (h : TeB w B T t v) :
    w.cell? ⟨B, 0, none⟩ = some (.int .i64 t.gc) ∧ w.cell? ⟨B, 1, none⟩ = some (v.g) ∧ w.cell? ⟨B, 2, none⟩ = some (.int .i64 t.oc) ∧ w.cell? ⟨B, 3, none⟩ = some (v.o) ∧ w.cell? ⟨B, 4, none⟩ = some (.int .i64 t.row) ∧ w.cell? ⟨B, 5, none⟩ = some (.int .i64 t.col) ∧ w.cell? ⟨B, 6, none⟩ = some (.int .i64 t.st.fore) ∧ w.cell? ⟨B, 7, none⟩ = some (.int .i64 t.st.back) ∧ w.cell? ⟨B, 8, none⟩ = some (.bool t.st.bold) ∧ w.cell? ⟨B, 9, none⟩ = some (.bool t.st.under) ∧ w.cell? ⟨B, 10, none⟩ = some (.bool t.st.turned) ∧ w.cell? ⟨B, 11, none⟩ = some (.int .i64 t.top) ∧ w.cell? ⟨B, 12, none⟩ = some (.int .i64 t.bot) ∧ w.cell? ⟨B, 13, none⟩ = some (.bool t.full) ∧ w.cell? ⟨B, 14, none⟩ = some (.bool t.wrap) ∧ w.cell? ⟨B, 15, none⟩ = some (.bool t.away) ∧ w.cell? ⟨B, 16, none⟩ = some (.bool t.hid) ∧ w.cell? ⟨B, 17, none⟩ = some (.int .i64 t.sr) ∧ w.cell? ⟨B, 18, none⟩ = some (.int .i64 t.sc) ∧ w.cell? ⟨B, 19, none⟩ = some (.int .i64 t.ss.fore) ∧ w.cell? ⟨B, 20, none⟩ = some (.int .i64 t.ss.back) ∧ w.cell? ⟨B, 21, none⟩ = some (.bool t.ss.bold) ∧ w.cell? ⟨B, 22, none⟩ = some (.bool t.ss.under) ∧ w.cell? ⟨B, 23, none⟩ = some (.bool t.ss.turned) ∧ w.cell? ⟨B, 24, none⟩ = some (v.ti) ∧ w.cell? ⟨B, 25, none⟩ = some (.int .i64 t.pa.state) ∧ w.cell? ⟨B, 26, none⟩ = some (v.pp) ∧ w.cell? ⟨B, 27, none⟩ = some (.int .i64 t.pa.mark) ∧ w.cell? ⟨B, 28, none⟩ = some (v.pt) ∧ w.cell? ⟨B, 29, none⟩ = some (.string t.fe) := by
  refine ⟨?_, ?_, ?_, ?_, ?_, ?_, ?_, ?_, ?_, ?_, ?_, ?_, ?_, ?_, ?_, ?_, ?_, ?_, ?_, ?_, ?_, ?_, ?_, ?_, ?_, ?_, ?_, ?_, ?_, ?_⟩ <;> (rw [cell_of_row w B _ _ _ (0, 0) h]; rfl)
theorem TeB.frozen {w : World} {B : Nat} {T : TypeId} {t : Te} {v : Tv} (h : TeB w B T t v) (k : Nat) : w.frozen? ⟨B, k, none⟩ = false := frozen_of_row w B k _ _ h
/-- A screen whose lists can be read. -/
def SlT (w : World) (t : Te) (v : Tv) : Prop := SlG w v.g t.g ∧ SlG w v.o t.o ∧ SlN w v.ti t.ti ∧ SlN w v.pp t.pa.params ∧ SlN w v.pt t.pa.text
theorem SlT.below {w w' : World} {t : Te} {v : Tv} (h : SlT w t v) (hb : Below w.heap.size w w') : SlT w' t v := ⟨h.1.below hb, h.2.1.below hb, h.2.2.1.below hb, h.2.2.2.1.below hb, h.2.2.2.2.below hb⟩
def SzT (n : Nat) (t : Te) : Prop := t.g.length ≤ n ∧ (∀ i, i < t.g.length → (rowX t.g i).length ≤ n) ∧ t.o.length ≤ n ∧ (∀ i, i < t.o.length → (rowX t.o i).length ≤ n) ∧ t.ti.length ≤ n ∧ t.pa.params.length ≤ n ∧ t.pa.text.length ≤ n
theorem slG_shp {w : World} {v : Value} {rows : List (List Ce)} (h : SlG w v rows) : ∃ a c, v = .slice a rows.length c := by
  obtain ⟨a, c, vs, rfl, _⟩ := h
  exact ⟨a, c, rfl⟩
theorem info_te : (Tryz.prog.info? 35).map (·.size) = some 30 := by kernel_rfl
theorem load_te {w : World} {ops : Array Oper} {rest : List Oper} {o : Oper} {a : Act} {Q : Exit → Act → World → Prop} {B : Nat} {t : Te} {v : Tv} (hb : TeB w B 35 t v) (hgd : Region.wanted o (yielded ops a.tmps) = true) (x : Operand)
    (ho : o.op = .load 35 x) (hx : a.eval x = .pointer (some ⟨B, 0, none⟩))
    (h : wpList Tryz.prog ops Q rest (a.put o.dst (.agg (teCs t v))) w) : wpList Tryz.prog ops Q (o :: rest) a w :=
  load_T (cs := teCs t v) hgd 35 x ho Tryz.underlying35 rfl info_te hb hx h
end Go.Proofs.YtlmnhlfklbgjdaaGreatDoor
namespace Go.Proofs.YtlmnhlfklbgjdaaGreatDoor
open Go.ChangeShapes Go.WideShapes Go.ChangeAt Go.RowKit
section
variable {H : Type} {enc : TypeId × Value → H} {w : World} {base : Nat} {spare : Nat → Bool} {held : Bool}
set_option maxRecDepth 20000 in
theorem grid_cs {fuel : Nat} {cs : List Value} {y : DataW H × List MemPlace} (hf : DataW.trod enc Tryz.prog w base spare held fuel 49 cs = some y) :
    ∃ (cols : Int) (u : Value) (rows : List (List Ce)), cs = [.int .i64 cols, u] ∧ SlG w u rows ∧ rows.length ≤ maxLen ∧ ∀ i, i < rows.length → (rowX rows i).length ≤ maxLen := by
  obtain ⟨xs, n, _, _, hl, hlen, hfs⟩ := DataW.trod_struct Tryz.underlying49 hf
  have e : Tryz.prog.cellsOf 49 = 2 := by kernel_rfl
  have ei : Tryz.prog.cellsOf 2 = 1 := by kernel_rfl
  have er : Tryz.prog.cellsOf 47 = 1 := by kernel_rfl
  match cs, hl.trans e, xs, hlen with
  | [c0, c1], _, [x0, x1], _ =>
    have h0 := hfs 0 _ rfl
    have h1 := hfs 1 _ rfl
    simp [ei, er] at h0 h1
    obtain ⟨k0, q0, _, _⟩ := DataW.trod_int Tryz.underlying2 h0
    obtain ⟨u, rows, q1, hs, hle, hxl⟩ := rows_tr h1
    simp at q0 q1
    subst q0; subst q1
    exact ⟨_, _, rows, rfl, hs, hle, hxl⟩
set_option maxRecDepth 20000 in
theorem parser_cs {fuel : Nat} {cs : List Value} {y : DataW H × List MemPlace} (hf : DataW.trod enc Tryz.prog w base spare held fuel 51 cs = some y) :
    ∃ (q : Pa) (pv tv : Value), cs = [.int .i64 q.state, pv, .int .i64 q.mark, tv] ∧ SlN w pv q.params ∧ SlN w tv q.text ∧ q.params.length ≤ maxLen ∧ q.text.length ≤ maxLen := by
  obtain ⟨xs, n, _, _, hl, hlen, hfs⟩ := DataW.trod_struct Tryz.underlying51 hf
  have e : Tryz.prog.cellsOf 51 = 4 := by kernel_rfl
  have ei : Tryz.prog.cellsOf 2 = 1 := by kernel_rfl
  have er : Tryz.prog.cellsOf 29 = 1 := by kernel_rfl
  match cs, hl.trans e, xs, hlen with
  | [c0, c1, c2, c3], _, [x0, x1, x2, x3], _ =>
    have h0 := hfs 0 _ rfl
    have h1 := hfs 1 _ rfl
    have h2 := hfs 2 _ rfl
    have h3 := hfs 3 _ rfl
    simp [ei, er] at h0 h1 h2 h3
    obtain ⟨k0, q0, _, _⟩ := DataW.trod_int Tryz.underlying2 h0
    obtain ⟨u1, y1, q1, s1, l1⟩ := ints_tr h1
    obtain ⟨k2, q2, _, _⟩ := DataW.trod_int Tryz.underlying2 h2
    obtain ⟨u3, y3, q3, s3, l3⟩ := ints_tr h3
    simp at q0 q1 q2 q3
    subst q0; subst q1; subst q2; subst q3
    exact ⟨⟨k0, y1, k2, y3⟩, _, _, rfl, s1, s3, l1, l3⟩
set_option maxRecDepth 20000 in
theorem feeder_cs {fuel : Nat} {cs : List Value} {y : DataW H × List MemPlace} (hf : DataW.trod enc Tryz.prog w base spare held fuel 52 cs = some y) :
    ∃ s : ByteArray, cs = [.string s] ∧ s.size ≤ maxLen := by
  obtain ⟨xs, n, _, _, hl, hlen, hfs⟩ := DataW.trod_struct Tryz.underlying52 hf
  have e : Tryz.prog.cellsOf 52 = 1 := by kernel_rfl
  have e2 : Tryz.prog.cellsOf 9 = 1 := by kernel_rfl
  match cs, hl.trans e, xs, hlen with
  | [c0], _, [x0], _ =>
    have h0 := hfs 0 _ rfl
    simp [e2] at h0
    obtain ⟨s, hs, _, hm⟩ := DataW.trod_string Tryz.underlying9 h0
    simp at hs
    subst hs
    exact ⟨s, rfl, hm⟩
theorem split1 (cs : List Value) (a k b : Nat) (h : a + k = b) : cs.drop a = (cs.drop a).take k ++ cs.drop b := by
  subst h
  rw [← List.drop_drop]
  exact (List.take_append_drop k (cs.drop a)).symm
set_option maxRecDepth 20000 in
set_option maxHeartbeats 2000000 in
theorem term_cs {fuel : Nat} {cs : List Value} {y : DataW H × List MemPlace} (hf : DataW.trod enc Tryz.prog w base spare held fuel 54 cs = some y) :
    ∃ (t : Te) (u : Tv), cs = (teCs t u).toList ∧ SlT w t u ∧ SzT maxLen t ∧ t.fe.size ≤ maxLen := by
  obtain ⟨xs, n, _, _, hl, hlen, hfs⟩ := DataW.trod_struct Tryz.underlying54 hf
  have e : Tryz.prog.cellsOf 54 = 30 := by kernel_rfl
  have eg : Tryz.prog.cellsOf 49 = 2 := by kernel_rfl
  have ei : Tryz.prog.cellsOf 2 = 1 := by kernel_rfl
  have eb : Tryz.prog.cellsOf 4 = 1 := by kernel_rfl
  have es : Tryz.prog.cellsOf 50 = 5 := by kernel_rfl
  have el : Tryz.prog.cellsOf 29 = 1 := by kernel_rfl
  have ep : Tryz.prog.cellsOf 51 = 4 := by kernel_rfl
  have ef : Tryz.prog.cellsOf 52 = 1 := by kernel_rfl
  have hn : xs.length = 17 := hlen
  have hget : ∀ i, i < 17 → ∃ y, xs[i]? = some y := fun i hi => ⟨xs[i]'(by omega), List.getElem?_eq_getElem (by omega)⟩
  clear hlen hf
  obtain ⟨y0, hy0⟩ := hget 0 (by decide)
  have h0 : DataW.trod enc Tryz.prog w base spare held n 49 ((cs.drop 0).take (Tryz.prog.cellsOf 49)) = some y0 := (hfs 0 _ rfl).trans hy0
  rw [eg] at h0
  obtain ⟨k0, u0, r0, q0, s0, l0, m0⟩ := grid_cs h0
  obtain ⟨y1, hy1⟩ := hget 1 (by decide)
  have h1 : DataW.trod enc Tryz.prog w base spare held n 49 ((cs.drop 2).take (Tryz.prog.cellsOf 49)) = some y1 := (hfs 1 _ rfl).trans hy1
  rw [eg] at h1
  obtain ⟨k1, u1, r1, q1, s1, l1, m1⟩ := grid_cs h1
  obtain ⟨y2, hy2⟩ := hget 2 (by decide)
  have h2 : DataW.trod enc Tryz.prog w base spare held n 2 ((cs.drop 4).take (Tryz.prog.cellsOf 2)) = some y2 := (hfs 2 _ rfl).trans hy2
  rw [ei] at h2
  obtain ⟨k2, q2, _, _⟩ := DataW.trod_int Tryz.underlying2 h2
  obtain ⟨y3, hy3⟩ := hget 3 (by decide)
  have h3 : DataW.trod enc Tryz.prog w base spare held n 2 ((cs.drop 5).take (Tryz.prog.cellsOf 2)) = some y3 := (hfs 3 _ rfl).trans hy3
  rw [ei] at h3
  obtain ⟨k3, q3, _, _⟩ := DataW.trod_int Tryz.underlying2 h3
  obtain ⟨y4, hy4⟩ := hget 4 (by decide)
  have h4 : DataW.trod enc Tryz.prog w base spare held n 50 ((cs.drop 6).take (Tryz.prog.cellsOf 50)) = some y4 := (hfs 4 _ rfl).trans hy4
  rw [es] at h4
  obtain ⟨k4, q4⟩ := style_cs h4
  obtain ⟨y5, hy5⟩ := hget 5 (by decide)
  have h5 : DataW.trod enc Tryz.prog w base spare held n 2 ((cs.drop 11).take (Tryz.prog.cellsOf 2)) = some y5 := (hfs 5 _ rfl).trans hy5
  rw [ei] at h5
  obtain ⟨k5, q5, _, _⟩ := DataW.trod_int Tryz.underlying2 h5
  obtain ⟨y6, hy6⟩ := hget 6 (by decide)
  have h6 : DataW.trod enc Tryz.prog w base spare held n 2 ((cs.drop 12).take (Tryz.prog.cellsOf 2)) = some y6 := (hfs 6 _ rfl).trans hy6
  rw [ei] at h6
  obtain ⟨k6, q6, _, _⟩ := DataW.trod_int Tryz.underlying2 h6
  obtain ⟨y7, hy7⟩ := hget 7 (by decide)
  have h7 : DataW.trod enc Tryz.prog w base spare held n 4 ((cs.drop 13).take (Tryz.prog.cellsOf 4)) = some y7 := (hfs 7 _ rfl).trans hy7
  rw [eb] at h7
  obtain ⟨k7, q7, _⟩ := DataW.trod_bool Tryz.underlying4 h7
  obtain ⟨y8, hy8⟩ := hget 8 (by decide)
  have h8 : DataW.trod enc Tryz.prog w base spare held n 4 ((cs.drop 14).take (Tryz.prog.cellsOf 4)) = some y8 := (hfs 8 _ rfl).trans hy8
  rw [eb] at h8
  obtain ⟨k8, q8, _⟩ := DataW.trod_bool Tryz.underlying4 h8
  obtain ⟨y9, hy9⟩ := hget 9 (by decide)
  have h9 : DataW.trod enc Tryz.prog w base spare held n 4 ((cs.drop 15).take (Tryz.prog.cellsOf 4)) = some y9 := (hfs 9 _ rfl).trans hy9
  rw [eb] at h9
  obtain ⟨k9, q9, _⟩ := DataW.trod_bool Tryz.underlying4 h9
  obtain ⟨y10, hy10⟩ := hget 10 (by decide)
  have h10 : DataW.trod enc Tryz.prog w base spare held n 4 ((cs.drop 16).take (Tryz.prog.cellsOf 4)) = some y10 := (hfs 10 _ rfl).trans hy10
  rw [eb] at h10
  obtain ⟨k10, q10, _⟩ := DataW.trod_bool Tryz.underlying4 h10
  obtain ⟨y11, hy11⟩ := hget 11 (by decide)
  have h11 : DataW.trod enc Tryz.prog w base spare held n 2 ((cs.drop 17).take (Tryz.prog.cellsOf 2)) = some y11 := (hfs 11 _ rfl).trans hy11
  rw [ei] at h11
  obtain ⟨k11, q11, _, _⟩ := DataW.trod_int Tryz.underlying2 h11
  obtain ⟨y12, hy12⟩ := hget 12 (by decide)
  have h12 : DataW.trod enc Tryz.prog w base spare held n 2 ((cs.drop 18).take (Tryz.prog.cellsOf 2)) = some y12 := (hfs 12 _ rfl).trans hy12
  rw [ei] at h12
  obtain ⟨k12, q12, _, _⟩ := DataW.trod_int Tryz.underlying2 h12
  obtain ⟨y13, hy13⟩ := hget 13 (by decide)
  have h13 : DataW.trod enc Tryz.prog w base spare held n 50 ((cs.drop 19).take (Tryz.prog.cellsOf 50)) = some y13 := (hfs 13 _ rfl).trans hy13
  rw [es] at h13
  obtain ⟨k13, q13⟩ := style_cs h13
  obtain ⟨y14, hy14⟩ := hget 14 (by decide)
  have h14 : DataW.trod enc Tryz.prog w base spare held n 29 ((cs.drop 24).take (Tryz.prog.cellsOf 29)) = some y14 := (hfs 14 _ rfl).trans hy14
  rw [el] at h14
  obtain ⟨u14, k14, q14, s14, l14⟩ := ints_tr h14
  obtain ⟨y15, hy15⟩ := hget 15 (by decide)
  have h15 : DataW.trod enc Tryz.prog w base spare held n 51 ((cs.drop 25).take (Tryz.prog.cellsOf 51)) = some y15 := (hfs 15 _ rfl).trans hy15
  rw [ep] at h15
  obtain ⟨k15, u15, v15, q15, s15, l15, m15, n15⟩ := parser_cs h15
  obtain ⟨y16, hy16⟩ := hget 16 (by decide)
  have h16 : DataW.trod enc Tryz.prog w base spare held n 52 ((cs.drop 29).take (Tryz.prog.cellsOf 52)) = some y16 := (hfs 16 _ rfl).trans hy16
  rw [ef] at h16
  obtain ⟨k16, q16, l16⟩ := feeder_cs h16
  have z17 : cs.drop 30 = [] := List.drop_eq_nil_of_le (by rw [hl, e]; exact Nat.le_refl _)
  have z16 : cs.drop 29 = [.string k16] := by rw [split1 cs 29 1 30 rfl, q16, z17]; rfl
  have z15 : cs.drop 25 = [.int .i64 k15.state, u15, .int .i64 k15.mark, v15, .string k16] := by rw [split1 cs 25 4 29 rfl, q15, z16]; rfl
  have z14 : cs.drop 24 = [u14, .int .i64 k15.state, u15, .int .i64 k15.mark, v15, .string k16] := by rw [split1 cs 24 1 25 rfl, q14, z15]; rfl
  have z13 : cs.drop 19 = [.int .i64 k13.fore, .int .i64 k13.back, .bool k13.bold, .bool k13.under, .bool k13.turned, u14, .int .i64 k15.state, u15, .int .i64 k15.mark, v15, .string k16] := by rw [split1 cs 19 5 24 rfl, q13, z14]; rfl
  have z12 : cs.drop 18 = [.int .i64 k12, .int .i64 k13.fore, .int .i64 k13.back, .bool k13.bold, .bool k13.under, .bool k13.turned, u14, .int .i64 k15.state, u15, .int .i64 k15.mark, v15, .string k16] := by rw [split1 cs 18 1 19 rfl, q12, z13]; rfl
  have z11 : cs.drop 17 = [.int .i64 k11, .int .i64 k12, .int .i64 k13.fore, .int .i64 k13.back, .bool k13.bold, .bool k13.under, .bool k13.turned, u14, .int .i64 k15.state, u15, .int .i64 k15.mark, v15, .string k16] := by rw [split1 cs 17 1 18 rfl, q11, z12]; rfl
  have z10 : cs.drop 16 = [.bool k10, .int .i64 k11, .int .i64 k12, .int .i64 k13.fore, .int .i64 k13.back, .bool k13.bold, .bool k13.under, .bool k13.turned, u14, .int .i64 k15.state, u15, .int .i64 k15.mark, v15, .string k16] := by rw [split1 cs 16 1 17 rfl, q10, z11]; rfl
  have z9 : cs.drop 15 = [.bool k9, .bool k10, .int .i64 k11, .int .i64 k12, .int .i64 k13.fore, .int .i64 k13.back, .bool k13.bold, .bool k13.under, .bool k13.turned, u14, .int .i64 k15.state, u15, .int .i64 k15.mark, v15, .string k16] := by rw [split1 cs 15 1 16 rfl, q9, z10]; rfl
  have z8 : cs.drop 14 = [.bool k8, .bool k9, .bool k10, .int .i64 k11, .int .i64 k12, .int .i64 k13.fore, .int .i64 k13.back, .bool k13.bold, .bool k13.under, .bool k13.turned, u14, .int .i64 k15.state, u15, .int .i64 k15.mark, v15, .string k16] := by rw [split1 cs 14 1 15 rfl, q8, z9]; rfl
  have z7 : cs.drop 13 = [.bool k7, .bool k8, .bool k9, .bool k10, .int .i64 k11, .int .i64 k12, .int .i64 k13.fore, .int .i64 k13.back, .bool k13.bold, .bool k13.under, .bool k13.turned, u14, .int .i64 k15.state, u15, .int .i64 k15.mark, v15, .string k16] := by rw [split1 cs 13 1 14 rfl, q7, z8]; rfl
  have z6 : cs.drop 12 = [.int .i64 k6, .bool k7, .bool k8, .bool k9, .bool k10, .int .i64 k11, .int .i64 k12, .int .i64 k13.fore, .int .i64 k13.back, .bool k13.bold, .bool k13.under, .bool k13.turned, u14, .int .i64 k15.state, u15, .int .i64 k15.mark, v15, .string k16] := by rw [split1 cs 12 1 13 rfl, q6, z7]; rfl
  have z5 : cs.drop 11 = [.int .i64 k5, .int .i64 k6, .bool k7, .bool k8, .bool k9, .bool k10, .int .i64 k11, .int .i64 k12, .int .i64 k13.fore, .int .i64 k13.back, .bool k13.bold, .bool k13.under, .bool k13.turned, u14, .int .i64 k15.state, u15, .int .i64 k15.mark, v15, .string k16] := by rw [split1 cs 11 1 12 rfl, q5, z6]; rfl
  have z4 : cs.drop 6 = [.int .i64 k4.fore, .int .i64 k4.back, .bool k4.bold, .bool k4.under, .bool k4.turned, .int .i64 k5, .int .i64 k6, .bool k7, .bool k8, .bool k9, .bool k10, .int .i64 k11, .int .i64 k12, .int .i64 k13.fore, .int .i64 k13.back, .bool k13.bold, .bool k13.under, .bool k13.turned, u14, .int .i64 k15.state, u15, .int .i64 k15.mark, v15, .string k16] := by rw [split1 cs 6 5 11 rfl, q4, z5]; rfl
  have z3 : cs.drop 5 = [.int .i64 k3, .int .i64 k4.fore, .int .i64 k4.back, .bool k4.bold, .bool k4.under, .bool k4.turned, .int .i64 k5, .int .i64 k6, .bool k7, .bool k8, .bool k9, .bool k10, .int .i64 k11, .int .i64 k12, .int .i64 k13.fore, .int .i64 k13.back, .bool k13.bold, .bool k13.under, .bool k13.turned, u14, .int .i64 k15.state, u15, .int .i64 k15.mark, v15, .string k16] := by rw [split1 cs 5 1 6 rfl, q3, z4]; rfl
  have z2 : cs.drop 4 = [.int .i64 k2, .int .i64 k3, .int .i64 k4.fore, .int .i64 k4.back, .bool k4.bold, .bool k4.under, .bool k4.turned, .int .i64 k5, .int .i64 k6, .bool k7, .bool k8, .bool k9, .bool k10, .int .i64 k11, .int .i64 k12, .int .i64 k13.fore, .int .i64 k13.back, .bool k13.bold, .bool k13.under, .bool k13.turned, u14, .int .i64 k15.state, u15, .int .i64 k15.mark, v15, .string k16] := by rw [split1 cs 4 1 5 rfl, q2, z3]; rfl
  have z1 : cs.drop 2 = [.int .i64 k1, u1, .int .i64 k2, .int .i64 k3, .int .i64 k4.fore, .int .i64 k4.back, .bool k4.bold, .bool k4.under, .bool k4.turned, .int .i64 k5, .int .i64 k6, .bool k7, .bool k8, .bool k9, .bool k10, .int .i64 k11, .int .i64 k12, .int .i64 k13.fore, .int .i64 k13.back, .bool k13.bold, .bool k13.under, .bool k13.turned, u14, .int .i64 k15.state, u15, .int .i64 k15.mark, v15, .string k16] := by rw [split1 cs 2 2 4 rfl, q1, z2]; rfl
  have z0 : cs.drop 0 = [.int .i64 k0, u0, .int .i64 k1, u1, .int .i64 k2, .int .i64 k3, .int .i64 k4.fore, .int .i64 k4.back, .bool k4.bold, .bool k4.under, .bool k4.turned, .int .i64 k5, .int .i64 k6, .bool k7, .bool k8, .bool k9, .bool k10, .int .i64 k11, .int .i64 k12, .int .i64 k13.fore, .int .i64 k13.back, .bool k13.bold, .bool k13.under, .bool k13.turned, u14, .int .i64 k15.state, u15, .int .i64 k15.mark, v15, .string k16] := by rw [split1 cs 0 2 2 rfl, q0, z1]; rfl
  refine ⟨⟨k0, r0, k1, r1, k2, k3, k4, k5, k6, k7, k8, k9, k10, k11, k12, k13, k14, k15, k16⟩, ⟨u0, u1, u14, u15, v15⟩, z0, ⟨s0, s1, s14, s15, l15⟩, ⟨l0, m0, l1, m1, l14, m15, n15⟩, l16⟩
set_option maxRecDepth 20000 in
theorem term_view {b0 : Nat} {r : Reach} {v : Value} {d : DataW H} {p : List MemPlace} (hv : Value.okWide Tryz.prog w r b0 54 v) (h : DataW.Trod enc Tryz.prog w base spare held 54 v d p) :
    ∃ (t : Te) (u : Tv), v = teV t u ∧ SlT w t u ∧ SzT maxLen t ∧ t.fe.size ≤ maxLen := by
  obtain ⟨cs, rfl, _⟩ := okWide_struct Tryz.underlying54 hv
  obtain ⟨fuel, hf⟩ := h
  obtain ⟨t, u, h1, h2, h3, h4⟩ := term_cs hf
  refine ⟨t, u, ?_, h2, h3, h4⟩
  unfold teV
  congr 1
  exact Array.toList_inj.1 h1
end
end Go.Proofs.YtlmnhlfklbgjdaaGreatDoor
namespace Go.Proofs.YtlmnhlfklbgjdaaGreatDoor
open Go.ChangeShapes Go.WideShapes Go.ChangeAt Go.RowKit
theorem toStyle_any (s : St) (w : World) :
    Calls Tryz.prog 57 #[stV s] w fun e w' => e = .returned (stV s) ∧ Below w.heap.size w w' := by
  obtain ⟨f, b, bo, un, tu⟩ := s
  unfold stV
  simp only
  go_enter Tryz.func57, Tryz.ntmps57
  go_wp2
  refine bodyPost_ret (v := .agg #[.int .i64 f, .int .i64 b, .bool bo, .bool un, .bool tu]) (by simp [results, Tryz.results57, go_sem]) rfl ⟨rfl, ?_⟩
  exact (((Below.refl _ _).alloc (Nat.le_refl _) _).alloc (by simp) _).alloc (by simp; omega) _
end Go.Proofs.YtlmnhlfklbgjdaaGreatDoor
namespace Go.Proofs.YtlmnhlfklbgjdaaGreatDoor
open Go.ChangeShapes Go.WideShapes Go.ChangeAt Go.RowKit
theorem flag_any (c : Bool) (x y : Int) (w : World) :
    Calls Tryz.prog 129 #[.bool c, .int .i64 x, .int .i64 y] w fun e w' => e = .returned (.int .i64 (flagV c x y)) ∧ w' = w := by
  cases c
  all_goals
    go_enter Tryz.func129, Tryz.ntmps129
    go_wp2
    go_ret
    exact ⟨rfl, rfl⟩
end Go.Proofs.YtlmnhlfklbgjdaaGreatDoor
namespace Go.Proofs.YtlmnhlfklbgjdaaGreatDoor
open Go.ChangeShapes Go.WideShapes Go.ChangeAt Go.RowKit
attribute [local go_sem ↓] Go.wp_at_zero Go.wp_at_succ
/-- What stays while a list is gone through: the style in hand, the answer's place, the list's own cell. -/
def KS (B2 B4 bb o : Nat) (n : Int) (s z : St) (w0 W : World) : Prop := StAt W B2 s ∧ StAt W B4 z ∧ (bb < w0.heap.size ∧ W.cell? ⟨bb, o, none⟩ = some (.int .i64 n)) ∧ Below w0.heap.size w0 W
theorem KS.below {B2 B4 bb o : Nat} {n : Int} {s z : St} {w0 W W' : World} (k : KS B2 B4 bb o n s z w0 W) (hb : Below W.heap.size W W') : KS B2 B4 bb o n s z w0 W' :=
  ⟨k.1.below hb, k.2.1.below hb, ⟨k.2.2.1.1, (hb.cell (p := ⟨bb, o, none⟩) (Nat.lt_of_lt_of_le k.2.2.1.1 k.2.2.2.size)).trans k.2.2.1.2⟩, k.2.2.2.trans (hb.mono k.2.2.2.size)⟩

theorem KS.all {B2 B4 bb o : Nat} {n : Int} {s z : St} {w0 W : World} (kb : KS B2 B4 bb o n s z w0 W) : W.cell? ⟨B2, 0, none⟩ = some (.int .i64 s.fore) ∧ W.cell? ⟨B2, 1, none⟩ = some (.int .i64 s.back) ∧ W.cell? ⟨B2, 2, none⟩ = some (.bool s.bold) ∧ W.cell? ⟨B2, 3, none⟩ = some (.bool s.under) ∧ W.cell? ⟨B2, 4, none⟩ = some (.bool s.turned) ∧ W.cell? ⟨bb, o, none⟩ = some (.int .i64 n) ∧ KS B2 B4 bb o n s z w0 W :=
  ⟨kb.1.2.1.1, kb.1.2.1.2.1, kb.1.2.1.2.2.1, kb.1.2.1.2.2.2.1, kb.1.2.1.2.2.2.2, kb.2.2.1.2, kb⟩

end Go.Proofs.YtlmnhlfklbgjdaaGreatDoor
namespace Go.Proofs.YtlmnhlfklbgjdaaGreatDoor
open Go.ChangeShapes Go.WideShapes Go.ChangeAt Go.RowKit
theorem st_iff (f b : Int) (bo un tu : Bool) (f' b' : Int) (bo' un' tu' : Bool) : (St.mk f b bo un tu = St.mk f' b' bo' un' tu') ↔ (f = f' ∧ b = b' ∧ bo = bo' ∧ un = un' ∧ tu = tu') := by
  constructor
  · intro e; cases e; simp
  · rintro ⟨rfl, rfl, rfl, rfl, rfl⟩; rfl
set_option maxHeartbeats 1000000 in
theorem eq_st (a b : St) (W : World) : (Op.equalIn 10000 28 (.agg #[.int .i64 a.fore, .int .i64 a.back, .bool a.bold, .bool a.under, .bool a.turned]) (.agg #[.int .i64 b.fore, .int .i64 b.back, .bool b.bold, .bool b.under, .bool b.turned])).run Tryz.prog W = .ok (decide (a = b)) W := by
  have hu := Tryz.underlying28
  have hi := Tryz.underlying2
  have hb := Tryz.underlying4
  obtain ⟨f, g, bo, un, tu⟩ := a
  obtain ⟨f', g', bo', un', tu'⟩ := b
  simp only [st_iff]
  rw [run_equalIn_struct W 9999 _ _ _ (by simp [Program.fieldsOf, hu]) (by kernel_rfl)]
  by_cases h1 : f = f' <;> by_cases h2 : g = g' <;> by_cases h3 : bo = bo' <;> by_cases h4 : un = un' <;> by_cases h5 : tu = tu' <;> simp [Program.fieldsOf, hu, hi, hb, Op.eqFields, go_sem, h1, h2, h3, h4, h5, Result.andThen]
end Go.Proofs.YtlmnhlfklbgjdaaGreatDoor
namespace Go.Proofs.YtlmnhlfklbgjdaaGreatDoor
open Go.ChangeShapes Go.WideShapes Go.ChangeAt Go.RowKit
theorem info_int64s : (Tryz.prog.info? 2).map (fun i => (i.zero, i.size, i.bytes)) = some (some (.int .i64 0), 1, 8) := by kernel_rfl
/-- Two styles in memory and a list of this call's own. -/
def PK (base A B : Nat) (a b : St) (v : Value) (L : List Int) (w0 W : World) : Prop :=
  StAt W A a ∧ StAt W B b ∧ W.ownsRow base 2 1 v L.length (L.map (Value.int .i64)) ∧ Below w0.heap.size w0 W ∧ base ≤ W.heap.size ∧ A < base ∧ B < base ∧ w0.heap.size ≤ base ∧ L.length ≤ 1000
theorem append_pk {w : World} {ops : Array Oper} {rest : List Oper} {o : Oper} {ac : Act} {Q : Exit → Act → World → Prop} (hgd : o.guard = none) (s x : Operand)
    (ho : o.op = .call { callee := .builtin .append, args := #[s, x], argTypes := #[29, 29] })
    (base A B : Nat) (a b : St) (v : Value) (L : List Int) (w0 : World) (y : Int) (hs : ac.eval s = v) (k : PK base A B a b v L w0 w) (hl : L.length < 1000)
    (g : Nat) (hg0 : w.heap.size = g) (hx : ac.eval x = .slice (some ⟨g, 0, none⟩) 1 1)
    (h : ∀ v' w', PK base A B a b v' (L ++ [y]) w0 w' → wpList Tryz.prog ops Q rest (ac.put o.dst v') w') :
    wpList Tryz.prog ops Q (o :: rest) ac (w.alloc (.cells #[.int .i64 y] 2)) := by
  subst hg0
  obtain ⟨i0, hi, hz0, hz1, hz2⟩ := info_parts info_int64s
  obtain ⟨ka, kb, ko, kw, k1, k2, k3, k4, k5⟩ := k
  have hb := bal' w (Obj.cells #[.int .i64 y] 2)
  refine wpList_append_own _ hgd s x _ ho base 2 i0 (.int .i64 0) 1 8 Tryz.underlying29 hi hz0 hz1 hz2 rfl (by decide) v L.length _ hs (ko.alloc _) ⟨w.heap.size, 0, none⟩ 1 1 [.int .i64 y] hx rfl ?_ (by intro u hu; simp at hu; subst hu; rfl) (by unfold maxLen; omega) (by omega) (by simp; omega) (fun v' w' ho' hg' _ => ?_)
  · intro j u hj
    match j, hj with
    | 0, hj => simp at hj; subst hj; simp [Addr.add]
  · have hrow : ∀ g, v.ownBlock = some g → base ≤ g := fun g e => (ko.lt g e).1
    refine h v' w' ⟨(ka.below hb).grown hg' (fun e => by have := hrow A e; omega), (kb.below hb).grown hg' (fun e => by have := hrow B e; omega), ?_, (kw.trans (hb.mono kw.size)).grown hg' (kw.trans (hb.mono kw.size)).size (fun g e => by have := hrow g e; omega), by have := hg'.size; have := hb.size; omega, k2, k3, k4, by simp; omega⟩
    rw [List.length_append, List.map_append]
    simpa using ho'

theorem pk_fin {base A B : Nat} {a b : St} {v : Value} {L : List Int} {w0 W : World} (k : PK base A B a b v L w0 W) (hp : paramsL a b = L) :
    ∃ u, Ending.returned v = .returned u ∧ Below w0.heap.size w0 W ∧ W.ownsRow w0.heap.size 2 1 u (paramsL a b).length ((paramsL a b).map (Value.int .i64)) := by
  refine ⟨v, rfl, k.2.2.2.1, ?_⟩
  rw [hp]
  obtain ⟨h1, h2⟩ := k.2.2.1
  refine ⟨h1, ?_⟩
  rcases h2 with h2 | ⟨g, cap, cur, hv, hbg, r⟩
  · exact .inl h2
  · exact .inr ⟨g, cap, cur, hv, Nat.le_trans k.2.2.2.2.2.2.2.1 hbg, r⟩
theorem beq_dec (x : Int) : (x == 0) = decide (x = 0) := by by_cases h : x = 0 <;> simp [h]
theorem pk_start (a b : St) (w : World) : PK (w.heap.size + 1 + 1) w.heap.size (w.heap.size + 1) a b (.slice (some ⟨w.heap.size + 1 + 1, 0, none⟩) 0 0) [] w ((((w.alloc (Obj.cells #[.int .i64 a.fore, .int .i64 a.back, .bool a.bold, .bool a.under, .bool a.turned] 28)).alloc (Obj.cells #[.int .i64 b.fore, .int .i64 b.back, .bool b.bold, .bool b.under, .bool b.turned] 28)).alloc (Obj.cells #[] 2)).alloc (Obj.cells #[.int .i64 0, .int .i64 0, .bool false, .bool false, .bool false] 28)) := by
  have ha := StAt.new w a 28
  have hb := StAt.new (w.alloc (Obj.cells #[.int .i64 a.fore, .int .i64 a.back, .bool a.bold, .bool a.under, .bool a.turned] 28)) b 28
  have e1 : (w.alloc (Obj.cells #[.int .i64 a.fore, .int .i64 a.back, .bool a.bold, .bool a.under, .bool a.turned] 28)).heap.size = w.heap.size + 1 := by simp
  rw [e1] at hb
  refine ⟨((ha.below (bal' _ _)).below (bal' _ _)).below (bal' _ _), (hb.below (bal' _ _)).below (bal' _ _), ?_, ((((Below.refl _ _).alloc (Nat.le_refl _) _).alloc (by simp) _).alloc (by simp; omega) _).alloc (by simp; omega) _, by simp, by omega, by omega, by omega, by simp⟩
  have ho := World.ownsRow_lit (base := w.heap.size + 1 + 1) (e := 2) (size := 1) ((w.alloc (Obj.cells #[.int .i64 a.fore, .int .i64 a.back, .bool a.bold, .bool a.under, .bool a.turned] 28)).alloc (Obj.cells #[.int .i64 b.fore, .int .i64 b.back, .bool b.bold, .bool b.under, .bool b.turned] 28)) #[] 0 (by simp) (Nat.zero_le _) rfl
  have := ho.alloc (Obj.cells #[.int .i64 0, .int .i64 0, .bool false, .bool false, .bool false] 28)
  simpa using this

set_option maxHeartbeats 16000000 in
theorem l3Params_ne (a b : St) (w : World) (hok : b.ok = true) (hz : b ≠ St.zero) :
    Calls Tryz.prog 89 #[stV a, stV b] w fun e w' => ∃ v, e = .returned v ∧ Below w.heap.size w w' ∧ w'.ownsRow w.heap.size 2 1 v (paramsL a b).length ((paramsL a b).map (Value.int .i64)) := by
  have hq : ∀ W, (Op.equalIn 10000 28 (.agg #[.int .i64 b.fore, .int .i64 b.back, .bool b.bold, .bool b.under, .bool b.turned]) (.agg #[.int .i64 0, .int .i64 0, .bool false, .bool false, .bool false])).run Tryz.prog W = .ok false W := fun W => by
    have := eq_st b St.zero W
    rw [decide_eq_false hz] at this
    exact this
  have hk0 := pk_start a b w
  obtain ⟨hf0, hf1, hg0, hg1⟩ := (St.ok_iff b).1 hok
  have HZ : Hid (¬ (b = St.zero ∧ a ≠ St.zero)) := fun h => hz h.1
  clear hok hz
  unfold stV
  cases e1 : (!a.bold == b.bold) <;> cases e2 : (!a.under == b.under) <;> cases e3 : (!a.turned == b.turned) <;> cases e4 : (a.fore != b.fore) <;> cases e5 : (a.back != b.back)
  all_goals
    go_enter Tryz.func89, Tryz.ntmps89
    go_wp2_with (first
      | (go_at_call 129; refine (flag_any _ _ _ _).mono ?_; rintro e wf ⟨rfl, hw⟩; subst hw)
      | (at_builtin; refine append_pk rfl _ _ rfl (w.heap.size + 1 + 1) w.heap.size (w.heap.size + 1) a b _ _ w _ rfl (by assumption) (by simp) _ (by simp) rfl ?_; intro v' w' hk0; have kk := hk0; obtain ⟨⟨_, ⟨c0, c1, c2, c3, c4⟩, _⟩, ⟨_, ⟨d0, d1, d2, d3, d4⟩, _⟩, _⟩ := kk))
    go_ret
    refine pk_fin hk0 ?_
    rw [paramsL, if_neg HZ.out]
    clear hk0 hq HZ
    simp at e1 e2 e3 e4 e5
    simp [e1, e2, e3, e4, e5, beq_dec]
end Go.Proofs.YtlmnhlfklbgjdaaGreatDoor
namespace Go.Proofs.YtlmnhlfklbgjdaaGreatDoor
open Go.ChangeShapes Go.WideShapes Go.ChangeAt Go.RowKit
theorem own_low {w : World} {base base' : Nat} {e : TypeId} {size : Nat} {v : Value} {n : Nat} {xs : List Value} (h : w.ownsRow base e size v n xs) (hb : base' ≤ base) : w.ownsRow base' e size v n xs := by
  refine ⟨h.1, ?_⟩
  rcases h.2 with h2 | ⟨g, cap, cur, hv, hbg, r⟩
  · exact .inl h2
  · exact .inr ⟨g, cap, cur, hv, Nat.le_trans hb hbg, r⟩
set_option maxRecDepth 20000 in
set_option maxHeartbeats 4000000 in
theorem l3Params_any (a b : St) (w : World) (hok : b.ok = true) :
    Calls Tryz.prog 89 #[stV a, stV b] w fun e w' => ∃ v, e = .returned v ∧ Below w.heap.size w w' ∧ w'.ownsRow w.heap.size 2 1 v (paramsL a b).length ((paramsL a b).map (Value.int .i64)) := by
  by_cases hz : b = St.zero
  · subst hz
    have hk0 := pk_start a St.zero w
    by_cases ha : a = St.zero
    · subst ha
      have hp := paramsL_self St.zero
      unfold stV St.zero at *
      go_enter Tryz.func89, Tryz.ntmps89
      go_wp2
      go_ret
      exact pk_fin hk0 hp
    · have hp : Hid (paramsL a St.zero = [0]) := by show _ = _; rw [paramsL, if_pos ⟨rfl, ha⟩]
      have hq : ∀ W, (Op.equalIn 10000 28 (.agg #[.int .i64 a.fore, .int .i64 a.back, .bool a.bold, .bool a.under, .bool a.turned]) (.agg #[.int .i64 0, .int .i64 0, .bool false, .bool false, .bool false])).run Tryz.prog W = .ok false W := fun W => by
        have := eq_st a St.zero W
        rw [decide_eq_false ha] at this
        exact this
      have hbl := hk0.2.2.2.1
      have hlo := hk0.2.2.2.2.1
      unfold stV St.zero at *
      go_enter Tryz.func89, Tryz.ntmps89
      go_wp2
      go_ret
      have ho := World.ownsRow_lit (base := w.heap.size) (e := 2) (size := 1) ((((w.alloc (Obj.cells #[.int .i64 a.fore, .int .i64 a.back, .bool a.bold, .bool a.under, .bool a.turned] 28)).alloc (Obj.cells #[.int .i64 0, .int .i64 0, .bool false, .bool false, .bool false] 28)).alloc (Obj.cells #[] 2)).alloc (Obj.cells #[.int .i64 0, .int .i64 0, .bool false, .bool false, .bool false] 28)) #[.int .i64 0] 1 (by simp; omega) (by decide) rfl
      refine ⟨_, rfl, hbl.trans ((bal' _ _).mono hbl.size), ?_⟩
      rw [hp.out]
      simpa using ho
  · exact l3Params_ne a b w hok hz
end Go.Proofs.YtlmnhlfklbgjdaaGreatDoor
namespace Go.Proofs.YtlmnhlfklbgjdaaGreatDoor
open Go.ChangeShapes Go.WideShapes Go.ChangeAt Go.RowKit
theorem nums_app5 (a b : ByteArray) : nums (a ++ b) = nums a ++ nums b := by simp [nums, ByteArray.data_append]
theorem empty_of_size (s : ByteArray) (h0 : 0 < s.size) : s.toList.isEmpty = false := by
  rw [ByteArray.toList_eq, List.isEmpty_eq_false_iff]; intro e; have := congrArg List.length e; simp at this; simp [this] at h0
/-- One byte turned to a text. -/
theorem conv1 {w : World} {ops : Array Oper} {rest : List Oper} {o : Oper} {ac : Act} {Q : Exit → Act → World → Prop} (hgd : o.guard = none) (x : Operand)
    (ho : o.op = .convert 22 9 x) (g : Nat) (hg : w.heap.size = g) (y : Int) (hy : 0 ≤ y ∧ y < 256) (hx : ac.eval x = .slice (some ⟨g, 0, none⟩) 1 1)
    (h : ∀ t : ByteArray, Hid (nums t = [y]) → (∀ u : ByteArray, (t ++ u).toList.isEmpty = false) → t.size = 1 → wpList Tryz.prog ops Q rest (ac.put o.dst (.string t)) (w.alloc (.cells #[.int .u8 y] 5))) :
    wpList Tryz.prog ops Q (o :: rest) ac (w.alloc (.cells #[.int .u8 y] 5)) := by
  subst hg
  have hrun := run_convert_bytes_arg (P := Tryz.prog) (w.alloc (.cells #[.int .u8 y] 5)) 22 5 Tryz.underlying22 Tryz.underlying5 w.heap.size 0 1 1 [y] rfl (by
    intro i hi
    have : i = 0 := by omega
    subst this
    rw [cell_of_row _ w.heap.size 0 _ _ (0, 0) (heap_alloc_new w _)]
    rfl) 9 Tryz.underlying9
  have hn : nums (strOfNums [y]) = [y] := nums_str [y] (by intro z hz; simp at hz; omega)
  refine wpList_plain hgd fun K hK => ?_
  unfold Oper.wp
  simp [execOp, ho, hx, hrun, Result.andThen, -World.alloc_eq]
  refine hK _ _ (h _ hn (fun u => empty_of_size _ ?_) (by rw [← nums_len, hn]; rfl))
  have := congrArg List.length (nums_app5 (strOfNums [y]) u)
  rw [nums_len, List.length_append, hn] at this
  rw [this]; simp; omega
set_option maxRecDepth 20000 in
set_option maxHeartbeats 1000000 in
theorem l3Int_1 (n : Int) (w : World) (h : 0 ≤ n ∧ n < 10) :
    Calls Tryz.prog 36 #[.int .i64 n] w fun e w' => ∃ t, e = .returned (.string t) ∧ nums t = digL n ∧ Below w.heap.size w w' := by
  obtain ⟨h0, h1⟩ := h
  have hd : Hid (digL n = [48 + n]) := by show _ = _; simp [digL]; omega
  have hm : n % 10 = n := by omega
  have hq : n / 10 = 0 := by omega
  go_enter Tryz.func36, Tryz.ntmps36
  go_wp2
  refine wp_loop_rounds 2 ?_
  rw [rounds_succ]
  go_wp2_with (refine conv1 rfl _ rfl _ rfl (48 + n) (by omega) rfl ?_; intro t ht hte hts)
  have he := hte ⟨#[]⟩
  have hn : Hid (nums (t ++ ⟨#[]⟩) = digL n) := by show _ = _; rw [nums_app5, ht.out, hd.out]; rfl
  rw [rounds_succ]
  go_wp2
  go_ret
  exact ⟨_, rfl, hn.out, (Below.refl _ _).alloc (Nat.le_refl _) _⟩
set_option maxRecDepth 20000 in
set_option maxHeartbeats 2000000 in
theorem l3Int_2 (n : Int) (w : World) (h : 10 ≤ n ∧ n < 100) :
    Calls Tryz.prog 36 #[.int .i64 n] w fun e w' => ∃ t, e = .returned (.string t) ∧ nums t = digL n ∧ Below w.heap.size w w' := by
  obtain ⟨h0, h1⟩ := h
  have hd : Hid (digL n = [48 + n / 10, 48 + n % 10]) := by show _ = _; simp [digL]; omega
  have hm0 : 0 ≤ n % 10 := by omega
  have hm1 : n % 10 < 10 := by omega
  have hq0 : 0 < n / 10 := by omega
  have hq1 : n / 10 < 10 := by omega
  have hq2 : n / 10 % 10 = n / 10 := by omega
  have hq3 : n / 10 / 10 = 0 := by omega
  generalize hq : n / 10 = q at *
  generalize hm : n % 10 = m at *
  go_enter Tryz.func36, Tryz.ntmps36
  go_wp2
  refine wp_loop_rounds 3 ?_
  rw [rounds_succ]
  go_wp2_with (refine conv1 rfl _ rfl _ rfl (48 + m) (by omega) rfl ?_; intro t ht hte hts)
  have he := hte ⟨#[]⟩
  have hs1 : (t ++ ⟨#[]⟩).size = 1 := by rw [ByteArray.size_append, hts]; rfl
  rw [rounds_succ]
  go_wp2_with (refine conv1 rfl _ rfl _ (by simp) (48 + q) (by omega) rfl ?_; intro t2 ht2 hte2 hts2)
  have he2 := hte2 (t ++ ⟨#[]⟩)
  have hn : Hid (nums (t2 ++ (t ++ ⟨#[]⟩)) = digL n) := by show _ = _; rw [nums_app5, nums_app5, ht.out, ht2.out, hd.out]; rfl
  rw [rounds_succ]
  go_wp2
  go_ret
  exact ⟨_, rfl, hn.out, ((Below.refl _ _).alloc (Nat.le_refl _) _).alloc (by simp) _⟩
theorem l3Int_any (n : Int) (w : World) (h : 0 ≤ n ∧ n < 100) :
    Calls Tryz.prog 36 #[.int .i64 n] w fun e w' => ∃ t, e = .returned (.string t) ∧ nums t = digL n ∧ Below w.heap.size w w' := by
  by_cases h1 : n < 10
  · exact l3Int_1 n w ⟨h.1, h1⟩
  · exact l3Int_2 n w ⟨by omega, h.2⟩
end Go.Proofs.YtlmnhlfklbgjdaaGreatDoor
namespace Go.Proofs.YtlmnhlfklbgjdaaGreatDoor
open Go.ChangeShapes Go.WideShapes Go.ChangeAt Go.RowKit
theorem digL_len (n : Int) : (digL n).length ≤ 2 := by unfold digL; split <;> simp
theorem sepL_snoc (l : List Int) (j : Nat) (h : j < l.length) : sepL (l.take (j + 1)) = sepL (l.take j) ++ (if j = 0 then [] else [59]) ++ digL (l.getD j 0) := by
  match l with
  | [] => simp at h
  | x :: t =>
    cases j with
    | zero => simp [sepL]
    | succ j =>
      have h' : j < t.length := by simpa using h
      simp only [List.take_succ_cons, sepL]
      rw [List.take_succ_eq_append_getElem h', List.flatMap_append]
      simp [List.getD, h']
theorem sepL_len (l : List Int) : ∀ j, j ≤ l.length → (sepL (l.take j)).length ≤ 3 * j := by
  intro j
  induction j with
  | zero => intro _; simp [sepL]
  | succ j ih =>
    intro h
    rw [sepL_snoc l j (by omega)]
    have := ih (by omega)
    have := digL_len (l.getD j 0)
    generalize digL (l.getD j 0) = D at *
    simp only [List.length_append]
    split <;> simp <;> omega
def signN (a b : St) : List Int := if a.ok = true ∧ b.ok = true then signL (paramsL a b) else []

set_option maxRecDepth 20000 in
set_option maxHeartbeats 4000000 in
theorem l3Sign_any (a b : St) (w : World) (hok : b.ok = true) :
    Calls Tryz.prog 34 #[stV a, stV b] w fun e w' => ∃ t, e = .returned (.string t) ∧ nums t = signL (paramsL a b) ∧ Below w.heap.size w w' := by
  have hall := fun W => l3Params_any a b W hok
  have hbd := paramsL_bd a b hok
  have hl5 := paramsL_len a b
  have hS : Hid (paramsL a b ≠ [] → signL (paramsL a b) = [27, 91] ++ sepL (paramsL a b) ++ [109]) := by intro h; simp [signL, h]
  have hN : Hid (paramsL a b = [] → signL (paramsL a b) = []) := by intro h; simp [signL, h]
  generalize paramsL a b = L at *
  have hbA : Below w.heap.size w ((w.alloc (Obj.cells #[.int .i64 a.fore, .int .i64 a.back, .bool a.bold, .bool a.under, .bool a.turned] 28)).alloc (Obj.cells #[.int .i64 b.fore, .int .i64 b.back, .bool b.bold, .bool b.under, .bool b.turned] 28)) := ((Below.refl _ _).alloc (Nat.le_refl _) _).alloc (by simp) _
  unfold stV at *
  go_enter Tryz.func34, Tryz.ntmps34
  go_wp2_with fail
  refine (hall _).mono ?_
  clear hall
  rintro e w2 ⟨v, rfl, hb2, ho2⟩
  have kw := hbA.trans (hb2.mono hbA.size)
  have hL := SlI.of_own ho2
  clear hbA hb2 ho2
  obtain ⟨aa, c, rfl, hr⟩ := hL
  rcases hr with rfl | ⟨bb, off, rfl, hbb, hcl⟩
  · have hn := hN.out rfl
    clear hS hN
    go_wp2
    go_ret
    exact ⟨⟨#[]⟩, rfl, hn.symm, kw⟩
  · by_cases hne : L = []
    · subst hne
      have hn := hN.out rfl
      clear hS hN hcl
      go_wp2
      go_ret
      exact ⟨⟨#[]⟩, rfl, hn.symm, kw⟩
    · have hs := hS.out hne
      have hz : ((L.length : Int) == 0) = false := by simp; exact hne
      have HS : Hid (signL L = [27, 91] ++ sepL L ++ [109]) := hs
      clear hS hN hs
      go_wp2
      go_loopw [6, 7] (fun u i wr => ∃ (j : Nat) (t : ByteArray), i = .int .i64 j ∧ j ≤ L.length ∧ u = .string t ∧ t.size ≤ 2 + 3 * j ∧ Hid (nums t = [27, 91] ++ sepL (L.take j)) ∧ Below w2.heap.size w2 wr) (fun _ i _ => L.length - (intOf i).toNat)
      case atStart => exact ⟨0, _, rfl, Nat.zero_le _, rfl, by decide, (by show _ = _; rfl), Below.refl _ _⟩
      case round =>
        obtain ⟨j, t, rfl, hj, rfl, hts, htn, kb⟩ := hrel
        by_cases hlt : j < L.length
        · have hji : (j : Int) < (L.length : Int) := by omega
          have hcj := (kb.cell (p := ⟨bb, off + j, none⟩) hbb).trans (hcl j hlt)
          have hnj := hbd (L.getD j 0) (by have e : L.getD j 0 = L[j] := by simp [List.getD, hlt]
                                           rw [e]; exact List.getElem_mem hlt)
          have hsn : Hid (sepL (L.take (j + 1)) = sepL (L.take j) ++ (if j = 0 then [] else [59]) ++ digL (L.getD j 0)) := sepL_snoc L j hlt
          have hdl := digL_len (L.getD j 0)
          have hint := fun W => l3Int_any (L.getD j 0) W ⟨hnj.1, by omega⟩
          generalize L.getD j 0 = n at *
          clear hcl
          by_cases h0 : j = 0
          · have h0i : ¬ 0 < (j : Int) := by omega
            have H0 : Hid (j = 0) := h0
            clear h0
            go_wp2_with fail
            refine (hint _).mono ?_
            clear hint
            rintro e w3 ⟨q, rfl, hq, hb3⟩
            have hqs : q.size ≤ 2 := by rw [← nums_len, hq]; exact hdl
            have HQ : Hid (nums (t ++ q) = [27, 91] ++ sepL (L.take (j + 1))) := by
              show _ = _
              rw [nums_app5, htn.out, hq, hsn.out, if_pos H0.out]; simp
            have hsz : (t ++ q).size ≤ 2 + 3 * (j + 1) := by rw [ByteArray.size_append]; omega
            have kb3 := kb.trans (hb3.mono kb.size)
            clear hq hb3 kb
            go_wp2
            go_roundw
            case rel => exact ⟨j + 1, t ++ q, by go_num, by omega, rfl, hsz, HQ, kb3⟩
            case measure => simp [intOf]; omega
          · have h0i : 0 < (j : Int) := by omega
            go_wp2_with fail
            refine (hint _).mono ?_
            clear hint
            rintro e w3 ⟨q, rfl, hq, hb3⟩
            have hqs : q.size ≤ 2 := by rw [← nums_len, hq]; exact hdl
            have HQ : Hid (nums (t ++ ⟨#[59]⟩ ++ q) = [27, 91] ++ sepL (L.take (j + 1))) := by
              show _ = _
              rw [nums_app5, nums_app5, htn.out, hq, hsn.out, if_neg h0]
              have : nums ⟨#[59]⟩ = [59] := rfl
              rw [this]; simp
            have hsz : (t ++ ⟨#[59]⟩ ++ q).size ≤ 2 + 3 * (j + 1) := by
              rw [ByteArray.size_append, ByteArray.size_append]
              have : (⟨#[59]⟩ : ByteArray).size = 1 := rfl
              omega
            have hs1 : (t ++ ⟨#[59]⟩).size ≤ 3 + 3 * j := by
              rw [ByteArray.size_append]
              have : (⟨#[59]⟩ : ByteArray).size = 1 := rfl
              omega
            have kb3 := kb.trans (hb3.mono kb.size)
            clear hq hb3 kb
            go_wp2
            go_roundw
            case rel => exact ⟨j + 1, t ++ ⟨#[59]⟩ ++ q, by go_num, by omega, rfl, hsz, HQ, kb3⟩
            case measure => simp [intOf]; omega
        · have hjn : j = L.length := by omega
          have HF : Hid (nums (t ++ ⟨#[109]⟩) = signL L) := by
            show _ = _
            have h1 := htn.out
            rw [hjn, List.take_length] at h1
            have : nums ⟨#[109]⟩ = [109] := rfl
            rw [nums_app5, h1, this, HS.out]
          clear htn hcl
          go_wp2
          go_ret
          exact ⟨_, rfl, HF.out, kw.trans (kb.mono kw.size)⟩
end Go.Proofs.YtlmnhlfklbgjdaaGreatDoor
namespace Go.Proofs.YtlmnhlfklbgjdaaGreatDoor
open Go.ChangeShapes Go.WideShapes Go.ChangeAt Go.RowKit
def sgn (a b : St) : List Int := signL (paramsL a b)
def goL (r c : Int) : List Int := [27, 91] ++ digL (r + 1) ++ [59] ++ digL (c + 1) ++ [72]
def cutT (row : List Ce) : Nat → Nat
  | 0 => 0
  | n + 1 => if atC row n = blankC St.zero then cutT row n else n + 1
theorem cutT_le (row : List Ce) : ∀ n, cutT row n ≤ n
  | 0 => Nat.le_refl _
  | n + 1 => by rw [cutT]; split; have := cutT_le row n; omega; omega
def cellsU (row : List Ce) (s : St) : Nat → List Int × St
  | 0 => ([], s)
  | j + 1 => if (atC row j).part = 2 then cellsU row s j else ((cellsU row s j).1 ++ (sgn (cellsU row s j).2 (atC row j).st ++ nums (putS (atC row j).rune)), (atC row j).st)
def headL : List Int := [27, 99, 27, 91, 63, 55, 108]
def rowU (row : List Ce) (i : Nat) (s : St) : List Int × St := ((if 0 < cutT row row.length then goL i 0 else []) ++ (cellsU row s (cutT row row.length)).1, (cellsU row s (cutT row row.length)).2)
def rowsU (g : List (List Ce)) : Nat → List Int × St
  | 0 => (headL, St.zero)
  | i + 1 => ((rowsU g i).1 ++ (rowU (g.getD i []) i (rowsU g i).2).1, (rowU (g.getD i []) i (rowsU g i).2).2)
def endL (t : Te) (s : St) : List Int :=
  sgn s t.st ++ (if t.wrap = true then [27, 91, 63, 55, 104] else []) ++ (if t.top ≠ 0 ∨ t.bot ≠ (t.g.length : Int) - 1 then [27, 91] ++ digL (t.top + 1) ++ [59] ++ digL (t.bot + 1) ++ [114] else []) ++ goL t.row t.col ++ (if t.hid = true then [27, 91, 63, 50, 53, 108] else [])
def drawnL (t : Te) : List Int := if termOkB t then (rowsU t.g t.g.length).1 ++ endL t (rowsU t.g t.g.length).2 else []
theorem sgn_len (a b : St) : (sgn a b).length ≤ 18 := by
  unfold sgn signL
  split
  · simp
  · have h := paramsL_len a b
    have := sepL_len (paramsL a b) (paramsL a b).length (Nat.le_refl _)
    rw [List.take_length] at this
    simp only [List.length_append, List.length_cons, List.length_nil]
    omega
theorem goL_len (r c : Int) : (goL r c).length ≤ 8 := by
  unfold goL
  have := digL_len (r + 1)
  have := digL_len (c + 1)
  simp only [List.length_append, List.length_cons, List.length_nil]
  omega
theorem cellsU_len (row : List Ce) (s : St) : ∀ j, (cellsU row s j).1.length ≤ 22 * j
  | 0 => Nat.zero_le _
  | j + 1 => by
    have ih := cellsU_len row s j
    rw [cellsU]
    split
    · omega
    · have h1 := sgn_len (cellsU row s j).2 (atC row j).st
      have h2 : (nums (putS (atC row j).rune)).length ≤ 4 := by rw [nums_len]; exact putS_size4 _
      simp only [List.length_append]
      omega
theorem rowU_len (row : List Ce) (i : Nat) (s : St) (h : row.length ≤ 60) : (rowU row i s).1.length ≤ 1328 := by
  unfold rowU
  have h1 := cellsU_len row s (cutT row row.length)
  have h2 := cutT_le row row.length
  have h3 := goL_len i 0
  simp only [List.length_append]
  split
  · omega
  · simp only [List.length_nil]; omega
theorem rowsU_len (g : List (List Ce)) (h : ∀ i, i < g.length → (g.getD i []).length ≤ 60) : ∀ i, i ≤ g.length → (rowsU g i).1.length ≤ 7 + 1328 * i
  | 0, _ => by rw [rowsU]; simp [headL]
  | i + 1, hi => by
    have ih := rowsU_len g h i (by omega)
    have h1 := rowU_len (g.getD i []) i (rowsU g i).2 (h i (by omega))
    rw [rowsU]
    simp only [List.length_append]
    omega
theorem cellsU_ok (row : List Ce) (s : St) (hs : s.ok = true) (h : ∀ k, k < row.length → (atC row k).st.ok = true) : ∀ j, j ≤ row.length → (cellsU row s j).2.ok = true
  | 0, _ => hs
  | j + 1, hj => by
    rw [cellsU]
    split
    · exact cellsU_ok row s hs h j (by omega)
    · exact h j (by omega)
theorem rowsU_ok (g : List (List Ce)) (h : ∀ i, i < g.length → ∀ k, k < (g.getD i []).length → (atC (g.getD i []) k).st.ok = true) : ∀ i, i ≤ g.length → (rowsU g i).2.ok = true
  | 0, _ => by rw [rowsU]; decide
  | i + 1, hi => by
    rw [rowsU]
    exact cellsU_ok _ _ (rowsU_ok g h i (by omega)) (h i (by omega)) _ (cutT_le _ _)
theorem signN_sgn {a b : St} (ha : a.ok = true) (hb : b.ok = true) : signN a b = sgn a b := by
  unfold signN sgn; rw [if_pos ⟨ha, hb⟩]
theorem cutT_step {row : List Ce} {n : Nat} (h : atC row n = blankC St.zero) : cutT row (n + 1) = cutT row n := by rw [cutT, if_pos h]
theorem cutT_stop {row : List Ce} {n : Nat} (h : ¬ atC row n = blankC St.zero) : cutT row (n + 1) = n + 1 := by rw [cutT, if_neg h]
/-- What a right screen gives. -/
theorem right_te {t : Te} (h : termOkB t = true) : (1 ≤ t.g.length ∧ t.g.length ≤ 30) ∧ (∀ i, i < t.g.length → (t.g.getD i []).length ≤ 60) ∧ (∀ i, i < t.g.length → ∀ k, k < (t.g.getD i []).length → (atC (t.g.getD i []) k).st.ok = true) ∧ t.st.ok = true ∧ (0 ≤ t.top ∧ t.top ≤ 29) ∧ (0 ≤ t.bot ∧ t.bot ≤ (t.g.length : Int) - 1) ∧ (0 ≤ t.row ∧ t.row ≤ 29) ∧ 0 ≤ t.col ∧ t.col ≤ 59 := by
  unfold termOkB at h
  simp only [Bool.and_eq_true, decide_eq_true_eq] at h
  obtain ⟨⟨h1, _⟩, ⟨h2, _⟩, h3, _, ⟨h4, _⟩, _⟩ := h
  obtain ⟨a1, a2, a3⟩ := (gridOk_iff t.gc t.g).1 h1
  unfold cellB at h2
  simp only [Bool.and_eq_true, decide_eq_true_eq] at h2
  have hf : ∀ i, i < t.g.length → ((t.g.getD i []).length : Int) = t.gc ∧ rowOkB (t.g.getD i []) = true := fun i hi => by
    have := a3 i hi
    unfold fitB at this
    rwa [Bool.and_eq_true, decide_eq_true_eq] at this
  refine ⟨a2, fun i hi => by have := (hf i hi).1; omega, fun i hi k hk => ?_, h4, by omega, by omega, by omega, by omega, by omega⟩
  have hr := (hf i hi).2
  unfold rowOkB at hr
  rw [Bool.and_eq_true, List.all_eq_true] at hr
  have := hr.2 k (List.mem_range.2 hk)
  unfold cellOkB at this
  rw [Bool.and_eq_true] at this
  exact this.1
end Go.Proofs.YtlmnhlfklbgjdaaGreatDoor
namespace Go.Proofs.YtlmnhlfklbgjdaaGreatDoor
open Go.ChangeShapes Go.WideShapes Go.ChangeAt Go.RowKit
set_option maxRecDepth 20000 in
theorem small_1 (n : Int) (w : World) (h : 0 ≤ n ∧ n < 10) :
    Calls Tryz.prog 174 #[.int .i64 n] w fun e w' => ∃ t, e = .returned (.string t) ∧ nums t = digL n ∧ w' = w := by
  obtain ⟨h0, h1⟩ := h
  have hd : Hid (digL n = [48 + n]) := by show _ = _; simp [digL]; omega
  go_enter Tryz.func174, Tryz.ntmps174
  go_wp2
  go_ret
  refine ⟨_, rfl, ?_, rfl⟩
  rw [hd.out]
  obtain ⟨k, rfl⟩ : ∃ k : Nat, n = k := ⟨n.toNat, by omega⟩
  have hk : k < 10 := by omega
  clear hd h0 h1
  rename_i x
  clear x
  revert k
  decide +kernel
set_option maxRecDepth 20000 in
theorem small_2 (n : Int) (w : World) (h : 10 ≤ n ∧ n < 100) :
    Calls Tryz.prog 174 #[.int .i64 n] w fun e w' => ∃ t, e = .returned (.string t) ∧ nums t = digL n ∧ w' = w := by
  obtain ⟨h0, h1⟩ := h
  have hd : Hid (digL n = [48 + n / 10, 48 + n % 10]) := by show _ = _; simp [digL]; omega
  go_enter Tryz.func174, Tryz.ntmps174
  go_wp2
  go_ret
  refine ⟨_, rfl, ?_, rfl⟩
  rw [hd.out]
  obtain ⟨k, rfl⟩ : ∃ k : Nat, n = (k + 10 : Nat) := ⟨(n - 10).toNat, by omega⟩
  have hk : k < 90 := by omega
  clear hd h0 h1
  rename_i x
  clear x
  revert k
  decide +kernel
theorem small_any (n : Int) (w : World) (h : 0 ≤ n ∧ n < 100) :
    Calls Tryz.prog 174 #[.int .i64 n] w fun e w' => ∃ t, e = .returned (.string t) ∧ nums t = digL n ∧ w' = w := by
  by_cases h1 : n < 10
  · exact small_1 n w ⟨h.1, h1⟩
  · exact small_2 n w ⟨by omega, h.2⟩
end Go.Proofs.YtlmnhlfklbgjdaaGreatDoor
namespace Go.Proofs.YtlmnhlfklbgjdaaGreatDoor
open Go.ChangeShapes Go.WideShapes Go.ChangeAt Go.RowKit
theorem info_u8s : (Tryz.prog.info? 5).map (fun i => (i.zero, i.size, i.bytes)) = some (some (.int .u8 0), 1, 1) := by kernel_rfl
theorem strCells_n (s : ByteArray) : Lib.strCells s = (nums s).map (Value.int .u8) := by
  simp [Lib.strCells, nums]
/-- A row of bytes without room (what '[]byte("..")' of a constant lays): its cells can be read, no more is known. -/
def FullB (base : Nat) (v : Value) (L : List Int) (w : World) : Prop := ∃ g, v = .slice (some ⟨g, 0, none⟩) L.length L.length ∧ base ≤ g ∧ g < w.heap.size ∧ ∀ j, j < L.length → w.cell? ⟨g, j, none⟩ = some (.int .u8 (L.getD j 0))
/-- A row of this call's own, or one without room. -/
def RowB (base : Nat) (v : Value) (L : List Int) (w : World) : Prop := w.ownsRow base 5 1 v L.length (L.map (Value.int .u8)) ∨ FullB base v L w
theorem RowB.lt {base : Nat} {v : Value} {L : List Int} {w : World} (h : RowB base v L w) : ∀ g, v.ownBlock = some g → base ≤ g := by
  intro g hg
  rcases h with h | ⟨g', rfl, hb, _⟩
  · exact (h.lt g hg).1
  · simp [Value.ownBlock] at hg; omega
theorem append_full {w : World} {ops : Array Oper} {rest : List Oper} {o : Oper} {a : Act} {Q : Exit → Act → World → Prop} (hgd : o.guard = none) (sl x : Operand)
    (ho : o.op = .call { callee := .builtin .append, args := #[sl, x], argTypes := #[22, 9] })
    (base : Nat) (v : Value) (L : List Int) (hs : a.eval sl = v) (hk : FullB base v L w) (s : ByteArray) (hx : a.eval x = .string s) (h0 : 0 < s.size)
    (hl : L.length + s.size ≤ 140737488355328) (hbase : base ≤ w.heap.size)
    (h : ∀ v' w', w'.ownsRow base 5 1 v' (L.length + s.size) (L.map (Value.int .u8) ++ Lib.strCells s) → w.grownBy w' v.ownBlock → wpList Tryz.prog ops Q rest (a.put o.dst v') w') : wpList Tryz.prog ops Q (o :: rest) a w := by
  obtain ⟨i0, hi, hz0, hz1, hz2⟩ := info_parts info_u8s
  obtain ⟨g, rfl, hb, hg, hc⟩ := hk
  refine wpList_plain hgd fun K hK => ?_
  have holds : ∀ j u, (L.map (Value.int .u8))[j]? = some u → w.cell? ((⟨g, 0, none⟩ : Addr).add j) = some u := by
    intro j u hj
    have hj' : j < L.length := by have := (List.getElem?_eq_some_iff.1 hj).1; simpa using this
    have e : (⟨g, 0, none⟩ : Addr).add j = ⟨g, j, none⟩ := by unfold Addr.add; split <;> simp_all
    rw [e, hc j hj']
    simp [List.getElem?_eq_getElem hj'] at hj
    simp [← hj, List.getD, hj']
  have hr := Lib.run_append_grow_string (P := Tryz.prog) w 22 9 o.type 5 i0 (.int .u8 0) Tryz.underlying22 Tryz.underlying9 hi hz0 ⟨g, 0, none⟩ L.length L.length (L.map (Value.int .u8)) (by rw [hz1]; simp) holds s (by omega) (by omega) (by rw [hz2]; exact growslice_fits (by omega) (by omega))
  unfold Oper.wp execOp
  simp only [ho, resolve, invoke, builtin, Sem.run_bind, Sem.run_pure, Result.andThen_ok, List.map_toArray, List.map_cons, List.map_nil, hs, hx, hr]
  refine hK _ _ (h _ _ ?_ ⟨rfl, rfl, rfl, by simp, fun k hk _ => heap_alloc_old w.drew _ hk⟩)
  have hge := grownCap_ge w (L.length + s.size) L.length 5
  have hcm : grownCap w (L.length + s.size) L.length 5 ≤ maxLen := grownCap_le_maxLen w (L.length + s.size) L.length 5 (by unfold maxLen; omega)
  have hlen : (L.map (Value.int .u8) ++ Lib.strCells s).length = (L.length + s.size) * 1 := by rw [List.length_append, List.length_map, Lib.strCells_length, Nat.mul_one]
  refine ⟨hlen, .inr ⟨w.heap.size, _, _, rfl, hbase, heap_alloc_new w.drew _, hge, hcm, ?_, ?_⟩⟩
  · have hz1 : (Value.int IntKind.u8 0).cells.size = 1 := rfl
    simp only [Array.size_append, List.size_toArray, size_zeroCells, hz1, List.length_map, Lib.strCells_length]
    omega
  · simp only [Array.toList_append, List.append_assoc]
    rw [← List.append_assoc, ← hlen]
    exact List.take_left
theorem append_row {w : World} {ops : Array Oper} {rest : List Oper} {o : Oper} {a : Act} {Q : Exit → Act → World → Prop} (hgd : o.guard = none) (sl x : Operand)
    (ho : o.op = .call { callee := .builtin .append, args := #[sl, x], argTypes := #[22, 9] })
    (base : Nat) (v : Value) (L : List Int) (hs : a.eval sl = v) (hk : RowB base v L w) (s : ByteArray) (hx : a.eval x = .string s) (h0 : 0 < s.size)
    (hl : L.length + s.size ≤ 140737488355328) (hbase : base ≤ w.heap.size)
    (h : ∀ v' w', w'.ownsRow base 5 1 v' (L.length + s.size) (L.map (Value.int .u8) ++ Lib.strCells s) → w.grownBy w' v.ownBlock → wpList Tryz.prog ops Q rest (a.put o.dst v') w') : wpList Tryz.prog ops Q (o :: rest) a w := by
  rcases hk with hk | hk
  · obtain ⟨i0, hi, hz0, hz1, hz2⟩ := info_parts info_u8s
    exact Lib.wpList_append_own_string _ hgd sl x _ _ ho base _ i0 Tryz.underlying22 Tryz.underlying9 hi hz0 hz1 hz2 v L.length _ hs hk s hx (by unfold maxLen; omega) (by omega) hbase (fun v' w' h1 h2 _ => h v' w' h1 h2)
  · exact append_full hgd sl x ho base v L hs hk s hx h0 hl hbase h
set_option maxRecDepth 20000 in
set_option maxHeartbeats 1000000 in
theorem appendUint_s (base : Nat) (v : Value) (L : List Int) (n : Int) (w : World) (h : 0 ≤ n ∧ n < 100) (hown : RowB base v L w) (hl : L.length ≤ 1048576) (hb : base ≤ w.heap.size) :
    Calls Tryz.prog 166 #[v, .int .u64 n, .int .i64 10] w fun e w' => ∃ v', e = .returned v' ∧ w'.ownsRow base 5 1 v' (L ++ digL n).length ((L ++ digL n).map (Value.int .u8)) ∧ w.grownBy w' v.ownBlock := by
  obtain ⟨h0, h1⟩ := h
  have hs := fun W => small_any n W ⟨h0, h1⟩
  go_enter Tryz.func166, Tryz.ntmps166
  go_wp2_with fail
  refine (hs _).mono ?_
  rintro e w' ⟨t, rfl, ht, rfl⟩
  have hts : t.size = (digL n).length := by rw [← nums_len, ht]
  have hd2 : (digL n).length ≤ 2 := by unfold digL; split <;> simp
  have HT : Hid (nums t = digL n) := ht
  have HTS : Hid (t.size = (digL n).length) := hts
  have h2 : t.size ≤ 2 := by omega
  have hp : 0 < t.size := by rw [hts]; unfold digL; split <;> simp
  clear hs ht hts hd2
  go_wp2_with (at_builtin; refine append_row rfl _ _ rfl base v L rfl hown t rfl hp (by omega) hb ?_; intro v' w1 hown' hg')
  go_ret
  refine ⟨v', rfl, ?_, hg'⟩
  rw [strCells_n, HT.out, HTS.out, ← List.map_append, ← List.length_append] at hown'
  exact hown'
set_option maxRecDepth 20000 in
set_option maxHeartbeats 1000000 in
theorem appendInt_s (base : Nat) (v : Value) (L : List Int) (n : Int) (w : World) (h : 0 ≤ n ∧ n < 100) (hown : RowB base v L w) (hl : L.length ≤ 1048576) (hb : base ≤ w.heap.size) :
    Calls Tryz.prog 111 #[v, .int .i64 n, .int .i64 10] w fun e w' => ∃ v', e = .returned v' ∧ w'.ownsRow base 5 1 v' (L ++ digL n).length ((L ++ digL n).map (Value.int .u8)) ∧ w.grownBy w' v.ownBlock := by
  obtain ⟨h0, h1⟩ := h
  have hu := appendUint_s base v L n w ⟨h0, h1⟩ hown hl hb
  have hw : n % 18446744073709551616 = n := by omega
  go_enter Tryz.func111, Tryz.ntmps111
  go_wp2_with (first
    | (go_at_call 166; refine hu.mono ?_; rintro e w' ⟨v', rfl, ho, hg⟩)
    | (go_at_call 139; go_in))
  go_ret
  exact ⟨v', rfl, ho, hg⟩
end Go.Proofs.YtlmnhlfklbgjdaaGreatDoor
