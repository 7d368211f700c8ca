/- Contracts of Sign as the specification has it. -/
import Derived.Test.YtjcoebabipmmhaaDoorS4
import Derived.Test.YtjcoebabipmmhaaDoorS5
namespace Go.Proofs.YtjcoebabipmmhaaDoor
open Go.ChangeShapes Go.WideShapes Go.ChangeAt Go.RowKit

theorem digL_len (n : Int) : (digL n).length ≤ 2 := by unfold digL; split <;> simp
theorem sepL_snoc (l : List Int) (j : Nat) (h : j < l.length) : sepL (l.take (j + 1)) = sepL (l.take j) ++ (if j = 0 then [] else [59]) ++ digL (l.getD j 0) := by
  match l with
  | [] => simp at h
  | x :: t =>
    cases j with
    | zero => simp [sepL]
    | succ j =>
      have h' : j < t.length := by simpa using h
      simp only [List.take_succ_cons, sepL]
      rw [List.take_succ_eq_append_getElem h', List.flatMap_append]
      simp [List.getD, h']
theorem sepL_len (l : List Int) : ∀ j, j ≤ l.length → (sepL (l.take j)).length ≤ 3 * j := by
  intro j
  induction j with
  | zero => intro _; simp [sepL]
  | succ j ih =>
    intro h
    rw [sepL_snoc l j (by omega)]
    have := ih (by omega)
    have := digL_len (l.getD j 0)
    generalize digL (l.getD j 0) = D at *
    simp only [List.length_append]
    split <;> simp <;> omega
def signN (a b : St) : List Int := if a.ok = true ∧ b.ok = true then signL (paramsL a b) else []

set_option maxHeartbeats 4000000 in
theorem l3Sign_any (a b : St) (w : World) (hok : b.ok = true) :
    Calls Tryd.prog 38 #[stV a, stV b] w fun e w' => ∃ t, e = .returned (.string t) ∧ nums t = signL (paramsL a b) ∧ Below w.heap.size w w' := by
  have hall := fun W => l3Params_any a b W hok
  have hbd := paramsL_bd a b hok
  have hl5 := paramsL_len a b
  have hS : Hid (paramsL a b ≠ [] → signL (paramsL a b) = [27, 91] ++ sepL (paramsL a b) ++ [109]) := by intro h; simp [signL, h]
  have hN : Hid (paramsL a b = [] → signL (paramsL a b) = []) := by intro h; simp [signL, h]
  generalize paramsL a b = L at *
  have hbA : Below w.heap.size w ((w.alloc (Obj.cells #[.int .i64 a.fore, .int .i64 a.back, .bool a.bold, .bool a.under, .bool a.turned] 25)).alloc (Obj.cells #[.int .i64 b.fore, .int .i64 b.back, .bool b.bold, .bool b.under, .bool b.turned] 25)) := ((Below.refl _ _).alloc (Nat.le_refl _) _).alloc (by simp) _
  unfold stV at *
  go_enter Tryd.func38, Tryd.ntmps38
  go_wp2_with fail
  refine (hall _).mono ?_
  clear hall
  rintro e w2 ⟨v, rfl, hb2, ho2⟩
  have kw := hbA.trans (hb2.mono hbA.size)
  have hL := SlI.of_own ho2
  clear hbA hb2 ho2
  obtain ⟨aa, c, rfl, hr⟩ := hL
  rcases hr with rfl | ⟨bb, off, rfl, hbb, hcl⟩
  · have hn := hN.out rfl
    clear hS hN
    go_wp2
    go_ret
    exact ⟨⟨#[]⟩, rfl, hn.symm, kw⟩
  · by_cases hne : L = []
    · subst hne
      have hn := hN.out rfl
      clear hS hN hcl
      go_wp2
      go_ret
      exact ⟨⟨#[]⟩, rfl, hn.symm, kw⟩
    · have hs := hS.out hne
      have hz : ((L.length : Int) == 0) = false := by simp; exact hne
      have HS : Hid (signL L = [27, 91] ++ sepL L ++ [109]) := hs
      clear hS hN hs
      go_wp2
      go_loopw [6, 7] (fun u i wr => ∃ (j : Nat) (t : ByteArray), i = .int .i64 j ∧ j ≤ L.length ∧ u = .string t ∧ t.size ≤ 2 + 3 * j ∧ Hid (nums t = [27, 91] ++ sepL (L.take j)) ∧ Below w2.heap.size w2 wr) (fun _ i _ => L.length - (intOf i).toNat)
      case atStart => exact ⟨0, _, rfl, Nat.zero_le _, rfl, by decide, (by show _ = _; rfl), Below.refl _ _⟩
      case round =>
        obtain ⟨j, t, rfl, hj, rfl, hts, htn, kb⟩ := hrel
        by_cases hlt : j < L.length
        · have hji : (j : Int) < (L.length : Int) := by omega
          have hcj := (kb.cell (p := ⟨bb, off + j, none⟩) hbb).trans (hcl j hlt)
          have hnj := hbd (L.getD j 0) (by have e : L.getD j 0 = L[j] := by simp [List.getD, hlt]
                                           rw [e]; exact List.getElem_mem hlt)
          have hsn : Hid (sepL (L.take (j + 1)) = sepL (L.take j) ++ (if j = 0 then [] else [59]) ++ digL (L.getD j 0)) := sepL_snoc L j hlt
          have hdl := digL_len (L.getD j 0)
          have hint := fun W => l3Int_any (L.getD j 0) W ⟨hnj.1, by omega⟩
          generalize L.getD j 0 = n at *
          clear hcl
          by_cases h0 : j = 0
          · have h0i : ¬ 0 < (j : Int) := by omega
            have H0 : Hid (j = 0) := h0
            clear h0
            go_wp2_with fail
            refine (hint _).mono ?_
            clear hint
            rintro e w3 ⟨q, rfl, hq, hb3⟩
            have hqs : q.size ≤ 2 := by rw [← nums_len, hq]; exact hdl
            have HQ : Hid (nums (t ++ q) = [27, 91] ++ sepL (L.take (j + 1))) := by
              show _ = _
              rw [nums_app5, htn.out, hq, hsn.out, if_pos H0.out]; simp
            have hsz : (t ++ q).size ≤ 2 + 3 * (j + 1) := by rw [ByteArray.size_append]; omega
            have kb3 := kb.trans (hb3.mono kb.size)
            clear hq hb3 kb
            go_wp2
            go_roundw
            case rel => exact ⟨j + 1, t ++ q, by go_num, by omega, rfl, hsz, HQ, kb3⟩
            case measure => simp [intOf]; omega
          · have h0i : 0 < (j : Int) := by omega
            go_wp2_with fail
            refine (hint _).mono ?_
            clear hint
            rintro e w3 ⟨q, rfl, hq, hb3⟩
            have hqs : q.size ≤ 2 := by rw [← nums_len, hq]; exact hdl
            have HQ : Hid (nums (t ++ ⟨#[59]⟩ ++ q) = [27, 91] ++ sepL (L.take (j + 1))) := by
              show _ = _
              rw [nums_app5, nums_app5, htn.out, hq, hsn.out, if_neg h0]
              have : nums ⟨#[59]⟩ = [59] := rfl
              rw [this]; simp
            have hsz : (t ++ ⟨#[59]⟩ ++ q).size ≤ 2 + 3 * (j + 1) := by
              rw [ByteArray.size_append, ByteArray.size_append]
              have : (⟨#[59]⟩ : ByteArray).size = 1 := rfl
              omega
            have hs1 : (t ++ ⟨#[59]⟩).size ≤ 3 + 3 * j := by
              rw [ByteArray.size_append]
              have : (⟨#[59]⟩ : ByteArray).size = 1 := rfl
              omega
            have kb3 := kb.trans (hb3.mono kb.size)
            clear hq hb3 kb
            go_wp2
            go_roundw
            case rel => exact ⟨j + 1, t ++ ⟨#[59]⟩ ++ q, by go_num, by omega, rfl, hsz, HQ, kb3⟩
            case measure => simp [intOf]; omega
        · have hjn : j = L.length := by omega
          have HF : Hid (nums (t ++ ⟨#[109]⟩) = signL L) := by
            show _ = _
            have h1 := htn.out
            rw [hjn, List.take_length] at h1
            have : nums ⟨#[109]⟩ = [109] := rfl
            rw [nums_app5, h1, this, HS.out]
          clear htn hcl
          go_wp2
          go_ret
          exact ⟨_, rfl, HF.out, kw.trans (kb.mono kw.size)⟩
end Go.Proofs.YtjcoebabipmmhaaDoor
