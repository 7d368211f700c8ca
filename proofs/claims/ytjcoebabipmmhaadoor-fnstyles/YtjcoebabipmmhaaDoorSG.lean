/- Contract of Sign as the program has it. -/
import Derived.Test.YtjcoebabipmmhaaDoorAI1
import Derived.Test.YtjcoebabipmmhaaDoorSP2
import Derived.Test.YtjcoebabipmmhaaDoorS6
namespace Go.Proofs.YtjcoebabipmmhaaDoor
open Go.ChangeShapes Go.WideShapes Go.ChangeAt Go.RowKit

/-- A row of bytes of this call's own. -/
def BK (base : Nat) (v : Value) (L : List Int) (w0 W : World) : Prop := W.ownsRow base 5 1 v L.length (L.map (Value.int .u8)) ∧ Below w0.heap.size w0 W ∧ base ≤ W.heap.size ∧ w0.heap.size ≤ base
theorem BK.below {base : Nat} {v : Value} {L : List Int} {w0 W W' : World} (k : BK base v L w0 W) (hb : Below W.heap.size W W') : BK base v L w0 W' :=
  ⟨k.1.below hb, k.2.1.trans (hb.mono k.2.1.size), Nat.le_trans k.2.2.1 hb.size, k.2.2.2⟩
theorem BK.own {base : Nat} {v v' : Value} {L L' : List Int} {w0 W W' : World} (k : BK base v L w0 W) (ho : W'.ownsRow base 5 1 v' L'.length (L'.map (Value.int .u8))) (hg : W.grownBy W' v.ownBlock) : BK base v' L' w0 W' :=
  ⟨ho, k.2.1.grown hg k.2.1.size (fun g e => Nat.le_trans k.2.2.2 (k.1.lt g e).1), Nat.le_trans k.2.2.1 hg.size, k.2.2.2⟩
/-- The same, or a row without room. -/
def BR (base : Nat) (v : Value) (L : List Int) (w0 W : World) : Prop := RowB base v L W ∧ Below w0.heap.size w0 W ∧ base ≤ W.heap.size ∧ w0.heap.size ≤ base
theorem BK.br {base : Nat} {v : Value} {L : List Int} {w0 W : World} (k : BK base v L w0 W) : BR base v L w0 W := ⟨.inl k.1, k.2⟩
theorem BR.own {base : Nat} {v v' : Value} {L L' : List Int} {w0 W W' : World} (k : BR base v L w0 W) (ho : W'.ownsRow base 5 1 v' L'.length (L'.map (Value.int .u8))) (hg : W.grownBy W' v.ownBlock) : BK base v' L' w0 W' :=
  ⟨ho, k.2.1.grown hg k.2.1.size (fun g e => Nat.le_trans k.2.2.2 (k.1.lt g e)), Nat.le_trans k.2.2.1 hg.size, k.2.2.2⟩
theorem append_bk {w : World} {ops : Array Oper} {rest : List Oper} {o : Oper} {ac : Act} {Q : Exit → Act → World → Prop} (hgd : o.guard = none) (s x : Operand)
    (ho : o.op = .call { callee := .builtin .append, args := #[s, x], argTypes := #[22, 22] })
    (base : Nat) (v : Value) (L : List Int) (w0 : World) (y : Int) (hs : ac.eval s = v) (k : BK base v L w0 w) (hl : L.length < 1000000)
    (g : Nat) (hg0 : w.heap.size = g) (hx : ac.eval x = .slice (some ⟨g, 0, none⟩) 1 1)
    (h : ∀ v' w', BK base v' (L ++ [y]) w0 w' → wpList Tryd.prog ops Q rest (ac.put o.dst v') w') :
    wpList Tryd.prog ops Q (o :: rest) ac (w.alloc (.cells #[.int .u8 y] 5)) := by
  subst hg0
  obtain ⟨i0, hi, hz0, hz1, hz2⟩ := info_parts info_u8s
  have kb := k.below (bal' w (Obj.cells #[.int .u8 y] 5))
  refine wpList_append_own _ hgd s x _ ho base 5 i0 (.int .u8 0) 1 1 Tryd.underlying22 hi hz0 hz1 hz2 rfl (by decide) v L.length _ hs kb.1 ⟨w.heap.size, 0, none⟩ 1 1 [.int .u8 y] hx rfl ?_ (by intro u hu; simp at hu; subst hu; rfl) (by unfold maxLen; omega) (by omega) kb.2.2.1 (fun v' w' ho' hg' _ => ?_)
  · intro j u hj
    match j, hj with
    | 0, hj => simp at hj; subst hj; simp [Addr.add]
  · refine h v' w' (kb.own ?_ hg')
    rw [List.length_append, List.map_append]
    simpa using ho'
theorem conv_bk {base : Nat} {v : Value} {L : List Int} {w0 W : World} (h : BK base v L w0 W) :
    (convert 22 9 v).run Tryd.prog W = .ok (.string (strOfNums L)) W := by
  rcases h.1.2 with ⟨rfl, h2⟩ | ⟨g, cap, cur, rfl, _⟩
  · have : L = [] := List.eq_nil_of_length_eq_zero h2
    subst this
    exact run_convert_bytes_nil W _ _ Tryd.underlying22 Tryd.underlying5 0 0 _ Tryd.underlying9
  · refine run_convert_bytes_arg W _ _ Tryd.underlying22 Tryd.underlying5 g 0 L.length cap L rfl ?_ _ Tryd.underlying9
    intro i hi
    rw [Nat.zero_add, h.1.cellAt i (by omega)]
    simp [hi]
theorem appendInt_bk (base : Nat) (v : Value) (L : List Int) (n : Int) (w0 w : World) (h : 0 ≤ n ∧ n < 100) (k : BR base v L w0 w) (hl : L.length ≤ 1048576) :
    Calls Tryd.prog 35 #[v, .int .i64 n, .int .i64 10] w fun e w' => ∃ v', e = .returned v' ∧ BK base v' (L ++ digL n) w0 w' :=
  (appendInt_s base v L n w h k.1 hl k.2.2.1).mono fun _ _ ⟨v', he, ho, hg⟩ => ⟨v', he, k.own ho hg⟩
theorem digL_bd (n : Int) (h : 0 ≤ n ∧ n < 100) : ∀ x ∈ digL n, 0 ≤ x ∧ x < 256 := by
  unfold digL
  intro x hx
  split at hx <;> simp at hx <;> omega
theorem sepL_bd (l : List Int) (h : ∀ n ∈ l, 0 ≤ n ∧ n < 100) : ∀ x ∈ sepL l, 0 ≤ x ∧ x < 256 := by
  intro x hx
  cases l with
  | nil => simp [sepL] at hx
  | cons n t =>
    simp only [sepL, List.mem_append, List.mem_flatMap, List.mem_cons] at hx
    rcases hx with hx | ⟨m, hm, rfl | hx⟩
    · exact digL_bd n (h n (by simp)) x hx
    · omega
    · exact digL_bd m (h m (by simp [hm])) x hx
theorem signN_is (a b : St) : signN a b = signL (paramsV a b) := by
  unfold signN paramsV
  split
  · rfl
  · simp [signL]
theorem paramsV_bd (a b : St) : ∀ n ∈ paramsV a b, 0 ≤ n ∧ n < 100 := by
  intro n hn
  unfold paramsV at hn
  split at hn
  · rename_i h; have := paramsL_bd a b h.2 n hn; omega
  · simp at hn
set_option maxHeartbeats 4000000 in
theorem implSign_any (a b : St) (w : World) :
    Calls Tryd.prog 10 #[stV a, stV b] w fun e w' => ∃ t, e = .returned (.string t) ∧ nums t = signN a b ∧ Below w.heap.size w w' := by
  rw [signN_is]
  have hall := fun W => implParams_any a b W
  have hbd := paramsV_bd a b
  have hl5 : (paramsV a b).length ≤ 5 := by unfold paramsV; split; exact paramsL_len a b; simp
  have hS : Hid (paramsV a b ≠ [] → signL (paramsV a b) = [27, 91] ++ sepL (paramsV a b) ++ [109]) := by intro h; simp [signL, h]
  have hN : Hid (paramsV a b = [] → signL (paramsV a b) = []) := by intro h; simp [signL, h]
  generalize paramsV a b = L at *
  have hbA : Below w.heap.size w ((w.alloc (Obj.cells #[.int .i64 a.fore, .int .i64 a.back, .bool a.bold, .bool a.under, .bool a.turned] 25)).alloc (Obj.cells #[.int .i64 b.fore, .int .i64 b.back, .bool b.bold, .bool b.under, .bool b.turned] 25)) := ((Below.refl _ _).alloc (Nat.le_refl _) _).alloc (by simp) _
  unfold stV at *
  go_enter Tryd.func10, Tryd.ntmps10
  go_wp2_with fail
  refine (hall _).mono ?_
  clear hall
  rintro e w2 ⟨v, rfl, hb2, ho2⟩
  have kw := hbA.trans (hb2.mono hbA.size)
  have hL := SlI.of_own ho2
  clear hbA hb2 ho2
  obtain ⟨aa, c, rfl, hr⟩ := hL
  rcases hr with rfl | ⟨bb, off, rfl, hbb, hcl⟩
  · have hn := hN.out rfl
    clear hS hN
    go_wp2
    go_ret
    exact ⟨⟨#[]⟩, rfl, hn.symm, kw⟩
  · by_cases hne : L = []
    · subst hne
      have hn := hN.out rfl
      clear hS hN hcl
      go_wp2
      go_ret
      exact ⟨⟨#[]⟩, rfl, hn.symm, kw⟩
    · have hs := hS.out hne
      have hz : ((L.length : Int) == 0) = false := by simp; exact hne
      have HS : Hid (signL L = [27, 91] ++ sepL L ++ [109]) := hs
      have HB : Hid (∀ x ∈ [27, 91] ++ sepL L ++ [109], (0 : Int) ≤ x ∧ x < 256) := by
        show ∀ x ∈ _, _
        intro x hx
        simp only [List.mem_append, List.mem_cons, List.not_mem_nil, or_false] at hx
        rcases hx with ((rfl | rfl) | hx) | rfl
        · omega
        · omega
        · exact sepL_bd L hbd x hx
        · omega
      clear hS hN hs
      have k0 : BR w2.heap.size (.slice (some ⟨w2.heap.size, 0, none⟩) 2 2) [27, 91] w2 (w2.alloc (Obj.cells #[.int .u8 27, .int .u8 91] 5 (2, 3))) := by
        refine ⟨.inr ⟨_, rfl, Nat.le_refl _, by simp, fun j hj => ?_⟩, bal' _ _, by simp, Nat.le_refl _⟩
        match j, hj with
        | 0, _ => rw [cell_of_row _ w2.heap.size 0 _ _ (2, 3) (heap_alloc_new w2 _)]; rfl
        | 1, _ => rw [cell_of_row _ w2.heap.size 1 _ _ (2, 3) (heap_alloc_new w2 _)]; rfl
        | j + 2, hj => exact absurd hj (by simp)
      have kc := fun (w : World) (C : Array Value) (n c : Nat) => Lib.run_convert_bytes_const (P := Tryd.prog) w 22 5 C n c Tryd.underlying22 Tryd.underlying5
      go_wp2
      go_loopw [6, 19] (fun u i wr => ∃ (j : Nat), i = .int .i64 j ∧ j ≤ L.length ∧ BR w2.heap.size u ([27, 91] ++ sepL (L.take j)) w2 wr ∧ (0 < j → BK w2.heap.size u ([27, 91] ++ sepL (L.take j)) w2 wr)) (fun _ i _ => L.length - (intOf i).toNat)
      case atStart => exact ⟨0, rfl, Nat.zero_le _, k0, fun h => absurd h (Nat.lt_irrefl 0)⟩
      case round =>
        clear k0 kc
        obtain ⟨j, rfl, hj, hk, hk0⟩ := hrel
        by_cases hlt : j < L.length
        · have hji : (j : Int) < (L.length : Int) := by omega
          have hcj := (hk.2.1.cell (p := ⟨bb, off + j, none⟩) hbb).trans (hcl j hlt)
          have hnj := hbd (L.getD j 0) (by have e : L.getD j 0 = L[j] := by simp [List.getD, hlt]
                                           rw [e]; exact List.getElem_mem hlt)
          have hsn : Hid ([27, 91] ++ sepL (L.take (j + 1)) = ([27, 91] ++ sepL (L.take j)) ++ (if j = 0 then [] else [59]) ++ digL (L.getD j 0)) := by show _ = _; rw [sepL_snoc L j hlt]; simp
          have hlen : ([27, 91] ++ sepL (L.take j)).length ≤ 2 + 3 * j := by have := sepL_len L j (by omega); simp; omega
          have hint := fun v T W hk hl => appendInt_bk w2.heap.size v T (L.getD j 0) w2 W ⟨hnj.1, by omega⟩ hk hl
          generalize L.getD j 0 = n at *
          generalize [27, 91] ++ sepL (L.take j) = T at *
          clear hcl
          by_cases h0 : j = 0
          · have h0i : ¬ 0 < (j : Int) := by omega
            have hsn' : Hid ([27, 91] ++ sepL (L.take (j + 1)) = T ++ digL n) := by show _ = _; rw [hsn.out, if_pos h0]; simp
            clear h0 hsn hk0
            go_wp2_with fail
            refine (hint _ _ _ hk (by omega)).mono ?_
            clear hint
            rintro e w3 ⟨v', rfl, hk3⟩
            clear hk
            go_wp2
            go_roundw
            case rel => exact ⟨j + 1, by go_num, by omega, by rw [hsn'.out]; exact hk3.br, fun _ => by rw [hsn'.out]; exact hk3⟩
            case measure => simp [intOf]; omega
          · have h0i : 0 < (j : Int) := by omega
            have hsn' : Hid ([27, 91] ++ sepL (L.take (j + 1)) = (T ++ [59]) ++ digL n) := by show _ = _; rw [hsn.out, if_neg h0]
            have hkk := hk0 (by omega)
            clear h0 hsn hk0
            go_wp2_with (at_builtin; refine append_bk rfl _ _ rfl w2.heap.size _ _ w2 _ rfl (by exact hkk) (by omega) _ (by simp) rfl ?_; intro v1 w1 hk1)
            refine (hint _ _ _ hk1.br (by simp; omega)).mono ?_
            clear hint
            rintro e w3 ⟨v', rfl, hk3⟩
            clear hk hkk hk1
            go_wp2
            go_roundw
            case rel => exact ⟨j + 1, by go_num, by omega, by rw [hsn'.out]; exact hk3.br, fun _ => by rw [hsn'.out]; exact hk3⟩
            case measure => simp [intOf]; omega
        · have hjn : j = L.length := by omega
          have hji : ¬ (j : Int) < (L.length : Int) := by omega
          have hlen := sepL_len L j (by omega)
          have hkk := hk0 (by have := List.length_pos_iff.2 hne; omega)
          rw [hjn, List.take_length] at hkk hlen
          clear hk hk0
          have hl2 : ([27, 91] ++ sepL L).length < 1000000 := by simp; omega
          have HF : Hid (nums (strOfNums (([27, 91] ++ sepL L) ++ [109])) = signL L) := by show _ = _; rw [HS.out, nums_str _ HB.out]
          clear hcl hlen HB HS
          go_wp2_with (at_builtin; refine append_bk rfl _ _ rfl w2.heap.size _ _ w2 _ rfl (by exact hkk) (by omega) _ (by simp) rfl ?_; intro v1 w1 hk1; have hcv := conv_bk hk1)
          go_ret
          exact ⟨_, rfl, HF.out, kw.trans (hk1.2.1.mono kw.size)⟩
end Go.Proofs.YtjcoebabipmmhaaDoor
