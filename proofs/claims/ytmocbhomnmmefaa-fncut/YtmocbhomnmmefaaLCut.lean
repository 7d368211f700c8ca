/- The walk of the law of cutting. -/
import Derived.Test.YtmocbhomnmmefaaDraw3
import Derived.Test.YtmocbhomnmmefaaSRunes
import Derived.Test.YtmocbhomnmmefaaLike
import Derived.Test.YtmocbhomnmmefaaM7
namespace Go.Proofs.Ytmocbhomnmmefaa
open Go.ChangeShapes Go.WideShapes Go.ChangeAt Go.RowKit

theorem bdC {B : Nat} {a w : World} (h : Below B a w) (n : Nat) : Below B a (w.drewN n) := ⟨h.os, h.tape, h.output, h.size, h.block⟩
theorem u8_bd (y : Int) (h : (Lit.int .u8 y).wf = true) : 0 ≤ y ∧ y < 256 := by
  have := bounds_u8 h
  omega
theorem SlB.of_row {w : World} {a : Option Addr} {len cap : Nat} {zs : List Int} (h : IsRow .u8 w a len cap zs) (h4 : len ≤ 4096) : SlB w (.slice a len cap) (zs.take len) ∧ (zs.take len).length = len := by
  rcases h with ⟨rfl, rfl, rfl, rfl⟩ | ⟨x, rfl, hl, hm, hz, hc, hw⟩
  · exact ⟨⟨none, 0, rfl, by simp, by simp, .inl rfl⟩, rfl⟩
  · have hlen : (zs.take len).length = len := by rw [List.length_take]; omega
    refine ⟨⟨some x, cap, by rw [hlen], by rw [hlen]; exact h4, fun y hy => ?_, ?_⟩, hlen⟩
    · have := hw y (List.mem_of_mem_take hy)
      exact u8_bd y this
    · by_cases h0 : len = 0
      · left; subst h0; simp
      · right
        obtain ⟨b, off, spot⟩ := x
        have h1 := hc 0 (by omega)
        have hspot : spot = none := by simpa [Addr.add] using World.cell?_spot h1
        subst hspot
        refine ⟨b, off, rfl, World.block_lt_of_cell? w _ h1, fun i hi => ?_⟩
        rw [hlen] at hi
        have h2 := hc i (by omega)
        have e : (zs.take len).getD i 0 = zs.getD i 0 := by simp [List.getD, hi]
        rw [e, ← h2]
        by_cases hi0 : i = 0
        · subst hi0; simp [Addr.add]
        · simp [Addr.add, hi0]
theorem big_a (a : Option Addr) (len cap : Nat) (w : World) :
    Calls Try.prog 6 #[.slice a len cap] w fun e w' => e = .returned (.bool (decide (4096 < (len : Int)))) ∧ w' = w := by
  go_enter Try.func6, Try.ntmps6
  go_wp2
  go_ret
  exact ⟨rfl, rfl⟩
theorem implStarts_any (b : Int) (w : World) :
    Calls Try.prog 20 #[.int .u8 b] w fun e w' => e = .returned (.bool (stB b)) ∧ w' = w := by
  by_cases h1 : b < 128
  · go_enter Try.func20, Try.ntmps20
    go_wp2
    go_ret
    exact ⟨ret_bool (by simp [stB, h1]), rfl⟩
  · go_enter Try.func20, Try.ntmps20
    go_wp2
    go_ret
    exact ⟨ret_bool (by simp [stB]; omega), rfl⟩

theorem take_next (s : ByteArray) (i : Nat) (h : i < s.size) : (nums s).take (i + 1) = (nums s).take i ++ [((s[i]'h).toNat : Int)] := by
  rw [List.take_add_one, nums_get s i h]; rfl
theorem info_int64c : (Try.prog.info? 2).map (fun i => (i.zero, i.size, i.bytes)) = some (some (.int .i64 0), 1, 8) := by kernel_rfl

set_option maxRecDepth 20000 in
set_option maxHeartbeats 2000000 in
theorem walk_FnCut (w : World) (a : Option Addr) (len cap : Nat) (zs : List Int) (hr : IsRow .u8 w a len cap zs) :
    Calls Try.prog 4 #[.slice a len cap] w fun e w' => e = .returned (.bool true) ∧ Below w.heap.size w w' := by
  by_cases h4 : len ≤ 4096
  · obtain ⟨hv, _⟩ := SlB.of_row hr h4
    have hbig : decide (4096 < (len : Int)) = false := by simp; omega
    obtain ⟨i0, hi, hz0, hz1, hz2⟩ := info_parts info_int64c
    clear hr
    go_enter Try.func4, Try.ntmps4
    go_wp2_with fail
    refine (big_a a len cap _).mono ?_
    rw [hbig]
    rintro e w0 ⟨rfl, rfl⟩
    go_wp2_with fail
    refine (drawText_a _ _ _ hv).mono ?_
    rintro e w1 ⟨v1, ys, rfl, hyl, ho1, hb1⟩
    go_wp2_with fail
    refine (specText_any _ ys _ (SlI.of_own ho1) (by omega)).mono ?_
    rintro e w2 ⟨rfl, hb2⟩
    have hN : Hid (nums (textV ys) = textL ys) := nums_text ys
    have hS : (textV ys).size ≤ 36 := by have h := textL_len ys; rw [← nums_len, nums_text]; omega
    generalize textV ys = s at *
    have hR : Hid (runesV s = ys.map okR) := runes_of s ys hN.out
    have hbl2 := hb1.trans (hb2.mono hb1.size)
    clear ho1 hb1 hb2 hv hbig
    go_wp2_with fail
    refine (implRunes_any s _ (by omega)).mono ?_
    rw [hR.out]
    rintro e w3 ⟨v5, rfl, hb3, ho3⟩
    have hbl3 := hbl2.trans (hb3.mono hbl2.size)
    clear hb3 hbl2
    go_wp2_with fail
    refine (specRunes_any s _ (by omega)).mono ?_
    rw [hR.out]
    rintro e w4 ⟨v20, rfl, hb4, ho4⟩
    have hbl4 := hbl3.trans (hb4.mono hbl3.size)
    have ho34 := ho3.below hb4
    have hml : (ys.map okR).length = ys.length := List.length_map _
    clear hb4 hbl3 ho3
    go_wp2_with fail
    refine (like_same _ _ (ys.map okR) _ (SlI.of_own ho34) (SlI.of_own ho4) (by omega)).mono ?_
    rintro e w5 ⟨rfl, n5, rfl⟩
    have hbl5 := bdC hbl4 n5
    have ho5 : (w4.drewN n5).ownsRow w2.heap.size 2 1 v5 (ys.map okR).length ((ys.map okR).map (Value.int .i64)) := ho34
    have hr5 := SlI.of_own ho5
    have h5s : ∃ a5 c5, v5 = .slice a5 ys.length c5 := by
      obtain ⟨a5, c5, h, _⟩ := hr5
      exact ⟨a5, c5, by rw [h, hml]⟩
    clear ho34 ho4 hbl4 ho5
    generalize w4.drewN n5 = W at *
    obtain ⟨a5, c5, rfl⟩ := h5s
    go_wp2
    go_loopw [6, 7] (fun n i wr => ∃ j : Nat, j ≤ s.size ∧ i = .int .i64 j ∧ n = .int .i64 (((nums s).take j).countP stB : Nat) ∧ Below W.heap.size W wr) (fun _ i _ => s.size - (intOf i).toNat)
    case atStart => exact ⟨0, Nat.zero_le _, rfl, by simp, Below.refl _ _⟩
    case round =>
      obtain ⟨j, hj, rfl, rfl, hbw⟩ := hrel
      by_cases hlt : j < s.size
      · have hji : (j : Int) < (s.size : Int) := by omega
        have htn := take_next s j hlt
        have hxb : (s[j].toNat : Int) < 256 := by have := s[j].toNat_lt; omega
        by_cases hst : stB (s[j].toNat : Int) = true
        · have hcn : Hid (((nums s).take (j + 1)).countP stB = ((nums s).take j).countP stB + 1) := by
            show _ = _; rw [htn, List.countP_append]; simp [hst]
          obtain ⟨k, hk, ht, hd⟩ := cut_at ys j (s[j].toNat : Int) (by rw [← hN.out]; exact nums_get s j hlt) hst
          rw [← hN.out] at ht hd
          have hck : Hid (((nums s).take j).countP stB = k) := by show _ = _; rw [ht, count_text, List.length_take]; omega
          have hra : Hid (runesV (s.extract 0 j) = (ys.take k).map okR) := runes_of _ _ (by rw [nums_extract, List.drop_zero, ht])
          have hrb : Hid (runesV (s.extract j s.size) = (ys.drop k).map okR) := runes_of _ _ (by rw [nums_extract, ← nums_len s, List.take_length, hd])
          have hla : ((ys.take k).map okR).length = k := by rw [List.length_map, List.length_take]; omega
          have hall : Hid ((ys.take k).map okR ++ (ys.drop k).map okR = ys.map okR) := by show _ = _; rw [← List.map_append, List.take_append_drop]
          have hea : (s.extract 0 j).size ≤ 1048576 := by rw [ByteArray.size_extract]; omega
          have heb : (s.extract j s.size).size ≤ 1048576 := by rw [ByteArray.size_extract]; omega
          clear htn ht hd
          generalize ((nums s).take j).countP stB = m at *
          have hmk := hck.out
          subst hmk
          generalize (ys.take m).map okR = P at *
          generalize (ys.drop m).map okR = D at *
          have hpd : P.length + D.length = ys.length := by have := congrArg List.length hall.out; rw [List.length_append, List.length_map] at this; exact this
          have hra' := fun Z => by have := implRunes_any (s.extract 0 j) Z hea; rw [hra.out] at this; exact this
          have hrb' := fun Z => by have := implRunes_any (s.extract j s.size) Z heb; rw [hrb.out] at this; exact this
          clear hea heb hra hrb hck
          go_wp2_with fail
          refine (implStarts_any _ _).mono ?_
          rw [hst]
          rintro e wa ⟨rfl, hwa⟩
          subst wa
          go_wp2_with fail
          refine (hra' _).mono ?_
          rintro e wb ⟨va, rfl, hba, hoa⟩
          clear hra'
          have hsa : ∃ aa ca, va = .slice aa m ca := by
            rcases hoa.2 with ⟨h1, h2⟩ | ⟨g, cap, cur, h1, _⟩
            · exact ⟨none, 0, by rw [h1, ← hla, h2]⟩
            · exact ⟨_, cap, by rw [h1, hla]⟩
          obtain ⟨aa, ca, rfl⟩ := hsa
          have hbb := hbw.trans (hba.mono hbw.size)
          go_wp2_with fail
          refine (hrb' _).mono ?_
          rintro e wc ⟨vc, rfl, hbc, hoc⟩
          clear hrb'
          have hoa2 := (hoa.below hbc).below (bal wc (Obj.cells #[] 2))
          have hoc2 := hoc.below (bal wc (Obj.cells #[] 2))
          have hbcw := hbb.trans (hbc.mono hbb.size)
          have ho0 := World.ownsRow_lit (base := wc.heap.size) (e := 2) (size := 1) wc #[] 0 (Nat.le_refl _) (Nat.zero_le _) rfl
          have hbig2 : Below W.heap.size W (wc.alloc (Obj.cells #[] 2)) := hbcw.trans ((bal wc _).mono hbcw.size)
          have hcs := hbcw.size
          have hvc : ∀ q, vc.ownBlock = some q → q < wc.heap.size := fun q hq => (hoc.lt q hq).2
          clear hba hbc hoa hoc hbb hbcw hbw
          go_wp2_with (at_builtin; refine append_any rfl _ _ 26 rfl wc.heap.size 2 i0 (.int .i64 0) 8 Try.underlying26 hi hz0 hz1 hz2 rfl _ _ _ rfl ho0 _ (P.map (Value.int .i64)) rfl (ReadsRow.of_own hoa2) (ints_oneCell .i64 P) ?c1 ?c2 ?c3 ?_)
          case c1 => rw [List.length_map]; unfold maxLen; omega
          case c2 => rw [List.length_map]; omega
          case c3 => simp
          intro vd wd hod hgd
          have hoc3 := hoc2.kept hgd (by
            cases hq : vc.ownBlock with
            | none => exact .inl rfl
            | some q => right; intro e; have := hvc q hq; simp [Value.ownBlock] at e; omega)
          have hbd := hbig2.grown hgd hbig2.size (fun k hk => by simp [Value.ownBlock] at hk; omega)
          have hsd := hgd.size
          clear hgd hoc2 hoa2 ho0 hbig2 hvc
          go_wp2_with (at_builtin; refine append_any rfl _ _ 26 rfl wc.heap.size 2 i0 (.int .i64 0) 8 Try.underlying26 hi hz0 hz1 hz2 rfl _ _ _ rfl hod _ (D.map (Value.int .i64)) rfl (ReadsRow.of_own hoc3) (ints_oneCell .i64 D) ?d1 ?d2 ?d3 ?_)
          case d1 => simp only [List.length_map]; unfold maxLen; omega
          case d2 => simp only [List.length_map]; omega
          case d3 => simp at hsd; omega
          intro vf wf hof hgf
          have hof2 : wf.ownsRow wc.heap.size 2 1 vf (ys.map okR).length ((ys.map okR).map (Value.int .i64)) := by
            have e : (ys.map okR).length = 0 + (P.map (Value.int .i64)).length + (D.map (Value.int .i64)).length := by simp only [List.length_map]; omega
            rw [e, ← hall.out, List.map_append]; simpa [hla] using hof
          have hbf := hbd.grown hgf hbd.size (fun k hk => by have := (hod.lt k hk).1; omega)
          clear hgf hoc3 hof hod hbd
          go_wp2_with fail
          refine (like_same _ _ (ys.map okR) _ (SlI.of_own hof2) (hr5.below hbf) (by omega)).mono ?_
          rintro e wg ⟨rfl, n9, rfl⟩
          have hbg := bdC hbf n9
          clear hof2 hbf
          go_wp2
          go_roundw
          case rel => exact ⟨j + 1, by omega, by go_num, by rw [hcn.out]; go_num, hbg⟩
          case measure => simp [intOf]; omega
        · have hst : stB (s[j].toNat : Int) = false := by simpa using hst
          have hcn : Hid (((nums s).take (j + 1)).countP stB = ((nums s).take j).countP stB) := by
            show _ = _; rw [htn, List.countP_append]; simp [hst]
          clear htn
          generalize ((nums s).take j).countP stB = m at *
          go_wp2_with fail
          refine (implStarts_any _ _).mono ?_
          rw [hst]
          rintro e wa ⟨rfl, hwa⟩
          subst wa
          go_wp2
          go_roundw
          case rel => exact ⟨j + 1, by omega, by go_num, by rw [hcn.out], hbw⟩
          case measure => simp [intOf]; omega
      · have hjn : j = s.size := by omega
        have hcc : Hid (((nums s).take j).countP stB = ys.length) := by
          show _ = _; rw [hjn, ← nums_len s, List.take_length, hN.out, count_text]
        generalize ((nums s).take j).countP stB = m at *
        have hmy := hcc.out
        clear hcc
        go_wp2
        go_ret
        exact ⟨ret_bool (by simp), hbl5.trans (hbw.mono hbl5.size)⟩
  · have hbig : decide (4096 < (len : Int)) = true := by simp; omega
    go_enter Try.func4, Try.ntmps4
    go_wp2_with fail
    refine (big_a a len cap _).mono ?_
    rw [hbig]
    rintro e w0 ⟨rfl, rfl⟩
    go_wp2
    go_ret
    exact ⟨rfl, Below.refl _ _⟩
end Go.Proofs.Ytmocbhomnmmefaa
