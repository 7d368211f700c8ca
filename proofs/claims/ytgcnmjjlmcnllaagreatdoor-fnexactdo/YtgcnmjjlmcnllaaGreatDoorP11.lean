/- Parts of the proof. -/
import Derived.Test.YtgcnmjjlmcnllaaGreatDoorP1
import Derived.Test.YtgcnmjjlmcnllaaGreatDoorP2
import Derived.Test.YtgcnmjjlmcnllaaGreatDoorP3
import Derived.Test.YtgcnmjjlmcnllaaGreatDoorP5
import Derived.Test.YtgcnmjjlmcnllaaGreatDoorP8
import Derived.Test.YtgcnmjjlmcnllaaGreatDoorP9
import Derived.Test.YtgcnmjjlmcnllaaGreatDoorP10
namespace Go.Proofs.YtgcnmjjlmcnllaaGreatDoor
set_option maxRecDepth 20000
set_option maxHeartbeats 16000000
open Go.ChangeShapes Go.WideShapes Go.ChangeAt Go.RowKit
def KG (M:Nat) (w0:World) (r:Value) (x:List Ce) (W:World):Prop:=SlC W r x/\M<=W.heap.size/\Below w0.heap.size w0 W
theorem KG.below {M:Nat} {w0:World} {r:Value} {x:List Ce} {W W':World} (k:KG M w0 r x W) (hb:Below W.heap.size W W'):KG M w0 r x W' :=
 ⟨k.1.below hb,Nat.le_trans k.2.1 hb.size,k.2.2.trans (hb.mono k.2.2.size)⟩
theorem KG.drew {M:Nat} {w0:World} {r:Value} {x:List Ce} {W:World} (k:KG M w0 r x W):KG M w0 r x W.drew:=k.below (Below.refl _ _).drew
theorem rowOk_gk (M B b o:Nat) (w0:World) (r:Value) (x:List Ce) (u0 u1 u2:Value) (hl:x.length<=1048576) (hB:B<M) (hb:b<M) {W:World}
  (h:W.cell? ⟨B,0,none⟩=some u0/\W.cell? ⟨B,1,none⟩=some u1/\W.cell? ⟨b,o,none⟩=some u2/\KG M w0 r x W) :
  Calls Tryz.prog 151 #[r] W fun e W'=>e=.returned (.bool (rowOkB x))/\(W'.cell? ⟨B,0,none⟩=some u0/\W'.cell? ⟨B,1,none⟩=some u1/\W'.cell? ⟨b,o,none⟩=some u2/\KG M w0 r x W'):=by
 obtain ⟨h0,h1,h2,k⟩:=h;refine (specRowOk_any r x W k.1 hl).mono ?_;rintro e W' ⟨rfl,hw⟩;have hM:=k.2.1;exact ⟨rfl,(hw.cell (p:=⟨B,0,none⟩) (show B<_ by omega)).trans h0,(hw.cell (p:=⟨B,1,none⟩) (show B<_ by omega)).trans h1,(hw.cell (p:=⟨b,o,none⟩) (show b<_ by omega)).trans h2,k.below hw⟩
theorem specGridOk_any (cols:Int) (v:Value) (rows:List (List Ce)) (w:World) (hv:SlG w v rows) (hl:rows.length<=1048576) (hx:∀ i,i<rows.length->(rowX rows i).length<=1048576) :
  Calls Tryz.prog 71 #[gridV cols v] w fun e w'=>e=.returned (.bool (gridOkB cols rows))/\Below w.heap.size w w':=by
 have hbB:=bal' w (Obj.cells #[.int .i64 cols,v] 26);have hG:=GrN.new w cols v 26;obtain ⟨a,c,vs,rfl,hcp,_,hr,hs⟩:=id hv;have hin:=fun W=>l1In_any cols 1 60 W
 unfold gridV
 by_cases h1:(1:Int)<=cols/\cols<=60
 ·have e1:decide ((1:Int)<=cols/\cols<=60)=true:=decide_eq_true h1
  rw [e1] at hin
  by_cases hn:1<=rows.length/\rows.length<=30
  ·obtain ⟨hn1,hn2⟩:=hn
   have hn1i:¬ (rows.length:Int)<1:=by omega
   have hn2i:¬ 30<(rows.length:Int):=by omega
   rcases hr with h|⟨b,off,rfl,hbb,hrc⟩
   ·rw [h] at hn1;simp at hn1
   go_enter Tryz.func71,Tryz.ntmps71;go_wp2_with (go_at_call 73;refine (hin _).mono ?_;rintro e w1 ⟨rfl,hw⟩;subst hw);go_loopw [3] (fun i wr=>∃ j:Nat,i=.int .i64 j/\j<=rows.length/\Hid (∀ k,k<j->fitB cols (rowX rows k)=true)/\GrN wr w.heap.size cols (.slice (some ⟨b,off,none⟩) rows.length c)/\Below w.heap.size w wr) (fun i _=>rows.length-(intOf i).toNat)
   case atStart=>exact ⟨0,rfl,Nat.zero_le _,(fun k hk=>absurd hk (Nat.not_lt_zero k)),hG,hbB⟩
   case round =>
    clear hG hbB;obtain ⟨j,rfl,hj,hall,hG,kb⟩:=hrel;obtain ⟨hB,c0,c1⟩:=id hG
    by_cases hlt:j<rows.length
    ·have hji:(j:Int)<(rows.length:Int):=by omega
     have hj0:(0:Int)<=(j:Int):=by omega
     have c2:=(kb.cell (p:=⟨b,off+j,none⟩) hbb).trans (hrc j hlt);have hsj:=(hs j hlt).below kb;obtain ⟨aj,cj,ev,hjc,_,_⟩:=id hsj;have kg:KG (w.heap.size+1) w (rowV vs j) (rowX rows j) wr:=⟨hsj,hB,kb⟩;rw [ev] at c2 kg
     clear hsj hG hrc hs hv ev hin
     by_cases e2:((rowX rows j).length:Int)=cols
     ·have b1:(((rowX rows j).length:Int) != cols)=false:=by simp [e2]
      cases hro:rowOkB (rowX rows j)
      ·have hno:gridOkB cols rows=false:=gridOk_no hlt (by show fitB cols (rowX rows j)=false;unfold fitB;rw [hro,Bool.and_false])
       clear hall;go_wp2;refine wp_region_noPanic ?_;refine wp_region_held_drew (S:=(fun W=>W.cell? ⟨w.heap.size,0,none⟩=some (.int .i64 cols)/\W.cell? ⟨w.heap.size,1,none⟩=some (.slice (some ⟨b,off,none⟩) rows.length c)/\W.cell? ⟨b,off+j,none⟩=some (.slice aj (rowX rows j).length cj)/\KG (w.heap.size+1) w (.slice aj (rowX rows j).length cj) (rowX rows j) W)) (by kernel_rfl) ⟨c0,c1,c2,kg.drew⟩ (fun Hh=>?_);refine' wpAnyH_take (i:=0) (v:=_) rfl (by kernel_rfl) (by kernel_rfl) (by kernel_rfl) (fun _ _ _ h=>h) (Or.inl ⟨by rfl,?hy1⟩) Hh ?hr1
       case hy1=>(intro w hSw;(try dsimp only at hSw);go_simp;(try with_reducible rfl))
       simp only [Act.put,ZA,ZB,ZC,ZD,ZE];refine' wpAnyH_take (i:=1) (v:=_) rfl (by kernel_rfl) (by kernel_rfl) (by kernel_rfl) (fun _ _ _ h=>h) (Or.inl ⟨by rfl,?hy2⟩) Hh ?hr2
       case hy2=>(intro w hSw;(try dsimp only at hSw);go_simp;(try with_reducible rfl))
       simp only [Act.put,ZA,ZB,ZC,ZD,ZE,ZF];refine' wpAnyH_take (i:=2) (v:=_) rfl (by kernel_rfl) (by kernel_rfl) (by kernel_rfl) (fun _ _ _ h=>h) (Or.inl ⟨by rfl,?hy3⟩) Hh ?hr3
       case hy3=>(intro w hSw;(try dsimp only at hSw);go_simp;(try with_reducible rfl))
       simp only [Act.put,ZA,ZB,ZC,ZD,ZE,ZF];refine' wpAnyH_take (i:=3) (v:=_) rfl (by kernel_rfl) (by kernel_rfl) (by kernel_rfl) (fun _ _ _ h=>h) (Or.inl ⟨by rfl,?hy4⟩) Hh ?hr4
       case hy4=>(intro w hSw;(try dsimp only at hSw);go_simp;(try with_reducible rfl))
       simp only [Act.put,ZA,ZB,ZC,ZD,ZE,ZF];refine' wpAnyH_take (i:=4) (v:=_) rfl (by kernel_rfl) (by kernel_rfl) (by kernel_rfl) (fun _ _ _ h=>h) (Or.inl ⟨by rfl,?hy5⟩) Hh ?hr5
       case hy5=>(intro w hSw;(try dsimp only at hSw);go_simp;(try with_reducible rfl))
       simp only [Act.put,ZA,ZB,ZC,ZD,ZE,ZF];refine' wpAnyH_take (i:=5) (v:=_) rfl (by kernel_rfl) (by kernel_rfl) (by kernel_rfl) (fun _ _ _ h=>h) (Or.inl ⟨by rfl,?hy6⟩) Hh ?hr6
       case hy6=>(intro w hSw;(try dsimp only at hSw);go_simp;(try with_reducible rfl))
       simp only [Act.put,ZA,ZB,ZC,ZD,ZE,ZF];refine' wpAnyH_take (i:=6) (v:=_) rfl (by kernel_rfl) (by kernel_rfl) (by kernel_rfl) (fun _ _ _ h=>h) (Or.inl ⟨by rfl,?hy7⟩) Hh ?hr7
       case hy7=>(intro w hSw;(try dsimp only at hSw);go_simp;(try with_reducible rfl))
       simp only [Act.put,ZA,ZB,ZC,ZD,ZE,ZF];refine' wpAnyH_take (i:=7) (v:=_) rfl (by kernel_rfl) (by kernel_rfl) (by kernel_rfl) (fun _ _ _ h=>h) (Or.inl ⟨by rfl,?hy8⟩) Hh ?hr8
       case hy8=>(intro w hSw;(try dsimp only at hSw);go_simp;(try with_reducible rfl))
       simp only [Act.put,ZA,ZB,ZC,ZD,ZE,ZF];refine' wpAnyH_take (i:=8) (v:=_) rfl (by kernel_rfl) (by kernel_rfl) (by kernel_rfl) (fun _ _ _ h=>h) (Or.inl ⟨by rfl,?hy9⟩) Hh ?hr9
       case hy9=>(intro w hSw;(try dsimp only at hSw);go_simp;(try with_reducible rfl))
       simp only [Act.put,ZA,ZB,ZC,ZD,ZE,ZF];refine' wpAnyH_take (i:=9) (v:=_) rfl (by kernel_rfl) (by kernel_rfl) (by kernel_rfl) (fun _ _ _ h=>h) (Or.inl ⟨by rfl,?hy10⟩) Hh ?hr10
       case hy10=>(intro w hSw;(try dsimp only at hSw);go_simp;(try with_reducible rfl))
       simp only [Act.put,ZA,ZB,ZC,ZD,ZE,ZF];refine' wpAnyH_take (i:=10) (v:=_) rfl (by kernel_rfl) (by kernel_rfl) (by kernel_rfl) (fun _ _ _ h=>h) (Or.inl ⟨by rfl,?hy11⟩) Hh ?hr11
       case hy11=>(intro w hSw;(try dsimp only at hSw);go_simp;(try with_reducible rfl))
       simp only [Act.put,ZA,ZB,ZC,ZD,ZE,ZF];refine' wpAnyH_take (i:=11) (v:=_) rfl (by kernel_rfl) (by kernel_rfl) (by kernel_rfl) (fun _ _ _ h=>h) (Or.inl ⟨by rfl,?hy12⟩) Hh ?hr12
       case hy12=>(intro w hSw;(try dsimp only at hSw);go_simp;(try with_reducible rfl))
       simp only [Act.put,ZA,ZB,ZC,ZD,ZE,ZF];refine' wpAnyH_take (i:=12) (v:=_) rfl (by kernel_rfl) (by kernel_rfl) (by kernel_rfl) (fun _ _ _ h=>h) (Or.inl ⟨by rfl,?hy13⟩) Hh ?hr13
       case hy13=>(intro w hSw;(try dsimp only at hSw);go_simp;(try with_reducible rfl))
       simp only [Act.put,ZA,ZB,ZC,ZD,ZE,ZF];refine' wpAnyH_take (i:=13) (v:=_) rfl (by kernel_rfl) (by kernel_rfl) (by kernel_rfl) (fun _ _ _ h=>h) (Or.inl ⟨by rfl,?hy14⟩) Hh ?hr14
       case hy14=>(intro w hSw;(try dsimp only at hSw);go_simp;(try with_reducible rfl))
       simp only [Act.put,ZA,ZB,ZC,ZD,ZE,ZF];refine' wpAnyH_take (i:=14) (v:=_) rfl (by kernel_rfl) (by kernel_rfl) (by kernel_rfl) (fun _ _ _ h=>h) (Or.inl ⟨by rfl,?hy15⟩) Hh ?hr15
       case hy15=>(intro w hSw;(try dsimp only at hSw);go_simp;(try with_reducible rfl))
       refine rd 15 fun K hK=>?_
       go_simp;refine (rowOk_gk (w.heap.size+1) w.heap.size b (off+j) w _ (rowX rows j) _ _ _ (hx j hlt) (by omega) (by omega) (by assumption)).mono ?_;rintro e wk ⟨rfl,hk⟩;go_wp2_with fail;refine hK.out _ _ (by assumption) (fun Hh=>?_);clear hK K
       (try simp only [Act.put,ZA,ZB,ZC])
       refine' wpAnyH_take (i:=16) (v:=_) rfl (by kernel_rfl) (by kernel_rfl) (by kernel_rfl) (fun _ _ _ h=>h) (Or.inl ⟨by rfl,?hy16⟩) Hh ?hr16
       case hy16=>(intro w hSw;(try dsimp only at hSw);go_simp;(try with_reducible rfl))
       simp only [Act.put,ZA,ZB,ZC,ZD,ZE,ZF];refine' wpAnyH_take (i:=17) (v:=_) rfl (by kernel_rfl) (by kernel_rfl) (by kernel_rfl) (fun _ _ _ h=>h) (Or.inl ⟨by rfl,?hy17⟩) Hh ?hr17
       case hy17=>(intro w hSw;(try dsimp only at hSw);go_simp;(try with_reducible rfl))
       simp only [Act.put,ZA,ZB,ZC,ZD,ZE,ZF];refine dn ?_;have kb2:=Hh.2.2.2.2.2;clear Hh;go_wp2;go_ret
       first|exact ⟨ret_bool hno.symm,kb2⟩|exact ⟨rfl,kb2⟩
      ·have hyes:fitB cols (rowX rows j)=true:=by unfold fitB;rw [hro,decide_eq_true e2];rfl
       have hall':Hid (∀ k,k<j+1->fitB cols (rowX rows k)=true):=fun k hk=>by rcases Nat.lt_succ_iff_lt_or_eq.1 hk with h|rfl;exact hall.out k h;exact hyes
       clear hall hyes;go_wp2;refine wp_region_noPanic ?_;refine wp_region_held_drew (S:=(fun W=>W.cell? ⟨w.heap.size,0,none⟩=some (.int .i64 cols)/\W.cell? ⟨w.heap.size,1,none⟩=some (.slice (some ⟨b,off,none⟩) rows.length c)/\W.cell? ⟨b,off+j,none⟩=some (.slice aj (rowX rows j).length cj)/\KG (w.heap.size+1) w (.slice aj (rowX rows j).length cj) (rowX rows j) W)) (by kernel_rfl) ⟨c0,c1,c2,kg.drew⟩ (fun Hh=>?_);refine' wpAnyH_take (i:=0) (v:=_) rfl (by kernel_rfl) (by kernel_rfl) (by kernel_rfl) (fun _ _ _ h=>h) (Or.inl ⟨by rfl,?hy18⟩) Hh ?hr18
       case hy18=>(intro w hSw;(try dsimp only at hSw);go_simp;(try with_reducible rfl))
       simp only [Act.put,ZA,ZB,ZC,ZD,ZE];refine' wpAnyH_take (i:=1) (v:=_) rfl (by kernel_rfl) (by kernel_rfl) (by kernel_rfl) (fun _ _ _ h=>h) (Or.inl ⟨by rfl,?hy19⟩) Hh ?hr19
       case hy19=>(intro w hSw;(try dsimp only at hSw);go_simp;(try with_reducible rfl))
       simp only [Act.put,ZA,ZB,ZC,ZD,ZE,ZF];refine' wpAnyH_take (i:=2) (v:=_) rfl (by kernel_rfl) (by kernel_rfl) (by kernel_rfl) (fun _ _ _ h=>h) (Or.inl ⟨by rfl,?hy20⟩) Hh ?hr20
       case hy20=>(intro w hSw;(try dsimp only at hSw);go_simp;(try with_reducible rfl))
       simp only [Act.put,ZA,ZB,ZC,ZD,ZE,ZF];refine' wpAnyH_take (i:=3) (v:=_) rfl (by kernel_rfl) (by kernel_rfl) (by kernel_rfl) (fun _ _ _ h=>h) (Or.inl ⟨by rfl,?hy21⟩) Hh ?hr21
       case hy21=>(intro w hSw;(try dsimp only at hSw);go_simp;(try with_reducible rfl))
       simp only [Act.put,ZA,ZB,ZC,ZD,ZE,ZF];refine' wpAnyH_take (i:=4) (v:=_) rfl (by kernel_rfl) (by kernel_rfl) (by kernel_rfl) (fun _ _ _ h=>h) (Or.inl ⟨by rfl,?hy22⟩) Hh ?hr22
       case hy22=>(intro w hSw;(try dsimp only at hSw);go_simp;(try with_reducible rfl))
       simp only [Act.put,ZA,ZB,ZC,ZD,ZE,ZF];refine' wpAnyH_take (i:=5) (v:=_) rfl (by kernel_rfl) (by kernel_rfl) (by kernel_rfl) (fun _ _ _ h=>h) (Or.inl ⟨by rfl,?hy23⟩) Hh ?hr23
       case hy23=>(intro w hSw;(try dsimp only at hSw);go_simp;(try with_reducible rfl))
       simp only [Act.put,ZA,ZB,ZC,ZD,ZE,ZF];refine' wpAnyH_take (i:=6) (v:=_) rfl (by kernel_rfl) (by kernel_rfl) (by kernel_rfl) (fun _ _ _ h=>h) (Or.inl ⟨by rfl,?hy24⟩) Hh ?hr24
       case hy24=>(intro w hSw;(try dsimp only at hSw);go_simp;(try with_reducible rfl))
       simp only [Act.put,ZA,ZB,ZC,ZD,ZE,ZF];refine' wpAnyH_take (i:=7) (v:=_) rfl (by kernel_rfl) (by kernel_rfl) (by kernel_rfl) (fun _ _ _ h=>h) (Or.inl ⟨by rfl,?hy25⟩) Hh ?hr25
       case hy25=>(intro w hSw;(try dsimp only at hSw);go_simp;(try with_reducible rfl))
       simp only [Act.put,ZA,ZB,ZC,ZD,ZE,ZF];refine' wpAnyH_take (i:=8) (v:=_) rfl (by kernel_rfl) (by kernel_rfl) (by kernel_rfl) (fun _ _ _ h=>h) (Or.inl ⟨by rfl,?hy26⟩) Hh ?hr26
       case hy26=>(intro w hSw;(try dsimp only at hSw);go_simp;(try with_reducible rfl))
       simp only [Act.put,ZA,ZB,ZC,ZD,ZE,ZF];refine' wpAnyH_take (i:=9) (v:=_) rfl (by kernel_rfl) (by kernel_rfl) (by kernel_rfl) (fun _ _ _ h=>h) (Or.inl ⟨by rfl,?hy27⟩) Hh ?hr27
       case hy27=>(intro w hSw;(try dsimp only at hSw);go_simp;(try with_reducible rfl))
       simp only [Act.put,ZA,ZB,ZC,ZD,ZE,ZF];refine' wpAnyH_take (i:=10) (v:=_) rfl (by kernel_rfl) (by kernel_rfl) (by kernel_rfl) (fun _ _ _ h=>h) (Or.inl ⟨by rfl,?hy28⟩) Hh ?hr28
       case hy28=>(intro w hSw;(try dsimp only at hSw);go_simp;(try with_reducible rfl))
       simp only [Act.put,ZA,ZB,ZC,ZD,ZE,ZF];refine' wpAnyH_take (i:=11) (v:=_) rfl (by kernel_rfl) (by kernel_rfl) (by kernel_rfl) (fun _ _ _ h=>h) (Or.inl ⟨by rfl,?hy29⟩) Hh ?hr29
       case hy29=>(intro w hSw;(try dsimp only at hSw);go_simp;(try with_reducible rfl))
       simp only [Act.put,ZA,ZB,ZC,ZD,ZE,ZF];refine' wpAnyH_take (i:=12) (v:=_) rfl (by kernel_rfl) (by kernel_rfl) (by kernel_rfl) (fun _ _ _ h=>h) (Or.inl ⟨by rfl,?hy30⟩) Hh ?hr30
       case hy30=>(intro w hSw;(try dsimp only at hSw);go_simp;(try with_reducible rfl))
       simp only [Act.put,ZA,ZB,ZC,ZD,ZE,ZF];refine' wpAnyH_take (i:=13) (v:=_) rfl (by kernel_rfl) (by kernel_rfl) (by kernel_rfl) (fun _ _ _ h=>h) (Or.inl ⟨by rfl,?hy31⟩) Hh ?hr31
       case hy31=>(intro w hSw;(try dsimp only at hSw);go_simp;(try with_reducible rfl))
       simp only [Act.put,ZA,ZB,ZC,ZD,ZE,ZF];refine' wpAnyH_take (i:=14) (v:=_) rfl (by kernel_rfl) (by kernel_rfl) (by kernel_rfl) (fun _ _ _ h=>h) (Or.inl ⟨by rfl,?hy32⟩) Hh ?hr32
       case hy32=>(intro w hSw;(try dsimp only at hSw);go_simp;(try with_reducible rfl))
       refine rd 15 fun K hK=>?_
       go_simp;refine (rowOk_gk (w.heap.size+1) w.heap.size b (off+j) w _ (rowX rows j) _ _ _ (hx j hlt) (by omega) (by omega) (by assumption)).mono ?_;rintro e wk ⟨rfl,hk⟩;go_wp2_with fail;refine hK.out _ _ (by assumption) (fun Hh=>?_);clear hK K
       (try simp only [Act.put,ZA,ZB,ZC])
       refine' wpAnyH_take (i:=16) (v:=_) rfl (by kernel_rfl) (by kernel_rfl) (by kernel_rfl) (fun _ _ _ h=>h) (Or.inl ⟨by rfl,?hy33⟩) Hh ?hr33
       case hy33=>(intro w hSw;(try dsimp only at hSw);go_simp;(try with_reducible rfl))
       simp only [Act.put,ZA,ZB,ZC,ZD,ZE,ZF];refine' wpAnyH_take (i:=17) (v:=_) rfl (by kernel_rfl) (by kernel_rfl) (by kernel_rfl) (fun _ _ _ h=>h) (Or.inl ⟨by rfl,?hy34⟩) Hh ?hr34
       case hy34=>(intro w hSw;(try dsimp only at hSw);go_simp;(try with_reducible rfl))
       simp only [Act.put,ZA,ZB,ZC,ZD,ZE,ZF];refine dn ?_;have kb2:=Hh.2.2.2.2.2;have hG2:GrN _ w.heap.size cols (.slice (some ⟨b,off,none⟩) rows.length c):=⟨Nat.lt_of_lt_of_le (Nat.lt_succ_self _) Hh.2.2.2.2.1,Hh.1,Hh.2.1⟩;clear Hh;go_wp2;go_roundw
       case rel=>exact ⟨j+1,by go_num,by omega,hall',hG2,kb2⟩
       case measure=>simp [intOf];omega
     ·have b1:(((rowX rows j).length:Int) != cols)=true:=by simp [e2]
      have hno:gridOkB cols rows=false:=gridOk_no hlt (by show fitB cols (rowX rows j)=false;unfold fitB;rw [decide_eq_false e2,Bool.false_and]);clear hall;go_wp2;refine wp_region_noPanic ?_;refine wp_region_held_drew (S:=(fun W=>W.cell? ⟨w.heap.size,0,none⟩=some (.int .i64 cols)/\W.cell? ⟨w.heap.size,1,none⟩=some (.slice (some ⟨b,off,none⟩) rows.length c)/\W.cell? ⟨b,off+j,none⟩=some (.slice aj (rowX rows j).length cj)/\KG (w.heap.size+1) w (.slice aj (rowX rows j).length cj) (rowX rows j) W)) (by kernel_rfl) ⟨c0,c1,c2,kg.drew⟩ (fun Hh=>?_);refine' wpAnyH_take (i:=0) (v:=_) rfl (by kernel_rfl) (by kernel_rfl) (by kernel_rfl) (fun _ _ _ h=>h) (Or.inl ⟨by rfl,?hy35⟩) Hh ?hr35
      case hy35=>(intro w hSw;(try dsimp only at hSw);go_simp;(try with_reducible rfl))
      simp only [Act.put,ZA,ZB,ZC,ZD,ZE];refine' wpAnyH_take (i:=1) (v:=_) rfl (by kernel_rfl) (by kernel_rfl) (by kernel_rfl) (fun _ _ _ h=>h) (Or.inl ⟨by rfl,?hy36⟩) Hh ?hr36
      case hy36=>(intro w hSw;(try dsimp only at hSw);go_simp;(try with_reducible rfl))
      simp only [Act.put,ZA,ZB,ZC,ZD,ZE,ZF];refine' wpAnyH_take (i:=2) (v:=_) rfl (by kernel_rfl) (by kernel_rfl) (by kernel_rfl) (fun _ _ _ h=>h) (Or.inl ⟨by rfl,?hy37⟩) Hh ?hr37
      case hy37=>(intro w hSw;(try dsimp only at hSw);go_simp;(try with_reducible rfl))
      simp only [Act.put,ZA,ZB,ZC,ZD,ZE,ZF];refine' wpAnyH_take (i:=3) (v:=_) rfl (by kernel_rfl) (by kernel_rfl) (by kernel_rfl) (fun _ _ _ h=>h) (Or.inl ⟨by rfl,?hy38⟩) Hh ?hr38
      case hy38=>(intro w hSw;(try dsimp only at hSw);go_simp;(try with_reducible rfl))
      simp only [Act.put,ZA,ZB,ZC,ZD,ZE,ZF];refine' wpAnyH_take (i:=4) (v:=_) rfl (by kernel_rfl) (by kernel_rfl) (by kernel_rfl) (fun _ _ _ h=>h) (Or.inl ⟨by rfl,?hy39⟩) Hh ?hr39
      case hy39=>(intro w hSw;(try dsimp only at hSw);go_simp;(try with_reducible rfl))
      simp only [Act.put,ZA,ZB,ZC,ZD,ZE,ZF];refine' wpAnyH_take (i:=5) (v:=_) rfl (by kernel_rfl) (by kernel_rfl) (by kernel_rfl) (fun _ _ _ h=>h) (Or.inl ⟨by rfl,?hy40⟩) Hh ?hr40
      case hy40=>(intro w hSw;(try dsimp only at hSw);go_simp;(try with_reducible rfl))
      simp only [Act.put,ZA,ZB,ZC,ZD,ZE,ZF];refine' wpAnyH_take (i:=6) (v:=_) rfl (by kernel_rfl) (by kernel_rfl) (by kernel_rfl) (fun _ _ _ h=>h) (Or.inl ⟨by rfl,?hy41⟩) Hh ?hr41
      case hy41=>(intro w hSw;(try dsimp only at hSw);go_simp;(try with_reducible rfl))
      simp only [Act.put,ZA,ZB,ZC,ZD,ZE,ZF];refine' wpAnyH_take (i:=7) (v:=_) rfl (by kernel_rfl) (by kernel_rfl) (by kernel_rfl) (fun _ _ _ h=>h) (Or.inl ⟨by rfl,?hy42⟩) Hh ?hr42
      case hy42=>(intro w hSw;(try dsimp only at hSw);go_simp;(try with_reducible rfl))
      simp only [Act.put,ZA,ZB,ZC,ZD,ZE,ZF];refine' wpAnyH_take (i:=8) (v:=_) rfl (by kernel_rfl) (by kernel_rfl) (by kernel_rfl) (fun _ _ _ h=>h) (Or.inl ⟨by rfl,?hy43⟩) Hh ?hr43
      case hy43=>(intro w hSw;(try dsimp only at hSw);go_simp;(try with_reducible rfl))
      simp only [Act.put,ZA,ZB,ZC,ZD,ZE,ZF];refine' wpAnyH_take (i:=9) (v:=_) rfl (by kernel_rfl) (by kernel_rfl) (by kernel_rfl) (fun _ _ _ h=>h) (Or.inl ⟨by rfl,?hy44⟩) Hh ?hr44
      case hy44=>(intro w hSw;(try dsimp only at hSw);go_simp;(try with_reducible rfl))
      simp only [Act.put,ZA,ZB,ZC,ZD,ZE,ZF];refine wpAnyH_take (i:=10) (v:=undef) rfl (by kernel_rfl) (by kernel_rfl) (by kernel_rfl) (fun _ _ _ h=>h) (Or.inr ⟨by rfl,rfl⟩) Hh ?_;simp only [Act.put,ZA,ZB,ZC,ZD,ZE,ZF];refine wpAnyH_take (i:=11) (v:=undef) rfl (by kernel_rfl) (by kernel_rfl) (by kernel_rfl) (fun _ _ _ h=>h) (Or.inr ⟨by rfl,rfl⟩) Hh ?_;simp only [Act.put,ZA,ZB,ZC,ZD,ZE,ZF];refine wpAnyH_take (i:=12) (v:=undef) rfl (by kernel_rfl) (by kernel_rfl) (by kernel_rfl) (fun _ _ _ h=>h) (Or.inr ⟨by rfl,rfl⟩) Hh ?_;simp only [Act.put,ZA,ZB,ZC,ZD,ZE,ZF];refine wpAnyH_take (i:=13) (v:=undef) rfl (by kernel_rfl) (by kernel_rfl) (by kernel_rfl) (fun _ _ _ h=>h) (Or.inr ⟨by rfl,rfl⟩) Hh ?_;simp only [Act.put,ZA,ZB,ZC,ZD,ZE,ZF];refine wpAnyH_take (i:=14) (v:=undef) rfl (by kernel_rfl) (by kernel_rfl) (by kernel_rfl) (fun _ _ _ h=>h) (Or.inr ⟨by rfl,rfl⟩) Hh ?_;simp only [Act.put,ZA,ZB,ZC,ZD,ZE,ZF];refine wpAnyH_take (i:=15) (v:=undef) rfl (by kernel_rfl) (by kernel_rfl) (by kernel_rfl) (fun _ _ _ h=>h) (Or.inr ⟨by rfl,rfl⟩) Hh ?_;simp only [Act.put,ZA,ZB,ZC,ZD,ZE,ZF];refine wpAnyH_take (i:=16) (v:=undef) rfl (by kernel_rfl) (by kernel_rfl) (by kernel_rfl) (fun _ _ _ h=>h) (Or.inr ⟨by rfl,rfl⟩) Hh ?_;simp only [Act.put,ZA,ZB,ZC,ZD,ZE,ZF];refine' wpAnyH_take (i:=17) (v:=_) rfl (by kernel_rfl) (by kernel_rfl) (by kernel_rfl) (fun _ _ _ h=>h) (Or.inl ⟨by rfl,?hy45⟩) Hh ?hr45
      case hy45=>(intro w hSw;(try dsimp only at hSw);go_simp;(try with_reducible rfl))
      simp only [Act.put,ZA,ZB,ZC,ZD,ZE,ZF];refine dn ?_;have kb2:=Hh.2.2.2.2.2;clear Hh;go_wp2;go_ret
      first|exact ⟨ret_bool hno.symm,kb2⟩|exact ⟨rfl,kb2⟩
    ·have hjn:j=rows.length:=by omega
     have hji:¬ (j:Int)<(rows.length:Int):=by omega
     subst hjn;have hyes:gridOkB cols rows=true:=(gridOk_iff cols rows).2 ⟨h1,⟨hn1,hn2⟩,hall.out⟩;clear hall hv hin hs;go_wp2;go_ret
     first|exact ⟨ret_bool hyes.symm,kb⟩|exact ⟨rfl,kb⟩
  ·have hno:=gridOk_len (cols:=cols) hn
   clear hs hr
   by_cases h0:rows.length<1
   ·have hi:(rows.length:Int)<1:=by omega
    go_enter Tryz.func71,Tryz.ntmps71;go_wp2_with (go_at_call 73;refine (hin _).mono ?_;rintro e w1 ⟨rfl,hw⟩;subst hw);go_ret
    first|exact ⟨ret_bool hno.symm,hbB⟩|exact ⟨rfl,hbB⟩
   ·have hi:¬ (rows.length:Int)<1:=by omega
    have hi2:30<(rows.length:Int):=by omega
    go_enter Tryz.func71,Tryz.ntmps71;go_wp2_with (go_at_call 73;refine (hin _).mono ?_;rintro e w1 ⟨rfl,hw⟩;subst hw);go_ret
    first|exact ⟨ret_bool hno.symm,hbB⟩|exact ⟨rfl,hbB⟩
 ·have e1:decide ((1:Int)<=cols/\cols<=60)=false:=decide_eq_false h1
  rw [e1] at hin
  have hno:=gridOk_cols (rows:=rows) h1;clear e1 h1 hs hr;go_enter Tryz.func71,Tryz.ntmps71;go_wp2_with (go_at_call 73;refine (hin _).mono ?_;rintro e w1 ⟨rfl,hw⟩;subst hw);go_ret
  first|exact ⟨ret_bool hno.symm,hbB⟩|exact ⟨rfl,hbB⟩
structure Scr (W:World) (T:TypeId) (base B:Nat) (X:List Value) (t:Te) (v:Tv) (vg vo:List Value):Prop where
 b:BlkC W B T (X++(teCs t v).toList)
 o:OwnS W base t v vg vo
 n1:T≠120
 n2:T≠146
 n3:T≠2
 hb:base<=B
def Ft (B:Nat) (v:Tv) (vg vo:List Value) (k:Nat):Prop:=k=B\/GrS v.g vg k\/GrS v.o vo k
structure Res (W W':World) (T:TypeId) (base B:Nat) (X:List Value) (v:Tv) (vg vo:List Value) (t':Te) (v':Tv) (vg' vo':List Value):Prop where
 s:Scr W' T base B X t' v' vg' vo'
 g:GrP (Ft B v vg vo) W W'
 c:∀ k,k<W.heap.size->Ft B v' vg' vo' k->Ft B v vg vo k
 p:v'.pp=v.pp
 q:v'.pt=v.pt
theorem Scr.res {W:World} {T:TypeId} {base B:Nat} {X:List Value} {t:Te} {v:Tv} {vg vo:List Value} (h:Scr W T base B X t v vg vo):Res W W T base B X v vg vo t v vg vo :=
 ⟨h,GrP.refl _ _,fun _ _ c=>c,rfl,rfl⟩
theorem Res.trans {W W1 W2:World} {T:TypeId} {base B:Nat} {X:List Value} {v v1 v2:Tv} {vg vo vg1 vo1 vg2 vo2:List Value} {t1 t2:Te} (h:Res W W1 T base B X v vg vo t1 v1 vg1 vo1) (k:Res W1 W2 T base B X v1 vg1 vo1 t2 v2 vg2 vo2):Res W W2 T base B X v vg vo t2 v2 vg2 vo2:=by
 refine ⟨k.s,⟨k.g.1.trans h.g.1,k.g.2.1.trans h.g.2.1,k.g.2.2.1.trans h.g.2.2.1,Nat.le_trans h.g.size k.g.size,fun i hi hn=>?_⟩,fun i hi c=>h.c i hi (k.c i (Nat.lt_of_lt_of_le hi h.g.size) c),k.p.trans h.p,k.q.trans h.q⟩;exact (k.g.2.2.2.2 i (Nat.lt_of_lt_of_le hi h.g.size) (fun c=>hn (h.c i hi c))).trans (h.g.2.2.2.2 i hi hn)
theorem Scr.below {W W':World} {T:TypeId} {base B:Nat} {X:List Value} {t:Te} {v:Tv} {vg vo:List Value} (h:Scr W T base B X t v vg vo) (hb:Below W.heap.size W W'):Scr W' T base B X t v vg vo :=
 ⟨h.b.below hb,h.o.below hb,h.n1,h.n2,h.n3,h.hb⟩
theorem Scr.lt {W:World} {T:TypeId} {base B:Nat} {X:List Value} {t:Te} {v:Tv} {vg vo:List Value} (h:Scr W T base B X t v vg vo):B<W.heap.size:=h.b.lt
theorem Res.of_below {W W':World} {T:TypeId} {base B:Nat} {X:List Value} {t:Te} {v:Tv} {vg vo:List Value} (h:Scr W T base B X t v vg vo) (hb:Below W.heap.size W W'):Res W W' T base B X v vg vo t v vg vo :=
 ⟨h.below hb,GrP.of_below hb,fun _ _ c=>c,rfl,rfl⟩
theorem Res.below {W W1 W2:World} {T:TypeId} {base B:Nat} {X:List Value} {v v1:Tv} {vg vo vg1 vo1:List Value} {t1:Te} (h:Res W W1 T base B X v vg vo t1 v1 vg1 vo1) (hb:Below W1.heap.size W1 W2):Res W W2 T base B X v vg vo t1 v1 vg1 vo1:=h.trans (Res.of_below h.s hb)
theorem Scr.put {W W':World} {T:TypeId} {base B:Nat} {X:List Value} {t:Te} {v:Tv} {vg vo:List Value} (h:Scr W T base B X t v vg vo) (hg:W.grownBy W' (some B)) (t':Te) (hb:BlkC W' B T (X++(teCs t' v).toList)) (e1:t'.g=t.g) (e2:t'.o=t.o) (e3:t'.ti=t.ti) (e4:t'.pa.params=t.pa.params) (e5:t'.pa.text=t.pa.text):Res W W' T base B X v vg vo t' v vg vo:=by
 have ho:=h.o.grown hg h.b h.n1 h.n2 h.n3;refine ⟨⟨hb,?_,h.n1,h.n2,h.n3,h.hb⟩,GrP.of_grown hg (fun g e=>by cases e;exact .inl rfl),fun _ _ c=>c,rfl,rfl⟩;unfold OwnS at ho ⊢
 rw [e1,e2,e3,e4,e5]
 exact ho
theorem Scr.cell {W:World} {T:TypeId} {base B:Nat} {X:List Value} {t:Te} {v:Tv} {vg vo:List Value} (h:Scr W T base B X t v vg vo) (k:Nat):W.cell? ⟨B,k,none⟩=(X++(teCs t v).toList).toArray[k]?:=cAl h.b k
theorem Scr.frozen {W:World} {T:TypeId} {base B:Nat} {X:List Value} {t:Te} {v:Tv} {vg vo:List Value} (h:Scr W T base B X t v vg vo) (k:Nat):W.frozen? ⟨B,k,none⟩=false:=frozen_of_row _ _ _ _ _ h.b
theorem Scr.rows {W W':World} {T:TypeId} {base B:Nat} {X:List Value} {t:Te} {v:Tv} {vg vo:List Value} (h:Scr W T base B X t v vg vo) (_hbase:base<=W.heap.size) (vg':List Value) (G:List (List Ce)) (hv:OwnV W' base W'.heap.size v.g vg' G) (hg:GrP (GrS v.g vg) W W') (hc:∀ k,k<W.heap.size->GrS v.g vg' k->GrS v.g vg k):Res W W' T base B X v vg vo { t with g:=G } v vg' vo:=by
 have hnb:¬ GrS v.g vg B:=grS_not h.o.1 h.b h.n1 h.n2;refine ⟨⟨?_,⟨hv,(h.o.2.1.grp hg (fun k hk c=>h.o.2.2.1 k c hk)).up hg.size,fun k hk hk'=>?_,h.o.2.2.2.grp hg (fun p hp g e c=>li_not_grS h.o.1 (h.o.2.2.2.1 p hp) g e c)⟩,h.n1,h.n2,h.n3,h.hb⟩,hg.mono (fun k _ c=>.inr (.inl c)),fun k hk c=>?_,rfl,rfl⟩
 ·exact h.b.grp hg hnb
 ·have hb:=(GrS.bd h.o.2.1 hk').2
  exact h.o.2.2.1 k (hc k hb hk) hk'
 ·rcases c with c|c|c
  ·exact .inl c
  ·exact .inr (.inl (hc k hk c))
  ·exact .inr (.inr c)
theorem OwnS.swap {w:World} {base:Nat} {t:Te} {v:Tv} {vg vo:List Value} (h:OwnS w base t v vg vo):OwnS w base { t with g:=t.o,o:=t.g } ⟨v.o,v.g,v.ti,v.pp,v.pt⟩ vo vg :=
 ⟨h.2.1,h.1,fun k a b=>h.2.2.1 k b a,h.2.2.2⟩
theorem l4Cleared_any (v:Value) (xs:List Ce) (p q:Nat) (s:St) (w:World) (hv:SlC w v xs) (hpq:p<=q) (hq:q<=xs.length) (hl:xs.length<=1000) :
  Calls Tryz.prog 246 #[v,.int .i64 p,.int .i64 q,stV s] w fun e w'=>∃ u,e=.returned u/\OwnC w' w.heap.size u (clearL xs p q s)/\Below w.heap.size w w':=by
 have hbl:=fun W=>l4Blank_any s W
 have hme:=fun u W h=>l4Mended_any u (fillUp xs p q s) W h (by rw [fillUp_len];omega)
 have hcl:Hid (clearL xs p q s=mendV (fillUp xs p q s)):=rfl;obtain ⟨a,c,rfl,hr⟩:=id hv;have h2:=StAt.new w s 28;have hbA:=bal' w (Obj.cells #[.int .i64 s.fore,.int .i64 s.back,.bool s.bold,.bool s.under,.bool s.turned] 28);have k00:=ownC_nil (w.alloc (Obj.cells #[.int .i64 s.fore,.int .i64 s.back,.bool s.bold,.bool s.under,.bool s.turned] 28)) (w.heap.size+1) (by simp);have e1:(w.alloc (Obj.cells #[.int .i64 s.fore,.int .i64 s.back,.bool s.bold,.bool s.under,.bool s.turned] 28)).heap.size=w.heap.size+1:=by simp
 rw [e1] at k00
 have hv0:=(hv.below hbA).below (bal' _ (Obj.cells #[] 146));have hs0:=h2.below (bal' _ (Obj.cells #[] 146));have hb0:=hbA.trans ((bal' _ (Obj.cells #[] 146)).mono hbA.size);unfold stV ceV blankC at *;simp only at hbl;go_enter Tryz.func246,Tryz.ntmps246;go_wp2_with (at_builtin;refine append_os rfl _ _ rfl (w.heap.size+1) _ [] rfl (by exact k00) (by simp) _ xs hv0 rfl (by simp;omega) ?_;intro u w1 ho1 hg1);have k0:OC (w.heap.size+1) (.slice (some ⟨w.heap.size+1,0,none⟩) 0 0) [] w ((w.alloc (Obj.cells #[.int .i64 s.fore,.int .i64 s.back,.bool s.bold,.bool s.under,.bool s.turned] 28)).alloc (Obj.cells #[] 146)):=⟨k00,hb0,by simp,by omega⟩;have k1:OC (w.heap.size+1) u xs w w1:=k0.own (by simpa using ho1) hg1;have hs1:StAt w1 w.heap.size s:=hs0.own k00 (Nat.lt_succ_self _) hg1;clear k00 hv0 ho1 hg1 k0 hs0 hb0 hbA h2 e1 hr hv;rcases k1.1.shape with ⟨rfl,rfl⟩|⟨g,cap,rfl,hbg,hlg,hcap⟩
 ·have hp0:p=0:=by simp at hq;omega
  have hq0:q=0:=by simpa using hq
  subst hp0 hq0;go_wp2;refine wp_loop_rounds 1 ?_;rw [rounds_succ]
  go_wp2_with fail;refine (hme _ _ (by rw [fillUp_zero];exact SlC.of_own k1.1)).mono ?_;rintro e w2 ⟨u2,rfl,ho2,hb2⟩;go_wp2;go_ret;exact ⟨u2,rfl,by rw [hcl.out];exact ho2.low k1.2.1.size,k1.2.1.trans (hb2.mono k1.2.1.size)⟩
 ·go_wp2
  go_loopw [10] (fun i wr=>∃ j:Nat,i=.int .i64 j/\p<=j/\j<=q/\OC (w.heap.size+1) (.slice (some ⟨g,0,none⟩) xs.length cap) (fillUp xs p j s) w wr/\StAt wr w.heap.size s) (fun i _=>q-(intOf i).toNat)
  case atStart=>exact ⟨p,rfl,Nat.le_refl _,hpq,by rw [fillUp_zero];exact k1,hs1⟩
  case round =>
   clear k1 hs1;obtain ⟨j,rfl,hpj,hj,k,hs⟩:=hrel
   by_cases hlt:j<q
   ·have hji:(j:Int)<(q:Int):=by omega
    have hj0:(0:Int)<=(j:Int):=by omega
    have hjx:j<xs.length:=by omega
    have hjxi:(j:Int)<(xs.length:Int):=by omega
    have hst:Hid (fillUp xs p (j+1) s=(fillUp xs p j s).set j ⟨32,s,0⟩):=fillUp_step xs p j s hpj hjx;have hsz:(fillUp xs p j s).length=xs.length:=fillUp_len _ _ _ _;obtain ⟨_,⟨d0,d1,d2,d3,d4⟩,_⟩:=id hs;go_wp2_with fail;refine (hbl _).mono ?_;rintro e w2 ⟨rfl,hb2⟩;have k2:=k.below hb2;have hs2:=hs.below hb2;have hp:=k2.1.put hsz j hjx ⟨32,s,0⟩;have kk:OC (w.heap.size+1) (.slice (some ⟨g,0,none⟩) xs.length cap) (fillUp xs p (j+1) s) w (putCe w2 g (j*7) ⟨32,s,0⟩):=by rw [hst.out];exact k2.own hp.1 hp.2
    have hsk:StAt (putCe w2 g (j*7) ⟨32,s,0⟩) w.heap.size s:=hs2.own k2.1 (Nat.lt_succ_self _) hp.2;have hat:=k2.1.at hsz j hjx;have f0:=k2.1.frozen hsz (j*7);have f1:=k2.1.frozen hsz (j*7+1);have f2:=k2.1.frozen hsz (j*7+2);have f3:=k2.1.frozen hsz (j*7+3);have f4:=k2.1.frozen hsz (j*7+4);have f5:=k2.1.frozen hsz (j*7+5);have f6:=k2.1.frozen hsz (j*7+6);clear hp k hb2 hbl hst d0 d1 d2 d3 d4 hs hs2 k2 hme;obtain ⟨c0,c1,c2,c3,c4,c5,c6⟩:=hat;simp only [putCe] at kk hsk;go_wp2;go_roundw
    case rel=>exact ⟨j+1,by go_num,by omega,by omega,kk,hsk⟩
    case measure=>simp [intOf];omega
   ·have hjn:j=q:=by omega
    have hji:¬ (j:Int)<(q:Int):=by omega
    subst hjn;have hm2:=hme (.slice (some ⟨g,0,none⟩) xs.length cap) wr (SlC.of_own k.1);clear hbl hs hme;go_wp2_with fail;refine hm2.mono ?_;rintro e w2 ⟨u2,rfl,ho2,hb2⟩;go_wp2;go_ret;exact ⟨u2,rfl,by rw [hcl.out];exact ho2.low k.2.1.size,k.2.1.trans (hb2.mono k.2.1.size)⟩
def writeL (xs:List Ce) (p:Nat) (r:Int) (s:St):List Ce :=
 if wdV r=2 then ((clearL xs p (p+(wdV r).toNat) s).set p ⟨r,s,wdV r-1⟩).set (p+1) ⟨0,s,2⟩ else (clearL xs p (p+(wdV r).toNat) s).set p ⟨r,s,wdV r-1⟩
theorem writeL_len (xs:List Ce) (p:Nat) (r:Int) (s:St):(writeL xs p r s).length=xs.length:=by
 unfold writeL;split<;>simp [clearL_len]
theorem l4Written_any (v:Value) (xs:List Ce) (p:Nat) (r:Int) (s:St) (w:World) (hv:SlC w v xs) (hw1:1<=wdV r) (hp:(p:Int)+wdV r<=xs.length) (hl:xs.length<=1000) :
  Calls Tryz.prog 208 #[v,.int .i64 p,.int .i64 r,stV s] w fun e w'=>∃ u,e=.returned u/\OwnC w' w.heap.size u (writeL xs p r s)/\Below w.heap.size w w':=by
 have h2:=StAt.new w s 28;have hbA:=bal' w (Obj.cells #[.int .i64 s.fore,.int .i64 s.back,.bool s.bold,.bool s.under,.bool s.turned] 28);have hsz:(w.alloc (Obj.cells #[.int .i64 s.fore,.int .i64 s.back,.bool s.bold,.bool s.under,.bool s.turned] 28)).heap.size=w.heap.size+1:=by simp
 have hwd:=fun W=>sWa r W
 have hbd:=widthV_bd r;have hv1:=hv.below hbA;have hcl:=l4Cleared_any v xs p (p+(wdV r).toNat) s _ hv1 (by omega) (by omega) hl;have hwl:Hid (writeL xs p r s=if wdV r=2 then ((clearL xs p (p+(wdV r).toNat) s).set p ⟨r,s,wdV r-1⟩).set (p+1) ⟨0,s,2⟩ else (clearL xs p (p+(wdV r).toNat) s).set p ⟨r,s,wdV r-1⟩):=rfl;have hcLen:=clearL_len xs p (p+(wdV r).toNat) s;have eW:((p+(wdV r).toNat:Nat):Int)=(p:Int)+wdV r:=by omega
 rw [eW] at hcl
 generalize clearL xs p (p+(wdV r).toNat) s=L at *;generalize wdV r=W at *;clear eW hv1;obtain ⟨a,c,rfl,hcp,_⟩:=hv;obtain ⟨_,⟨c0,c1,c2,c3,c4⟩,_⟩:=id h2;unfold stV at *;go_enter Tryz.func208,Tryz.ntmps208;go_wp2_with (go_at_call 172;refine (hwd _).mono ?_;rintro e w4 ⟨rfl,hw⟩;subst hw);refine hcl.mono ?_;rintro e w5 ⟨u,rfl,ho5,hb5⟩;have ko:OC (w.heap.size+1) u L w w5:=⟨ho5.low (by rw [hsz];exact Nat.le_refl _),hbA.trans (hb5.mono hbA.size),by have:=hb5.size;rw [hsz] at this;exact this,by omega⟩;have hs:=h2.below hb5;clear hcl ho5 hb5 h2 hbA c0 c1 c2 c3 c4 hwd hsz;have hpx:p<xs.length:=by omega
 rcases ko.1.shape with ⟨_,hx⟩|⟨g,cap,rfl,hbg,hlg,hcap⟩
 ·rw [hx] at hcLen;simp at hcLen;omega
 ·rw [hcLen] at ko hcap ⊢
  have hp1:=ko.1.put hcLen p hpx ⟨r,s,W-1⟩;have k2:OC (w.heap.size+1) (.slice (some ⟨g,0,none⟩) xs.length cap) (L.set p ⟨r,s,W-1⟩) w (putCe w5 g (p*7) ⟨r,s,W-1⟩):=ko.own hp1.1 hp1.2;have hs2:=hs.own ko.1 (Nat.lt_succ_self _) hp1.2;have hat:=ko.1.at hcLen p hpx;have f0:=ko.1.frozen hcLen (p*7);have f1:=ko.1.frozen hcLen (p*7+1);have f2:=ko.1.frozen hcLen (p*7+2);have f3:=ko.1.frozen hcLen (p*7+3);have f4:=ko.1.frozen hcLen (p*7+4);have f5:=ko.1.frozen hcLen (p*7+5);have f6:=ko.1.frozen hcLen (p*7+6);have hlen2:(L.set p ⟨r,s,W-1⟩).length=xs.length:=by rw [List.length_set];exact hcLen
  obtain ⟨_,⟨c0,c1,c2,c3,c4⟩,_⟩:=id hs;obtain ⟨d0,d1,d2,d3,d4,d5,d6⟩:=hat;have hpi:(p:Int)<(xs.length:Int):=by omega
  have hp0:(0:Int)<=(p:Int):=by omega
  by_cases hW:W=2
  ·have hWb:(W==2)=true:=by simp [hW]
   have hp1x:p+1<xs.length:=by omega
   have hp1i:(p:Int)+1<(xs.length:Int):=by omega
   have hq1:=k2.1.put hlen2 (p+1) hp1x ⟨0,s,2⟩;have k3:OC (w.heap.size+1) (.slice (some ⟨g,0,none⟩) xs.length cap) ((L.set p ⟨r,s,W-1⟩).set (p+1) ⟨0,s,2⟩) w (putCe (putCe w5 g (p*7) ⟨r,s,W-1⟩) g ((p+1)*7) ⟨0,s,2⟩):=k2.own hq1.1 hq1.2;have hat2:=k2.1.at hlen2 (p+1) hp1x;have g0:=k2.1.frozen hlen2 ((p+1)*7);have g1:=k2.1.frozen hlen2 ((p+1)*7+1);have g2:=k2.1.frozen hlen2 ((p+1)*7+2);have g3:=k2.1.frozen hlen2 ((p+1)*7+3);have g4:=k2.1.frozen hlen2 ((p+1)*7+4);have g5:=k2.1.frozen hlen2 ((p+1)*7+5);have g6:=k2.1.frozen hlen2 ((p+1)*7+6);obtain ⟨_,⟨b0,b1,b2,b3,b4⟩,_⟩:=id hs2;obtain ⟨e0,e1,e2,e3,e4,e5,e6⟩:=hat2;have hwl':Hid (writeL xs p r s=(L.set p ⟨r,s,W-1⟩).set (p+1) ⟨0,s,2⟩):=by show _=_;rw [hwl.out,if_pos hW]
   clear hp1 hq1 k2 hs hs2 ko hwl hW;generalize hY:putCe w5 g (p*7) ⟨r,s,W-1⟩=Y at *;simp only [putCe] at hY;generalize hZ:putCe Y g ((p+1)*7) ⟨0,s,2⟩=Z at *;simp only [putCe] at hZ;go_wp2;go_ret;exact ⟨_,rfl,by rw [hwl'.out];exact k3.1.low (by omega),k3.2.1⟩
  ·have hWb:(W==2)=false:=by simp [hW]
   have hwl':Hid (writeL xs p r s=L.set p ⟨r,s,W-1⟩):=by show _=_;rw [hwl.out,if_neg hW]
   clear hp1 hs hs2 ko hwl hW;generalize hY:putCe w5 g (p*7) ⟨r,s,W-1⟩=Y at *;simp only [putCe] at hY;go_wp2;go_ret;exact ⟨_,rfl,by rw [hwl'.out];exact k2.1.low (by omega),k2.2.1⟩
end Go.Proofs.YtgcnmjjlmcnllaaGreatDoor
