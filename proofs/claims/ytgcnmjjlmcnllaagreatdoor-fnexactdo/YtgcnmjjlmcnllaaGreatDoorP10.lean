/- Parts of the proof. -/
import Derived.Test.YtgcnmjjlmcnllaaGreatDoorP1
import Derived.Test.YtgcnmjjlmcnllaaGreatDoorP2
import Derived.Test.YtgcnmjjlmcnllaaGreatDoorP3
import Derived.Test.YtgcnmjjlmcnllaaGreatDoorP8
import Derived.Test.YtgcnmjjlmcnllaaGreatDoorP9
import Derived.Deep.RegionHeld3
namespace Go.Proofs.YtgcnmjjlmcnllaaGreatDoor
set_option maxRecDepth 20000
set_option maxHeartbeats 16000000
open Go.ChangeShapes Go.WideShapes Go.ChangeAt Go.RowKit
attribute [local go_sem ↓] eq_st
def CeN (w:World) (B:Nat) (c:Ce):Prop :=
 w.cell? ⟨B,0,none⟩=some (.int .i64 c.rune)/\w.cell? ⟨B,1,none⟩=some (.int .i64 c.st.fore)/\w.cell? ⟨B,2,none⟩=some (.int .i64 c.st.back)/\w.cell? ⟨B,3,none⟩=some (.bool c.st.bold)/\w.cell? ⟨B,4,none⟩=some (.bool c.st.under)/\w.cell? ⟨B,5,none⟩=some (.bool c.st.turned)/\w.cell? ⟨B,6,none⟩=some (.int .i64 c.part)
theorem CeN.new (w:World) (c:Ce) (t:TypeId):CeN (w.alloc (.cells #[.int .i64 c.rune,.int .i64 c.st.fore,.int .i64 c.st.back,.bool c.st.bold,.bool c.st.under,.bool c.st.turned,.int .i64 c.part] t)) w.heap.size c :=
 ⟨by simp [go_sem],by simp [go_sem],by simp [go_sem],by simp [go_sem],by simp [go_sem],by simp [go_sem],by simp [go_sem]⟩
theorem CeN.below {w w':World} {B:Nat} {c:Ce} (h:CeN w B c) (hb:Below w.heap.size w w') (hlt:B<w.heap.size):CeN w' B c:=by
 have e:∀ k,w'.cell? ⟨B,k,none⟩=w.cell? ⟨B,k,none⟩:=fun k=>hb.cell (p:=⟨B,k,none⟩) hlt
 unfold CeN;rw [e,e,e,e,e,e,e]
 exact h
theorem specRowOk_any (v:Value) (xs:List Ce) (w:World) (hv:SlC w v xs) (hl:xs.length<=1048576) :
  Calls Tryz.prog 151 #[v] w fun e w'=>e=.returned (.bool (rowOkB xs))/\Below w.heap.size w w':=by
 have hOK:=fun s W=>specStyleOk_any s W
 obtain ⟨a,c,rfl,hcp,_,hr⟩:=id hv
 by_cases hn:1<=xs.length/\xs.length<=60
 ·obtain ⟨hn1,hn2⟩:=hn
  have hn1i:¬ (xs.length:Int)<1:=by omega
  have hn2i:¬ 60<(xs.length:Int):=by omega
  rcases hr with h|⟨b,off,rfl,hbb,hsrc0⟩
  ·rw [h] at hn1;simp at hn1
  unfold stV at hOK;go_enter Tryz.func151,Tryz.ntmps151;go_wp2;go_loopw [4] (fun i wr=>∃ j:Nat,i=.int .i64 j/\j<=xs.length/\Hid (∀ k,k<j->cellOkB xs k=true)/\Below w.heap.size w wr) (fun i _=>xs.length-(intOf i).toNat)
  case atStart=>exact ⟨0,rfl,Nat.zero_le _,(fun k hk=>absurd hk (Nat.not_lt_zero k)),Below.refl _ _⟩
  case round =>
   obtain ⟨j,rfl,hj,hall,kb⟩:=hrel
   by_cases hlt:j<xs.length
   ·have hji:(j:Int)<(xs.length:Int):=by omega
    have hj0:(0:Int)<=(j:Int):=by omega
    have hat:=(hsrc0 j hlt).below kb hbb;obtain ⟨c0,c1,c2,c3,c4,c5,c6⟩:=hat;have hx:=CeN.new wr (atC xs j) 146;have kb1:=kb.trans ((bal' wr (Obj.cells #[.int .i64 (atC xs j).rune,.int .i64 (atC xs j).st.fore,.int .i64 (atC xs j).st.back,.bool (atC xs j).st.bold,.bool (atC xs j).st.under,.bool (atC xs j).st.turned,.int .i64 (atC xs j).part] 146)).mono kb.size);have hst:=hOK (atC xs j).st;obtain ⟨d0,d1,d2,d3,d4,d5,d6⟩:=id hx;go_wp2_with fail;refine (hst _).mono ?_;rintro e w2 ⟨rfl,hb2⟩;have hx2:=hx.below hb2 (by simp);have kb2:=kb1.trans (hb2.mono kb1.size);have hsrc:∀ i,i<xs.length->CeAt w2 b (off+i*7) (atC xs i):=fun i hi=>(hsrc0 i hi).below kb2 hbb
    clear hx kb1 hb2 kb hst c0 c1 c2 c3 c4 c5 c6 d0 d1 d2 d3 d4 d5 d6 hv;obtain ⟨d0,d1,d2,d3,d4,d5,d6⟩:=hx2
    cases hso:(atC xs j).st.ok
    ·have hno:rowOkB xs=false:=rowOkB_no xs j hlt (by unfold cellOkB;rw [hso];rfl)
     clear hall hsrc;go_wp2;go_ret
     first|exact ⟨ret_bool hno.symm,kb2⟩|exact ⟨rfl,kb2⟩|exact ⟨rfl,kb2.drew⟩|exact ⟨ret_bool hno.symm,kb2.drew⟩
    ·by_cases e0:(atC xs j).part=0
     ·have b0:((atC xs j).part==0)=true:=by simp [e0]
      have hwd:=sWa (atC xs j).rune
      by_cases e1:wdV (atC xs j).rune=1
      ·have b1:(wdV (atC xs j).rune != 1)=false:=by simp [e1]
       have hyes:cellOkB xs j=true:=by unfold cellOkB;rw [hso,if_pos e0];simp [e1]
       have hall':Hid (∀ k,k<j+1->cellOkB xs k=true):=fun k hk=>by rcases Nat.lt_succ_iff_lt_or_eq.1 hk with h|rfl;exact hall.out k h;exact hyes
       clear hall hsrc hyes e1;go_wp2_with fail;refine (hwd _).mono ?_;rintro e w3 ⟨rfl,hw3⟩;subst hw3;go_wp2;go_roundw
       case rel=>exact ⟨j+1,by go_num,by omega,hall',(by first|exact kb2|exact kb2.drew)⟩
       case measure=>simp [intOf];omega
      ·have b1:(wdV (atC xs j).rune != 1)=true:=by simp [e1]
       have hno:rowOkB xs=false:=rowOkB_no xs j hlt (by unfold cellOkB;rw [hso,if_pos e0];simp [e1]);clear hall hsrc e1;go_wp2_with fail;refine (hwd _).mono ?_;rintro e w3 ⟨rfl,hw3⟩;subst hw3;go_wp2;go_ret
       first|exact ⟨ret_bool hno.symm,kb2⟩|exact ⟨rfl,kb2⟩|exact ⟨rfl,kb2.drew⟩|exact ⟨ret_bool hno.symm,kb2.drew⟩
     ·have b0:((atC xs j).part==0)=false:=by simp [e0]
      by_cases e1:(atC xs j).part=1
      ·have b1:((atC xs j).part==1)=true:=by simp [e1]
       have hlj:j<xs.length:=hlt
       by_cases e2:wdV (atC xs j).rune=2
       ·have b2:(wdV (atC xs j).rune != 2)=false:=by simp [e2]
        by_cases e3:j+1=xs.length
        ·have b3:((j:Int)+1==(xs.length:Int))=true:=by simp;omega
         have hwr:IntKind.i64.wrap ((j:Int)+1)=(j:Int)+1:=by simp [IntKind.wrap_i64];omega
         have hno:rowOkB xs=false:=rowOkB_no xs j hlt (by unfold cellOkB;rw [hso,if_neg e0,if_pos e1,decide_eq_false (show ¬ j+1<xs.length by omega)];simp);clear hall hsrc e2 e3;go_wp2;refine wp_region_noPanic ?_;refine wp_region_held_drew (S:=fun W=>W=w2.drew) (by kernel_rfl) rfl (fun Hh=>?_);refine' wpAnyH_take (i:=0) (v:=_) rfl (by kernel_rfl) (by kernel_rfl) (by kernel_rfl) (fun _ _ _ h=>h) (Or.inl ⟨by rfl,?hy1⟩) Hh ?hr1
         case hy1=>(intro w hSw;(try dsimp only at hSw);subst hSw;go_simp;(try with_reducible rfl))
         simp only [Act.put,ZA,ZB,ZC,ZD,ZE];refine' wpAnyH_take (i:=1) (v:=_) rfl (by kernel_rfl) (by kernel_rfl) (by kernel_rfl) (fun _ _ _ h=>h) (Or.inl ⟨by rfl,?hy2⟩) Hh ?hr2
         case hy2=>(intro w hSw;(try dsimp only at hSw);subst hSw;go_simp;(try with_reducible rfl))
         refine rd 2 fun K hK=>?_
         go_simp;refine (sWa _ _).mono ?_;rintro e wk ⟨rfl,hwk⟩;subst hwk;go_wp2_with fail;refine hK.out _ _ (by rfl) (fun Hh=>?_);clear hK K
         (try simp only [Act.put,ZA,ZB,ZC])
         refine' wpAnyH_take (i:=3) (v:=_) rfl (by kernel_rfl) (by kernel_rfl) (by kernel_rfl) (fun _ _ _ h=>h) (Or.inl ⟨by rfl,?hy3⟩) Hh ?hr3
         case hy3=>(intro w hSw;(try dsimp only at hSw);subst hSw;go_simp;(try with_reducible rfl))
         simp only [Act.put,ZA,ZB,ZC,ZD,ZE,ZF];refine' wpAnyH_take (i:=4) (v:=_) rfl (by kernel_rfl) (by kernel_rfl) (by kernel_rfl) (fun _ _ _ h=>h) (Or.inl ⟨by rfl,?hy4⟩) Hh ?hr4
         case hy4=>(intro w hSw;(try dsimp only at hSw);subst hSw;go_simp;(try with_reducible rfl))
         simp only [Act.put,ZA,ZB,ZC,ZD,ZE,ZF];refine' wpAnyH_take (i:=5) (v:=_) rfl (by kernel_rfl) (by kernel_rfl) (by kernel_rfl) (fun _ _ _ h=>h) (Or.inl ⟨by rfl,?hy5⟩) Hh ?hr5
         case hy5=>(intro w hSw;(try dsimp only at hSw);subst hSw;go_simp;(try with_reducible rfl))
         simp only [Act.put,ZA,ZB,ZC,ZD,ZE,ZF];refine' wpAnyH_take (i:=6) (v:=_) rfl (by kernel_rfl) (by kernel_rfl) (by kernel_rfl) (fun _ _ _ h=>h) (Or.inl ⟨by rfl,?hy6⟩) Hh ?hr6
         case hy6=>(intro w hSw;(try dsimp only at hSw);subst hSw;go_simp;(try with_reducible rfl))
         simp only [Act.put,ZA,ZB,ZC,ZD,ZE,ZF];refine' wpAnyH_take (i:=7) (v:=_) rfl (by kernel_rfl) (by kernel_rfl) (by kernel_rfl) (fun _ _ _ h=>h) (Or.inl ⟨by rfl,?hy7⟩) Hh ?hr7
         case hy7=>(intro w hSw;(try dsimp only at hSw);subst hSw;go_simp;(try with_reducible rfl))
         simp only [Act.put,ZA,ZB,ZC,ZD,ZE,ZF];refine' wpAnyH_take (i:=8) (v:=_) rfl (by kernel_rfl) (by kernel_rfl) (by kernel_rfl) (fun _ _ _ h=>h) (Or.inl ⟨by rfl,?hy8⟩) Hh ?hr8
         case hy8=>(intro w hSw;(try dsimp only at hSw);subst hSw;go_simp;(try with_reducible rfl))
         simp only [Act.put,ZA,ZB,ZC,ZD,ZE,ZF];refine' wpAnyH_take (i:=9) (v:=_) rfl (by kernel_rfl) (by kernel_rfl) (by kernel_rfl) (fun _ _ _ h=>h) (Or.inl ⟨by rfl,?hy9⟩) Hh ?hr9
         case hy9=>(intro w hSw;(try dsimp only at hSw);subst hSw;go_simp;(try with_reducible rfl))
         simp only [Act.put,ZA,ZB,ZC,ZD,ZE,ZF];refine' wpAnyH_take (i:=10) (v:=_) rfl (by kernel_rfl) (by kernel_rfl) (by kernel_rfl) (fun _ _ _ h=>h) (Or.inl ⟨by rfl,?hy10⟩) Hh ?hr10
         case hy10=>(intro w hSw;(try dsimp only at hSw);subst hSw;go_simp;(try with_reducible rfl))
         simp only [Act.put,ZA,ZB,ZC,ZD,ZE,ZF];refine wpAnyH_take (i:=11) (v:=undef) rfl (by kernel_rfl) (by kernel_rfl) (by kernel_rfl) (fun _ _ _ h=>h) (Or.inr ⟨by rfl,rfl⟩) Hh ?_;simp only [Act.put,ZA,ZB,ZC,ZD,ZE,ZF];refine wpAnyH_take (i:=12) (v:=undef) rfl (by kernel_rfl) (by kernel_rfl) (by kernel_rfl) (fun _ _ _ h=>h) (Or.inr ⟨by rfl,rfl⟩) Hh ?_;simp only [Act.put,ZA,ZB,ZC,ZD,ZE,ZF];refine wpAnyH_take (i:=13) (v:=undef) rfl (by kernel_rfl) (by kernel_rfl) (by kernel_rfl) (fun _ _ _ h=>h) (Or.inr ⟨by rfl,rfl⟩) Hh ?_;simp only [Act.put,ZA,ZB,ZC,ZD,ZE,ZF];refine wpAnyH_take (i:=14) (v:=undef) rfl (by kernel_rfl) (by kernel_rfl) (by kernel_rfl) (fun _ _ _ h=>h) (Or.inr ⟨by rfl,rfl⟩) Hh ?_;simp only [Act.put,ZA,ZB,ZC,ZD,ZE,ZF];refine wpAnyH_take (i:=15) (v:=undef) rfl (by kernel_rfl) (by kernel_rfl) (by kernel_rfl) (fun _ _ _ h=>h) (Or.inr ⟨by rfl,rfl⟩) Hh ?_;simp only [Act.put,ZA,ZB,ZC,ZD,ZE,ZF];refine wpAnyH_take (i:=16) (v:=undef) rfl (by kernel_rfl) (by kernel_rfl) (by kernel_rfl) (fun _ _ _ h=>h) (Or.inr ⟨by rfl,rfl⟩) Hh ?_;simp only [Act.put,ZA,ZB,ZC,ZD,ZE,ZF];refine wpAnyH_take (i:=17) (v:=undef) rfl (by kernel_rfl) (by kernel_rfl) (by kernel_rfl) (fun _ _ _ h=>h) (Or.inr ⟨by rfl,rfl⟩) Hh ?_;simp only [Act.put,ZA,ZB,ZC,ZD,ZE,ZF];refine' wpAnyH_take (i:=18) (v:=_) rfl (by kernel_rfl) (by kernel_rfl) (by kernel_rfl) (fun _ _ _ h=>h) (Or.inl ⟨by rfl,?hy11⟩) Hh ?hr11
         case hy11=>(intro w hSw;(try dsimp only at hSw);subst hSw;go_simp;(try with_reducible rfl))
         simp only [Act.put,ZA,ZB,ZC,ZD,ZE,ZF];refine' wpAnyH_take (i:=19) (v:=_) rfl (by kernel_rfl) (by kernel_rfl) (by kernel_rfl) (fun _ _ _ h=>h) (Or.inl ⟨by rfl,?hy12⟩) Hh ?hr12
         case hy12=>(intro w hSw;(try dsimp only at hSw);subst hSw;go_simp;(try with_reducible rfl))
         simp only [Act.put,ZA,ZB,ZC,ZD,ZE,ZF];refine wpAnyH_take (i:=20) (v:=undef) rfl (by kernel_rfl) (by kernel_rfl) (by kernel_rfl) (fun _ _ _ h=>h) (Or.inr ⟨by rfl,rfl⟩) Hh ?_;simp only [Act.put,ZA,ZB,ZC,ZD,ZE,ZF];refine wpAnyH_take (i:=21) (v:=undef) rfl (by kernel_rfl) (by kernel_rfl) (by kernel_rfl) (fun _ _ _ h=>h) (Or.inr ⟨by rfl,rfl⟩) Hh ?_;simp only [Act.put,ZA,ZB,ZC,ZD,ZE,ZF];refine wpAnyH_take (i:=22) (v:=undef) rfl (by kernel_rfl) (by kernel_rfl) (by kernel_rfl) (fun _ _ _ h=>h) (Or.inr ⟨by rfl,rfl⟩) Hh ?_;simp only [Act.put,ZA,ZB,ZC,ZD,ZE,ZF];refine wpAnyH_take (i:=23) (v:=undef) rfl (by kernel_rfl) (by kernel_rfl) (by kernel_rfl) (fun _ _ _ h=>h) (Or.inr ⟨by rfl,rfl⟩) Hh ?_;simp only [Act.put,ZA,ZB,ZC,ZD,ZE,ZF];refine wpAnyH_take (i:=24) (v:=undef) rfl (by kernel_rfl) (by kernel_rfl) (by kernel_rfl) (fun _ _ _ h=>h) (Or.inr ⟨by rfl,rfl⟩) Hh ?_;simp only [Act.put,ZA,ZB,ZC,ZD,ZE,ZF];refine wpAnyH_take (i:=25) (v:=undef) rfl (by kernel_rfl) (by kernel_rfl) (by kernel_rfl) (fun _ _ _ h=>h) (Or.inr ⟨by rfl,rfl⟩) Hh ?_;simp only [Act.put,ZA,ZB,ZC,ZD,ZE,ZF];refine wpAnyH_take (i:=26) (v:=undef) rfl (by kernel_rfl) (by kernel_rfl) (by kernel_rfl) (fun _ _ _ h=>h) (Or.inr ⟨by rfl,rfl⟩) Hh ?_;simp only [Act.put,ZA,ZB,ZC,ZD,ZE,ZF];refine wpAnyH_take (i:=27) (v:=undef) rfl (by kernel_rfl) (by kernel_rfl) (by kernel_rfl) (fun _ _ _ h=>h) (Or.inr ⟨by rfl,rfl⟩) Hh ?_;simp only [Act.put,ZA,ZB,ZC,ZD,ZE,ZF];refine wpAnyH_take (i:=28) (v:=undef) rfl (by kernel_rfl) (by kernel_rfl) (by kernel_rfl) (fun _ _ _ h=>h) (Or.inr ⟨by rfl,rfl⟩) Hh ?_;simp only [Act.put,ZA,ZB,ZC,ZD,ZE,ZF];refine' wpAnyH_take (i:=29) (v:=_) rfl (by kernel_rfl) (by kernel_rfl) (by kernel_rfl) (fun _ _ _ h=>h) (Or.inl ⟨by rfl,?hy13⟩) Hh ?hr13
         case hy13=>(intro w hSw;(try dsimp only at hSw);subst hSw;go_simp;(try with_reducible rfl))
         simp only [Act.put,ZA,ZB,ZC,ZD,ZE,ZF];refine dn ?_;go_wp2;go_ret
         first|exact ⟨ret_bool hno.symm,kb2⟩|exact ⟨rfl,kb2⟩|exact ⟨rfl,kb2.drew⟩|exact ⟨ret_bool hno.symm,kb2.drew⟩
        ·have b3:((j:Int)+1==(xs.length:Int))=false:=by simp;omega
         have hwr:IntKind.i64.wrap ((j:Int)+1)=(j:Int)+1:=by simp [IntKind.wrap_i64];omega
         have hj1:j+1<xs.length:=by omega
         have hj1i:(j:Int)+1<(xs.length:Int):=by omega
         have hj1z:(0:Int)<=(j:Int)+1:=by omega
         obtain ⟨q0,q1,q2,q3,q4,q5,q6⟩:=hsrc (j+1) hj1
         by_cases e4:(atC xs (j+1)).part=2
         ·have b4:((atC xs (j+1)).part != 2)=false:=by simp [e4]
          by_cases e5:(atC xs (j+1)).st=(atC xs j).st
          ·have b5:decide ((atC xs (j+1)).st=(atC xs j).st)=true:=decide_eq_true e5
           have hyes:cellOkB xs j=true:=by unfold cellOkB;rw [hso,if_neg e0,if_pos e1,decide_eq_true e2,decide_eq_true hj1,decide_eq_true e4,b5];rfl
           have hall':Hid (∀ k,k<j+1->cellOkB xs k=true):=fun k hk=>by rcases Nat.lt_succ_iff_lt_or_eq.1 hk with h|rfl;exact hall.out k h;exact hyes
           clear hall hsrc hyes e2 e5;go_wp2;refine wp_region_noPanic ?_;refine wp_region_held_drew (S:=fun W=>W=w2.drew) (by kernel_rfl) rfl (fun Hh=>?_);refine' wpAnyH_take (i:=0) (v:=_) rfl (by kernel_rfl) (by kernel_rfl) (by kernel_rfl) (fun _ _ _ h=>h) (Or.inl ⟨by rfl,?hy14⟩) Hh ?hr14
           case hy14=>(intro w hSw;(try dsimp only at hSw);subst hSw;go_simp;(try with_reducible rfl))
           simp only [Act.put,ZA,ZB,ZC,ZD,ZE];refine' wpAnyH_take (i:=1) (v:=_) rfl (by kernel_rfl) (by kernel_rfl) (by kernel_rfl) (fun _ _ _ h=>h) (Or.inl ⟨by rfl,?hy15⟩) Hh ?hr15
           case hy15=>(intro w hSw;(try dsimp only at hSw);subst hSw;go_simp;(try with_reducible rfl))
           refine rd 2 fun K hK=>?_
           go_simp;refine (sWa _ _).mono ?_;rintro e wk ⟨rfl,hwk⟩;subst hwk;go_wp2_with fail;refine hK.out _ _ (by rfl) (fun Hh=>?_);clear hK K
           (try simp only [Act.put,ZA,ZB,ZC])
           refine' wpAnyH_take (i:=3) (v:=_) rfl (by kernel_rfl) (by kernel_rfl) (by kernel_rfl) (fun _ _ _ h=>h) (Or.inl ⟨by rfl,?hy16⟩) Hh ?hr16
           case hy16=>(intro w hSw;(try dsimp only at hSw);subst hSw;go_simp;(try with_reducible rfl))
           simp only [Act.put,ZA,ZB,ZC,ZD,ZE,ZF];refine' wpAnyH_take (i:=4) (v:=_) rfl (by kernel_rfl) (by kernel_rfl) (by kernel_rfl) (fun _ _ _ h=>h) (Or.inl ⟨by rfl,?hy17⟩) Hh ?hr17
           case hy17=>(intro w hSw;(try dsimp only at hSw);subst hSw;go_simp;(try with_reducible rfl))
           simp only [Act.put,ZA,ZB,ZC,ZD,ZE,ZF];refine' wpAnyH_take (i:=5) (v:=_) rfl (by kernel_rfl) (by kernel_rfl) (by kernel_rfl) (fun _ _ _ h=>h) (Or.inl ⟨by rfl,?hy18⟩) Hh ?hr18
           case hy18=>(intro w hSw;(try dsimp only at hSw);subst hSw;go_simp;(try with_reducible rfl))
           simp only [Act.put,ZA,ZB,ZC,ZD,ZE,ZF];refine' wpAnyH_take (i:=6) (v:=_) rfl (by kernel_rfl) (by kernel_rfl) (by kernel_rfl) (fun _ _ _ h=>h) (Or.inl ⟨by rfl,?hy19⟩) Hh ?hr19
           case hy19=>(intro w hSw;(try dsimp only at hSw);subst hSw;go_simp;(try with_reducible rfl))
           simp only [Act.put,ZA,ZB,ZC,ZD,ZE,ZF];refine' wpAnyH_take (i:=7) (v:=_) rfl (by kernel_rfl) (by kernel_rfl) (by kernel_rfl) (fun _ _ _ h=>h) (Or.inl ⟨by rfl,?hy20⟩) Hh ?hr20
           case hy20=>(intro w hSw;(try dsimp only at hSw);subst hSw;go_simp;(try with_reducible rfl))
           simp only [Act.put,ZA,ZB,ZC,ZD,ZE,ZF];refine' wpAnyH_take (i:=8) (v:=_) rfl (by kernel_rfl) (by kernel_rfl) (by kernel_rfl) (fun _ _ _ h=>h) (Or.inl ⟨by rfl,?hy21⟩) Hh ?hr21
           case hy21=>(intro w hSw;(try dsimp only at hSw);subst hSw;go_simp;(try with_reducible rfl))
           simp only [Act.put,ZA,ZB,ZC,ZD,ZE,ZF];refine' wpAnyH_take (i:=9) (v:=_) rfl (by kernel_rfl) (by kernel_rfl) (by kernel_rfl) (fun _ _ _ h=>h) (Or.inl ⟨by rfl,?hy22⟩) Hh ?hr22
           case hy22=>(intro w hSw;(try dsimp only at hSw);subst hSw;go_simp;(try with_reducible rfl))
           simp only [Act.put,ZA,ZB,ZC,ZD,ZE,ZF];refine' wpAnyH_take (i:=10) (v:=_) rfl (by kernel_rfl) (by kernel_rfl) (by kernel_rfl) (fun _ _ _ h=>h) (Or.inl ⟨by rfl,?hy23⟩) Hh ?hr23
           case hy23=>(intro w hSw;(try dsimp only at hSw);subst hSw;go_simp;(try with_reducible rfl))
           simp only [Act.put,ZA,ZB,ZC,ZD,ZE,ZF];refine' wpAnyH_take (i:=11) (v:=_) rfl (by kernel_rfl) (by kernel_rfl) (by kernel_rfl) (fun _ _ _ h=>h) (Or.inl ⟨by rfl,?hy24⟩) Hh ?hr24
           case hy24=>(intro w hSw;(try dsimp only at hSw);subst hSw;go_simp;(try with_reducible rfl))
           simp only [Act.put,ZA,ZB,ZC,ZD,ZE,ZF];refine' wpAnyH_take (i:=12) (v:=_) rfl (by kernel_rfl) (by kernel_rfl) (by kernel_rfl) (fun _ _ _ h=>h) (Or.inl ⟨by rfl,?hy25⟩) Hh ?hr25
           case hy25=>(intro w hSw;(try dsimp only at hSw);subst hSw;go_simp;(try with_reducible rfl))
           simp only [Act.put,ZA,ZB,ZC,ZD,ZE,ZF];refine' wpAnyH_take (i:=13) (v:=_) rfl (by kernel_rfl) (by kernel_rfl) (by kernel_rfl) (fun _ _ _ h=>h) (Or.inl ⟨by rfl,?hy26⟩) Hh ?hr26
           case hy26=>(intro w hSw;(try dsimp only at hSw);subst hSw;go_simp;(try with_reducible rfl))
           simp only [Act.put,ZA,ZB,ZC,ZD,ZE,ZF];refine' wpAnyH_take (i:=14) (v:=_) rfl (by kernel_rfl) (by kernel_rfl) (by kernel_rfl) (fun _ _ _ h=>h) (Or.inl ⟨by rfl,?hy27⟩) Hh ?hr27
           case hy27=>(intro w hSw;(try dsimp only at hSw);subst hSw;go_simp;(try with_reducible rfl))
           simp only [Act.put,ZA,ZB,ZC,ZD,ZE,ZF];refine' wpAnyH_take (i:=15) (v:=_) rfl (by kernel_rfl) (by kernel_rfl) (by kernel_rfl) (fun _ _ _ h=>h) (Or.inl ⟨by rfl,?hy28⟩) Hh ?hr28
           case hy28=>(intro w hSw;(try dsimp only at hSw);subst hSw;go_simp;(try with_reducible rfl))
           simp only [Act.put,ZA,ZB,ZC,ZD,ZE,ZF];refine' wpAnyH_take (i:=16) (v:=_) rfl (by kernel_rfl) (by kernel_rfl) (by kernel_rfl) (fun _ _ _ h=>h) (Or.inl ⟨by rfl,?hy29⟩) Hh ?hr29
           case hy29=>(intro w hSw;(try dsimp only at hSw);subst hSw;go_simp;(try with_reducible rfl))
           simp only [Act.put,ZA,ZB,ZC,ZD,ZE,ZF];refine' wpAnyH_take (i:=17) (v:=_) rfl (by kernel_rfl) (by kernel_rfl) (by kernel_rfl) (fun _ _ _ h=>h) (Or.inl ⟨by rfl,?hy30⟩) Hh ?hr30
           case hy30=>(intro w hSw;(try dsimp only at hSw);subst hSw;go_simp;(try with_reducible rfl))
           simp only [Act.put,ZA,ZB,ZC,ZD,ZE,ZF];refine' wpAnyH_take (i:=18) (v:=_) rfl (by kernel_rfl) (by kernel_rfl) (by kernel_rfl) (fun _ _ _ h=>h) (Or.inl ⟨by rfl,?hy31⟩) Hh ?hr31
           case hy31=>(intro w hSw;(try dsimp only at hSw);subst hSw;go_simp;(try with_reducible rfl))
           simp only [Act.put,ZA,ZB,ZC,ZD,ZE,ZF];refine' wpAnyH_take (i:=19) (v:=_) rfl (by kernel_rfl) (by kernel_rfl) (by kernel_rfl) (fun _ _ _ h=>h) (Or.inl ⟨by rfl,?hy32⟩) Hh ?hr32
           case hy32=>(intro w hSw;(try dsimp only at hSw);subst hSw;go_simp;(try with_reducible rfl))
           simp only [Act.put,ZA,ZB,ZC,ZD,ZE,ZF];refine' wpAnyH_take (i:=20) (v:=_) rfl (by kernel_rfl) (by kernel_rfl) (by kernel_rfl) (fun _ _ _ h=>h) (Or.inl ⟨by rfl,?hy33⟩) Hh ?hr33
           case hy33=>(intro w hSw;(try dsimp only at hSw);subst hSw;go_simp;(try with_reducible rfl))
           simp only [Act.put,ZA,ZB,ZC,ZD,ZE,ZF];refine' wpAnyH_take (i:=21) (v:=_) rfl (by kernel_rfl) (by kernel_rfl) (by kernel_rfl) (fun _ _ _ h=>h) (Or.inl ⟨by rfl,?hy34⟩) Hh ?hr34
           case hy34=>(intro w hSw;(try dsimp only at hSw);subst hSw;go_simp;(try with_reducible rfl))
           simp only [Act.put,ZA,ZB,ZC,ZD,ZE,ZF];refine' wpAnyH_take (i:=22) (v:=_) rfl (by kernel_rfl) (by kernel_rfl) (by kernel_rfl) (fun _ _ _ h=>h) (Or.inl ⟨by rfl,?hy35⟩) Hh ?hr35
           case hy35=>(intro w hSw;(try dsimp only at hSw);subst hSw;go_simp;(try with_reducible rfl))
           simp only [Act.put,ZA,ZB,ZC,ZD,ZE,ZF];refine' wpAnyH_take (i:=23) (v:=_) rfl (by kernel_rfl) (by kernel_rfl) (by kernel_rfl) (fun _ _ _ h=>h) (Or.inl ⟨by rfl,?hy36⟩) Hh ?hr36
           case hy36=>(intro w hSw;(try dsimp only at hSw);subst hSw;go_simp;(try with_reducible rfl))
           simp only [Act.put,ZA,ZB,ZC,ZD,ZE,ZF];refine' wpAnyH_take (i:=24) (v:=_) rfl (by kernel_rfl) (by kernel_rfl) (by kernel_rfl) (fun _ _ _ h=>h) (Or.inl ⟨by rfl,?hy37⟩) Hh ?hr37
           case hy37=>(intro w hSw;(try dsimp only at hSw);subst hSw;go_simp;(try with_reducible rfl))
           simp only [Act.put,ZA,ZB,ZC,ZD,ZE,ZF];refine' wpAnyH_take (i:=25) (v:=_) rfl (by kernel_rfl) (by kernel_rfl) (by kernel_rfl) (fun _ _ _ h=>h) (Or.inl ⟨by rfl,?hy38⟩) Hh ?hr38
           case hy38=>(intro w hSw;(try dsimp only at hSw);subst hSw;go_simp;(try with_reducible rfl))
           simp only [Act.put,ZA,ZB,ZC,ZD,ZE,ZF];refine' wpAnyH_take (i:=26) (v:=_) rfl (by kernel_rfl) (by kernel_rfl) (by kernel_rfl) (fun _ _ _ h=>h) (Or.inl ⟨by rfl,?hy39⟩) Hh ?hr39
           case hy39=>(intro w hSw;(try dsimp only at hSw);subst hSw;go_simp;(try with_reducible rfl))
           simp only [Act.put,ZA,ZB,ZC,ZD,ZE,ZF];refine' wpAnyH_take (i:=27) (v:=_) rfl (by kernel_rfl) (by kernel_rfl) (by kernel_rfl) (fun _ _ _ h=>h) (Or.inl ⟨by rfl,?hy40⟩) Hh ?hr40
           case hy40=>(intro w hSw;(try dsimp only at hSw);subst hSw;go_simp;(try with_reducible rfl))
           simp only [Act.put,ZA,ZB,ZC,ZD,ZE,ZF];refine' wpAnyH_take (i:=28) (v:=_) rfl (by kernel_rfl) (by kernel_rfl) (by kernel_rfl) (fun _ _ _ h=>h) (Or.inl ⟨by rfl,?hy41⟩) Hh ?hr41
           case hy41=>(intro w hSw;(try dsimp only at hSw);subst hSw;go_simp;(try with_reducible rfl))
           simp only [Act.put,ZA,ZB,ZC,ZD,ZE,ZF];refine' wpAnyH_take (i:=29) (v:=_) rfl (by kernel_rfl) (by kernel_rfl) (by kernel_rfl) (fun _ _ _ h=>h) (Or.inl ⟨by rfl,?hy42⟩) Hh ?hr42
           case hy42=>(intro w hSw;(try dsimp only at hSw);subst hSw;go_simp;(try with_reducible rfl))
           simp only [Act.put,ZA,ZB,ZC,ZD,ZE,ZF];refine dn ?_;go_wp2;go_roundw
           case rel=>exact ⟨j+1,by go_num,by omega,hall',(by first|exact kb2|exact kb2.drew)⟩
           case measure=>simp [intOf];omega
          ·have b5:decide ((atC xs (j+1)).st=(atC xs j).st)=false:=decide_eq_false e5
           have hno:rowOkB xs=false:=rowOkB_no xs j hlt (by unfold cellOkB;rw [hso,if_neg e0,if_pos e1,b5];simp);clear hall hsrc e2 e5;go_wp2;refine wp_region_noPanic ?_;refine wp_region_held_drew (S:=fun W=>W=w2.drew) (by kernel_rfl) rfl (fun Hh=>?_);refine' wpAnyH_take (i:=0) (v:=_) rfl (by kernel_rfl) (by kernel_rfl) (by kernel_rfl) (fun _ _ _ h=>h) (Or.inl ⟨by rfl,?hy43⟩) Hh ?hr43
           case hy43=>(intro w hSw;(try dsimp only at hSw);subst hSw;go_simp;(try with_reducible rfl))
           simp only [Act.put,ZA,ZB,ZC,ZD,ZE];refine' wpAnyH_take (i:=1) (v:=_) rfl (by kernel_rfl) (by kernel_rfl) (by kernel_rfl) (fun _ _ _ h=>h) (Or.inl ⟨by rfl,?hy44⟩) Hh ?hr44
           case hy44=>(intro w hSw;(try dsimp only at hSw);subst hSw;go_simp;(try with_reducible rfl))
           refine rd 2 fun K hK=>?_
           go_simp;refine (sWa _ _).mono ?_;rintro e wk ⟨rfl,hwk⟩;subst hwk;go_wp2_with fail;refine hK.out _ _ (by rfl) (fun Hh=>?_);clear hK K
           (try simp only [Act.put,ZA,ZB,ZC])
           refine' wpAnyH_take (i:=3) (v:=_) rfl (by kernel_rfl) (by kernel_rfl) (by kernel_rfl) (fun _ _ _ h=>h) (Or.inl ⟨by rfl,?hy45⟩) Hh ?hr45
           case hy45=>(intro w hSw;(try dsimp only at hSw);subst hSw;go_simp;(try with_reducible rfl))
           simp only [Act.put,ZA,ZB,ZC,ZD,ZE,ZF];refine' wpAnyH_take (i:=4) (v:=_) rfl (by kernel_rfl) (by kernel_rfl) (by kernel_rfl) (fun _ _ _ h=>h) (Or.inl ⟨by rfl,?hy46⟩) Hh ?hr46
           case hy46=>(intro w hSw;(try dsimp only at hSw);subst hSw;go_simp;(try with_reducible rfl))
           simp only [Act.put,ZA,ZB,ZC,ZD,ZE,ZF];refine' wpAnyH_take (i:=5) (v:=_) rfl (by kernel_rfl) (by kernel_rfl) (by kernel_rfl) (fun _ _ _ h=>h) (Or.inl ⟨by rfl,?hy47⟩) Hh ?hr47
           case hy47=>(intro w hSw;(try dsimp only at hSw);subst hSw;go_simp;(try with_reducible rfl))
           simp only [Act.put,ZA,ZB,ZC,ZD,ZE,ZF];refine' wpAnyH_take (i:=6) (v:=_) rfl (by kernel_rfl) (by kernel_rfl) (by kernel_rfl) (fun _ _ _ h=>h) (Or.inl ⟨by rfl,?hy48⟩) Hh ?hr48
           case hy48=>(intro w hSw;(try dsimp only at hSw);subst hSw;go_simp;(try with_reducible rfl))
           simp only [Act.put,ZA,ZB,ZC,ZD,ZE,ZF];refine' wpAnyH_take (i:=7) (v:=_) rfl (by kernel_rfl) (by kernel_rfl) (by kernel_rfl) (fun _ _ _ h=>h) (Or.inl ⟨by rfl,?hy49⟩) Hh ?hr49
           case hy49=>(intro w hSw;(try dsimp only at hSw);subst hSw;go_simp;(try with_reducible rfl))
           simp only [Act.put,ZA,ZB,ZC,ZD,ZE,ZF];refine' wpAnyH_take (i:=8) (v:=_) rfl (by kernel_rfl) (by kernel_rfl) (by kernel_rfl) (fun _ _ _ h=>h) (Or.inl ⟨by rfl,?hy50⟩) Hh ?hr50
           case hy50=>(intro w hSw;(try dsimp only at hSw);subst hSw;go_simp;(try with_reducible rfl))
           simp only [Act.put,ZA,ZB,ZC,ZD,ZE,ZF];refine' wpAnyH_take (i:=9) (v:=_) rfl (by kernel_rfl) (by kernel_rfl) (by kernel_rfl) (fun _ _ _ h=>h) (Or.inl ⟨by rfl,?hy51⟩) Hh ?hr51
           case hy51=>(intro w hSw;(try dsimp only at hSw);subst hSw;go_simp;(try with_reducible rfl))
           simp only [Act.put,ZA,ZB,ZC,ZD,ZE,ZF];refine' wpAnyH_take (i:=10) (v:=_) rfl (by kernel_rfl) (by kernel_rfl) (by kernel_rfl) (fun _ _ _ h=>h) (Or.inl ⟨by rfl,?hy52⟩) Hh ?hr52
           case hy52=>(intro w hSw;(try dsimp only at hSw);subst hSw;go_simp;(try with_reducible rfl))
           simp only [Act.put,ZA,ZB,ZC,ZD,ZE,ZF];refine' wpAnyH_take (i:=11) (v:=_) rfl (by kernel_rfl) (by kernel_rfl) (by kernel_rfl) (fun _ _ _ h=>h) (Or.inl ⟨by rfl,?hy53⟩) Hh ?hr53
           case hy53=>(intro w hSw;(try dsimp only at hSw);subst hSw;go_simp;(try with_reducible rfl))
           simp only [Act.put,ZA,ZB,ZC,ZD,ZE,ZF];refine' wpAnyH_take (i:=12) (v:=_) rfl (by kernel_rfl) (by kernel_rfl) (by kernel_rfl) (fun _ _ _ h=>h) (Or.inl ⟨by rfl,?hy54⟩) Hh ?hr54
           case hy54=>(intro w hSw;(try dsimp only at hSw);subst hSw;go_simp;(try with_reducible rfl))
           simp only [Act.put,ZA,ZB,ZC,ZD,ZE,ZF];refine' wpAnyH_take (i:=13) (v:=_) rfl (by kernel_rfl) (by kernel_rfl) (by kernel_rfl) (fun _ _ _ h=>h) (Or.inl ⟨by rfl,?hy55⟩) Hh ?hr55
           case hy55=>(intro w hSw;(try dsimp only at hSw);subst hSw;go_simp;(try with_reducible rfl))
           simp only [Act.put,ZA,ZB,ZC,ZD,ZE,ZF];refine' wpAnyH_take (i:=14) (v:=_) rfl (by kernel_rfl) (by kernel_rfl) (by kernel_rfl) (fun _ _ _ h=>h) (Or.inl ⟨by rfl,?hy56⟩) Hh ?hr56
           case hy56=>(intro w hSw;(try dsimp only at hSw);subst hSw;go_simp;(try with_reducible rfl))
           simp only [Act.put,ZA,ZB,ZC,ZD,ZE,ZF];refine' wpAnyH_take (i:=15) (v:=_) rfl (by kernel_rfl) (by kernel_rfl) (by kernel_rfl) (fun _ _ _ h=>h) (Or.inl ⟨by rfl,?hy57⟩) Hh ?hr57
           case hy57=>(intro w hSw;(try dsimp only at hSw);subst hSw;go_simp;(try with_reducible rfl))
           simp only [Act.put,ZA,ZB,ZC,ZD,ZE,ZF];refine' wpAnyH_take (i:=16) (v:=_) rfl (by kernel_rfl) (by kernel_rfl) (by kernel_rfl) (fun _ _ _ h=>h) (Or.inl ⟨by rfl,?hy58⟩) Hh ?hr58
           case hy58=>(intro w hSw;(try dsimp only at hSw);subst hSw;go_simp;(try with_reducible rfl))
           simp only [Act.put,ZA,ZB,ZC,ZD,ZE,ZF];refine' wpAnyH_take (i:=17) (v:=_) rfl (by kernel_rfl) (by kernel_rfl) (by kernel_rfl) (fun _ _ _ h=>h) (Or.inl ⟨by rfl,?hy59⟩) Hh ?hr59
           case hy59=>(intro w hSw;(try dsimp only at hSw);subst hSw;go_simp;(try with_reducible rfl))
           simp only [Act.put,ZA,ZB,ZC,ZD,ZE,ZF];refine' wpAnyH_take (i:=18) (v:=_) rfl (by kernel_rfl) (by kernel_rfl) (by kernel_rfl) (fun _ _ _ h=>h) (Or.inl ⟨by rfl,?hy60⟩) Hh ?hr60
           case hy60=>(intro w hSw;(try dsimp only at hSw);subst hSw;go_simp;(try with_reducible rfl))
           simp only [Act.put,ZA,ZB,ZC,ZD,ZE,ZF];refine' wpAnyH_take (i:=19) (v:=_) rfl (by kernel_rfl) (by kernel_rfl) (by kernel_rfl) (fun _ _ _ h=>h) (Or.inl ⟨by rfl,?hy61⟩) Hh ?hr61
           case hy61=>(intro w hSw;(try dsimp only at hSw);subst hSw;go_simp;(try with_reducible rfl))
           simp only [Act.put,ZA,ZB,ZC,ZD,ZE,ZF];refine' wpAnyH_take (i:=20) (v:=_) rfl (by kernel_rfl) (by kernel_rfl) (by kernel_rfl) (fun _ _ _ h=>h) (Or.inl ⟨by rfl,?hy62⟩) Hh ?hr62
           case hy62=>(intro w hSw;(try dsimp only at hSw);subst hSw;go_simp;(try with_reducible rfl))
           simp only [Act.put,ZA,ZB,ZC,ZD,ZE,ZF];refine' wpAnyH_take (i:=21) (v:=_) rfl (by kernel_rfl) (by kernel_rfl) (by kernel_rfl) (fun _ _ _ h=>h) (Or.inl ⟨by rfl,?hy63⟩) Hh ?hr63
           case hy63=>(intro w hSw;(try dsimp only at hSw);subst hSw;go_simp;(try with_reducible rfl))
           simp only [Act.put,ZA,ZB,ZC,ZD,ZE,ZF];refine' wpAnyH_take (i:=22) (v:=_) rfl (by kernel_rfl) (by kernel_rfl) (by kernel_rfl) (fun _ _ _ h=>h) (Or.inl ⟨by rfl,?hy64⟩) Hh ?hr64
           case hy64=>(intro w hSw;(try dsimp only at hSw);subst hSw;go_simp;(try with_reducible rfl))
           simp only [Act.put,ZA,ZB,ZC,ZD,ZE,ZF];refine' wpAnyH_take (i:=23) (v:=_) rfl (by kernel_rfl) (by kernel_rfl) (by kernel_rfl) (fun _ _ _ h=>h) (Or.inl ⟨by rfl,?hy65⟩) Hh ?hr65
           case hy65=>(intro w hSw;(try dsimp only at hSw);subst hSw;go_simp;(try with_reducible rfl))
           simp only [Act.put,ZA,ZB,ZC,ZD,ZE,ZF];refine' wpAnyH_take (i:=24) (v:=_) rfl (by kernel_rfl) (by kernel_rfl) (by kernel_rfl) (fun _ _ _ h=>h) (Or.inl ⟨by rfl,?hy66⟩) Hh ?hr66
           case hy66=>(intro w hSw;(try dsimp only at hSw);subst hSw;go_simp;(try with_reducible rfl))
           simp only [Act.put,ZA,ZB,ZC,ZD,ZE,ZF];refine' wpAnyH_take (i:=25) (v:=_) rfl (by kernel_rfl) (by kernel_rfl) (by kernel_rfl) (fun _ _ _ h=>h) (Or.inl ⟨by rfl,?hy67⟩) Hh ?hr67
           case hy67=>(intro w hSw;(try dsimp only at hSw);subst hSw;go_simp;(try with_reducible rfl))
           simp only [Act.put,ZA,ZB,ZC,ZD,ZE,ZF];refine' wpAnyH_take (i:=26) (v:=_) rfl (by kernel_rfl) (by kernel_rfl) (by kernel_rfl) (fun _ _ _ h=>h) (Or.inl ⟨by rfl,?hy68⟩) Hh ?hr68
           case hy68=>(intro w hSw;(try dsimp only at hSw);subst hSw;go_simp;(try with_reducible rfl))
           simp only [Act.put,ZA,ZB,ZC,ZD,ZE,ZF];refine' wpAnyH_take (i:=27) (v:=_) rfl (by kernel_rfl) (by kernel_rfl) (by kernel_rfl) (fun _ _ _ h=>h) (Or.inl ⟨by rfl,?hy69⟩) Hh ?hr69
           case hy69=>(intro w hSw;(try dsimp only at hSw);subst hSw;go_simp;(try with_reducible rfl))
           simp only [Act.put,ZA,ZB,ZC,ZD,ZE,ZF];refine' wpAnyH_take (i:=28) (v:=_) rfl (by kernel_rfl) (by kernel_rfl) (by kernel_rfl) (fun _ _ _ h=>h) (Or.inl ⟨by rfl,?hy70⟩) Hh ?hr70
           case hy70=>(intro w hSw;(try dsimp only at hSw);subst hSw;go_simp;(try with_reducible rfl))
           simp only [Act.put,ZA,ZB,ZC,ZD,ZE,ZF];refine' wpAnyH_take (i:=29) (v:=_) rfl (by kernel_rfl) (by kernel_rfl) (by kernel_rfl) (fun _ _ _ h=>h) (Or.inl ⟨by rfl,?hy71⟩) Hh ?hr71
           case hy71=>(intro w hSw;(try dsimp only at hSw);subst hSw;go_simp;(try with_reducible rfl))
           simp only [Act.put,ZA,ZB,ZC,ZD,ZE,ZF];refine dn ?_;go_wp2;go_ret
           first|exact ⟨ret_bool hno.symm,kb2⟩|exact ⟨rfl,kb2⟩|exact ⟨rfl,kb2.drew⟩|exact ⟨ret_bool hno.symm,kb2.drew⟩
         ·have b4:((atC xs (j+1)).part != 2)=true:=by simp [e4]
          have hno:rowOkB xs=false:=rowOkB_no xs j hlt (by unfold cellOkB;rw [hso,if_neg e0,if_pos e1,decide_eq_false e4];simp);clear hall hsrc e2;go_wp2;refine wp_region_noPanic ?_;refine wp_region_held_drew (S:=fun W=>W=w2.drew) (by kernel_rfl) rfl (fun Hh=>?_);refine' wpAnyH_take (i:=0) (v:=_) rfl (by kernel_rfl) (by kernel_rfl) (by kernel_rfl) (fun _ _ _ h=>h) (Or.inl ⟨by rfl,?hy72⟩) Hh ?hr72
          case hy72=>(intro w hSw;(try dsimp only at hSw);subst hSw;go_simp;(try with_reducible rfl))
          simp only [Act.put,ZA,ZB,ZC,ZD,ZE];refine' wpAnyH_take (i:=1) (v:=_) rfl (by kernel_rfl) (by kernel_rfl) (by kernel_rfl) (fun _ _ _ h=>h) (Or.inl ⟨by rfl,?hy73⟩) Hh ?hr73
          case hy73=>(intro w hSw;(try dsimp only at hSw);subst hSw;go_simp;(try with_reducible rfl))
          refine rd 2 fun K hK=>?_
          go_simp;refine (sWa _ _).mono ?_;rintro e wk ⟨rfl,hwk⟩;subst hwk;go_wp2_with fail;refine hK.out _ _ (by rfl) (fun Hh=>?_);clear hK K
          (try simp only [Act.put,ZA,ZB,ZC])
          refine' wpAnyH_take (i:=3) (v:=_) rfl (by kernel_rfl) (by kernel_rfl) (by kernel_rfl) (fun _ _ _ h=>h) (Or.inl ⟨by rfl,?hy74⟩) Hh ?hr74
          case hy74=>(intro w hSw;(try dsimp only at hSw);subst hSw;go_simp;(try with_reducible rfl))
          simp only [Act.put,ZA,ZB,ZC,ZD,ZE,ZF];refine' wpAnyH_take (i:=4) (v:=_) rfl (by kernel_rfl) (by kernel_rfl) (by kernel_rfl) (fun _ _ _ h=>h) (Or.inl ⟨by rfl,?hy75⟩) Hh ?hr75
          case hy75=>(intro w hSw;(try dsimp only at hSw);subst hSw;go_simp;(try with_reducible rfl))
          simp only [Act.put,ZA,ZB,ZC,ZD,ZE,ZF];refine' wpAnyH_take (i:=5) (v:=_) rfl (by kernel_rfl) (by kernel_rfl) (by kernel_rfl) (fun _ _ _ h=>h) (Or.inl ⟨by rfl,?hy76⟩) Hh ?hr76
          case hy76=>(intro w hSw;(try dsimp only at hSw);subst hSw;go_simp;(try with_reducible rfl))
          simp only [Act.put,ZA,ZB,ZC,ZD,ZE,ZF];refine' wpAnyH_take (i:=6) (v:=_) rfl (by kernel_rfl) (by kernel_rfl) (by kernel_rfl) (fun _ _ _ h=>h) (Or.inl ⟨by rfl,?hy77⟩) Hh ?hr77
          case hy77=>(intro w hSw;(try dsimp only at hSw);subst hSw;go_simp;(try with_reducible rfl))
          simp only [Act.put,ZA,ZB,ZC,ZD,ZE,ZF];refine' wpAnyH_take (i:=7) (v:=_) rfl (by kernel_rfl) (by kernel_rfl) (by kernel_rfl) (fun _ _ _ h=>h) (Or.inl ⟨by rfl,?hy78⟩) Hh ?hr78
          case hy78=>(intro w hSw;(try dsimp only at hSw);subst hSw;go_simp;(try with_reducible rfl))
          simp only [Act.put,ZA,ZB,ZC,ZD,ZE,ZF];refine' wpAnyH_take (i:=8) (v:=_) rfl (by kernel_rfl) (by kernel_rfl) (by kernel_rfl) (fun _ _ _ h=>h) (Or.inl ⟨by rfl,?hy79⟩) Hh ?hr79
          case hy79=>(intro w hSw;(try dsimp only at hSw);subst hSw;go_simp;(try with_reducible rfl))
          simp only [Act.put,ZA,ZB,ZC,ZD,ZE,ZF];refine' wpAnyH_take (i:=9) (v:=_) rfl (by kernel_rfl) (by kernel_rfl) (by kernel_rfl) (fun _ _ _ h=>h) (Or.inl ⟨by rfl,?hy80⟩) Hh ?hr80
          case hy80=>(intro w hSw;(try dsimp only at hSw);subst hSw;go_simp;(try with_reducible rfl))
          simp only [Act.put,ZA,ZB,ZC,ZD,ZE,ZF];refine' wpAnyH_take (i:=10) (v:=_) rfl (by kernel_rfl) (by kernel_rfl) (by kernel_rfl) (fun _ _ _ h=>h) (Or.inl ⟨by rfl,?hy81⟩) Hh ?hr81
          case hy81=>(intro w hSw;(try dsimp only at hSw);subst hSw;go_simp;(try with_reducible rfl))
          simp only [Act.put,ZA,ZB,ZC,ZD,ZE,ZF];refine' wpAnyH_take (i:=11) (v:=_) rfl (by kernel_rfl) (by kernel_rfl) (by kernel_rfl) (fun _ _ _ h=>h) (Or.inl ⟨by rfl,?hy82⟩) Hh ?hr82
          case hy82=>(intro w hSw;(try dsimp only at hSw);subst hSw;go_simp;(try with_reducible rfl))
          simp only [Act.put,ZA,ZB,ZC,ZD,ZE,ZF];refine' wpAnyH_take (i:=12) (v:=_) rfl (by kernel_rfl) (by kernel_rfl) (by kernel_rfl) (fun _ _ _ h=>h) (Or.inl ⟨by rfl,?hy83⟩) Hh ?hr83
          case hy83=>(intro w hSw;(try dsimp only at hSw);subst hSw;go_simp;(try with_reducible rfl))
          simp only [Act.put,ZA,ZB,ZC,ZD,ZE,ZF];refine' wpAnyH_take (i:=13) (v:=_) rfl (by kernel_rfl) (by kernel_rfl) (by kernel_rfl) (fun _ _ _ h=>h) (Or.inl ⟨by rfl,?hy84⟩) Hh ?hr84
          case hy84=>(intro w hSw;(try dsimp only at hSw);subst hSw;go_simp;(try with_reducible rfl))
          simp only [Act.put,ZA,ZB,ZC,ZD,ZE,ZF];refine' wpAnyH_take (i:=14) (v:=_) rfl (by kernel_rfl) (by kernel_rfl) (by kernel_rfl) (fun _ _ _ h=>h) (Or.inl ⟨by rfl,?hy85⟩) Hh ?hr85
          case hy85=>(intro w hSw;(try dsimp only at hSw);subst hSw;go_simp;(try with_reducible rfl))
          simp only [Act.put,ZA,ZB,ZC,ZD,ZE,ZF];refine' wpAnyH_take (i:=15) (v:=_) rfl (by kernel_rfl) (by kernel_rfl) (by kernel_rfl) (fun _ _ _ h=>h) (Or.inl ⟨by rfl,?hy86⟩) Hh ?hr86
          case hy86=>(intro w hSw;(try dsimp only at hSw);subst hSw;go_simp;(try with_reducible rfl))
          simp only [Act.put,ZA,ZB,ZC,ZD,ZE,ZF];refine' wpAnyH_take (i:=16) (v:=_) rfl (by kernel_rfl) (by kernel_rfl) (by kernel_rfl) (fun _ _ _ h=>h) (Or.inl ⟨by rfl,?hy87⟩) Hh ?hr87
          case hy87=>(intro w hSw;(try dsimp only at hSw);subst hSw;go_simp;(try with_reducible rfl))
          simp only [Act.put,ZA,ZB,ZC,ZD,ZE,ZF];refine' wpAnyH_take (i:=17) (v:=_) rfl (by kernel_rfl) (by kernel_rfl) (by kernel_rfl) (fun _ _ _ h=>h) (Or.inl ⟨by rfl,?hy88⟩) Hh ?hr88
          case hy88=>(intro w hSw;(try dsimp only at hSw);subst hSw;go_simp;(try with_reducible rfl))
          simp only [Act.put,ZA,ZB,ZC,ZD,ZE,ZF];refine' wpAnyH_take (i:=18) (v:=_) rfl (by kernel_rfl) (by kernel_rfl) (by kernel_rfl) (fun _ _ _ h=>h) (Or.inl ⟨by rfl,?hy89⟩) Hh ?hr89
          case hy89=>(intro w hSw;(try dsimp only at hSw);subst hSw;go_simp;(try with_reducible rfl))
          simp only [Act.put,ZA,ZB,ZC,ZD,ZE,ZF];refine' wpAnyH_take (i:=19) (v:=_) rfl (by kernel_rfl) (by kernel_rfl) (by kernel_rfl) (fun _ _ _ h=>h) (Or.inl ⟨by rfl,?hy90⟩) Hh ?hr90
          case hy90=>(intro w hSw;(try dsimp only at hSw);subst hSw;go_simp;(try with_reducible rfl))
          simp only [Act.put,ZA,ZB,ZC,ZD,ZE,ZF];refine wpAnyH_take (i:=20) (v:=undef) rfl (by kernel_rfl) (by kernel_rfl) (by kernel_rfl) (fun _ _ _ h=>h) (Or.inr ⟨by rfl,rfl⟩) Hh ?_;simp only [Act.put,ZA,ZB,ZC,ZD,ZE,ZF];refine wpAnyH_take (i:=21) (v:=undef) rfl (by kernel_rfl) (by kernel_rfl) (by kernel_rfl) (fun _ _ _ h=>h) (Or.inr ⟨by rfl,rfl⟩) Hh ?_;simp only [Act.put,ZA,ZB,ZC,ZD,ZE,ZF];refine wpAnyH_take (i:=22) (v:=undef) rfl (by kernel_rfl) (by kernel_rfl) (by kernel_rfl) (fun _ _ _ h=>h) (Or.inr ⟨by rfl,rfl⟩) Hh ?_;simp only [Act.put,ZA,ZB,ZC,ZD,ZE,ZF];refine wpAnyH_take (i:=23) (v:=undef) rfl (by kernel_rfl) (by kernel_rfl) (by kernel_rfl) (fun _ _ _ h=>h) (Or.inr ⟨by rfl,rfl⟩) Hh ?_;simp only [Act.put,ZA,ZB,ZC,ZD,ZE,ZF];refine wpAnyH_take (i:=24) (v:=undef) rfl (by kernel_rfl) (by kernel_rfl) (by kernel_rfl) (fun _ _ _ h=>h) (Or.inr ⟨by rfl,rfl⟩) Hh ?_;simp only [Act.put,ZA,ZB,ZC,ZD,ZE,ZF];refine wpAnyH_take (i:=25) (v:=undef) rfl (by kernel_rfl) (by kernel_rfl) (by kernel_rfl) (fun _ _ _ h=>h) (Or.inr ⟨by rfl,rfl⟩) Hh ?_;simp only [Act.put,ZA,ZB,ZC,ZD,ZE,ZF];refine wpAnyH_take (i:=26) (v:=undef) rfl (by kernel_rfl) (by kernel_rfl) (by kernel_rfl) (fun _ _ _ h=>h) (Or.inr ⟨by rfl,rfl⟩) Hh ?_;simp only [Act.put,ZA,ZB,ZC,ZD,ZE,ZF];refine wpAnyH_take (i:=27) (v:=undef) rfl (by kernel_rfl) (by kernel_rfl) (by kernel_rfl) (fun _ _ _ h=>h) (Or.inr ⟨by rfl,rfl⟩) Hh ?_;simp only [Act.put,ZA,ZB,ZC,ZD,ZE,ZF];refine wpAnyH_take (i:=28) (v:=undef) rfl (by kernel_rfl) (by kernel_rfl) (by kernel_rfl) (fun _ _ _ h=>h) (Or.inr ⟨by rfl,rfl⟩) Hh ?_;simp only [Act.put,ZA,ZB,ZC,ZD,ZE,ZF];refine' wpAnyH_take (i:=29) (v:=_) rfl (by kernel_rfl) (by kernel_rfl) (by kernel_rfl) (fun _ _ _ h=>h) (Or.inl ⟨by rfl,?hy91⟩) Hh ?hr91
          case hy91=>(intro w hSw;(try dsimp only at hSw);subst hSw;go_simp;(try with_reducible rfl))
          simp only [Act.put,ZA,ZB,ZC,ZD,ZE,ZF];refine dn ?_;go_wp2;go_ret
          first|exact ⟨ret_bool hno.symm,kb2⟩|exact ⟨rfl,kb2⟩|exact ⟨rfl,kb2.drew⟩|exact ⟨ret_bool hno.symm,kb2.drew⟩
       ·have b2:(wdV (atC xs j).rune != 2)=true:=by simp [e2]
        have hno:rowOkB xs=false:=rowOkB_no xs j hlt (by unfold cellOkB;rw [hso,if_neg e0,if_pos e1,decide_eq_false e2];simp);clear hall hsrc e2;go_wp2;refine wp_region_noPanic ?_;refine wp_region_held_drew (S:=fun W=>W=w2.drew) (by kernel_rfl) rfl (fun Hh=>?_);refine' wpAnyH_take (i:=0) (v:=_) rfl (by kernel_rfl) (by kernel_rfl) (by kernel_rfl) (fun _ _ _ h=>h) (Or.inl ⟨by rfl,?hy92⟩) Hh ?hr92
        case hy92=>(intro w hSw;(try dsimp only at hSw);subst hSw;go_simp;(try with_reducible rfl))
        simp only [Act.put,ZA,ZB,ZC,ZD,ZE];refine' wpAnyH_take (i:=1) (v:=_) rfl (by kernel_rfl) (by kernel_rfl) (by kernel_rfl) (fun _ _ _ h=>h) (Or.inl ⟨by rfl,?hy93⟩) Hh ?hr93
        case hy93=>(intro w hSw;(try dsimp only at hSw);subst hSw;go_simp;(try with_reducible rfl))
        refine rd 2 fun K hK=>?_
        go_simp;refine (sWa _ _).mono ?_;rintro e wk ⟨rfl,hwk⟩;subst hwk;go_wp2_with fail;refine hK.out _ _ (by rfl) (fun Hh=>?_);clear hK K
        (try simp only [Act.put,ZA,ZB,ZC])
        refine' wpAnyH_take (i:=3) (v:=_) rfl (by kernel_rfl) (by kernel_rfl) (by kernel_rfl) (fun _ _ _ h=>h) (Or.inl ⟨by rfl,?hy94⟩) Hh ?hr94
        case hy94=>(intro w hSw;(try dsimp only at hSw);subst hSw;go_simp;(try with_reducible rfl))
        simp only [Act.put,ZA,ZB,ZC,ZD,ZE,ZF];refine' wpAnyH_take (i:=4) (v:=_) rfl (by kernel_rfl) (by kernel_rfl) (by kernel_rfl) (fun _ _ _ h=>h) (Or.inl ⟨by rfl,?hy95⟩) Hh ?hr95
        case hy95=>(intro w hSw;(try dsimp only at hSw);subst hSw;go_simp;(try with_reducible rfl))
        simp only [Act.put,ZA,ZB,ZC,ZD,ZE,ZF];refine wpAnyH_take (i:=5) (v:=undef) rfl (by kernel_rfl) (by kernel_rfl) (by kernel_rfl) (fun _ _ _ h=>h) (Or.inr ⟨by rfl,rfl⟩) Hh ?_;simp only [Act.put,ZA,ZB,ZC,ZD,ZE,ZF];refine wpAnyH_take (i:=6) (v:=undef) rfl (by kernel_rfl) (by kernel_rfl) (by kernel_rfl) (fun _ _ _ h=>h) (Or.inr ⟨by rfl,rfl⟩) Hh ?_;simp only [Act.put,ZA,ZB,ZC,ZD,ZE,ZF];refine wpAnyH_take (i:=7) (v:=undef) rfl (by kernel_rfl) (by kernel_rfl) (by kernel_rfl) (fun _ _ _ h=>h) (Or.inr ⟨by rfl,rfl⟩) Hh ?_;simp only [Act.put,ZA,ZB,ZC,ZD,ZE,ZF];refine wpAnyH_take (i:=8) (v:=undef) rfl (by kernel_rfl) (by kernel_rfl) (by kernel_rfl) (fun _ _ _ h=>h) (Or.inr ⟨by rfl,rfl⟩) Hh ?_;simp only [Act.put,ZA,ZB,ZC,ZD,ZE,ZF];refine' wpAnyH_take (i:=9) (v:=_) rfl (by kernel_rfl) (by kernel_rfl) (by kernel_rfl) (fun _ _ _ h=>h) (Or.inl ⟨by rfl,?hy96⟩) Hh ?hr96
        case hy96=>(intro w hSw;(try dsimp only at hSw);subst hSw;go_simp;(try with_reducible rfl))
        simp only [Act.put,ZA,ZB,ZC,ZD,ZE,ZF];refine' wpAnyH_take (i:=10) (v:=_) rfl (by kernel_rfl) (by kernel_rfl) (by kernel_rfl) (fun _ _ _ h=>h) (Or.inl ⟨by rfl,?hy97⟩) Hh ?hr97
        case hy97=>(intro w hSw;(try dsimp only at hSw);subst hSw;go_simp;(try with_reducible rfl))
        simp only [Act.put,ZA,ZB,ZC,ZD,ZE,ZF];refine wpAnyH_take (i:=11) (v:=undef) rfl (by kernel_rfl) (by kernel_rfl) (by kernel_rfl) (fun _ _ _ h=>h) (Or.inr ⟨by rfl,rfl⟩) Hh ?_;simp only [Act.put,ZA,ZB,ZC,ZD,ZE,ZF];refine wpAnyH_take (i:=12) (v:=undef) rfl (by kernel_rfl) (by kernel_rfl) (by kernel_rfl) (fun _ _ _ h=>h) (Or.inr ⟨by rfl,rfl⟩) Hh ?_;simp only [Act.put,ZA,ZB,ZC,ZD,ZE,ZF];refine wpAnyH_take (i:=13) (v:=undef) rfl (by kernel_rfl) (by kernel_rfl) (by kernel_rfl) (fun _ _ _ h=>h) (Or.inr ⟨by rfl,rfl⟩) Hh ?_;simp only [Act.put,ZA,ZB,ZC,ZD,ZE,ZF];refine wpAnyH_take (i:=14) (v:=undef) rfl (by kernel_rfl) (by kernel_rfl) (by kernel_rfl) (fun _ _ _ h=>h) (Or.inr ⟨by rfl,rfl⟩) Hh ?_;simp only [Act.put,ZA,ZB,ZC,ZD,ZE,ZF];refine wpAnyH_take (i:=15) (v:=undef) rfl (by kernel_rfl) (by kernel_rfl) (by kernel_rfl) (fun _ _ _ h=>h) (Or.inr ⟨by rfl,rfl⟩) Hh ?_;simp only [Act.put,ZA,ZB,ZC,ZD,ZE,ZF];refine wpAnyH_take (i:=16) (v:=undef) rfl (by kernel_rfl) (by kernel_rfl) (by kernel_rfl) (fun _ _ _ h=>h) (Or.inr ⟨by rfl,rfl⟩) Hh ?_;simp only [Act.put,ZA,ZB,ZC,ZD,ZE,ZF];refine wpAnyH_take (i:=17) (v:=undef) rfl (by kernel_rfl) (by kernel_rfl) (by kernel_rfl) (fun _ _ _ h=>h) (Or.inr ⟨by rfl,rfl⟩) Hh ?_;simp only [Act.put,ZA,ZB,ZC,ZD,ZE,ZF];refine' wpAnyH_take (i:=18) (v:=_) rfl (by kernel_rfl) (by kernel_rfl) (by kernel_rfl) (fun _ _ _ h=>h) (Or.inl ⟨by rfl,?hy98⟩) Hh ?hr98
        case hy98=>(intro w hSw;(try dsimp only at hSw);subst hSw;go_simp;(try with_reducible rfl))
        simp only [Act.put,ZA,ZB,ZC,ZD,ZE,ZF];refine' wpAnyH_take (i:=19) (v:=_) rfl (by kernel_rfl) (by kernel_rfl) (by kernel_rfl) (fun _ _ _ h=>h) (Or.inl ⟨by rfl,?hy99⟩) Hh ?hr99
        case hy99=>(intro w hSw;(try dsimp only at hSw);subst hSw;go_simp;(try with_reducible rfl))
        simp only [Act.put,ZA,ZB,ZC,ZD,ZE,ZF];refine wpAnyH_take (i:=20) (v:=undef) rfl (by kernel_rfl) (by kernel_rfl) (by kernel_rfl) (fun _ _ _ h=>h) (Or.inr ⟨by rfl,rfl⟩) Hh ?_;simp only [Act.put,ZA,ZB,ZC,ZD,ZE,ZF];refine wpAnyH_take (i:=21) (v:=undef) rfl (by kernel_rfl) (by kernel_rfl) (by kernel_rfl) (fun _ _ _ h=>h) (Or.inr ⟨by rfl,rfl⟩) Hh ?_;simp only [Act.put,ZA,ZB,ZC,ZD,ZE,ZF];refine wpAnyH_take (i:=22) (v:=undef) rfl (by kernel_rfl) (by kernel_rfl) (by kernel_rfl) (fun _ _ _ h=>h) (Or.inr ⟨by rfl,rfl⟩) Hh ?_;simp only [Act.put,ZA,ZB,ZC,ZD,ZE,ZF];refine wpAnyH_take (i:=23) (v:=undef) rfl (by kernel_rfl) (by kernel_rfl) (by kernel_rfl) (fun _ _ _ h=>h) (Or.inr ⟨by rfl,rfl⟩) Hh ?_;simp only [Act.put,ZA,ZB,ZC,ZD,ZE,ZF];refine wpAnyH_take (i:=24) (v:=undef) rfl (by kernel_rfl) (by kernel_rfl) (by kernel_rfl) (fun _ _ _ h=>h) (Or.inr ⟨by rfl,rfl⟩) Hh ?_;simp only [Act.put,ZA,ZB,ZC,ZD,ZE,ZF];refine wpAnyH_take (i:=25) (v:=undef) rfl (by kernel_rfl) (by kernel_rfl) (by kernel_rfl) (fun _ _ _ h=>h) (Or.inr ⟨by rfl,rfl⟩) Hh ?_;simp only [Act.put,ZA,ZB,ZC,ZD,ZE,ZF];refine wpAnyH_take (i:=26) (v:=undef) rfl (by kernel_rfl) (by kernel_rfl) (by kernel_rfl) (fun _ _ _ h=>h) (Or.inr ⟨by rfl,rfl⟩) Hh ?_;simp only [Act.put,ZA,ZB,ZC,ZD,ZE,ZF];refine wpAnyH_take (i:=27) (v:=undef) rfl (by kernel_rfl) (by kernel_rfl) (by kernel_rfl) (fun _ _ _ h=>h) (Or.inr ⟨by rfl,rfl⟩) Hh ?_;simp only [Act.put,ZA,ZB,ZC,ZD,ZE,ZF];refine wpAnyH_take (i:=28) (v:=undef) rfl (by kernel_rfl) (by kernel_rfl) (by kernel_rfl) (fun _ _ _ h=>h) (Or.inr ⟨by rfl,rfl⟩) Hh ?_;simp only [Act.put,ZA,ZB,ZC,ZD,ZE,ZF];refine' wpAnyH_take (i:=29) (v:=_) rfl (by kernel_rfl) (by kernel_rfl) (by kernel_rfl) (fun _ _ _ h=>h) (Or.inl ⟨by rfl,?hy100⟩) Hh ?hr100
        case hy100=>(intro w hSw;(try dsimp only at hSw);subst hSw;go_simp;(try with_reducible rfl))
        simp only [Act.put,ZA,ZB,ZC,ZD,ZE,ZF];refine dn ?_;go_wp2;go_ret
        first|exact ⟨ret_bool hno.symm,kb2⟩|exact ⟨rfl,kb2⟩|exact ⟨rfl,kb2.drew⟩|exact ⟨ret_bool hno.symm,kb2.drew⟩
      ·have b1:((atC xs j).part==1)=false:=by simp [e1]
       by_cases e2:(atC xs j).part=2
       ·have b2:((atC xs j).part==2)=true:=by simp [e2]
        by_cases e3:(atC xs j).rune=0
        ·have b3:((atC xs j).rune != 0)=false:=by simp [e3]
         by_cases e4:j=0
         ·have b4:((j:Int)==0)=true:=by simp [e4]
          have hno:rowOkB xs=false:=rowOkB_no xs j hlt (by unfold cellOkB;rw [hso,if_neg e0,if_neg e1,if_pos e2,decide_eq_false (show ¬ 0<j by omega)];simp);clear hall hsrc e4;go_wp2;go_ret
          first|exact ⟨ret_bool hno.symm,kb2⟩|exact ⟨rfl,kb2⟩|exact ⟨rfl,kb2.drew⟩|exact ⟨ret_bool hno.symm,kb2.drew⟩
         ·obtain ⟨m,rfl⟩:∃ m,j=m+1:=⟨j-1,by omega⟩
          have b4:((m:Int)+1==0)=false:=by simp;omega
          have hmi:(m:Int)<(xs.length:Int):=by omega
          obtain ⟨q0,q1,q2,q3,q4,q5,q6⟩:=hsrc m (by omega)
          by_cases e5:(atC xs m).part=1
          ·have b5:((atC xs m).part != 1)=false:=by simp [e5]
           have hyes:cellOkB xs (m+1)=true:=by unfold cellOkB;rw [hso,if_neg e0,if_neg e1,if_pos e2,decide_eq_true e3];simp [e5]
           have hall':Hid (∀ k,k<m+1+1->cellOkB xs k=true):=fun k hk=>by rcases Nat.lt_succ_iff_lt_or_eq.1 hk with h|rfl;exact hall.out k h;exact hyes
           clear hall hsrc hyes;go_wp2;go_roundw
           case rel=>exact ⟨m+1+1,by go_num,by omega,hall',(by first|exact kb2|exact kb2.drew)⟩
           case measure=>simp [intOf];omega
          ·have b5:((atC xs m).part != 1)=true:=by simp [e5]
           have hno:rowOkB xs=false:=rowOkB_no xs (m+1) hlt (by unfold cellOkB;rw [hso,if_neg e0,if_neg e1,if_pos e2];simp [e5]);clear hall hsrc;go_wp2;go_ret
           first|exact ⟨ret_bool hno.symm,kb2⟩|exact ⟨rfl,kb2⟩|exact ⟨rfl,kb2.drew⟩|exact ⟨ret_bool hno.symm,kb2.drew⟩
        ·have b3:((atC xs j).rune != 0)=true:=by simp [e3]
         have hno:rowOkB xs=false:=rowOkB_no xs j hlt (by unfold cellOkB;rw [hso,if_neg e0,if_neg e1,if_pos e2,decide_eq_false e3];simp);clear hall hsrc;go_wp2;go_ret
         first|exact ⟨ret_bool hno.symm,kb2⟩|exact ⟨rfl,kb2⟩|exact ⟨rfl,kb2.drew⟩|exact ⟨ret_bool hno.symm,kb2.drew⟩
       ·have b2:((atC xs j).part==2)=false:=by simp [e2]
        have hno:rowOkB xs=false:=rowOkB_no xs j hlt (by unfold cellOkB;rw [hso,if_neg e0,if_neg e1,if_neg e2];rfl);clear hall hsrc;go_wp2;go_ret
        first|exact ⟨ret_bool hno.symm,kb2⟩|exact ⟨rfl,kb2⟩|exact ⟨rfl,kb2.drew⟩|exact ⟨ret_bool hno.symm,kb2.drew⟩
   ·have hjn:j=xs.length:=by omega
    have hji:¬ (j:Int)<(xs.length:Int):=by omega
    subst hjn;have hyes:rowOkB xs=true:=rowOkB_yes xs ⟨hn1,hn2⟩ hall.out;clear hall hOK hv;go_wp2;go_ret
    first|exact ⟨ret_bool hyes.symm,kb⟩|exact ⟨rfl,kb⟩
 ·have hno:=rowOkB_len xs hn
  by_cases h0:xs.length<1
  ·have hi:(xs.length:Int)<1:=by omega
   go_enter Tryz.func151,Tryz.ntmps151;go_wp2;go_ret
   first|exact ⟨ret_bool hno.symm,Below.refl _ _⟩|exact ⟨rfl,Below.refl _ _⟩
  ·have hi:¬ (xs.length:Int)<1:=by omega
   have hi2:60<(xs.length:Int):=by omega
   go_enter Tryz.func151,Tryz.ntmps151;go_wp2;go_ret
   first|exact ⟨ret_bool hno.symm,Below.refl _ _⟩|exact ⟨rfl,Below.refl _ _⟩
end Go.Proofs.YtgcnmjjlmcnllaaGreatDoor
