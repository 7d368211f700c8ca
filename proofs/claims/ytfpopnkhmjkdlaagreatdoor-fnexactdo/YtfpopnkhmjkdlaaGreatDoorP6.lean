import Derived.Test.YtfpopnkhmjkdlaaGreatDoorP4
set_option maxRecDepth 20000
set_option maxHeartbeats 16000000
namespace Go.Proofs.YtfpopnkhmjkdlaaGreatDoor
open Go.ChangeShapes Go.WideShapes Go.ChangeAt Go.RowKit
attribute [local go_sem ↓] Xhx
def CeN (w:World) (B:Nat) (c:Ce):Prop :=
 w.cell? ⟨B,0,none⟩=some (.int .i64 c.rune)/\w.cell? ⟨B,1,none⟩=some (.int .i64 c.st.fore)/\w.cell? ⟨B,2,none⟩=some (.int .i64 c.st.back)/\w.cell? ⟨B,3,none⟩=some (.bool c.st.bold)/\w.cell? ⟨B,4,none⟩=some (.bool c.st.under)/\w.cell? ⟨B,5,none⟩=some (.bool c.st.turned)/\w.cell? ⟨B,6,none⟩=some (.int .i64 c.part)
theorem CeN.new (w:World) (c:Ce) (t:TypeId):CeN (w.alloc (.cells #[.int .i64 c.rune,.int .i64 c.st.fore,.int .i64 c.st.back,.bool c.st.bold,.bool c.st.under,.bool c.st.turned,.int .i64 c.part] t)) w.heap.size c :=
 ⟨by simp [go_sem],by simp [go_sem],by simp [go_sem],by simp [go_sem],by simp [go_sem],by simp [go_sem],by simp [go_sem]⟩
theorem CeN.below {w w':World} {B:Nat} {c:Ce} (h:CeN w B c) (hb:Below w.heap.size w w') (hlt:B<w.heap.size):CeN w' B c:=by
 have e:∀ k,w'.cell? ⟨B,k,none⟩=w.cell? ⟨B,k,none⟩:=fun k=>hb.cell (p:=⟨B,k,none⟩) hlt
 unfold CeN;rw [e,e,e,e,e,e,e]
 exact h
theorem XaK (v:Value) (xs:List Ce) (w:World) (hv:SlC w v xs) (hl:xs.length<=1048576) :
  Calls Tryz.prog 151 #[v] w fun e w'=>e=.returned (.bool (Xu xs))/\Below w.heap.size w w':=by
 have hOK:=fun s W=>Kh s W
 obtain ⟨a,c,rfl,hcp,_,hr⟩:=id hv
 by_cases hn:1<=xs.length/\xs.length<=60
 ·obtain ⟨hn1,hn2⟩:=hn
  have hn1i:¬ (xs.length:Int)<1:=by omega
  have hn2i:¬ 60<(xs.length:Int):=by omega
  rcases hr with h|⟨b,off,rfl,hbb,hsrc0⟩
  ·rw [h] at hn1;simp at hn1
  unfold stV at hOK;go_enter Tryz.func151,Tryz.ntmps151;go_wp2;go_loopw [4] (fun i wr=>∃ j:Nat,i=.int .i64 j/\j<=xs.length/\Hid (∀ k,k<j->XV xs k=true)/\Below w.heap.size w wr) (fun i _=>xs.length-(intOf i).toNat)
  case atStart=>exact ⟨0,rfl,Nat.zero_le _,(fun k hk=>absurd hk (Nat.not_lt_zero k)),Below.refl _ _⟩
  case round =>
   obtain ⟨j,rfl,hj,hall,kb⟩:=hrel
   by_cases hlt:j<xs.length
   ·have hji:(j:Int)<(xs.length:Int):=by omega
    have hj0:(0:Int)<=(j:Int):=by omega
    have hat:=(hsrc0 j hlt).below kb hbb;obtain ⟨c0,c1,c2,c3,c4,c5,c6⟩:=hat;have hx:=CeN.new wr (atC xs j) 146;have kb1:=kb.trans ((Xd wr (Obj.cells #[.int .i64 (atC xs j).rune,.int .i64 (atC xs j).st.fore,.int .i64 (atC xs j).st.back,.bool (atC xs j).st.bold,.bool (atC xs j).st.under,.bool (atC xs j).st.turned,.int .i64 (atC xs j).part] 146)).mono kb.size);have hst:=hOK (atC xs j).st;obtain ⟨d0,d1,d2,d3,d4,d5,d6⟩:=id hx;go_wp2_with fail;refine (hst _).mono ?_;rintro e w2 ⟨rfl,hb2⟩;have hx2:=hx.below hb2 (by simp);have kb2:=kb1.trans (hb2.mono kb1.size);have hsrc:∀ i,i<xs.length->Je w2 b (off+i*7) (atC xs i):=fun i hi=>(hsrc0 i hi).below kb2 hbb
    clear hx kb1 hb2 kb hst c0 c1 c2 c3 c4 c5 c6 d0 d1 d2 d3 d4 d5 d6 hv;obtain ⟨d0,d1,d2,d3,d4,d5,d6⟩:=hx2
    cases hso:(atC xs j).st.ok
    ·have hno:Xu xs=false:=Zb xs j hlt (by unfold XV;rw [hso];rfl)
     clear hall hsrc;go_wp2;go_ret
     first|exact ⟨Xe hno.symm,kb2⟩|exact ⟨rfl,kb2⟩|exact ⟨rfl,kb2.drew⟩|exact ⟨Xe hno.symm,kb2.drew⟩
    ·by_cases e0:(atC xs j).part=0
     ·have b0:((atC xs j).part==0)=true:=by simp [e0]
      have hwd:=sWa (atC xs j).rune
      by_cases e1:wdV (atC xs j).rune=1
      ·have b1:(wdV (atC xs j).rune != 1)=false:=by simp [e1]
       have hyes:XV xs j=true:=by unfold XV;rw [hso,if_pos e0];simp [e1]
       have hall':Hid (∀ k,k<j+1->XV xs k=true):=fun k hk=>by rcases Nat.lt_succ_iff_lt_or_eq.1 hk with h|rfl;exact hall.out k h;exact hyes
       clear hall hsrc hyes e1;go_wp2_with fail;refine (hwd _).mono ?_;rintro e w3 ⟨rfl,hw3⟩;subst hw3;go_wp2;go_roundw
       case rel=>exact ⟨j+1,by go_num,by omega,hall',(by first|exact kb2|exact kb2.drew)⟩
       case measure=>simp [intOf];omega
      ·have b1:(wdV (atC xs j).rune != 1)=true:=by simp [e1]
       have hno:Xu xs=false:=Zb xs j hlt (by unfold XV;rw [hso,if_pos e0];simp [e1]);clear hall hsrc e1;go_wp2_with fail;refine (hwd _).mono ?_;rintro e w3 ⟨rfl,hw3⟩;subst hw3;go_wp2;go_ret
       first|exact ⟨Xe hno.symm,kb2⟩|exact ⟨rfl,kb2⟩|exact ⟨rfl,kb2.drew⟩|exact ⟨Xe hno.symm,kb2.drew⟩
     ·have b0:((atC xs j).part==0)=false:=by simp [e0]
      by_cases e1:(atC xs j).part=1
      ·have b1:((atC xs j).part==1)=true:=by simp [e1]
       have hlj:j<xs.length:=hlt
       by_cases e2:wdV (atC xs j).rune=2
       ·have b2:(wdV (atC xs j).rune != 2)=false:=by simp [e2]
        by_cases e3:j+1=xs.length
        ·have b3:((j:Int)+1==(xs.length:Int))=true:=by simp;omega
         have hwr:IntKind.i64.wrap ((j:Int)+1)=(j:Int)+1:=by simp [IntKind.wrap_i64];omega
         have hno:Xu xs=false:=Zb xs j hlt (by unfold XV;rw [hso,if_neg e0,if_pos e1,decide_eq_false (show ¬ j+1<xs.length by omega)];simp);clear hall hsrc e2 e3;go_wp2;refine wp_region_noPanic ?_;refine wp_region_held_drew (S:=fun W=>W=w2.drew) (by kernel_rfl) rfl (fun Hh=>?_);refine tZ 0 ?_;refine tz 1 ?_;refine rd 2 fun K hK=>?_
         go_simp;refine (sWa _ _).mono ?_;rintro e wk ⟨rfl,hwk⟩;subst hwk;go_wp2_with fail;refine hK.out _ _ (by rfl) (fun Hh=>?_);clear hK K;refine tZ 3 ?_;refine tZ 4 ?_;refine tZ 5 ?_;refine tZ 6 ?_;refine tZ 7 ?_;refine tZ 8 ?_;refine tZ 9 ?_;refine tZ 10 ?_;refine sK 11 ?_;refine sK 12 ?_;refine sK 13 ?_;refine sK 14 ?_;refine sK 15 ?_;refine sK 16 ?_;refine sK 17 ?_;refine tZ 18 ?_;refine tZ 19 ?_;refine sK 20 ?_;refine sK 21 ?_;refine sK 22 ?_;refine sK 23 ?_;refine sK 24 ?_;refine sK 25 ?_;refine sK 26 ?_;refine sK 27 ?_;refine sK 28 ?_;refine tz 29 ?_;simp only [Act.put,ZA,ZB,ZC,ZD,ZE,ZF];refine dn ?_;go_wp2;go_ret
         first|exact ⟨Xe hno.symm,kb2⟩|exact ⟨rfl,kb2⟩|exact ⟨rfl,kb2.drew⟩|exact ⟨Xe hno.symm,kb2.drew⟩
        ·have b3:((j:Int)+1==(xs.length:Int))=false:=by simp;omega
         have hwr:IntKind.i64.wrap ((j:Int)+1)=(j:Int)+1:=by simp [IntKind.wrap_i64];omega
         have hj1:j+1<xs.length:=by omega
         have hj1i:(j:Int)+1<(xs.length:Int):=by omega
         have hj1z:(0:Int)<=(j:Int)+1:=by omega
         obtain ⟨q0,q1,q2,q3,q4,q5,q6⟩:=hsrc (j+1) hj1
         by_cases e4:(atC xs (j+1)).part=2
         ·have b4:((atC xs (j+1)).part != 2)=false:=by simp [e4]
          by_cases e5:(atC xs (j+1)).st=(atC xs j).st
          ·have b5:decide ((atC xs (j+1)).st=(atC xs j).st)=true:=decide_eq_true e5
           have hyes:XV xs j=true:=by unfold XV;rw [hso,if_neg e0,if_pos e1,decide_eq_true e2,decide_eq_true hj1,decide_eq_true e4,b5];rfl
           have hall':Hid (∀ k,k<j+1->XV xs k=true):=fun k hk=>by rcases Nat.lt_succ_iff_lt_or_eq.1 hk with h|rfl;exact hall.out k h;exact hyes
           clear hall hsrc hyes e2 e5;go_wp2;refine wp_region_noPanic ?_;refine wp_region_held_drew (S:=fun W=>W=w2.drew) (by kernel_rfl) rfl (fun Hh=>?_);refine tZ 0 ?_;refine tz 1 ?_;refine rd 2 fun K hK=>?_
           go_simp;refine (sWa _ _).mono ?_;rintro e wk ⟨rfl,hwk⟩;subst hwk;go_wp2_with fail;refine hK.out _ _ (by rfl) (fun Hh=>?_);clear hK K;refine tZ 3 ?_;refine tZ 4 ?_;refine tZ 5 ?_;refine tZ 6 ?_;refine tZ 7 ?_;refine tZ 8 ?_;refine tZ 9 ?_;refine tZ 10 ?_;refine tZ 11 ?_;refine tZ 12 ?_;refine tZ 13 ?_;refine tZ 14 ?_;refine tZ 15 ?_;refine tZ 16 ?_;refine tZ 17 ?_;refine tZ 18 ?_;refine tZ 19 ?_;refine tZ 20 ?_;refine tZ 21 ?_;refine tZ 22 ?_;refine tZ 23 ?_;refine tZ 24 ?_;refine tZ 25 ?_;refine tZ 26 ?_;refine tZ 27 ?_;refine tZ 28 ?_;refine tz 29 ?_;simp only [Act.put,ZA,ZB,ZC,ZD,ZE,ZF];refine dn ?_;go_wp2;go_roundw
           case rel=>exact ⟨j+1,by go_num,by omega,hall',(by first|exact kb2|exact kb2.drew)⟩
           case measure=>simp [intOf];omega
          ·have b5:decide ((atC xs (j+1)).st=(atC xs j).st)=false:=decide_eq_false e5
           have hno:Xu xs=false:=Zb xs j hlt (by unfold XV;rw [hso,if_neg e0,if_pos e1,b5];simp);clear hall hsrc e2 e5;go_wp2;refine wp_region_noPanic ?_;refine wp_region_held_drew (S:=fun W=>W=w2.drew) (by kernel_rfl) rfl (fun Hh=>?_);refine tZ 0 ?_;refine tz 1 ?_;refine rd 2 fun K hK=>?_
           go_simp;refine (sWa _ _).mono ?_;rintro e wk ⟨rfl,hwk⟩;subst hwk;go_wp2_with fail;refine hK.out _ _ (by rfl) (fun Hh=>?_);clear hK K;refine tZ 3 ?_;refine tZ 4 ?_;refine tZ 5 ?_;refine tZ 6 ?_;refine tZ 7 ?_;refine tZ 8 ?_;refine tZ 9 ?_;refine tZ 10 ?_;refine tZ 11 ?_;refine tZ 12 ?_;refine tZ 13 ?_;refine tZ 14 ?_;refine tZ 15 ?_;refine tZ 16 ?_;refine tZ 17 ?_;refine tZ 18 ?_;refine tZ 19 ?_;refine tZ 20 ?_;refine tZ 21 ?_;refine tZ 22 ?_;refine tZ 23 ?_;refine tZ 24 ?_;refine tZ 25 ?_;refine tZ 26 ?_;refine tZ 27 ?_;refine tZ 28 ?_;refine tz 29 ?_;simp only [Act.put,ZA,ZB,ZC,ZD,ZE,ZF];refine dn ?_;go_wp2;go_ret
           first|exact ⟨Xe hno.symm,kb2⟩|exact ⟨rfl,kb2⟩|exact ⟨rfl,kb2.drew⟩|exact ⟨Xe hno.symm,kb2.drew⟩
         ·have b4:((atC xs (j+1)).part != 2)=true:=by simp [e4]
          have hno:Xu xs=false:=Zb xs j hlt (by unfold XV;rw [hso,if_neg e0,if_pos e1,decide_eq_false e4];simp);clear hall hsrc e2;go_wp2;refine wp_region_noPanic ?_;refine wp_region_held_drew (S:=fun W=>W=w2.drew) (by kernel_rfl) rfl (fun Hh=>?_);refine tZ 0 ?_;refine tz 1 ?_;refine rd 2 fun K hK=>?_
          go_simp;refine (sWa _ _).mono ?_;rintro e wk ⟨rfl,hwk⟩;subst hwk;go_wp2_with fail;refine hK.out _ _ (by rfl) (fun Hh=>?_);clear hK K;refine tZ 3 ?_;refine tZ 4 ?_;refine tZ 5 ?_;refine tZ 6 ?_;refine tZ 7 ?_;refine tZ 8 ?_;refine tZ 9 ?_;refine tZ 10 ?_;refine tZ 11 ?_;refine tZ 12 ?_;refine tZ 13 ?_;refine tZ 14 ?_;refine tZ 15 ?_;refine tZ 16 ?_;refine tZ 17 ?_;refine tZ 18 ?_;refine tZ 19 ?_;refine sK 20 ?_;refine sK 21 ?_;refine sK 22 ?_;refine sK 23 ?_;refine sK 24 ?_;refine sK 25 ?_;refine sK 26 ?_;refine sK 27 ?_;refine sK 28 ?_;refine tz 29 ?_;simp only [Act.put,ZA,ZB,ZC,ZD,ZE,ZF];refine dn ?_;go_wp2;go_ret
          first|exact ⟨Xe hno.symm,kb2⟩|exact ⟨rfl,kb2⟩|exact ⟨rfl,kb2.drew⟩|exact ⟨Xe hno.symm,kb2.drew⟩
       ·have b2:(wdV (atC xs j).rune != 2)=true:=by simp [e2]
        have hno:Xu xs=false:=Zb xs j hlt (by unfold XV;rw [hso,if_neg e0,if_pos e1,decide_eq_false e2];simp);clear hall hsrc e2;go_wp2;refine wp_region_noPanic ?_;refine wp_region_held_drew (S:=fun W=>W=w2.drew) (by kernel_rfl) rfl (fun Hh=>?_);refine tZ 0 ?_;refine tz 1 ?_;refine rd 2 fun K hK=>?_
        go_simp;refine (sWa _ _).mono ?_;rintro e wk ⟨rfl,hwk⟩;subst hwk;go_wp2_with fail;refine hK.out _ _ (by rfl) (fun Hh=>?_);clear hK K;refine tZ 3 ?_;refine tZ 4 ?_;refine sK 5 ?_;refine sK 6 ?_;refine sK 7 ?_;refine sK 8 ?_;refine tZ 9 ?_;refine tZ 10 ?_;refine sK 11 ?_;refine sK 12 ?_;refine sK 13 ?_;refine sK 14 ?_;refine sK 15 ?_;refine sK 16 ?_;refine sK 17 ?_;refine tZ 18 ?_;refine tZ 19 ?_;refine sK 20 ?_;refine sK 21 ?_;refine sK 22 ?_;refine sK 23 ?_;refine sK 24 ?_;refine sK 25 ?_;refine sK 26 ?_;refine sK 27 ?_;refine sK 28 ?_;refine tz 29 ?_;simp only [Act.put,ZA,ZB,ZC,ZD,ZE,ZF];refine dn ?_;go_wp2;go_ret
        first|exact ⟨Xe hno.symm,kb2⟩|exact ⟨rfl,kb2⟩|exact ⟨rfl,kb2.drew⟩|exact ⟨Xe hno.symm,kb2.drew⟩
      ·have b1:((atC xs j).part==1)=false:=by simp [e1]
       by_cases e2:(atC xs j).part=2
       ·have b2:((atC xs j).part==2)=true:=by simp [e2]
        by_cases e3:(atC xs j).rune=0
        ·have b3:((atC xs j).rune != 0)=false:=by simp [e3]
         by_cases e4:j=0
         ·have b4:((j:Int)==0)=true:=by simp [e4]
          have hno:Xu xs=false:=Zb xs j hlt (by unfold XV;rw [hso,if_neg e0,if_neg e1,if_pos e2,decide_eq_false (show ¬ 0<j by omega)];simp);clear hall hsrc e4;go_wp2;go_ret
          first|exact ⟨Xe hno.symm,kb2⟩|exact ⟨rfl,kb2⟩|exact ⟨rfl,kb2.drew⟩|exact ⟨Xe hno.symm,kb2.drew⟩
         ·obtain ⟨m,rfl⟩:∃ m,j=m+1:=⟨j-1,by omega⟩
          have b4:((m:Int)+1==0)=false:=by simp;omega
          have hmi:(m:Int)<(xs.length:Int):=by omega
          obtain ⟨q0,q1,q2,q3,q4,q5,q6⟩:=hsrc m (by omega)
          by_cases e5:(atC xs m).part=1
          ·have b5:((atC xs m).part != 1)=false:=by simp [e5]
           have hyes:XV xs (m+1)=true:=by unfold XV;rw [hso,if_neg e0,if_neg e1,if_pos e2,decide_eq_true e3];simp [e5]
           have hall':Hid (∀ k,k<m+1+1->XV xs k=true):=fun k hk=>by rcases Nat.lt_succ_iff_lt_or_eq.1 hk with h|rfl;exact hall.out k h;exact hyes
           clear hall hsrc hyes;go_wp2;go_roundw
           case rel=>exact ⟨m+1+1,by go_num,by omega,hall',(by first|exact kb2|exact kb2.drew)⟩
           case measure=>simp [intOf];omega
          ·have b5:((atC xs m).part != 1)=true:=by simp [e5]
           have hno:Xu xs=false:=Zb xs (m+1) hlt (by unfold XV;rw [hso,if_neg e0,if_neg e1,if_pos e2];simp [e5]);clear hall hsrc;go_wp2;go_ret
           first|exact ⟨Xe hno.symm,kb2⟩|exact ⟨rfl,kb2⟩|exact ⟨rfl,kb2.drew⟩|exact ⟨Xe hno.symm,kb2.drew⟩
        ·have b3:((atC xs j).rune != 0)=true:=by simp [e3]
         have hno:Xu xs=false:=Zb xs j hlt (by unfold XV;rw [hso,if_neg e0,if_neg e1,if_pos e2,decide_eq_false e3];simp);clear hall hsrc;go_wp2;go_ret
         first|exact ⟨Xe hno.symm,kb2⟩|exact ⟨rfl,kb2⟩|exact ⟨rfl,kb2.drew⟩|exact ⟨Xe hno.symm,kb2.drew⟩
       ·have b2:((atC xs j).part==2)=false:=by simp [e2]
        have hno:Xu xs=false:=Zb xs j hlt (by unfold XV;rw [hso,if_neg e0,if_neg e1,if_neg e2];rfl);clear hall hsrc;go_wp2;go_ret
        first|exact ⟨Xe hno.symm,kb2⟩|exact ⟨rfl,kb2⟩|exact ⟨rfl,kb2.drew⟩|exact ⟨Xe hno.symm,kb2.drew⟩
   ·have hjn:j=xs.length:=by omega
    have hji:¬ (j:Int)<(xs.length:Int):=by omega
    subst hjn;have hyes:Xu xs=true:=Xad xs ⟨hn1,hn2⟩ hall.out;clear hall hOK hv;go_wp2;go_ret
    first|exact ⟨Xe hyes.symm,kb⟩|exact ⟨rfl,kb⟩
 ·have hno:=Uo xs hn
  by_cases h0:xs.length<1
  ·have hi:(xs.length:Int)<1:=by omega
   go_enter Tryz.func151,Tryz.ntmps151;go_wp2;go_ret
   first|exact ⟨Xe hno.symm,Below.refl _ _⟩|exact ⟨rfl,Below.refl _ _⟩
  ·have hi:¬ (xs.length:Int)<1:=by omega
   have hi2:60<(xs.length:Int):=by omega
   go_enter Tryz.func151,Tryz.ntmps151;go_wp2;go_ret
   first|exact ⟨Xe hno.symm,Below.refl _ _⟩|exact ⟨rfl,Below.refl _ _⟩
