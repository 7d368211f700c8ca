/- Parts of the proof. -/
import Derived.Test.YtgcnmjjlmcnllaaGreatDoorP3
import Derived.Deep.RegionHeld3
namespace Go.Proofs.YtgcnmjjlmcnllaaGreatDoor
set_option maxRecDepth 20000
set_option maxHeartbeats 16000000
open Go.ChangeShapes Go.WideShapes Go.ChangeAt Go.RowKit
theorem l4Mended_any (v:Value) (xs:List Ce) (w:World) (hv:SlC w v xs) (hl:xs.length<=1000000) :
  Calls Tryz.prog 159 #[v] w fun e w'=>∃ u,e=.returned u/\OwnC w' w.heap.size u (mendV xs)/\Below w.heap.size w w':=by
 have hbl:=fun s W=>l4Blank_any s W
 obtain ⟨a,c,rfl,hr⟩:=id hv;have k00:=ownC_nil w w.heap.size (Nat.le_refl _);have hv0:=hv.below (bal' w (Obj.cells #[] 146));go_enter Tryz.func159,Tryz.ntmps159;go_wp2_with (at_builtin;refine append_os rfl _ _ rfl w.heap.size _ [] rfl (by exact k00) (by simp) _ xs hv0 rfl (by simp;omega) ?_;intro u w1 ho1 hg1)
 have k1:OC w.heap.size u xs w w1:=by
  have k:OC w.heap.size (.slice (some ⟨w.heap.size,0,none⟩) 0 0) [] w (w.alloc (Obj.cells #[] 146)):=⟨k00,bal' _ _,by simp,Nat.le_refl _⟩;exact k.own (by simpa using ho1) hg1
 clear k00 hv0 ho1 hg1;rcases k1.1.shape with ⟨rfl,rfl⟩|⟨g,cap,rfl,hbg,hlg,hcap⟩
 ·clear hr
  go_wp2;refine wp_loop_rounds 1 ?_;rw [rounds_succ]
  go_wp2;go_ret;exact ⟨_,rfl,k1.1,k1.2.1⟩
 ·go_wp2
  go_loopw [4] (fun i wr=>∃ j:Nat,i=.int .i64 j/\j<=xs.length/\OC w.heap.size (.slice (some ⟨g,0,none⟩) xs.length cap) (mendUp xs j) w wr) (fun i _=>xs.length-(intOf i).toNat)
  case atStart=>exact ⟨0,rfl,Nat.zero_le _,by rw [mendUp_zero];exact k1⟩
  case round =>
   clear k1;obtain ⟨j,rfl,hj,k⟩:=hrel
   by_cases hlt:j<xs.length
   ·have hji:(j:Int)<(xs.length:Int):=by omega
    have hj0:(0:Int)<=(j:Int):=by omega
    have hat:=k.1.at (mendUp_len xs j) j hlt;rw [mendUp_at xs j j hlt,if_neg (Nat.lt_irrefl j)] at hat
    have hsz:(mendUp xs j).length=xs.length:=mendUp_len xs j
    have hsrc:∀ i,i<xs.length->∃ b off,a=some ⟨b,off,none⟩/\CeAt wr b (off+i*7) (atC xs i):=by
     intro i hi;rcases hr.2.2 with h|⟨b,off,ha,hlt,hc⟩
     ·rw [h] at hi;simp at hi
     ·exact ⟨b,off,ha,(hc i hi).below k.2.1 hlt⟩
    have hkeep:aloneB xs j=false->OC w.heap.size (.slice (some ⟨g,0,none⟩) xs.length cap) (mendUp xs (j+1)) w wr:=fun h=>by rw [mendUp_keep xs j hlt h];exact k
    have hstep:aloneB xs j=true->mendUp xs (j+1)=(mendUp xs j).set j (blankC (atC xs j).st):=fun h=>by rw [mendUp_step xs j hlt,mendC,if_pos h]
    have hal:aloneB xs j=(((atC xs j).part==1 && (decide (j+1=xs.length) || (atC xs (j+1)).part != 2)) || ((atC xs j).part==2 && (decide (j=0) || (atC xs (j-1)).part != 1))):=rfl
    have hnext:j+1<xs.length->CeAt wr g ((j+1)*7) (atC xs (j+1)):=fun h=>by
     have:=k.1.at (mendUp_len xs j) (j+1) h
     rwa [mendUp_at xs j (j+1) h,if_neg (by omega)] at this
    obtain ⟨p0,p1,p2,p3,p4,p5,p6⟩:=id hat
    by_cases e1:(atC xs j).part=1
    ·have b1:((atC xs j).part==1)=true:=by simp [e1]
     by_cases e2:j+1=xs.length
     ·have e2i:((j:Int)+1==(xs.length:Int))=true:=by simp;omega
      have ha:aloneB xs j=true:=by rw [hal];simp [e1,e2]
      have hst:=hstep ha;clear hkeep hstep hal ha hsrc hnext hv hr;obtain ⟨c0,c1,c2,c3,c4,c5,c6⟩:=id hat;have hb1:=hbl (atC xs j).st;unfold stV ceV blankC at hb1;simp only at hb1;go_wp2_with fail;refine (hb1 _).mono ?_;rintro e w2 ⟨rfl,hb2⟩;have k2:=k.below hb2;have hat2:=hat.below hb2 (by have:=k.1.lt g rfl;exact this.2);have hp:=k2.1.put hsz j hlt ⟨32,(atC xs j).st,0⟩;have kk:OC w.heap.size (.slice (some ⟨g,0,none⟩) xs.length cap) (mendUp xs (j+1)) w (putCe w2 g (j*7) ⟨32,(atC xs j).st,0⟩):=by rw [hst];exact k2.own hp.1 hp.2
      have f0:=k2.1.frozen hsz (j*7);have f1:=k2.1.frozen hsz (j*7+1);have f2:=k2.1.frozen hsz (j*7+2);have f3:=k2.1.frozen hsz (j*7+3);have f4:=k2.1.frozen hsz (j*7+4);have f5:=k2.1.frozen hsz (j*7+5);have f6:=k2.1.frozen hsz (j*7+6);clear hp hat k hb1 hb2 hbl hst c0 c1 c2 c3 c4 c5 c6;obtain ⟨c0,c1,c2,c3,c4,c5,c6⟩:=hat2;clear k2;simp only [putCe] at kk;go_wp2;go_roundw
      case rel=>exact ⟨j+1,by go_num,by omega,kk⟩
      case measure=>simp [intOf];omega
     ·have e2i:((j:Int)+1==(xs.length:Int))=false:=by simp;omega
      have hj1:j+1<xs.length:=by omega
      have hj1i:(j:Int)+1<(xs.length:Int):=by omega
      obtain ⟨q0,q1,q2,q3,q4,q5,q6⟩:=hnext hj1
      by_cases e3:(atC xs (j+1)).part=2
      ·have b3:((atC xs (j+1)).part != 2)=false:=by simp [e3]
       have b4:((atC xs j).part==2)=false:=by simp [e1]
       have ha:aloneB xs j=false:=by rw [hal];simp [e1,e2,e3]
       have kk:=hkeep ha;clear hkeep hstep hal ha hsrc hnext hbl k hv hr;go_wp2;go_roundw
       case rel=>exact ⟨j+1,by go_num,by omega,kk⟩
       case measure=>simp [intOf];omega
      ·have b3:((atC xs (j+1)).part != 2)=true:=by simp [e3]
       have ha:aloneB xs j=true:=by rw [hal];simp [e1,e3]
       have hst:=hstep ha;clear hkeep hstep hal ha hsrc hnext hv hr;obtain ⟨c0,c1,c2,c3,c4,c5,c6⟩:=id hat;have hb1:=hbl (atC xs j).st;unfold stV ceV blankC at hb1;simp only at hb1;go_wp2_with fail;refine (hb1 _).mono ?_;rintro e w2 ⟨rfl,hb2⟩;have k2:=k.below hb2;have hat2:=hat.below hb2 (by have:=k.1.lt g rfl;exact this.2);have hp:=k2.1.put hsz j hlt ⟨32,(atC xs j).st,0⟩;have kk:OC w.heap.size (.slice (some ⟨g,0,none⟩) xs.length cap) (mendUp xs (j+1)) w (putCe w2 g (j*7) ⟨32,(atC xs j).st,0⟩):=by rw [hst];exact k2.own hp.1 hp.2
       have f0:=k2.1.frozen hsz (j*7);have f1:=k2.1.frozen hsz (j*7+1);have f2:=k2.1.frozen hsz (j*7+2);have f3:=k2.1.frozen hsz (j*7+3);have f4:=k2.1.frozen hsz (j*7+4);have f5:=k2.1.frozen hsz (j*7+5);have f6:=k2.1.frozen hsz (j*7+6);clear hp hat k hb1 hb2 hbl hst c0 c1 c2 c3 c4 c5 c6;obtain ⟨c0,c1,c2,c3,c4,c5,c6⟩:=hat2;clear k2;simp only [putCe] at kk;go_wp2;go_roundw
       case rel=>exact ⟨j+1,by go_num,by omega,kk⟩
       case measure=>simp [intOf];omega
    ·have b1:((atC xs j).part==1)=false:=by simp [e1]
     by_cases e2:(atC xs j).part=2
     ·have b2:((atC xs j).part==2)=true:=by simp [e2]
      by_cases e3:j=0
      ·have e3i:((j:Int)==0)=true:=by simp [e3]
       have ha:aloneB xs j=true:=by rw [hal];rw [show decide (j=0)=true from decide_eq_true e3];simp [e2]
       clear e3;have hst:=hstep ha;clear hkeep hstep hal ha hsrc hnext hv hr;obtain ⟨c0,c1,c2,c3,c4,c5,c6⟩:=id hat;have hb1:=hbl (atC xs j).st;unfold stV ceV blankC at hb1;simp only at hb1;go_wp2_with fail;refine (hb1 _).mono ?_;rintro e w2 ⟨rfl,hb2⟩;have k2:=k.below hb2;have hat2:=hat.below hb2 (by have:=k.1.lt g rfl;exact this.2);have hp:=k2.1.put hsz j hlt ⟨32,(atC xs j).st,0⟩;have kk:OC w.heap.size (.slice (some ⟨g,0,none⟩) xs.length cap) (mendUp xs (j+1)) w (putCe w2 g (j*7) ⟨32,(atC xs j).st,0⟩):=by rw [hst];exact k2.own hp.1 hp.2
       have f0:=k2.1.frozen hsz (j*7);have f1:=k2.1.frozen hsz (j*7+1);have f2:=k2.1.frozen hsz (j*7+2);have f3:=k2.1.frozen hsz (j*7+3);have f4:=k2.1.frozen hsz (j*7+4);have f5:=k2.1.frozen hsz (j*7+5);have f6:=k2.1.frozen hsz (j*7+6);clear hp hat k hb1 hb2 hbl hst c0 c1 c2 c3 c4 c5 c6;obtain ⟨c0,c1,c2,c3,c4,c5,c6⟩:=hat2;clear k2;simp only [putCe] at kk;go_wp2;go_roundw
       case rel=>exact ⟨j+1,by go_num,by omega,kk⟩
       case measure=>simp [intOf];omega
      ·obtain ⟨m,rfl⟩:∃ m,j=m+1:=⟨j-1,by omega⟩
       obtain ⟨b,off,rfl,q0,q1,q2,q3,q4,q5,q6⟩:=hsrc m (by omega);have e3i:((m:Int)+1==0)=false:=by simp;omega
       have hmi:(m:Int)<(xs.length:Int):=by omega
       by_cases e4:(atC xs m).part=1
       ·have b4:((atC xs m).part != 1)=false:=by simp [e4]
        have ha:aloneB xs (m+1)=false:=by rw [hal];simp [e2,e4]
        have kk:=hkeep ha;clear hkeep hstep hal ha hsrc hnext hbl k hv hr;go_wp2;go_roundw
        case rel=>exact ⟨m+1+1,by go_num,by omega,kk⟩
        case measure=>simp [intOf];omega
       ·have b4:((atC xs m).part != 1)=true:=by simp [e4]
        have ha:aloneB xs (m+1)=true:=by rw [hal];simp [e2,e4]
        have hst:=hstep ha;clear hkeep hstep hal ha hsrc hnext hv hr;obtain ⟨c0,c1,c2,c3,c4,c5,c6⟩:=id hat;have hb1:=hbl (atC xs (m+1)).st;unfold stV ceV blankC at hb1;simp only at hb1;go_wp2_with fail;refine (hb1 _).mono ?_;rintro e w2 ⟨rfl,hb2⟩;have k2:=k.below hb2;have hat2:=hat.below hb2 (by have:=k.1.lt g rfl;exact this.2);have hp:=k2.1.put hsz (m+1) hlt ⟨32,(atC xs (m+1)).st,0⟩;have kk:OC w.heap.size (.slice (some ⟨g,0,none⟩) xs.length cap) (mendUp xs ((m+1)+1)) w (putCe w2 g ((m+1)*7) ⟨32,(atC xs (m+1)).st,0⟩):=by rw [hst];exact k2.own hp.1 hp.2
        have f0:=k2.1.frozen hsz ((m+1)*7);have f1:=k2.1.frozen hsz ((m+1)*7+1);have f2:=k2.1.frozen hsz ((m+1)*7+2);have f3:=k2.1.frozen hsz ((m+1)*7+3);have f4:=k2.1.frozen hsz ((m+1)*7+4);have f5:=k2.1.frozen hsz ((m+1)*7+5);have f6:=k2.1.frozen hsz ((m+1)*7+6);clear hp hat k hb1 hb2 hbl hst c0 c1 c2 c3 c4 c5 c6;obtain ⟨c0,c1,c2,c3,c4,c5,c6⟩:=hat2;clear k2;simp only [putCe] at kk;go_wp2;go_roundw
        case rel=>exact ⟨m+1+1,by go_num,by omega,kk⟩
        case measure=>simp [intOf];omega
     ·have b2:((atC xs j).part==2)=false:=by simp [e2]
      have ha:aloneB xs j=false:=by rw [hal];simp [e1,e2]
      have kk:=hkeep ha;clear hkeep hstep hal ha hsrc hnext hbl k hv hr;go_wp2;go_roundw
      case rel=>exact ⟨j+1,by go_num,by omega,kk⟩
      case measure=>simp [intOf];omega
   ·have hjn:j=xs.length:=by omega
    have hji:¬ (j:Int)<(xs.length:Int):=by omega
    subst hjn;clear hbl hv hr;go_wp2;go_ret;exact ⟨_,rfl,k.1,k.2.1⟩
end Go.Proofs.YtgcnmjjlmcnllaaGreatDoor
namespace Go.Proofs.YtgcnmjjlmcnllaaGreatDoor
set_option maxRecDepth 20000
set_option maxHeartbeats 16000000
open Go.ChangeShapes Go.WideShapes Go.ChangeAt Go.RowKit
attribute [local go_sem ↓] eq_st
def CeN (w:World) (B:Nat) (c:Ce):Prop :=
 w.cell? ⟨B,0,none⟩=some (.int .i64 c.rune)/\w.cell? ⟨B,1,none⟩=some (.int .i64 c.st.fore)/\w.cell? ⟨B,2,none⟩=some (.int .i64 c.st.back)/\w.cell? ⟨B,3,none⟩=some (.bool c.st.bold)/\w.cell? ⟨B,4,none⟩=some (.bool c.st.under)/\w.cell? ⟨B,5,none⟩=some (.bool c.st.turned)/\w.cell? ⟨B,6,none⟩=some (.int .i64 c.part)
theorem CeN.new (w:World) (c:Ce) (t:TypeId):CeN (w.alloc (.cells #[.int .i64 c.rune,.int .i64 c.st.fore,.int .i64 c.st.back,.bool c.st.bold,.bool c.st.under,.bool c.st.turned,.int .i64 c.part] t)) w.heap.size c :=
 ⟨by simp [go_sem],by simp [go_sem],by simp [go_sem],by simp [go_sem],by simp [go_sem],by simp [go_sem],by simp [go_sem]⟩
theorem CeN.below {w w':World} {B:Nat} {c:Ce} (h:CeN w B c) (hb:Below w.heap.size w w') (hlt:B<w.heap.size):CeN w' B c:=by
 have e:∀ k,w'.cell? ⟨B,k,none⟩=w.cell? ⟨B,k,none⟩:=fun k=>hb.cell (p:=⟨B,k,none⟩) hlt
 unfold CeN;rw [e,e,e,e,e,e,e]
 exact h
theorem specRowOk_any (v:Value) (xs:List Ce) (w:World) (hv:SlC w v xs) (hl:xs.length<=1048576) :
  Calls Tryz.prog 151 #[v] w fun e w'=>e=.returned (.bool (rowOkB xs))/\Below w.heap.size w w':=by
 have hOK:=fun s W=>specStyleOk_any s W
 obtain ⟨a,c,rfl,hcp,_,hr⟩:=id hv
 by_cases hn:1<=xs.length/\xs.length<=60
 ·obtain ⟨hn1,hn2⟩:=hn
  have hn1i:¬ (xs.length:Int)<1:=by omega
  have hn2i:¬ 60<(xs.length:Int):=by omega
  rcases hr with h|⟨b,off,rfl,hbb,hsrc0⟩
  ·rw [h] at hn1;simp at hn1
  unfold stV at hOK;go_enter Tryz.func151,Tryz.ntmps151;go_wp2;go_loopw [4] (fun i wr=>∃ j:Nat,i=.int .i64 j/\j<=xs.length/\Hid (∀ k,k<j->cellOkB xs k=true)/\Below w.heap.size w wr) (fun i _=>xs.length-(intOf i).toNat)
  case atStart=>exact ⟨0,rfl,Nat.zero_le _,(fun k hk=>absurd hk (Nat.not_lt_zero k)),Below.refl _ _⟩
  case round =>
   obtain ⟨j,rfl,hj,hall,kb⟩:=hrel
   by_cases hlt:j<xs.length
   ·have hji:(j:Int)<(xs.length:Int):=by omega
    have hj0:(0:Int)<=(j:Int):=by omega
    have hat:=(hsrc0 j hlt).below kb hbb;obtain ⟨c0,c1,c2,c3,c4,c5,c6⟩:=hat;have hx:=CeN.new wr (atC xs j) 146;have kb1:=kb.trans ((bal' wr (Obj.cells #[.int .i64 (atC xs j).rune,.int .i64 (atC xs j).st.fore,.int .i64 (atC xs j).st.back,.bool (atC xs j).st.bold,.bool (atC xs j).st.under,.bool (atC xs j).st.turned,.int .i64 (atC xs j).part] 146)).mono kb.size);have hst:=hOK (atC xs j).st;obtain ⟨d0,d1,d2,d3,d4,d5,d6⟩:=id hx;go_wp2_with fail;refine (hst _).mono ?_;rintro e w2 ⟨rfl,hb2⟩;have hx2:=hx.below hb2 (by simp);have kb2:=kb1.trans (hb2.mono kb1.size);have hsrc:∀ i,i<xs.length->CeAt w2 b (off+i*7) (atC xs i):=fun i hi=>(hsrc0 i hi).below kb2 hbb
    clear hx kb1 hb2 kb hst c0 c1 c2 c3 c4 c5 c6 d0 d1 d2 d3 d4 d5 d6 hv;obtain ⟨d0,d1,d2,d3,d4,d5,d6⟩:=hx2
    cases hso:(atC xs j).st.ok
    ·have hno:rowOkB xs=false:=rowOkB_no xs j hlt (by unfold cellOkB;rw [hso];rfl)
     clear hall hsrc;go_wp2;go_ret
     first|exact ⟨ret_bool hno.symm,kb2⟩|exact ⟨rfl,kb2⟩|exact ⟨rfl,kb2.drew⟩|exact ⟨ret_bool hno.symm,kb2.drew⟩
    ·by_cases e0:(atC xs j).part=0
     ·have b0:((atC xs j).part==0)=true:=by simp [e0]
      have hwd:=specWidth_any (atC xs j).rune
      by_cases e1:wdV (atC xs j).rune=1
      ·have b1:(wdV (atC xs j).rune != 1)=false:=by simp [e1]
       have hyes:cellOkB xs j=true:=by unfold cellOkB;rw [hso,if_pos e0];simp [e1]
       have hall':Hid (∀ k,k<j+1->cellOkB xs k=true):=fun k hk=>by rcases Nat.lt_succ_iff_lt_or_eq.1 hk with h|rfl;exact hall.out k h;exact hyes
       clear hall hsrc hyes e1;go_wp2_with fail;refine (hwd _).mono ?_;rintro e w3 ⟨rfl,hw3⟩;subst hw3;go_wp2;go_roundw
       case rel=>exact ⟨j+1,by go_num,by omega,hall',(by first|exact kb2|exact kb2.drew)⟩
       case measure=>simp [intOf];omega
      ·have b1:(wdV (atC xs j).rune != 1)=true:=by simp [e1]
       have hno:rowOkB xs=false:=rowOkB_no xs j hlt (by unfold cellOkB;rw [hso,if_pos e0];simp [e1]);clear hall hsrc e1;go_wp2_with fail;refine (hwd _).mono ?_;rintro e w3 ⟨rfl,hw3⟩;subst hw3;go_wp2;go_ret
       first|exact ⟨ret_bool hno.symm,kb2⟩|exact ⟨rfl,kb2⟩|exact ⟨rfl,kb2.drew⟩|exact ⟨ret_bool hno.symm,kb2.drew⟩
     ·have b0:((atC xs j).part==0)=false:=by simp [e0]
      by_cases e1:(atC xs j).part=1
      ·have b1:((atC xs j).part==1)=true:=by simp [e1]
       have hlj:j<xs.length:=hlt
       by_cases e2:wdV (atC xs j).rune=2
       ·have b2:(wdV (atC xs j).rune != 2)=false:=by simp [e2]
        by_cases e3:j+1=xs.length
        ·have b3:((j:Int)+1==(xs.length:Int))=true:=by simp;omega
         have hwr:IntKind.i64.wrap ((j:Int)+1)=(j:Int)+1:=by simp [IntKind.wrap_i64];omega
         have hno:rowOkB xs=false:=rowOkB_no xs j hlt (by unfold cellOkB;rw [hso,if_neg e0,if_pos e1,decide_eq_false (show ¬ j+1<xs.length by omega)];simp);clear hall hsrc e2 e3;go_wp2;refine wp_region_noPanic ?_;refine wp_region_held_drew (S:=fun W=>W=w2.drew) (by kernel_rfl) rfl (fun hHeld=>?_);refine tz 0 ?_;refine tz 1 ?_;refine rd 2 fun K hK=>?_
         go_simp;refine (specWidth_any _ _).mono ?_;rintro e wk ⟨rfl,hwk⟩;subst hwk;go_wp2_with fail;refine hK.out _ _ (by rfl) (fun hHeld=>?_);clear hK K;refine tz 3 ?_;refine tz 4 ?_;refine tz 5 ?_;refine tz 6 ?_;refine tz 7 ?_;refine tz 8 ?_;refine tz 9 ?_;refine tz 10 ?_;refine sk 11 ?_;refine sk 12 ?_;refine sk 13 ?_;refine sk 14 ?_;refine sk 15 ?_;refine sk 16 ?_;refine sk 17 ?_;refine tz 18 ?_;refine tz 19 ?_;refine sk 20 ?_;refine sk 21 ?_;refine sk 22 ?_;refine sk 23 ?_;refine sk 24 ?_;refine sk 25 ?_;refine sk 26 ?_;refine sk 27 ?_;refine sk 28 ?_;refine tz 29 ?_;simp only [Act.put,ZA,ZB,ZC,ZD,ZE,ZF];refine dn ?_;go_wp2;go_ret
         first|exact ⟨ret_bool hno.symm,kb2⟩|exact ⟨rfl,kb2⟩|exact ⟨rfl,kb2.drew⟩|exact ⟨ret_bool hno.symm,kb2.drew⟩
        ·have b3:((j:Int)+1==(xs.length:Int))=false:=by simp;omega
         have hwr:IntKind.i64.wrap ((j:Int)+1)=(j:Int)+1:=by simp [IntKind.wrap_i64];omega
         have hj1:j+1<xs.length:=by omega
         have hj1i:(j:Int)+1<(xs.length:Int):=by omega
         have hj1z:(0:Int)<=(j:Int)+1:=by omega
         obtain ⟨q0,q1,q2,q3,q4,q5,q6⟩:=hsrc (j+1) hj1
         by_cases e4:(atC xs (j+1)).part=2
         ·have b4:((atC xs (j+1)).part != 2)=false:=by simp [e4]
          by_cases e5:(atC xs (j+1)).st=(atC xs j).st
          ·have b5:decide ((atC xs (j+1)).st=(atC xs j).st)=true:=decide_eq_true e5
           have hyes:cellOkB xs j=true:=by unfold cellOkB;rw [hso,if_neg e0,if_pos e1,decide_eq_true e2,decide_eq_true hj1,decide_eq_true e4,b5];rfl
           have hall':Hid (∀ k,k<j+1->cellOkB xs k=true):=fun k hk=>by rcases Nat.lt_succ_iff_lt_or_eq.1 hk with h|rfl;exact hall.out k h;exact hyes
           clear hall hsrc hyes e2 e5;go_wp2;refine wp_region_noPanic ?_;refine wp_region_held_drew (S:=fun W=>W=w2.drew) (by kernel_rfl) rfl (fun hHeld=>?_);refine tz 0 ?_;refine tz 1 ?_;refine rd 2 fun K hK=>?_
           go_simp;refine (specWidth_any _ _).mono ?_;rintro e wk ⟨rfl,hwk⟩;subst hwk;go_wp2_with fail;refine hK.out _ _ (by rfl) (fun hHeld=>?_);clear hK K;refine tz 3 ?_;refine tz 4 ?_;refine tz 5 ?_;refine tz 6 ?_;refine tz 7 ?_;refine tz 8 ?_;refine tz 9 ?_;refine tz 10 ?_;refine tz 11 ?_;refine tz 12 ?_;refine tz 13 ?_;refine tz 14 ?_;refine tz 15 ?_;refine tz 16 ?_;refine tz 17 ?_;refine tz 18 ?_;refine tz 19 ?_;refine tz 20 ?_;refine tz 21 ?_;refine tz 22 ?_;refine tz 23 ?_;refine tz 24 ?_;refine tz 25 ?_;refine tz 26 ?_;refine tz 27 ?_;refine tz 28 ?_;refine tz 29 ?_;simp only [Act.put,ZA,ZB,ZC,ZD,ZE,ZF];refine dn ?_;go_wp2;go_roundw
           case rel=>exact ⟨j+1,by go_num,by omega,hall',(by first|exact kb2|exact kb2.drew)⟩
           case measure=>simp [intOf];omega
          ·have b5:decide ((atC xs (j+1)).st=(atC xs j).st)=false:=decide_eq_false e5
           have hno:rowOkB xs=false:=rowOkB_no xs j hlt (by unfold cellOkB;rw [hso,if_neg e0,if_pos e1,b5];simp);clear hall hsrc e2 e5;go_wp2;refine wp_region_noPanic ?_;refine wp_region_held_drew (S:=fun W=>W=w2.drew) (by kernel_rfl) rfl (fun hHeld=>?_);refine tz 0 ?_;refine tz 1 ?_;refine rd 2 fun K hK=>?_
           go_simp;refine (specWidth_any _ _).mono ?_;rintro e wk ⟨rfl,hwk⟩;subst hwk;go_wp2_with fail;refine hK.out _ _ (by rfl) (fun hHeld=>?_);clear hK K;refine tz 3 ?_;refine tz 4 ?_;refine tz 5 ?_;refine tz 6 ?_;refine tz 7 ?_;refine tz 8 ?_;refine tz 9 ?_;refine tz 10 ?_;refine tz 11 ?_;refine tz 12 ?_;refine tz 13 ?_;refine tz 14 ?_;refine tz 15 ?_;refine tz 16 ?_;refine tz 17 ?_;refine tz 18 ?_;refine tz 19 ?_;refine tz 20 ?_;refine tz 21 ?_;refine tz 22 ?_;refine tz 23 ?_;refine tz 24 ?_;refine tz 25 ?_;refine tz 26 ?_;refine tz 27 ?_;refine tz 28 ?_;refine tz 29 ?_;simp only [Act.put,ZA,ZB,ZC,ZD,ZE,ZF];refine dn ?_;go_wp2;go_ret
           first|exact ⟨ret_bool hno.symm,kb2⟩|exact ⟨rfl,kb2⟩|exact ⟨rfl,kb2.drew⟩|exact ⟨ret_bool hno.symm,kb2.drew⟩
         ·have b4:((atC xs (j+1)).part != 2)=true:=by simp [e4]
          have hno:rowOkB xs=false:=rowOkB_no xs j hlt (by unfold cellOkB;rw [hso,if_neg e0,if_pos e1,decide_eq_false e4];simp);clear hall hsrc e2;go_wp2;refine wp_region_noPanic ?_;refine wp_region_held_drew (S:=fun W=>W=w2.drew) (by kernel_rfl) rfl (fun hHeld=>?_);refine tz 0 ?_;refine tz 1 ?_;refine rd 2 fun K hK=>?_
          go_simp;refine (specWidth_any _ _).mono ?_;rintro e wk ⟨rfl,hwk⟩;subst hwk;go_wp2_with fail;refine hK.out _ _ (by rfl) (fun hHeld=>?_);clear hK K;refine tz 3 ?_;refine tz 4 ?_;refine tz 5 ?_;refine tz 6 ?_;refine tz 7 ?_;refine tz 8 ?_;refine tz 9 ?_;refine tz 10 ?_;refine tz 11 ?_;refine tz 12 ?_;refine tz 13 ?_;refine tz 14 ?_;refine tz 15 ?_;refine tz 16 ?_;refine tz 17 ?_;refine tz 18 ?_;refine tz 19 ?_;refine sk 20 ?_;refine sk 21 ?_;refine sk 22 ?_;refine sk 23 ?_;refine sk 24 ?_;refine sk 25 ?_;refine sk 26 ?_;refine sk 27 ?_;refine sk 28 ?_;refine tz 29 ?_;simp only [Act.put,ZA,ZB,ZC,ZD,ZE,ZF];refine dn ?_;go_wp2;go_ret
          first|exact ⟨ret_bool hno.symm,kb2⟩|exact ⟨rfl,kb2⟩|exact ⟨rfl,kb2.drew⟩|exact ⟨ret_bool hno.symm,kb2.drew⟩
       ·have b2:(wdV (atC xs j).rune != 2)=true:=by simp [e2]
        have hno:rowOkB xs=false:=rowOkB_no xs j hlt (by unfold cellOkB;rw [hso,if_neg e0,if_pos e1,decide_eq_false e2];simp);clear hall hsrc e2;go_wp2;refine wp_region_noPanic ?_;refine wp_region_held_drew (S:=fun W=>W=w2.drew) (by kernel_rfl) rfl (fun hHeld=>?_);refine tz 0 ?_;refine tz 1 ?_;refine rd 2 fun K hK=>?_
        go_simp;refine (specWidth_any _ _).mono ?_;rintro e wk ⟨rfl,hwk⟩;subst hwk;go_wp2_with fail;refine hK.out _ _ (by rfl) (fun hHeld=>?_);clear hK K;refine tz 3 ?_;refine tz 4 ?_;refine sk 5 ?_;refine sk 6 ?_;refine sk 7 ?_;refine sk 8 ?_;refine tz 9 ?_;refine tz 10 ?_;refine sk 11 ?_;refine sk 12 ?_;refine sk 13 ?_;refine sk 14 ?_;refine sk 15 ?_;refine sk 16 ?_;refine sk 17 ?_;refine tz 18 ?_;refine tz 19 ?_;refine sk 20 ?_;refine sk 21 ?_;refine sk 22 ?_;refine sk 23 ?_;refine sk 24 ?_;refine sk 25 ?_;refine sk 26 ?_;refine sk 27 ?_;refine sk 28 ?_;refine tz 29 ?_;simp only [Act.put,ZA,ZB,ZC,ZD,ZE,ZF];refine dn ?_;go_wp2;go_ret
        first|exact ⟨ret_bool hno.symm,kb2⟩|exact ⟨rfl,kb2⟩|exact ⟨rfl,kb2.drew⟩|exact ⟨ret_bool hno.symm,kb2.drew⟩
      ·have b1:((atC xs j).part==1)=false:=by simp [e1]
       by_cases e2:(atC xs j).part=2
       ·have b2:((atC xs j).part==2)=true:=by simp [e2]
        by_cases e3:(atC xs j).rune=0
        ·have b3:((atC xs j).rune != 0)=false:=by simp [e3]
         by_cases e4:j=0
         ·have b4:((j:Int)==0)=true:=by simp [e4]
          have hno:rowOkB xs=false:=rowOkB_no xs j hlt (by unfold cellOkB;rw [hso,if_neg e0,if_neg e1,if_pos e2,decide_eq_false (show ¬ 0<j by omega)];simp);clear hall hsrc e4;go_wp2;go_ret
          first|exact ⟨ret_bool hno.symm,kb2⟩|exact ⟨rfl,kb2⟩|exact ⟨rfl,kb2.drew⟩|exact ⟨ret_bool hno.symm,kb2.drew⟩
         ·obtain ⟨m,rfl⟩:∃ m,j=m+1:=⟨j-1,by omega⟩
          have b4:((m:Int)+1==0)=false:=by simp;omega
          have hmi:(m:Int)<(xs.length:Int):=by omega
          obtain ⟨q0,q1,q2,q3,q4,q5,q6⟩:=hsrc m (by omega)
          by_cases e5:(atC xs m).part=1
          ·have b5:((atC xs m).part != 1)=false:=by simp [e5]
           have hyes:cellOkB xs (m+1)=true:=by unfold cellOkB;rw [hso,if_neg e0,if_neg e1,if_pos e2,decide_eq_true e3];simp [e5]
           have hall':Hid (∀ k,k<m+1+1->cellOkB xs k=true):=fun k hk=>by rcases Nat.lt_succ_iff_lt_or_eq.1 hk with h|rfl;exact hall.out k h;exact hyes
           clear hall hsrc hyes;go_wp2;go_roundw
           case rel=>exact ⟨m+1+1,by go_num,by omega,hall',(by first|exact kb2|exact kb2.drew)⟩
           case measure=>simp [intOf];omega
          ·have b5:((atC xs m).part != 1)=true:=by simp [e5]
           have hno:rowOkB xs=false:=rowOkB_no xs (m+1) hlt (by unfold cellOkB;rw [hso,if_neg e0,if_neg e1,if_pos e2];simp [e5]);clear hall hsrc;go_wp2;go_ret
           first|exact ⟨ret_bool hno.symm,kb2⟩|exact ⟨rfl,kb2⟩|exact ⟨rfl,kb2.drew⟩|exact ⟨ret_bool hno.symm,kb2.drew⟩
        ·have b3:((atC xs j).rune != 0)=true:=by simp [e3]
         have hno:rowOkB xs=false:=rowOkB_no xs j hlt (by unfold cellOkB;rw [hso,if_neg e0,if_neg e1,if_pos e2,decide_eq_false e3];simp);clear hall hsrc;go_wp2;go_ret
         first|exact ⟨ret_bool hno.symm,kb2⟩|exact ⟨rfl,kb2⟩|exact ⟨rfl,kb2.drew⟩|exact ⟨ret_bool hno.symm,kb2.drew⟩
       ·have b2:((atC xs j).part==2)=false:=by simp [e2]
        have hno:rowOkB xs=false:=rowOkB_no xs j hlt (by unfold cellOkB;rw [hso,if_neg e0,if_neg e1,if_neg e2];rfl);clear hall hsrc;go_wp2;go_ret
        first|exact ⟨ret_bool hno.symm,kb2⟩|exact ⟨rfl,kb2⟩|exact ⟨rfl,kb2.drew⟩|exact ⟨ret_bool hno.symm,kb2.drew⟩
   ·have hjn:j=xs.length:=by omega
    have hji:¬ (j:Int)<(xs.length:Int):=by omega
    subst hjn;have hyes:rowOkB xs=true:=rowOkB_yes xs ⟨hn1,hn2⟩ hall.out;clear hall hOK hv;go_wp2;go_ret
    first|exact ⟨ret_bool hyes.symm,kb⟩|exact ⟨rfl,kb⟩
 ·have hno:=rowOkB_len xs hn
  by_cases h0:xs.length<1
  ·have hi:(xs.length:Int)<1:=by omega
   go_enter Tryz.func151,Tryz.ntmps151;go_wp2;go_ret
   first|exact ⟨ret_bool hno.symm,Below.refl _ _⟩|exact ⟨rfl,Below.refl _ _⟩
  ·have hi:¬ (xs.length:Int)<1:=by omega
   have hi2:60<(xs.length:Int):=by omega
   go_enter Tryz.func151,Tryz.ntmps151;go_wp2;go_ret
   first|exact ⟨ret_bool hno.symm,Below.refl _ _⟩|exact ⟨rfl,Below.refl _ _⟩
end Go.Proofs.YtgcnmjjlmcnllaaGreatDoor
namespace Go.Proofs.YtgcnmjjlmcnllaaGreatDoor
set_option maxRecDepth 20000
set_option maxHeartbeats 16000000
open Go.ChangeShapes Go.WideShapes Go.ChangeAt Go.RowKit
def KG (M:Nat) (w0:World) (r:Value) (x:List Ce) (W:World):Prop:=SlC W r x/\M<=W.heap.size/\Below w0.heap.size w0 W
theorem KG.below {M:Nat} {w0:World} {r:Value} {x:List Ce} {W W':World} (k:KG M w0 r x W) (hb:Below W.heap.size W W'):KG M w0 r x W' :=
 ⟨k.1.below hb,Nat.le_trans k.2.1 hb.size,k.2.2.trans (hb.mono k.2.2.size)⟩
theorem KG.drew {M:Nat} {w0:World} {r:Value} {x:List Ce} {W:World} (k:KG M w0 r x W):KG M w0 r x W.drew:=k.below (Below.refl _ _).drew
theorem rowOk_gk (M B b o:Nat) (w0:World) (r:Value) (x:List Ce) (u0 u1 u2:Value) (hl:x.length<=1048576) (hB:B<M) (hb:b<M) {W:World}
  (h:W.cell? ⟨B,0,none⟩=some u0/\W.cell? ⟨B,1,none⟩=some u1/\W.cell? ⟨b,o,none⟩=some u2/\KG M w0 r x W) :
  Calls Tryz.prog 151 #[r] W fun e W'=>e=.returned (.bool (rowOkB x))/\(W'.cell? ⟨B,0,none⟩=some u0/\W'.cell? ⟨B,1,none⟩=some u1/\W'.cell? ⟨b,o,none⟩=some u2/\KG M w0 r x W'):=by
 obtain ⟨h0,h1,h2,k⟩:=h;refine (specRowOk_any r x W k.1 hl).mono ?_;rintro e W' ⟨rfl,hw⟩;have hM:=k.2.1;exact ⟨rfl,(hw.cell (p:=⟨B,0,none⟩) (show B<_ by omega)).trans h0,(hw.cell (p:=⟨B,1,none⟩) (show B<_ by omega)).trans h1,(hw.cell (p:=⟨b,o,none⟩) (show b<_ by omega)).trans h2,k.below hw⟩
theorem specGridOk_any (cols:Int) (v:Value) (rows:List (List Ce)) (w:World) (hv:SlG w v rows) (hl:rows.length<=1048576) (hx:∀ i,i<rows.length->(rowX rows i).length<=1048576) :
  Calls Tryz.prog 71 #[gridV cols v] w fun e w'=>e=.returned (.bool (gridOkB cols rows))/\Below w.heap.size w w':=by
 have hbB:=bal' w (Obj.cells #[.int .i64 cols,v] 26);have hG:=GrN.new w cols v 26;obtain ⟨a,c,vs,rfl,hcp,_,hr,hs⟩:=id hv;have hin:=fun W=>l1In_any cols 1 60 W
 unfold gridV
 by_cases h1:(1:Int)<=cols/\cols<=60
 ·have e1:decide ((1:Int)<=cols/\cols<=60)=true:=decide_eq_true h1
  rw [e1] at hin
  by_cases hn:1<=rows.length/\rows.length<=30
  ·obtain ⟨hn1,hn2⟩:=hn
   have hn1i:¬ (rows.length:Int)<1:=by omega
   have hn2i:¬ 30<(rows.length:Int):=by omega
   rcases hr with h|⟨b,off,rfl,hbb,hrc⟩
   ·rw [h] at hn1;simp at hn1
   go_enter Tryz.func71,Tryz.ntmps71;go_wp2_with (go_at_call 73;refine (hin _).mono ?_;rintro e w1 ⟨rfl,hw⟩;subst hw);go_loopw [3] (fun i wr=>∃ j:Nat,i=.int .i64 j/\j<=rows.length/\Hid (∀ k,k<j->fitB cols (rowX rows k)=true)/\GrN wr w.heap.size cols (.slice (some ⟨b,off,none⟩) rows.length c)/\Below w.heap.size w wr) (fun i _=>rows.length-(intOf i).toNat)
   case atStart=>exact ⟨0,rfl,Nat.zero_le _,(fun k hk=>absurd hk (Nat.not_lt_zero k)),hG,hbB⟩
   case round =>
    clear hG hbB;obtain ⟨j,rfl,hj,hall,hG,kb⟩:=hrel;obtain ⟨hB,c0,c1⟩:=id hG
    by_cases hlt:j<rows.length
    ·have hji:(j:Int)<(rows.length:Int):=by omega
     have hj0:(0:Int)<=(j:Int):=by omega
     have c2:=(kb.cell (p:=⟨b,off+j,none⟩) hbb).trans (hrc j hlt);have hsj:=(hs j hlt).below kb;obtain ⟨aj,cj,ev,hjc,_,_⟩:=id hsj;have kg:KG (w.heap.size+1) w (rowV vs j) (rowX rows j) wr:=⟨hsj,hB,kb⟩;rw [ev] at c2 kg
     clear hsj hG hrc hs hv ev hin
     by_cases e2:((rowX rows j).length:Int)=cols
     ·have b1:(((rowX rows j).length:Int) != cols)=false:=by simp [e2]
      cases hro:rowOkB (rowX rows j)
      ·have hno:gridOkB cols rows=false:=gridOk_no hlt (by show fitB cols (rowX rows j)=false;unfold fitB;rw [hro,Bool.and_false])
       clear hall;go_wp2;refine wp_region_noPanic ?_;refine wp_region_held_drew (S:=(fun W=>W.cell? ⟨w.heap.size,0,none⟩=some (.int .i64 cols)/\W.cell? ⟨w.heap.size,1,none⟩=some (.slice (some ⟨b,off,none⟩) rows.length c)/\W.cell? ⟨b,off+j,none⟩=some (.slice aj (rowX rows j).length cj)/\KG (w.heap.size+1) w (.slice aj (rowX rows j).length cj) (rowX rows j) W)) (by kernel_rfl) ⟨c0,c1,c2,kg.drew⟩ (fun hHeld=>?_);refine tk 0 ?_;refine tk 1 ?_;refine tk 2 ?_;refine tk 3 ?_;refine tk 4 ?_;refine tk 5 ?_;refine tk 6 ?_;refine tk 7 ?_;refine tk 8 ?_;refine tk 9 ?_;refine tk 10 ?_;refine tk 11 ?_;refine tk 12 ?_;refine tk 13 ?_;refine tk 14 ?_;refine rd 15 fun K hK=>?_
       go_simp;refine (rowOk_gk (w.heap.size+1) w.heap.size b (off+j) w _ (rowX rows j) _ _ _ (hx j hlt) (by omega) (by omega) (by assumption)).mono ?_;rintro e wk ⟨rfl,hk⟩;go_wp2_with fail;refine hK.out _ _ (by assumption) (fun hHeld=>?_);clear hK K;refine tk 16 ?_;refine tk 17 ?_;simp only [Act.put,ZA,ZB,ZC,ZD,ZE,ZF];refine dn ?_;have kb2:=hHeld.2.2.2.2.2;clear hHeld;go_wp2;go_ret
       first|exact ⟨ret_bool hno.symm,kb2⟩|exact ⟨rfl,kb2⟩
      ·have hyes:fitB cols (rowX rows j)=true:=by unfold fitB;rw [hro,decide_eq_true e2];rfl
       have hall':Hid (∀ k,k<j+1->fitB cols (rowX rows k)=true):=fun k hk=>by rcases Nat.lt_succ_iff_lt_or_eq.1 hk with h|rfl;exact hall.out k h;exact hyes
       clear hall hyes;go_wp2;refine wp_region_noPanic ?_;refine wp_region_held_drew (S:=(fun W=>W.cell? ⟨w.heap.size,0,none⟩=some (.int .i64 cols)/\W.cell? ⟨w.heap.size,1,none⟩=some (.slice (some ⟨b,off,none⟩) rows.length c)/\W.cell? ⟨b,off+j,none⟩=some (.slice aj (rowX rows j).length cj)/\KG (w.heap.size+1) w (.slice aj (rowX rows j).length cj) (rowX rows j) W)) (by kernel_rfl) ⟨c0,c1,c2,kg.drew⟩ (fun hHeld=>?_);refine tk 0 ?_;refine tk 1 ?_;refine tk 2 ?_;refine tk 3 ?_;refine tk 4 ?_;refine tk 5 ?_;refine tk 6 ?_;refine tk 7 ?_;refine tk 8 ?_;refine tk 9 ?_;refine tk 10 ?_;refine tk 11 ?_;refine tk 12 ?_;refine tk 13 ?_;refine tk 14 ?_;refine rd 15 fun K hK=>?_
       go_simp;refine (rowOk_gk (w.heap.size+1) w.heap.size b (off+j) w _ (rowX rows j) _ _ _ (hx j hlt) (by omega) (by omega) (by assumption)).mono ?_;rintro e wk ⟨rfl,hk⟩;go_wp2_with fail;refine hK.out _ _ (by assumption) (fun hHeld=>?_);clear hK K;refine tk 16 ?_;refine tk 17 ?_;simp only [Act.put,ZA,ZB,ZC,ZD,ZE,ZF];refine dn ?_;have kb2:=hHeld.2.2.2.2.2;have hG2:GrN _ w.heap.size cols (.slice (some ⟨b,off,none⟩) rows.length c):=⟨Nat.lt_of_lt_of_le (Nat.lt_succ_self _) hHeld.2.2.2.2.1,hHeld.1,hHeld.2.1⟩;clear hHeld;go_wp2;go_roundw
       case rel=>exact ⟨j+1,by go_num,by omega,hall',hG2,kb2⟩
       case measure=>simp [intOf];omega
     ·have b1:(((rowX rows j).length:Int) != cols)=true:=by simp [e2]
      have hno:gridOkB cols rows=false:=gridOk_no hlt (by show fitB cols (rowX rows j)=false;unfold fitB;rw [decide_eq_false e2,Bool.false_and]);clear hall;go_wp2;refine wp_region_noPanic ?_;refine wp_region_held_drew (S:=(fun W=>W.cell? ⟨w.heap.size,0,none⟩=some (.int .i64 cols)/\W.cell? ⟨w.heap.size,1,none⟩=some (.slice (some ⟨b,off,none⟩) rows.length c)/\W.cell? ⟨b,off+j,none⟩=some (.slice aj (rowX rows j).length cj)/\KG (w.heap.size+1) w (.slice aj (rowX rows j).length cj) (rowX rows j) W)) (by kernel_rfl) ⟨c0,c1,c2,kg.drew⟩ (fun hHeld=>?_);refine tk 0 ?_;refine tk 1 ?_;refine tk 2 ?_;refine tk 3 ?_;refine tk 4 ?_;refine tk 5 ?_;refine tk 6 ?_;refine tk 7 ?_;refine tk 8 ?_;refine tk 9 ?_;refine sk 10 ?_;refine sk 11 ?_;refine sk 12 ?_;refine sk 13 ?_;refine sk 14 ?_;refine sk 15 ?_;refine sk 16 ?_;refine tk 17 ?_;simp only [Act.put,ZA,ZB,ZC,ZD,ZE,ZF];refine dn ?_;have kb2:=hHeld.2.2.2.2.2;clear hHeld;go_wp2;go_ret
      first|exact ⟨ret_bool hno.symm,kb2⟩|exact ⟨rfl,kb2⟩
    ·have hjn:j=rows.length:=by omega
     have hji:¬ (j:Int)<(rows.length:Int):=by omega
     subst hjn;have hyes:gridOkB cols rows=true:=(gridOk_iff cols rows).2 ⟨h1,⟨hn1,hn2⟩,hall.out⟩;clear hall hv hin hs;go_wp2;go_ret
     first|exact ⟨ret_bool hyes.symm,kb⟩|exact ⟨rfl,kb⟩
  ·have hno:=gridOk_len (cols:=cols) hn
   clear hs hr
   by_cases h0:rows.length<1
   ·have hi:(rows.length:Int)<1:=by omega
    go_enter Tryz.func71,Tryz.ntmps71;go_wp2_with (go_at_call 73;refine (hin _).mono ?_;rintro e w1 ⟨rfl,hw⟩;subst hw);go_ret
    first|exact ⟨ret_bool hno.symm,hbB⟩|exact ⟨rfl,hbB⟩
   ·have hi:¬ (rows.length:Int)<1:=by omega
    have hi2:30<(rows.length:Int):=by omega
    go_enter Tryz.func71,Tryz.ntmps71;go_wp2_with (go_at_call 73;refine (hin _).mono ?_;rintro e w1 ⟨rfl,hw⟩;subst hw);go_ret
    first|exact ⟨ret_bool hno.symm,hbB⟩|exact ⟨rfl,hbB⟩
 ·have e1:decide ((1:Int)<=cols/\cols<=60)=false:=decide_eq_false h1
  rw [e1] at hin
  have hno:=gridOk_cols (rows:=rows) h1;clear e1 h1 hs hr;go_enter Tryz.func71,Tryz.ntmps71;go_wp2_with (go_at_call 73;refine (hin _).mono ?_;rintro e w1 ⟨rfl,hw⟩;subst hw);go_ret
  first|exact ⟨ret_bool hno.symm,hbB⟩|exact ⟨rfl,hbB⟩
theorem up_way (cols:Nat) (rows:List (List Ce)) (t b n m k:Nat) (s:St) (hf:∀ i,i<rows.length->(rowX rows i).length=cols) (htb:t<=b) (hb:b<rows.length) (hm:m=b+1-t) (hk:k=min n m) :
  blankedR (turnR rows t m k) (t+(m-k)) k s=moveR cols rows t b n s:=ext_rowX _ _ (by rw [blankedR_len,turnR_len,moveR_len]) fun i hi=>by
 rw [blankedR_len,turnR_len] at hi
 rw [blankedR_at _ _ _ _ _ (by rw [turnR_len];exact hi),turnR_at _ _ _ _ _ hi,moveR_at _ _ _ _ _ _ _ hi,hf _ (turnI_lt (n:=rows.length) (by omega) (by omega) hi)]
 by_cases c:t<=i/\i<=b
 ·rw [if_pos c]
  by_cases d:t+(m-k)<=i
  ·rw [if_pos (by omega),if_neg (by omega)]
  ·rw [if_neg (by omega),if_pos (by omega)]
   unfold turnI;rw [if_pos (by omega),if_pos (by omega)]
   congr 1;omega
 ·rw [if_neg c,if_neg (by omega)]
  unfold turnI;rw [if_neg (by omega)]
theorem down_way (cols:Nat) (rows:List (List Ce)) (t b n m k:Nat) (s:St) (hf:∀ i,i<rows.length->(rowX rows i).length=cols) (htb:t<=b) (hb:b<rows.length) (hm:m=b+1-t) (hk:k=min n m) :
  blankedR (turnR rows t m (m-k)) t k s=moveR cols rows t b (-(n:Int)) s:=ext_rowX _ _ (by rw [blankedR_len,turnR_len,moveR_len]) fun i hi=>by
 rw [blankedR_len,turnR_len] at hi
 rw [blankedR_at _ _ _ _ _ (by rw [turnR_len];exact hi),turnR_at _ _ _ _ _ hi,moveR_at _ _ _ _ _ _ _ hi,hf _ (turnI_lt (n:=rows.length) (by omega) (by omega) hi)]
 by_cases c:t<=i/\i<=b
 ·rw [if_pos c]
  by_cases d:i<t+k
  ·rw [if_pos (by omega),if_neg (by omega)]
  ·rw [if_neg (by omega),if_pos (by omega)]
   unfold turnI;rw [if_pos (by omega),if_neg (by omega)]
   congr 1;omega
 ·rw [if_neg c,if_neg (by omega)]
  unfold turnI;rw [if_neg (by omega)]
def SubV (vs' vs:List Value):Prop:=∀ i,i<vs'.length->∃ j,j<vs.length/\rowV vs' i=rowV vs j
theorem sub_turned {vs:List Value} {a m k n:Nat} (hvl:vs.length=n) (ham:a+m<=n) (hk:k<=m):SubV (windV vs a (turnV vs a m k)) vs:=by
 have hl:=turnV_len vs a m k hk;intro i hi;rw [windV_len _ _ _ (by omega)] at hi
 refine ⟨turnI a m k i,by rw [hvl];exact turnI_lt hk ham (by omega),?_⟩;rw [windV_at _ _ _ (by omega) _ (by omega),hl]
 by_cases c:a<=i/\i<a+m
 ·rw [if_pos c,turnV_at _ _ _ _ _ hk (by omega),show a+(i-a)=i by omega]
 ·rw [if_neg c]
  unfold turnI;rw [if_neg c]
theorem turn_any_s (base B g n cap a m k c:Nat) (vs:List Value) (rows:List (List Ce)) (w:World) (h:OwnV w base B (.slice (some ⟨g,0,none⟩) n cap) vs rows) (hn:rows.length=n) (ham:a+m<=n) (hk:k<m) (hc:m<=c) (hl:n<=1000) :
  Calls Tryz.prog 268 #[.slice (some ⟨g,a,none⟩) m c,.int .i64 (k:Int)] w fun e w'=>e=.returned (.tuple #[])/\(∃ vs',SubV vs' vs/\OwnV w' base B (.slice (some ⟨g,0,none⟩) n cap) vs' (turnR rows a m k))/\w.grownBy w' (some g):=by
 have hown:=h.2.1;rw [hn] at hown
 have hvl:vs.length=n:=by rw [h.1];exact hn
 have hsub:Hid (SubV (windV vs a (turnV vs a m k)) vs):=sub_turned hvl ham (by omega);have hvs:=h.areSl;have hg:=(World.ownsRow.lt hown g rfl).2
 have hlt:AreSl (turnV vs a m k):=fun i hi=>by
  rw [turnV_len _ _ _ _ (by omega)] at hi
  rw [turnV_at _ _ _ _ _ (by omega) hi]
  exact hvs _ (by rw [hvl];exact turnI_lt (n:=n) (by omega) ham (by omega))
 have hcat:∀ W,W.cell? ⟨w.heap.size,0,none⟩=some (.slice (some ⟨g,a+k,none⟩) (m-k) (c-k))->W.cell? ⟨w.heap.size,1,none⟩=some (.slice (some ⟨g,a,none⟩) k c)->Below w.heap.size w W ->
   Calls Tryz.prog 270 #[.slice (some ⟨w.heap.size,0,none⟩) 2 2] W fun e w'=>∃ v,e=.returned v/\w'.ownsRow W.heap.size 120 1 v m (turnV vs a m k)/\Below W.heap.size W w':=fun W c0 c1 hb=>by
  have hoW:=World.ownsRow.below hown hb;have r1:=win_reads (c:=c-k) hoW (show (a+k)+(m-k)<=n by omega);have r2:=win_reads (c:=c) hoW (show a+k<=n by omega);have hlA:=genV_len (m-k) fun i=>rowV vs (a+k+i)
  have hlB:=genV_len k fun i=>rowV vs (a+i)
  have h3:=concatG_any w.heap.size 2 (some ⟨g,a+k,none⟩) (some ⟨g,a,none⟩) (c-k) c (genV (m-k) fun i=>rowV vs (a+k+i)) (genV k fun i=>rowV vs (a+i)) W (by rw [hlA];exact c0) (by rw [hlB];exact c1) (by rw [hlA];exact r1) (by rw [hlB];exact r2) (by omega) (by omega)
   (areSl_one (genV_sl fun i hi=>hvs _ (by omega))) (areSl_one (genV_sl fun i hi=>hvs _ (by omega)))
  rw [hlA,hlB,show m-k+k=m by omega] at h3
  exact h3
 have hfin:=fun (W W':World) (hb:Below w.heap.size w W) (ho:W'.ownsRow base 120 1 (.slice (some ⟨g,0,none⟩) n cap) n (windV vs a (turnV vs a m k))) (hgr:W.grownBy W' (some g))=>(h.below hb).turned hn ham (Nat.le_of_lt hk) ho hgr
 have hbA:=fun o=>(bal' w o).trans ((bdr (w.alloc o)).mono (bal' w o).size)
 have hm0:0<m:=by omega
 have hk0:(0:Int)<=(k:Int):=by omega
 have hkm:(k:Int)<=(m:Int):=by omega
 have hkc:(k:Int)<=(c:Int):=by omega
 have hmc:(m:Int)<=(c:Int):=by omega
 have hkc2:¬ (c-k=0):=by omega
 have htl:=turnV_len vs a m k (by omega);have hone:=areSl_one hlt;have hmin:Hid ((turnV vs a m k).length=Nat.min m m):=by show _=_;rw [htl];exact (Nat.min_self _).symm
 have hqn:Hid (a+(turnV vs a m k).length<=n):=by show _<=_;rw [htl];exact ham
 have hownW:=fun W hb=>World.ownsRow.below hown (w':=W) hb
 clear h hvs hlt htl hvl hown;generalize turnV vs a m k=us at *;go_enter Tryz.func268,Tryz.ntmps268;go_wp2
 go_region_held3 (fun _=>True) (trivial)
  (first
   | (go_at_call 270;refine (hcat _ (by simp [go_sem];omega) (by simp [go_sem]) (hbA _)).mono ?_;rintro e w2 ⟨v,rfl,ho2,hb2⟩;have hbw2:=(hbA _).trans (hb2.mono (hbA _).size);obtain ⟨gv,cv,rfl⟩:=ownsSome ho2 hm0)
   | (refine step_copy_ov (by rfl) _ _ (by rfl) base g n cap a vs us (hownW _ hbw2) _ _ _ _ _ _ (by rfl) (by rfl) hmin.out hqn.out (fun _=>⟨rfl,_,rfl,World.ownsRow.cells ho2 rfl⟩) hone ?_;intro w3 ho3 hg3))
 have hF:=hfin _ _ hbw2 ho3 hg3;have hG:=grown_tr (gbl hbw2 (some g)) hg3;clear hfin ho3 hg3 ho2 hb2 hbw2 hcat hbA hownW hone;go_wp2;refine be ?_;exact ⟨rfl,⟨_,hsub.out,hF⟩,hG⟩
theorem turn_end_s (base B g n cap a m c:Nat) (vs:List Value) (rows:List (List Ce)) (w:World) (h:OwnV w base B (.slice (some ⟨g,0,none⟩) n cap) vs rows) (hn:rows.length=n) (ham:a+m<=n) (hm0:0<m) (hc:m<=c) (hl:n<=1000) :
  Calls Tryz.prog 268 #[.slice (some ⟨g,a,none⟩) m c,.int .i64 (m:Int)] w fun e w'=>e=.returned (.tuple #[])/\(∃ vs',SubV vs' vs/\OwnV w' base B (.slice (some ⟨g,0,none⟩) n cap) vs' (turnR rows a m m))/\w.grownBy w' (some g):=by
 have hown:=h.2.1;rw [hn] at hown
 have hvl:vs.length=n:=by rw [h.1];exact hn
 have hsub:Hid (SubV (windV vs a (turnV vs a m m)) vs):=sub_turned hvl ham (by omega);have hvs:=h.areSl;have hg:=(World.ownsRow.lt hown g rfl).2
 have hlt:AreSl (turnV vs a m m):=fun i hi=>by
  rw [turnV_len _ _ _ _ (by omega)] at hi
  rw [turnV_at _ _ _ _ _ (by omega) hi]
  exact hvs _ (by rw [hvl];exact turnI_lt (n:=n) (by omega) ham (by omega))
 have hcat:∀ W ad q,W.cell? ⟨w.heap.size,0,none⟩=some (.slice (some ad) 0 q)->W.cell? ⟨w.heap.size,1,none⟩=some (.slice (some ⟨g,a,none⟩) m c)->Below w.heap.size w W ->
   Calls Tryz.prog 270 #[.slice (some ⟨w.heap.size,0,none⟩) 2 2] W fun e w'=>∃ v,e=.returned v/\w'.ownsRow W.heap.size 120 1 v m (turnV vs a m m)/\Below W.heap.size W w':=fun W ad q c0 c1 hb=>by
  have hoW:=World.ownsRow.below hown hb;have r2:=win_reads (c:=c) hoW (show a+m<=n by omega);have hlB:=genV_len m fun i=>rowV vs (a+i)
  have h3:=concatG_any w.heap.size 2 (some ad) (some ⟨g,a,none⟩) q c [] (genV m fun i=>rowV vs (a+i)) W c0 (by rw [hlB];exact c1) (.inr ⟨ad,q,rfl,fun j x hx=>by simp at hx⟩) (by rw [hlB];exact r2) (by rw [hlB];simp;omega) (by rw [hlB];simp;omega)
   (fun u hu=>by simp at hu) (areSl_one (genV_sl fun i hi=>hvs _ (by omega)))
  rw [hlB] at h3
  have e:turnV vs a m m=[]++genV m fun i=>rowV vs (a+i):=by unfold turnV;rw [Nat.sub_self];rfl
  rw [e]
  simpa using h3
 have hfin:=fun (W W':World) (hb:Below w.heap.size w W) (ho:W'.ownsRow base 120 1 (.slice (some ⟨g,0,none⟩) n cap) n (windV vs a (turnV vs a m m))) (hgr:W.grownBy W' (some g))=>(h.below hb).turned hn ham (Nat.le_refl m) ho hgr
 have hbA:=fun o=>(bal' w o).trans ((bdr (w.alloc o)).mono (bal' w o).size)
 have hmc:(m:Int)<=(c:Int):=by omega
 have hm00:(0:Int)<=(m:Int):=by omega
 have htl:=turnV_len vs a m m (by omega);have hone:=areSl_one hlt;have hmin:Hid ((turnV vs a m m).length=Nat.min m m):=by show _=_;rw [htl];exact (Nat.min_self _).symm
 have hqn:Hid (a+(turnV vs a m m).length<=n):=by show _<=_;rw [htl];exact ham
 have hownW:=fun W hb=>World.ownsRow.below hown (w':=W) hb
 clear h hvs hlt htl hvl hown;generalize turnV vs a m m=us at *
 by_cases hce:c=m
 ·subst hce
  go_enter Tryz.func268,Tryz.ntmps268;go_wp2
  go_region_held3 (fun _=>True) (trivial)
   (first
    | (go_at_call 270;refine (hcat _ ⟨g,a,none⟩ 0 (by simp [go_sem]) (by simp [go_sem]) (hbA _)).mono ?_;rintro e w2 ⟨v,rfl,ho2,hb2⟩;have hbw2:=(hbA _).trans (hb2.mono (hbA _).size);obtain ⟨gv,cv,rfl⟩:=ownsSome ho2 hm0)
    | (refine step_copy_ov (by rfl) _ _ (by rfl) base g n cap a vs us (hownW _ hbw2) _ _ _ _ _ _ (by rfl) (by rfl) hmin.out hqn.out (fun _=>⟨rfl,_,rfl,World.ownsRow.cells ho2 rfl⟩) hone ?_;intro w3 ho3 hg3))
  have hF:=hfin _ _ hbw2 ho3 hg3;have hG:=grown_tr (gbl hbw2 (some g)) hg3;clear hfin ho3 hg3 ho2 hb2 hbw2 hcat hbA hownW hone;go_wp2;refine be ?_;exact ⟨rfl,⟨_,hsub.out,hF⟩,hG⟩
 ·have hce2:¬ (c-m=0):=by omega
  go_enter Tryz.func268,Tryz.ntmps268;go_wp2
  go_region_held3 (fun _=>True) (trivial)
   (first
    | (go_at_call 270;refine (hcat _ ⟨g,a+m,none⟩ (c-m) (by simp [go_sem]) (by simp [go_sem]) (hbA _)).mono ?_;rintro e w2 ⟨v,rfl,ho2,hb2⟩;have hbw2:=(hbA _).trans (hb2.mono (hbA _).size);obtain ⟨gv,cv,rfl⟩:=ownsSome ho2 hm0)
    | (refine step_copy_ov (by rfl) _ _ (by rfl) base g n cap a vs us (hownW _ hbw2) _ _ _ _ _ _ (by rfl) (by rfl) hmin.out hqn.out (fun _=>⟨rfl,_,rfl,World.ownsRow.cells ho2 rfl⟩) hone ?_;intro w3 ho3 hg3))
  have hF:=hfin _ _ hbw2 ho3 hg3;have hG:=grown_tr (gbl hbw2 (some g)) hg3;clear hfin ho3 hg3 ho2 hb2 hbw2 hcat hbA hownW hone;go_wp2;refine be ?_;exact ⟨rfl,⟨_,hsub.out,hF⟩,hG⟩
theorem turn_all_s (base B g n cap a m k c:Nat) (vs:List Value) (rows:List (List Ce)) (w:World) (h:OwnV w base B (.slice (some ⟨g,0,none⟩) n cap) vs rows) (hn:rows.length=n) (ham:a+m<=n) (hm0:0<m) (hk:k<=m) (hc:m<=c) (hl:n<=1000) :
  Calls Tryz.prog 268 #[.slice (some ⟨g,a,none⟩) m c,.int .i64 (k:Int)] w fun e w'=>e=.returned (.tuple #[])/\(∃ vs',SubV vs' vs/\OwnV w' base B (.slice (some ⟨g,0,none⟩) n cap) vs' (turnR rows a m k))/\w.grownBy w' (some g):=by
 by_cases e:k=m
 ·subst e;exact turn_end_s base B g n cap a k c vs rows w h hn ham hm0 hc hl
 ·exact turn_any_s base B g n cap a m k c vs rows w h hn ham (by omega) hc hl
theorem blankRows_s (B base g n cap q k c:Nat) (ad:Option Addr) (vs:List Value) (rows:List (List Ce)) (s:St) (w:World) (h:OwnV w base B (.slice (some ⟨g,0,none⟩) n cap) vs rows) (hn:rows.length=n) (hq:q+k<=n) (had:0<k->ad=some ⟨g,q,none⟩) (hB:B<=w.heap.size) (hx:∀ i,i<n->0<(rowX rows i).length/\(rowX rows i).length<=1000) (hl:n<=1000) :
  Calls Tryz.prog 269 #[.slice ad k c,stV s] w fun e w'=>e=.returned (.tuple #[])/\OwnV w' base B (.slice (some ⟨g,0,none⟩) n cap) vs (blankedR rows q k s)/\GrP (RwS vs) w w':=by
 have hS1:=StAt.new w s 28;have hb1:=bal' w (Obj.cells #[.int .i64 s.fore,.int .i64 s.back,.bool s.bold,.bool s.under,.bool s.turned] 28);have h1:=h.below hb1;have hg1:=GrP.of_below (S:=RwS vs) hb1;have hvl:vs.length=n:=by rw [h.1];exact hn
 clear hb1 h;unfold stV;go_enter Tryz.func269,Tryz.ntmps269;go_wp2;go_loopw [5,8] (fun _ i wr=>∃ j:Nat,i=.int .i64 j/\j<=k/\OwnV wr base B (.slice (some ⟨g,0,none⟩) n cap) vs (blankedR rows q j s)/\StAt wr w.heap.size s/\GrP (RwS vs) w wr) (fun _ i _=>k-(intOf i).toNat)
 case atStart=>exact ⟨0,rfl,Nat.zero_le _,by rw [blankedR_zero];exact h1,hS1,hg1⟩
 case round =>
  clear h1 hS1 hg1;obtain ⟨j,rfl,hj,ko,hs,hg⟩:=hrel
  by_cases hlt:j<k
  ·have hji:(j:Int)<(k:Int):=by omega
   have hj0:(0:Int)<=(j:Int):=by omega
   obtain rfl:=had (by omega);have hbl:(blankedR rows q j s).length=n:=by rw [blankedR_len];exact hn
   have hcj:=ko.cell hbl (q+j) (by omega);have hrow:=ko.2.2.1 (q+j) (by omega);rw [blankedR_at _ _ _ _ _ (by omega),if_neg (by omega)] at hrow
   have hst:Hid (blankedR rows q (j+1) s=(blankedR rows q j s).set (q+j) (rowL (rowX rows (q+j)).length s)):=blankedR_step rows q j s (by omega);obtain ⟨hx1,hx2⟩:=hx (q+j) (by omega);have hfu:Hid (fillUp (rowX rows (q+j)) 0 (0+(rowX rows (q+j)).length) s=rowL (rowX rows (q+j)).length s):=fillUp_all _ _;have hB2:=ko.2.2.2.1 (q+j) (by omega);rcases hrow.shape with ⟨_,h⟩|⟨gr,cr,hv,hgr,hgl,hcr⟩
   ·rw [h] at hx1;simp at hx1
   have hRw:RwS vs gr:=⟨q+j,by omega,by rw [hv];rfl⟩;rw [hv] at hcj hrow hB2
   have hbo:=blankOut_any base gr (rowX rows (q+j)).length cr 0 (rowX rows (q+j)).length cr 0 (rowX rows (q+j)) s wr hrow rfl (by omega) hx1 hx2 rfl;rw [hfu.out] at hbo
   have hset:=fun W' (h1:OwnC W' base (Value.slice (some ⟨gr,0,none⟩) (rowX rows (q+j)).length cr) (rowL (rowX rows (q+j)).length s)) (h2:wr.grownBy W' (some gr))=>ko.rowset (w':=W') (j:=q+j) (by omega) (rowL (rowX rows (q+j)).length s) (by rw [hv];exact h1) (by rw [hv];exact h2)
   rw [<- hst.out] at hset
   unfold stV at hbo;obtain ⟨_,⟨d0,d1,d2,d3,d4⟩,_⟩:=id hs;have hgB:=hB2 gr rfl;clear hst hfu hv hrow hB2 hx ko;generalize (rowX rows (q+j)).length=m at *;go_wp2_with fail;refine hbo.mono ?_;rintro e w2 ⟨rfl,ho2,hg2⟩;have kk:=hset w2 ho2 hg2;have ks:=hs.grown hg2 (by simp;omega);have kg:=hg.trans (GrP.of_grown (S:=RwS vs) hg2 (fun g' e=>by cases e;exact hRw));clear hset ho2 hg2 hs hg hbo d0 d1 d2 d3 d4 hcj;go_wp2;go_roundw
   case rel=>exact ⟨j+1,by go_num,by omega,kk,ks,kg⟩
   case measure=>simp [intOf];omega
  ·have hjn:j=k:=by omega
   have hji:¬ (j:Int)<(k:Int):=by omega
   subst hjn;clear hs hx;go_wp2;refine be ?_;exact ⟨rfl,ko,hg⟩
theorem raiseRows_s (cols base B g N cap a m c nn:Nat) (vs:List Value) (rows:List (List Ce)) (s:St) (w:World) (h:OwnV w base B (.slice (some ⟨g,0,none⟩) N cap) vs rows) (hgB:g<B) (hB:B<=w.heap.size) (hn:rows.length=N) (hf:∀ i,i<N->(rowX rows i).length=cols) (hc1:1<=cols) (hc2:cols<=60) (ham:a+m<=N) (hm0:0<m) (hc:m<=c) (hl:N<=30) :
  Calls Tryz.prog 251 #[.slice (some ⟨g,a,none⟩) m c,.int .i64 (nn:Int),stV s] w fun e w'=>e=.returned (.tuple #[])/\(∃ vs',SubV vs' vs/\OwnV w' base B (.slice (some ⟨g,0,none⟩) N cap) vs' (moveR cols rows a (a+m-1) ((nn:Int)) s))/\GrP (GrS (.slice (some ⟨g,0,none⟩) N cap) vs) w w':=by
 have hb1:=bal' w (Obj.cells #[.int .i64 s.fore,.int .i64 s.back,.bool s.bold,.bool s.under,.bool s.turned] 28);have hS1:=StAt.new w s 28;have h1:=h.below hb1;have hgl:=(World.ownsRow.lt h.2.1 g rfl).1;have hg1:=GrP.of_below (S:=GrS (.slice (some ⟨g,0,none⟩) N cap) vs) hb1;unfold stV;obtain ⟨R,hR⟩:∃ R,Hid (moveR cols rows a (a+m-1) ((nn:Int)) s=R):=⟨_,rfl⟩;rw [hR.out]
 have hz1:w.heap.size<(w.alloc (Obj.cells #[.int .i64 s.fore,.int .i64 s.back,.bool s.bold,.bool s.under,.bool s.turned] 28)).heap.size:=by simp
 rcases Nat.lt_or_ge m nn with hnm|hnm
 ·have hnm1:(m:Int)<(nn:Int):=by omega
  have hnm2:¬ (nn:Int)<=(m:Int):=by omega
  have hnm3:(m:Int)<=(nn:Int):=by omega
  have hw:=up_way cols rows a (a+m-1) nn m m s (fun i hi=>hf i (by omega)) (by omega) (by omega) (by omega) (by omega);rw [hR.out,Nat.sub_self,Nat.add_zero] at hw
  replace hw:=(show Hid _ from hw);have htu:=turn_all_s base B g N cap a m m c vs rows _ h1 hn ham hm0 (by omega) hc (by omega);have hm0i:(0:Int)<=(m:Int):=by omega
  have hmc:(m:Int)<=(c:Int):=by omega
  clear hR h
  have hbk:=fun ad c' W v6 (hv6:OwnV W base B (.slice (some ⟨g,0,none⟩) N cap) v6 (turnR rows a m m)) (hW:B<=W.heap.size) (had:0<m->ad=some ⟨g,a,none⟩)=>blankRows_s B base g N cap (a) m c' ad v6 (turnR rows a m m) s W hv6 (by rw [turnR_len];exact hn) (by omega) had hW (fun i hi=>by
   rw [turnR_at _ _ _ _ _ (by omega),hf _ (turnI_lt (a:=a) (m:=m) (k:=m) (n:=N) (by omega) (by omega) (by omega))]
   omega) (by omega)
  unfold stV at hbk;go_enter Tryz.func251,Tryz.ntmps251;go_wp2_with fail;refine htu.mono ?_;rintro e6 w6 ⟨rfl,⟨vs6,hsub,hu6⟩,hg6⟩;replace hsub:=(show Hid _ from hsub);have hnS:∀ x,w.heap.size<=x->¬ RwS vs6 x:=fun x hx c=>by obtain ⟨i,hi,e⟩:=c;have:=hu6.2.2.2.1 i (by rw [<- hu6.1];exact hi) x e;omega
  have hgb:=GrB.of_grown (lo:=g) (hi:=g+1) hg6 (fun g' e=>by cases e;omega);have hS6:=hS1.gr hgb (.inr (by omega));have hgB6:=hg1.trans (GrP.of_grown (S:=GrS (.slice (some ⟨g,0,none⟩) N cap) vs) hg6 (fun g' e=>by cases e;exact .inl rfl));have hB6:B<=w6.heap.size:=Nat.le_trans hB hgB6.size;clear hgb hg6 htu hb1 hS1 h1 hg1 hz1;have hkd:=(hS6.below (bdr w6)).2.1;have hk0:(0:Int)<=(m:Int):=by omega
  have hkm:(m:Int)<=(m:Int):=by omega
  have hkN:(m:Int)<=(c:Int):=by omega
  clear hf hnm hn hl ham hc hc1 hc2 hnm3;have hw0:IntKind.i64.wrap 0=0:=by simp [IntKind.wrap_i64]
  go_wp2
  go_region_held3 (fun W=>W.cell? ⟨w.heap.size,0,none⟩=some (.int .i64 s.fore)/\W.cell? ⟨w.heap.size,1,none⟩=some (.int .i64 s.back)/\W.cell? ⟨w.heap.size,2,none⟩=some (.bool s.bold)/\W.cell? ⟨w.heap.size,3,none⟩=some (.bool s.under)/\W.cell? ⟨w.heap.size,4,none⟩=some (.bool s.turned)) (with_reducible assumption)
   (first
    | (go_at_call 269;refine (hbk _ _ w6.drew vs6 (hu6.below (bdr _)) hB6 (fun _=>rfl)).mono ?_;rintro e7 w7 ⟨rfl,hu7,hg7⟩;have hkc:=((hS6.below (bdr w6)).grp hg7 (hnS _ (Nat.le_refl _))).2.1))
  have hgb7:=(hgB6.trans (GrP.of_below (S:=GrS (.slice (some ⟨g,0,none⟩) N cap) vs) (bdr w6))).trans (hg7.mono (fun k _ c=>.inr (SubV.rw hsub.out c)));go_wp2;refine be ?_;exact ⟨rfl,⟨vs6,hsub.out,by rw [<- hw.out];exact hu7⟩,hgb7⟩
 ·have hnm1:(nn:Int)<=(m:Int):=by omega
  have hnm2:¬ (m:Int)<(nn:Int):=by omega
  obtain ⟨q,hq⟩:∃ q:Nat,q=m-nn:=⟨_,rfl⟩;have hqi:(m:Int)-(nn:Int)=(q:Int):=by omega
  have hqw:IntKind.i64.wrap ((m:Int)-(nn:Int))=(q:Int):=by rw [hqi];simp [IntKind.wrap_i64];omega
  have hqq:=hqw;rw [hqi] at hqq
  have hw:=up_way cols rows a (a+m-1) nn m nn s (fun i hi=>hf i (by omega)) (by omega) (by omega) (by omega) (by omega);rw [hR.out,<- hq] at hw
  replace hw:=(show Hid _ from hw);have htu:=turn_all_s base B g N cap a m nn c vs rows _ h1 hn ham hm0 (by omega) hc (by omega);have hm0i:(0:Int)<=(m:Int):=by omega
  have hmc:(m:Int)<=(c:Int):=by omega
  clear hR h
  have hbk:=fun ad c' W v6 (hv6:OwnV W base B (.slice (some ⟨g,0,none⟩) N cap) v6 (turnR rows a m nn)) (hW:B<=W.heap.size) (had:0<nn->ad=some ⟨g,a+q,none⟩)=>blankRows_s B base g N cap (a+q) nn c' ad v6 (turnR rows a m nn) s W hv6 (by rw [turnR_len];exact hn) (by omega) had hW (fun i hi=>by
   rw [turnR_at _ _ _ _ _ (by omega),hf _ (turnI_lt (a:=a) (m:=m) (k:=nn) (n:=N) (by omega) (by omega) (by omega))]
   omega) (by omega)
  unfold stV at hbk;go_enter Tryz.func251,Tryz.ntmps251;go_wp2_with fail;refine htu.mono ?_;rintro e6 w6 ⟨rfl,⟨vs6,hsub,hu6⟩,hg6⟩;replace hsub:=(show Hid _ from hsub);have hnS:∀ x,w.heap.size<=x->¬ RwS vs6 x:=fun x hx c=>by obtain ⟨i,hi,e⟩:=c;have:=hu6.2.2.2.1 i (by rw [<- hu6.1];exact hi) x e;omega
  have hgb:=GrB.of_grown (lo:=g) (hi:=g+1) hg6 (fun g' e=>by cases e;omega);have hS6:=hS1.gr hgb (.inr (by omega));have hgB6:=hg1.trans (GrP.of_grown (S:=GrS (.slice (some ⟨g,0,none⟩) N cap) vs) hg6 (fun g' e=>by cases e;exact .inl rfl));have hB6:B<=w6.heap.size:=Nat.le_trans hB hgB6.size;clear hgb hg6 htu hb1 hS1 h1 hg1 hz1;have hkd:=(hS6.below (bdr w6)).2.1;have hk0:(0:Int)<=(nn:Int):=by omega
  have hkm:(nn:Int)<=(m:Int):=by omega
  have hkN:(nn:Int)<=(c:Int):=by omega
  clear hf hnm hn hl ham hc hc1 hc2 hnm2;have hqm:m-q=nn:=by omega
  have hq0:(0:Int)<=(q:Int):=by omega
  have hqmi:(q:Int)<=(m:Int):=by omega
  have hqN:(q:Int)<=(c:Int):=by omega
  by_cases hz:c=q
  ·have hzz:¬ 0<nn:=by omega
   clear hq;subst hz;go_wp2
   go_region_held3 (fun W=>W.cell? ⟨w.heap.size,0,none⟩=some (.int .i64 s.fore)/\W.cell? ⟨w.heap.size,1,none⟩=some (.int .i64 s.back)/\W.cell? ⟨w.heap.size,2,none⟩=some (.bool s.bold)/\W.cell? ⟨w.heap.size,3,none⟩=some (.bool s.under)/\W.cell? ⟨w.heap.size,4,none⟩=some (.bool s.turned)) (with_reducible assumption)
    (first
     | (go_at_call 269;refine (hbk _ _ w6.drew vs6 (hu6.below (bdr _)) hB6 (fun h=>absurd h hzz)).mono ?_;rintro e7 w7 ⟨rfl,hu7,hg7⟩;have hkc:=((hS6.below (bdr w6)).grp hg7 (hnS _ (Nat.le_refl _))).2.1))
   have hgb7:=(hgB6.trans (GrP.of_below (S:=GrS (.slice (some ⟨g,0,none⟩) N cap) vs) (bdr w6))).trans (hg7.mono (fun k _ c=>.inr (SubV.rw hsub.out c)));go_wp2;refine be ?_;exact ⟨rfl,⟨vs6,hsub.out,by rw [<- hw.out];exact hu7⟩,hgb7⟩
  ·clear hq
   go_wp2
   go_region_held3 (fun W=>W.cell? ⟨w.heap.size,0,none⟩=some (.int .i64 s.fore)/\W.cell? ⟨w.heap.size,1,none⟩=some (.int .i64 s.back)/\W.cell? ⟨w.heap.size,2,none⟩=some (.bool s.bold)/\W.cell? ⟨w.heap.size,3,none⟩=some (.bool s.under)/\W.cell? ⟨w.heap.size,4,none⟩=some (.bool s.turned)) (with_reducible assumption)
    (first
     | (go_at_call 269;refine (hbk _ _ w6.drew vs6 (hu6.below (bdr _)) hB6 (fun _=>rfl)).mono ?_;rintro e7 w7 ⟨rfl,hu7,hg7⟩;have hkc:=((hS6.below (bdr w6)).grp hg7 (hnS _ (Nat.le_refl _))).2.1))
   have hgb7:=(hgB6.trans (GrP.of_below (S:=GrS (.slice (some ⟨g,0,none⟩) N cap) vs) (bdr w6))).trans (hg7.mono (fun k _ c=>.inr (SubV.rw hsub.out c)));go_wp2;refine be ?_;exact ⟨rfl,⟨vs6,hsub.out,by rw [<- hw.out];exact hu7⟩,hgb7⟩
theorem lowerRows_s (cols base B g N cap a m c nn:Nat) (vs:List Value) (rows:List (List Ce)) (s:St) (w:World) (h:OwnV w base B (.slice (some ⟨g,0,none⟩) N cap) vs rows) (hgB:g<B) (hB:B<=w.heap.size) (hn:rows.length=N) (hf:∀ i,i<N->(rowX rows i).length=cols) (hc1:1<=cols) (hc2:cols<=60) (ham:a+m<=N) (hm0:0<m) (hc:m<=c) (hl:N<=30) :
  Calls Tryz.prog 252 #[.slice (some ⟨g,a,none⟩) m c,.int .i64 (nn:Int),stV s] w fun e w'=>e=.returned (.tuple #[])/\(∃ vs',SubV vs' vs/\OwnV w' base B (.slice (some ⟨g,0,none⟩) N cap) vs' (moveR cols rows a (a+m-1) (-(nn:Int)) s))/\GrP (GrS (.slice (some ⟨g,0,none⟩) N cap) vs) w w':=by
 have hb1:=bal' w (Obj.cells #[.int .i64 s.fore,.int .i64 s.back,.bool s.bold,.bool s.under,.bool s.turned] 28);have hS1:=StAt.new w s 28;have h1:=h.below hb1;have hgl:=(World.ownsRow.lt h.2.1 g rfl).1;have hg1:=GrP.of_below (S:=GrS (.slice (some ⟨g,0,none⟩) N cap) vs) hb1;unfold stV;obtain ⟨R,hR⟩:∃ R,Hid (moveR cols rows a (a+m-1) (-(nn:Int)) s=R):=⟨_,rfl⟩;rw [hR.out]
 have hz1:w.heap.size<(w.alloc (Obj.cells #[.int .i64 s.fore,.int .i64 s.back,.bool s.bold,.bool s.under,.bool s.turned] 28)).heap.size:=by simp
 rcases Nat.lt_or_ge m nn with hnm|hnm
 ·have hnm1:(m:Int)<(nn:Int):=by omega
  have hnm2:¬ (nn:Int)<=(m:Int):=by omega
  have hnm3:(m:Int)<=(nn:Int):=by omega
  have hw:=down_way cols rows a (a+m-1) nn m m s (fun i hi=>hf i (by omega)) (by omega) (by omega) (by omega) (by omega);rw [hR.out,Nat.sub_self] at hw
  replace hw:=(show Hid _ from hw);have htu:=turn_all_s base B g N cap a m 0 c vs rows _ h1 hn ham hm0 (by omega) hc (by omega);have hm0i:(0:Int)<=(m:Int):=by omega
  have hmc:(m:Int)<=(c:Int):=by omega
  clear hR h
  have hbk:=fun ad c' W v6 (hv6:OwnV W base B (.slice (some ⟨g,0,none⟩) N cap) v6 (turnR rows a m 0)) (hW:B<=W.heap.size) (had:0<m->ad=some ⟨g,a,none⟩)=>blankRows_s B base g N cap (a) m c' ad v6 (turnR rows a m 0) s W hv6 (by rw [turnR_len];exact hn) (by omega) had hW (fun i hi=>by
   rw [turnR_at _ _ _ _ _ (by omega),hf _ (turnI_lt (a:=a) (m:=m) (k:=0) (n:=N) (by omega) (by omega) (by omega))]
   omega) (by omega)
  unfold stV at hbk;go_enter Tryz.func252,Tryz.ntmps252;go_wp2_with fail;refine htu.mono ?_;rintro e6 w6 ⟨rfl,⟨vs6,hsub,hu6⟩,hg6⟩;replace hsub:=(show Hid _ from hsub);have hnS:∀ x,w.heap.size<=x->¬ RwS vs6 x:=fun x hx c=>by obtain ⟨i,hi,e⟩:=c;have:=hu6.2.2.2.1 i (by rw [<- hu6.1];exact hi) x e;omega
  have hgb:=GrB.of_grown (lo:=g) (hi:=g+1) hg6 (fun g' e=>by cases e;omega);have hS6:=hS1.gr hgb (.inr (by omega));have hgB6:=hg1.trans (GrP.of_grown (S:=GrS (.slice (some ⟨g,0,none⟩) N cap) vs) hg6 (fun g' e=>by cases e;exact .inl rfl));have hB6:B<=w6.heap.size:=Nat.le_trans hB hgB6.size;clear hgb hg6 htu hb1 hS1 h1 hg1 hz1;have hkd:=(hS6.below (bdr w6)).2.1;have hk0:(0:Int)<=(m:Int):=by omega
  have hkm:(m:Int)<=(m:Int):=by omega
  have hkN:(m:Int)<=(c:Int):=by omega
  clear hf hnm hn hl ham hc hc1 hc2 hnm3;have hw0:IntKind.i64.wrap 0=0:=by simp [IntKind.wrap_i64]
  go_wp2
  go_region_held3 (fun W=>W.cell? ⟨w.heap.size,0,none⟩=some (.int .i64 s.fore)/\W.cell? ⟨w.heap.size,1,none⟩=some (.int .i64 s.back)/\W.cell? ⟨w.heap.size,2,none⟩=some (.bool s.bold)/\W.cell? ⟨w.heap.size,3,none⟩=some (.bool s.under)/\W.cell? ⟨w.heap.size,4,none⟩=some (.bool s.turned)) (with_reducible assumption)
   (first
    | (go_at_call 269;refine (hbk _ _ w6.drew vs6 (hu6.below (bdr _)) hB6 (fun _=>rfl)).mono ?_;rintro e7 w7 ⟨rfl,hu7,hg7⟩;have hkc:=((hS6.below (bdr w6)).grp hg7 (hnS _ (Nat.le_refl _))).2.1))
  have hgb7:=(hgB6.trans (GrP.of_below (S:=GrS (.slice (some ⟨g,0,none⟩) N cap) vs) (bdr w6))).trans (hg7.mono (fun k _ c=>.inr (SubV.rw hsub.out c)));go_wp2;refine be ?_;exact ⟨rfl,⟨vs6,hsub.out,by rw [<- hw.out];exact hu7⟩,hgb7⟩
 ·have hnm1:(nn:Int)<=(m:Int):=by omega
  have hnm2:¬ (m:Int)<(nn:Int):=by omega
  obtain ⟨q,hq⟩:∃ q:Nat,q=m-nn:=⟨_,rfl⟩;have hqi:(m:Int)-(nn:Int)=(q:Int):=by omega
  have hqw:IntKind.i64.wrap ((m:Int)-(nn:Int))=(q:Int):=by rw [hqi];simp [IntKind.wrap_i64];omega
  have hqq:=hqw;rw [hqi] at hqq
  have hw:=down_way cols rows a (a+m-1) nn m nn s (fun i hi=>hf i (by omega)) (by omega) (by omega) (by omega) (by omega);rw [hR.out,<- hq] at hw
  replace hw:=(show Hid _ from hw);have htu:=turn_all_s base B g N cap a m q c vs rows _ h1 hn ham hm0 (by omega) hc (by omega);have hm0i:(0:Int)<=(m:Int):=by omega
  have hmc:(m:Int)<=(c:Int):=by omega
  clear hR h
  have hbk:=fun ad c' W v6 (hv6:OwnV W base B (.slice (some ⟨g,0,none⟩) N cap) v6 (turnR rows a m q)) (hW:B<=W.heap.size) (had:0<nn->ad=some ⟨g,a,none⟩)=>blankRows_s B base g N cap (a) nn c' ad v6 (turnR rows a m q) s W hv6 (by rw [turnR_len];exact hn) (by omega) had hW (fun i hi=>by
   rw [turnR_at _ _ _ _ _ (by omega),hf _ (turnI_lt (a:=a) (m:=m) (k:=q) (n:=N) (by omega) (by omega) (by omega))]
   omega) (by omega)
  unfold stV at hbk;clear hq;go_enter Tryz.func252,Tryz.ntmps252;go_wp2_with fail;refine htu.mono ?_;rintro e6 w6 ⟨rfl,⟨vs6,hsub,hu6⟩,hg6⟩;replace hsub:=(show Hid _ from hsub);have hnS:∀ x,w.heap.size<=x->¬ RwS vs6 x:=fun x hx c=>by obtain ⟨i,hi,e⟩:=c;have:=hu6.2.2.2.1 i (by rw [<- hu6.1];exact hi) x e;omega
  have hgb:=GrB.of_grown (lo:=g) (hi:=g+1) hg6 (fun g' e=>by cases e;omega);have hS6:=hS1.gr hgb (.inr (by omega));have hgB6:=hg1.trans (GrP.of_grown (S:=GrS (.slice (some ⟨g,0,none⟩) N cap) vs) hg6 (fun g' e=>by cases e;exact .inl rfl));have hB6:B<=w6.heap.size:=Nat.le_trans hB hgB6.size;clear hgb hg6 htu hb1 hS1 h1 hg1 hz1;have hkd:=(hS6.below (bdr w6)).2.1;have hk0:(0:Int)<=(nn:Int):=by omega
  have hkm:(nn:Int)<=(m:Int):=by omega
  have hkN:(nn:Int)<=(c:Int):=by omega
  clear hf hnm hn hl ham hc hc1 hc2 hnm2;go_wp2
  go_region_held3 (fun W=>W.cell? ⟨w.heap.size,0,none⟩=some (.int .i64 s.fore)/\W.cell? ⟨w.heap.size,1,none⟩=some (.int .i64 s.back)/\W.cell? ⟨w.heap.size,2,none⟩=some (.bool s.bold)/\W.cell? ⟨w.heap.size,3,none⟩=some (.bool s.under)/\W.cell? ⟨w.heap.size,4,none⟩=some (.bool s.turned)) (with_reducible assumption)
   (first
    | (go_at_call 269;refine (hbk _ _ w6.drew vs6 (hu6.below (bdr _)) hB6 (fun _=>rfl)).mono ?_;rintro e7 w7 ⟨rfl,hu7,hg7⟩;have hkc:=((hS6.below (bdr w6)).grp hg7 (hnS _ (Nat.le_refl _))).2.1))
  have hgb7:=(hgB6.trans (GrP.of_below (S:=GrS (.slice (some ⟨g,0,none⟩) N cap) vs) (bdr w6))).trans (hg7.mono (fun k _ c=>.inr (SubV.rw hsub.out c)));go_wp2;refine be ?_;exact ⟨rfl,⟨vs6,hsub.out,by rw [<- hw.out];exact hu7⟩,hgb7⟩
structure Scr (W:World) (T:TypeId) (base B:Nat) (X:List Value) (t:Te) (v:Tv) (vg vo:List Value):Prop where
 b:BlkC W B T (X++(teCs t v).toList)
 o:OwnS W base t v vg vo
 n1:T≠120
 n2:T≠146
 n3:T≠2
 hb:base<=B
def Ft (B:Nat) (v:Tv) (vg vo:List Value) (k:Nat):Prop:=k=B\/GrS v.g vg k\/GrS v.o vo k
structure Res (W W':World) (T:TypeId) (base B:Nat) (X:List Value) (v:Tv) (vg vo:List Value) (t':Te) (v':Tv) (vg' vo':List Value):Prop where
 s:Scr W' T base B X t' v' vg' vo'
 g:GrP (Ft B v vg vo) W W'
 c:∀ k,k<W.heap.size->Ft B v' vg' vo' k->Ft B v vg vo k
 p:v'.pp=v.pp
 q:v'.pt=v.pt
theorem Scr.res {W:World} {T:TypeId} {base B:Nat} {X:List Value} {t:Te} {v:Tv} {vg vo:List Value} (h:Scr W T base B X t v vg vo):Res W W T base B X v vg vo t v vg vo :=
 ⟨h,GrP.refl _ _,fun _ _ c=>c,rfl,rfl⟩
theorem Res.trans {W W1 W2:World} {T:TypeId} {base B:Nat} {X:List Value} {v v1 v2:Tv} {vg vo vg1 vo1 vg2 vo2:List Value} {t1 t2:Te} (h:Res W W1 T base B X v vg vo t1 v1 vg1 vo1) (k:Res W1 W2 T base B X v1 vg1 vo1 t2 v2 vg2 vo2):Res W W2 T base B X v vg vo t2 v2 vg2 vo2:=by
 refine ⟨k.s,⟨k.g.1.trans h.g.1,k.g.2.1.trans h.g.2.1,k.g.2.2.1.trans h.g.2.2.1,Nat.le_trans h.g.size k.g.size,fun i hi hn=>?_⟩,fun i hi c=>h.c i hi (k.c i (Nat.lt_of_lt_of_le hi h.g.size) c),k.p.trans h.p,k.q.trans h.q⟩;exact (k.g.2.2.2.2 i (Nat.lt_of_lt_of_le hi h.g.size) (fun c=>hn (h.c i hi c))).trans (h.g.2.2.2.2 i hi hn)
theorem Scr.below {W W':World} {T:TypeId} {base B:Nat} {X:List Value} {t:Te} {v:Tv} {vg vo:List Value} (h:Scr W T base B X t v vg vo) (hb:Below W.heap.size W W'):Scr W' T base B X t v vg vo :=
 ⟨h.b.below hb,h.o.below hb,h.n1,h.n2,h.n3,h.hb⟩
theorem Scr.lt {W:World} {T:TypeId} {base B:Nat} {X:List Value} {t:Te} {v:Tv} {vg vo:List Value} (h:Scr W T base B X t v vg vo):B<W.heap.size:=h.b.lt
theorem Res.of_below {W W':World} {T:TypeId} {base B:Nat} {X:List Value} {t:Te} {v:Tv} {vg vo:List Value} (h:Scr W T base B X t v vg vo) (hb:Below W.heap.size W W'):Res W W' T base B X v vg vo t v vg vo :=
 ⟨h.below hb,GrP.of_below hb,fun _ _ c=>c,rfl,rfl⟩
theorem Res.below {W W1 W2:World} {T:TypeId} {base B:Nat} {X:List Value} {v v1:Tv} {vg vo vg1 vo1:List Value} {t1:Te} (h:Res W W1 T base B X v vg vo t1 v1 vg1 vo1) (hb:Below W1.heap.size W1 W2):Res W W2 T base B X v vg vo t1 v1 vg1 vo1:=h.trans (Res.of_below h.s hb)
theorem Scr.put {W W':World} {T:TypeId} {base B:Nat} {X:List Value} {t:Te} {v:Tv} {vg vo:List Value} (h:Scr W T base B X t v vg vo) (hg:W.grownBy W' (some B)) (t':Te) (hb:BlkC W' B T (X++(teCs t' v).toList)) (e1:t'.g=t.g) (e2:t'.o=t.o) (e3:t'.ti=t.ti) (e4:t'.pa.params=t.pa.params) (e5:t'.pa.text=t.pa.text):Res W W' T base B X v vg vo t' v vg vo:=by
 have ho:=h.o.grown hg h.b h.n1 h.n2 h.n3;refine ⟨⟨hb,?_,h.n1,h.n2,h.n3,h.hb⟩,GrP.of_grown hg (fun g e=>by cases e;exact .inl rfl),fun _ _ c=>c,rfl,rfl⟩;unfold OwnS at ho ⊢
 rw [e1,e2,e3,e4,e5]
 exact ho
theorem Scr.cell {W:World} {T:TypeId} {base B:Nat} {X:List Value} {t:Te} {v:Tv} {vg vo:List Value} (h:Scr W T base B X t v vg vo) (k:Nat):W.cell? ⟨B,k,none⟩=(X++(teCs t v).toList).toArray[k]?:=cAl h.b k
theorem Scr.frozen {W:World} {T:TypeId} {base B:Nat} {X:List Value} {t:Te} {v:Tv} {vg vo:List Value} (h:Scr W T base B X t v vg vo) (k:Nat):W.frozen? ⟨B,k,none⟩=false:=frozen_of_row _ _ _ _ _ h.b
theorem Scr.rows {W W':World} {T:TypeId} {base B:Nat} {X:List Value} {t:Te} {v:Tv} {vg vo:List Value} (h:Scr W T base B X t v vg vo) (_hbase:base<=W.heap.size) (vg':List Value) (G:List (List Ce)) (hv:OwnV W' base W'.heap.size v.g vg' G) (hg:GrP (GrS v.g vg) W W') (hc:∀ k,k<W.heap.size->GrS v.g vg' k->GrS v.g vg k):Res W W' T base B X v vg vo { t with g:=G } v vg' vo:=by
 have hnb:¬ GrS v.g vg B:=grS_not h.o.1 h.b h.n1 h.n2;refine ⟨⟨?_,⟨hv,(h.o.2.1.grp hg (fun k hk c=>h.o.2.2.1 k c hk)).up hg.size,fun k hk hk'=>?_,h.o.2.2.2.grp hg (fun p hp g e c=>li_not_grS h.o.1 (h.o.2.2.2.1 p hp) g e c)⟩,h.n1,h.n2,h.n3,h.hb⟩,hg.mono (fun k _ c=>.inr (.inl c)),fun k hk c=>?_,rfl,rfl⟩
 ·exact h.b.grp hg hnb
 ·have hb:=(GrS.bd h.o.2.1 hk').2
  exact h.o.2.2.1 k (hc k hb hk) hk'
 ·rcases c with c|c|c
  ·exact .inl c
  ·exact .inr (.inl (hc k hk c))
  ·exact .inr (.inr c)
theorem OwnS.swap {w:World} {base:Nat} {t:Te} {v:Tv} {vg vo:List Value} (h:OwnS w base t v vg vo):OwnS w base { t with g:=t.o,o:=t.g } ⟨v.o,v.g,v.ti,v.pp,v.pt⟩ vo vg :=
 ⟨h.2.1,h.1,fun k a b=>h.2.2.1 k b a,h.2.2.2⟩
theorem l4Cleared_any (v:Value) (xs:List Ce) (p q:Nat) (s:St) (w:World) (hv:SlC w v xs) (hpq:p<=q) (hq:q<=xs.length) (hl:xs.length<=1000) :
  Calls Tryz.prog 246 #[v,.int .i64 p,.int .i64 q,stV s] w fun e w'=>∃ u,e=.returned u/\OwnC w' w.heap.size u (clearL xs p q s)/\Below w.heap.size w w':=by
 have hbl:=fun W=>l4Blank_any s W
 have hme:=fun u W h=>l4Mended_any u (fillUp xs p q s) W h (by rw [fillUp_len];omega)
 have hcl:Hid (clearL xs p q s=mendV (fillUp xs p q s)):=rfl;obtain ⟨a,c,rfl,hr⟩:=id hv;have h2:=StAt.new w s 28;have hbA:=bal' w (Obj.cells #[.int .i64 s.fore,.int .i64 s.back,.bool s.bold,.bool s.under,.bool s.turned] 28);have k00:=ownC_nil (w.alloc (Obj.cells #[.int .i64 s.fore,.int .i64 s.back,.bool s.bold,.bool s.under,.bool s.turned] 28)) (w.heap.size+1) (by simp);have e1:(w.alloc (Obj.cells #[.int .i64 s.fore,.int .i64 s.back,.bool s.bold,.bool s.under,.bool s.turned] 28)).heap.size=w.heap.size+1:=by simp
 rw [e1] at k00
 have hv0:=(hv.below hbA).below (bal' _ (Obj.cells #[] 146));have hs0:=h2.below (bal' _ (Obj.cells #[] 146));have hb0:=hbA.trans ((bal' _ (Obj.cells #[] 146)).mono hbA.size);unfold stV ceV blankC at *;simp only at hbl;go_enter Tryz.func246,Tryz.ntmps246;go_wp2_with (at_builtin;refine append_os rfl _ _ rfl (w.heap.size+1) _ [] rfl (by exact k00) (by simp) _ xs hv0 rfl (by simp;omega) ?_;intro u w1 ho1 hg1);have k0:OC (w.heap.size+1) (.slice (some ⟨w.heap.size+1,0,none⟩) 0 0) [] w ((w.alloc (Obj.cells #[.int .i64 s.fore,.int .i64 s.back,.bool s.bold,.bool s.under,.bool s.turned] 28)).alloc (Obj.cells #[] 146)):=⟨k00,hb0,by simp,by omega⟩;have k1:OC (w.heap.size+1) u xs w w1:=k0.own (by simpa using ho1) hg1;have hs1:StAt w1 w.heap.size s:=hs0.own k00 (Nat.lt_succ_self _) hg1;clear k00 hv0 ho1 hg1 k0 hs0 hb0 hbA h2 e1 hr hv;rcases k1.1.shape with ⟨rfl,rfl⟩|⟨g,cap,rfl,hbg,hlg,hcap⟩
 ·have hp0:p=0:=by simp at hq;omega
  have hq0:q=0:=by simpa using hq
  subst hp0 hq0;go_wp2;refine wp_loop_rounds 1 ?_;rw [rounds_succ]
  go_wp2_with fail;refine (hme _ _ (by rw [fillUp_zero];exact SlC.of_own k1.1)).mono ?_;rintro e w2 ⟨u2,rfl,ho2,hb2⟩;go_wp2;go_ret;exact ⟨u2,rfl,by rw [hcl.out];exact ho2.low k1.2.1.size,k1.2.1.trans (hb2.mono k1.2.1.size)⟩
 ·go_wp2
  go_loopw [10] (fun i wr=>∃ j:Nat,i=.int .i64 j/\p<=j/\j<=q/\OC (w.heap.size+1) (.slice (some ⟨g,0,none⟩) xs.length cap) (fillUp xs p j s) w wr/\StAt wr w.heap.size s) (fun i _=>q-(intOf i).toNat)
  case atStart=>exact ⟨p,rfl,Nat.le_refl _,hpq,by rw [fillUp_zero];exact k1,hs1⟩
  case round =>
   clear k1 hs1;obtain ⟨j,rfl,hpj,hj,k,hs⟩:=hrel
   by_cases hlt:j<q
   ·have hji:(j:Int)<(q:Int):=by omega
    have hj0:(0:Int)<=(j:Int):=by omega
    have hjx:j<xs.length:=by omega
    have hjxi:(j:Int)<(xs.length:Int):=by omega
    have hst:Hid (fillUp xs p (j+1) s=(fillUp xs p j s).set j ⟨32,s,0⟩):=fillUp_step xs p j s hpj hjx;have hsz:(fillUp xs p j s).length=xs.length:=fillUp_len _ _ _ _;obtain ⟨_,⟨d0,d1,d2,d3,d4⟩,_⟩:=id hs;go_wp2_with fail;refine (hbl _).mono ?_;rintro e w2 ⟨rfl,hb2⟩;have k2:=k.below hb2;have hs2:=hs.below hb2;have hp:=k2.1.put hsz j hjx ⟨32,s,0⟩;have kk:OC (w.heap.size+1) (.slice (some ⟨g,0,none⟩) xs.length cap) (fillUp xs p (j+1) s) w (putCe w2 g (j*7) ⟨32,s,0⟩):=by rw [hst.out];exact k2.own hp.1 hp.2
    have hsk:StAt (putCe w2 g (j*7) ⟨32,s,0⟩) w.heap.size s:=hs2.own k2.1 (Nat.lt_succ_self _) hp.2;have hat:=k2.1.at hsz j hjx;have f0:=k2.1.frozen hsz (j*7);have f1:=k2.1.frozen hsz (j*7+1);have f2:=k2.1.frozen hsz (j*7+2);have f3:=k2.1.frozen hsz (j*7+3);have f4:=k2.1.frozen hsz (j*7+4);have f5:=k2.1.frozen hsz (j*7+5);have f6:=k2.1.frozen hsz (j*7+6);clear hp k hb2 hbl hst d0 d1 d2 d3 d4 hs hs2 k2 hme;obtain ⟨c0,c1,c2,c3,c4,c5,c6⟩:=hat;simp only [putCe] at kk hsk;go_wp2;go_roundw
    case rel=>exact ⟨j+1,by go_num,by omega,by omega,kk,hsk⟩
    case measure=>simp [intOf];omega
   ·have hjn:j=q:=by omega
    have hji:¬ (j:Int)<(q:Int):=by omega
    subst hjn;have hm2:=hme (.slice (some ⟨g,0,none⟩) xs.length cap) wr (SlC.of_own k.1);clear hbl hs hme;go_wp2_with fail;refine hm2.mono ?_;rintro e w2 ⟨u2,rfl,ho2,hb2⟩;go_wp2;go_ret;exact ⟨u2,rfl,by rw [hcl.out];exact ho2.low k.2.1.size,k.2.1.trans (hb2.mono k.2.1.size)⟩
def clearedV (xs:List Ce) (f t:Int) (s:St):List Ce:=if rowOkB xs=true/\s.ok=true/\(0<=f/\f<=t)/\t<=xs.length then clearL xs f.toNat t.toNat s else []
def writeL (xs:List Ce) (p:Nat) (r:Int) (s:St):List Ce :=
 if wdV r=2 then ((clearL xs p (p+(wdV r).toNat) s).set p ⟨r,s,wdV r-1⟩).set (p+1) ⟨0,s,2⟩ else (clearL xs p (p+(wdV r).toNat) s).set p ⟨r,s,wdV r-1⟩
theorem writeL_len (xs:List Ce) (p:Nat) (r:Int) (s:St):(writeL xs p r s).length=xs.length:=by
 unfold writeL;split<;>simp [clearL_len]
theorem l4Written_any (v:Value) (xs:List Ce) (p:Nat) (r:Int) (s:St) (w:World) (hv:SlC w v xs) (hw1:1<=wdV r) (hp:(p:Int)+wdV r<=xs.length) (hl:xs.length<=1000) :
  Calls Tryz.prog 208 #[v,.int .i64 p,.int .i64 r,stV s] w fun e w'=>∃ u,e=.returned u/\OwnC w' w.heap.size u (writeL xs p r s)/\Below w.heap.size w w':=by
 have h2:=StAt.new w s 28;have hbA:=bal' w (Obj.cells #[.int .i64 s.fore,.int .i64 s.back,.bool s.bold,.bool s.under,.bool s.turned] 28);have hsz:(w.alloc (Obj.cells #[.int .i64 s.fore,.int .i64 s.back,.bool s.bold,.bool s.under,.bool s.turned] 28)).heap.size=w.heap.size+1:=by simp
 have hwd:=fun W=>specWidth_any r W
 have hbd:=widthV_bd r;have hv1:=hv.below hbA;have hcl:=l4Cleared_any v xs p (p+(wdV r).toNat) s _ hv1 (by omega) (by omega) hl;have hwl:Hid (writeL xs p r s=if wdV r=2 then ((clearL xs p (p+(wdV r).toNat) s).set p ⟨r,s,wdV r-1⟩).set (p+1) ⟨0,s,2⟩ else (clearL xs p (p+(wdV r).toNat) s).set p ⟨r,s,wdV r-1⟩):=rfl;have hcLen:=clearL_len xs p (p+(wdV r).toNat) s;have eW:((p+(wdV r).toNat:Nat):Int)=(p:Int)+wdV r:=by omega
 rw [eW] at hcl
 generalize clearL xs p (p+(wdV r).toNat) s=L at *;generalize wdV r=W at *;clear eW hv1;obtain ⟨a,c,rfl,hcp,_⟩:=hv;obtain ⟨_,⟨c0,c1,c2,c3,c4⟩,_⟩:=id h2;unfold stV at *;go_enter Tryz.func208,Tryz.ntmps208;go_wp2_with (go_at_call 172;refine (hwd _).mono ?_;rintro e w4 ⟨rfl,hw⟩;subst hw);refine hcl.mono ?_;rintro e w5 ⟨u,rfl,ho5,hb5⟩;have ko:OC (w.heap.size+1) u L w w5:=⟨ho5.low (by rw [hsz];exact Nat.le_refl _),hbA.trans (hb5.mono hbA.size),by have:=hb5.size;rw [hsz] at this;exact this,by omega⟩;have hs:=h2.below hb5;clear hcl ho5 hb5 h2 hbA c0 c1 c2 c3 c4 hwd hsz;have hpx:p<xs.length:=by omega
 rcases ko.1.shape with ⟨_,hx⟩|⟨g,cap,rfl,hbg,hlg,hcap⟩
 ·rw [hx] at hcLen;simp at hcLen;omega
 ·rw [hcLen] at ko hcap ⊢
  have hp1:=ko.1.put hcLen p hpx ⟨r,s,W-1⟩;have k2:OC (w.heap.size+1) (.slice (some ⟨g,0,none⟩) xs.length cap) (L.set p ⟨r,s,W-1⟩) w (putCe w5 g (p*7) ⟨r,s,W-1⟩):=ko.own hp1.1 hp1.2;have hs2:=hs.own ko.1 (Nat.lt_succ_self _) hp1.2;have hat:=ko.1.at hcLen p hpx;have f0:=ko.1.frozen hcLen (p*7);have f1:=ko.1.frozen hcLen (p*7+1);have f2:=ko.1.frozen hcLen (p*7+2);have f3:=ko.1.frozen hcLen (p*7+3);have f4:=ko.1.frozen hcLen (p*7+4);have f5:=ko.1.frozen hcLen (p*7+5);have f6:=ko.1.frozen hcLen (p*7+6);have hlen2:(L.set p ⟨r,s,W-1⟩).length=xs.length:=by rw [List.length_set];exact hcLen
  obtain ⟨_,⟨c0,c1,c2,c3,c4⟩,_⟩:=id hs;obtain ⟨d0,d1,d2,d3,d4,d5,d6⟩:=hat;have hpi:(p:Int)<(xs.length:Int):=by omega
  have hp0:(0:Int)<=(p:Int):=by omega
  by_cases hW:W=2
  ·have hWb:(W==2)=true:=by simp [hW]
   have hp1x:p+1<xs.length:=by omega
   have hp1i:(p:Int)+1<(xs.length:Int):=by omega
   have hq1:=k2.1.put hlen2 (p+1) hp1x ⟨0,s,2⟩;have k3:OC (w.heap.size+1) (.slice (some ⟨g,0,none⟩) xs.length cap) ((L.set p ⟨r,s,W-1⟩).set (p+1) ⟨0,s,2⟩) w (putCe (putCe w5 g (p*7) ⟨r,s,W-1⟩) g ((p+1)*7) ⟨0,s,2⟩):=k2.own hq1.1 hq1.2;have hat2:=k2.1.at hlen2 (p+1) hp1x;have g0:=k2.1.frozen hlen2 ((p+1)*7);have g1:=k2.1.frozen hlen2 ((p+1)*7+1);have g2:=k2.1.frozen hlen2 ((p+1)*7+2);have g3:=k2.1.frozen hlen2 ((p+1)*7+3);have g4:=k2.1.frozen hlen2 ((p+1)*7+4);have g5:=k2.1.frozen hlen2 ((p+1)*7+5);have g6:=k2.1.frozen hlen2 ((p+1)*7+6);obtain ⟨_,⟨b0,b1,b2,b3,b4⟩,_⟩:=id hs2;obtain ⟨e0,e1,e2,e3,e4,e5,e6⟩:=hat2;have hwl':Hid (writeL xs p r s=(L.set p ⟨r,s,W-1⟩).set (p+1) ⟨0,s,2⟩):=by show _=_;rw [hwl.out,if_pos hW]
   clear hp1 hq1 k2 hs hs2 ko hwl hW;generalize hY:putCe w5 g (p*7) ⟨r,s,W-1⟩=Y at *;simp only [putCe] at hY;generalize hZ:putCe Y g ((p+1)*7) ⟨0,s,2⟩=Z at *;simp only [putCe] at hZ;go_wp2;go_ret;exact ⟨_,rfl,by rw [hwl'.out];exact k3.1.low (by omega),k3.2.1⟩
  ·have hWb:(W==2)=false:=by simp [hW]
   have hwl':Hid (writeL xs p r s=L.set p ⟨r,s,W-1⟩):=by show _=_;rw [hwl.out,if_neg hW]
   clear hp1 hs hs2 ko hwl hW;generalize hY:putCe w5 g (p*7) ⟨r,s,W-1⟩=Y at *;simp only [putCe] at hY;go_wp2;go_ret;exact ⟨_,rfl,by rw [hwl'.out];exact k2.1.low (by omega),k2.2.1⟩
def writtenV (xs:List Ce) (at_ r:Int) (s:St):List Ce:=if rowOkB xs=true/\wdV r≠0/\(0<=at_/\at_<=xs.length-wdV r)/\s.ok=true then writeL xs at_.toNat r s else []
end Go.Proofs.YtgcnmjjlmcnllaaGreatDoor
