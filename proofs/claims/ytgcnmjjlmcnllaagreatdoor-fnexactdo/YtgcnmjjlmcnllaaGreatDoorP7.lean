/- Parts of the proof. -/
import Derived.Test.YtgcnmjjlmcnllaaGreatDoorP6
import Derived.Maps.OwnSet
namespace Go.Proofs.YtgcnmjjlmcnllaaGreatDoor
set_option maxRecDepth 20000
set_option maxHeartbeats 16000000
open Go.ChangeShapes Go.WideShapes Go.ChangeAt Go.RowKit
theorem written_way (xs:List Ce) (p r:Int) (s:St) (h0:wdV r≠0) :
  (clearedV xs p (IntKind.i64.wrap (p+wdV r)) s=[]/\writtenV xs p r s=[]) \/
   (∃ q:Nat,p=q/\q+(wdV r).toNat<=xs.length/\xs.length<=60/\Right xs/\s.ok=true/\clearedV xs p (IntKind.i64.wrap (p+wdV r)) s=clearL xs q (q+(wdV r).toNat) s/\writtenV xs p r s=writeL xs q r s):=by
 have hw:=widthV_bd r;unfold clearedV writtenV
 by_cases hr:rowOkB xs=true
 ·obtain ⟨hl,hR⟩:=(right_iff xs).1 hr
  by_cases ho:s.ok=true
  ·by_cases hp:0<=p/\p<=(xs.length:Int)-wdV r
   ·have e:IntKind.i64.wrap (p+wdV r)=p+wdV r:=by rw [IntKind.wrap_i64];omega
    right
    refine ⟨p.toNat,by omega,by omega,hl.2,hR,ho,?_,?_⟩
    ·rw [e,if_pos ⟨hr,ho,by omega,by omega⟩]
     congr 1
     omega
    ·rw [if_pos ⟨hr,h0,hp,ho⟩]
   ·left
    refine ⟨if_neg ?_,if_neg fun x=>hp x.2.2.1⟩;rintro ⟨_,_,x1,x2⟩;apply hp
    refine ⟨x1.1,?_⟩;have h1:=x1.2;have e:IntKind.i64.wrap (p+wdV r)=p+wdV r:=by rw [IntKind.wrap_i64];omega
    rw [e] at x2;omega
  ·left;exact ⟨if_neg fun x=>ho x.2.1,if_neg fun x=>ho x.2.2.2⟩
 ·left;exact ⟨if_neg fun x=>hr x.1,if_neg fun x=>hr x.1⟩
theorem clear_in {l:List Ce} (a b:Nat) (s:St) (hb:b<=l.length) (i:Nat) (h1:a<=i) (h2:i<b):atC (clearL l a b s) i=blankC s:=by
 have e:atC (fillUp l a b s) i=blankC s:=by rw [fill_at _ _ _ _ _ hb,if_pos ⟨h1,h2⟩]
 rw [clearL,mendV_all,mendC]
 have:¬ aloneB (fillUp l a b s) i=true:=by rw [alone_iff,e];simp [blankC]
 rw [if_neg this,e]
theorem implWritten_any (v:Value) (xs:List Ce) (p r:Int) (s:St) (w:World) (hS:SpansAt w) (hv:SlC w v xs) (hl:xs.length<=1048576) :
  Calls Tryz.prog 178 #[v,.int .i64 p,.int .i64 r,stV s] w fun e w'=>∃ u,e=.returned u/\OwnC w' w.heap.size u (writtenV xs p r s)/\Below w.heap.size w w':=by
 have h2:=StAt.new w s 28;have hbA:=bal' w (Obj.cells #[.int .i64 s.fore,.int .i64 s.back,.bool s.bold,.bool s.under,.bool s.turned] 28);have hno:∀ W:World,OwnC W w.heap.size (.slice none 0 0) []:=fun W=>ownC_none W _
 have hv1:=hv.below hbA;have hwd:=implWidth_any r _ (hS.below hbA hS.lt);have hbd:=widthV_bd r;have hSl:=hS.lt;obtain ⟨a,c,rfl,hcp,_⟩:=id hv;unfold stV at *;go_enter Tryz.func178,Tryz.ntmps178;go_wp2_with fail;refine hwd.mono ?_;rintro e w2 ⟨rfl,hb2⟩;have kb:=hbA.trans (hb2.mono hbA.size);have hs:=h2.below hb2;have hv2:=hv1.below hb2;have hcl:=implCleared_any _ xs p (IntKind.i64.wrap (p+wdV r)) s w2 (hS.below kb hSl) hv2 hl;clear hbA hb2 h2 hwd hv1;obtain ⟨_,⟨c0,c1,c2,c3,c4⟩,_⟩:=id hs;have hway:=fun h=>written_way xs p r s h
 have hWL:Hid (∀ q,writeL xs q r s=if wdV r=2 then ((clearL xs q (q+(wdV r).toNat) s).set q ⟨r,s,wdV r-1⟩).set (q+1) ⟨0,s,2⟩ else (clearL xs q (q+(wdV r).toNat) s).set q ⟨r,s,wdV r-1⟩):=fun _=>rfl
 have hV0:wdV r=0->writtenV xs p r s=[]:=fun h=>by unfold writtenV;rw [if_neg (fun x=>x.2.1 h)]
 generalize wdV r=W at *;unfold stV at hcl;generalize hT:IntKind.i64.wrap (p+W)=T at *;go_wp2_with fail;refine hcl.mono ?_;clear hcl;rintro e w3 ⟨u,rfl,ho3,hb3⟩;have hs3:=hs.below hb3;have kb3:=kb.trans (hb3.mono kb.size);have hgB:∀ g,u.ownBlock=some g->w.heap.size<g:=fun g e=>Nat.lt_of_lt_of_le hs.1 (ho3.lt g e).1
 have ho3:=ho3.low kb.size;clear c0 c1 c2 c3 c4 hb3 hs hv2
 by_cases hW0:W=0
 ·have hWb:(W==0)=true:=by simp [hW0]
  have hV:Hid (writtenV xs p r s=[]):=hV0 hW0;clear hW0 hway hV0 hs3 ho3;go_wp2;go_ret;exact ⟨_,rfl,by rw [hV.out];exact hno _,kb3⟩
 ·have hWb:(W==0)=false:=by simp [hW0]
  rcases hway hW0 with ⟨hZ,hV⟩|⟨q,hpq,hq,hx60,hR,hok,hZ,hV⟩
  ·have hV:Hid (writtenV xs p r s=[]):=hV
   rw [hZ] at ho3
   rcases ho3.shape with ⟨rfl,_⟩|⟨g,cap,rfl,_⟩
   all_goals
    clear hway hV0 hs3 ho3 hZ hW0 hgB;go_wp2;go_ret;exact ⟨_,rfl,by rw [hV.out];exact hno _,kb3⟩
  ·have hV:Hid (writtenV xs p r s=writeL xs q r s):=hV
   have hV2:=hWL.out q;rw [hZ] at ho3
   have hcLen:=clearL_len xs q (q+W.toNat) s;have hc0:=clear_in (l:=xs) q (q+W.toNat) s hq q (Nat.le_refl _) (by omega);subst hpq;clear hway hV0 hZ hWL hT hno;generalize clearL xs q (q+W.toNat) s=L at *;have hqx:q<xs.length:=by omega
   have hqi:(q:Int)<(xs.length:Int):=by omega
   have hq0:(0:Int)<=(q:Int):=by omega
   rcases ho3.shape with ⟨_,hx⟩|⟨g,cap,rfl,hbg,hlg,hcap⟩
   ·rw [hx] at hcLen;simp at hcLen;omega
   ·rw [hcLen] at ho3 hcap ⊢
    have hBg:=hgB g rfl;have hl0:((xs.length:Int)==0)=false:=beq_eq_false_iff_ne.2 (by omega);have hp1:=ho3.put1 hcLen q hqx 0 (by decide) (.int .i64 r) ⟨r,s,0⟩ (by rw [hc0];rfl);have hlen1:(L.set q ⟨r,s,0⟩).length=xs.length:=by rw [List.length_set];exact hcLen
    have hat0:=ho3.at hcLen q hqx;have f0:=ho3.frozen hcLen (q*7);have kb4:=kb3.grown hp1.2 kb3.size (fun k hk=>by cases hk;omega)
    by_cases hW2:W=2
    ·have hWb2:(W==2)=true:=by simp [hW2]
     have hc1:atC (L.set q ⟨r,s,0⟩) q=⟨r,s,0⟩:=by rw [atC_set,if_pos ⟨rfl,by omega⟩]
     have hp2:=hp1.1.put1 hlen1 q hqx 6 (by decide) (.int .i64 1) ⟨r,s,1⟩ (by rw [hc1];rfl);have hlen2:((L.set q ⟨r,s,0⟩).set q ⟨r,s,1⟩).length=xs.length:=by rw [List.length_set];exact hlen1
     have hp3:=hp2.1.put hlen2 (q+1) (by omega) ⟨0,s,2⟩;have hat1:=hp1.1.at hlen1 q hqx;have f1:=hp1.1.frozen hlen1 (q*7+6);have hat2:=hp2.1.at hlen2 (q+1) (by omega);have g0:=hp2.1.frozen hlen2 ((q+1)*7);have g1:=hp2.1.frozen hlen2 ((q+1)*7+1);have g2:=hp2.1.frozen hlen2 ((q+1)*7+2);have g3:=hp2.1.frozen hlen2 ((q+1)*7+3);have g4:=hp2.1.frozen hlen2 ((q+1)*7+4);have g5:=hp2.1.frozen hlen2 ((q+1)*7+5);have g6:=hp2.1.frozen hlen2 ((q+1)*7+6);have kb5:=kb4.grown hp2.2 kb4.size (fun k hk=>by cases hk;omega);have kb6:=kb5.grown hp3.2 kb5.size (fun k hk=>by cases hk;omega);have hs5:=(hs3.grown hp1.2 (by simp;omega)).grown hp2.2 (by simp;omega);have ho6:=hp3.1;rw [List.set_set] at ho6
     have hfin:Hid (writtenV xs (q:Int) r s=(L.set q ⟨r,s,1⟩).set (q+1) ⟨0,s,2⟩):=by show _=_;rw [hV.out,hV2,if_pos hW2,hW2];rfl
     have hq1i:(q:Int)+1<(xs.length:Int):=by omega
     have hq1:q+1<xs.length:=by omega
     obtain ⟨_,⟨b0,b1,b2,b3,b4⟩,_⟩:=id hs5;obtain ⟨d0,d1,d2,d3,d4,d5,d6⟩:=hat0;obtain ⟨e0,e1,e2,e3,e4,e5,e6⟩:=hat1;obtain ⟨h0,h1,h2,h3,h4,h5,h6⟩:=hat2;clear hp1 hp2 hp3 hV hV2 hW2 hs3 hs5 kb3 kb4 kb5 ho3 hc0 hc1;generalize hX:w3.setCell ⟨g,q*7+0,none⟩ (.int .i64 r)=X at *;rw [Nat.add_zero] at hX
     generalize hY:X.setCell ⟨g,q*7+6,none⟩ (.int .i64 1)=Y at *;generalize hZZ:putCe Y g ((q+1)*7) ⟨0,s,2⟩=Z at *;simp only [putCe] at hZZ;go_wp2;go_ret;exact ⟨_,rfl,by rw [hfin.out];exact ho6,kb6⟩
    ·have hWb2:(W==2)=false:=by simp [hW2]
     have hW1:W=1:=by omega
     have hfin:Hid (writtenV xs (q:Int) r s=L.set q ⟨r,s,0⟩):=by show _=_;rw [hV.out,hV2,if_neg hW2,hW1];rfl
     have ho4:=hp1.1;obtain ⟨d0,d1,d2,d3,d4,d5,d6⟩:=hat0;clear hp1 hV hV2 hW2 hW1 hs3 kb3 ho3 hc0;generalize hX:w3.setCell ⟨g,q*7+0,none⟩ (.int .i64 r)=X at *;rw [Nat.add_zero] at hX
     go_wp2;go_ret;exact ⟨_,rfl,by rw [hfin.out];exact ho4,kb4⟩
end Go.Proofs.YtgcnmjjlmcnllaaGreatDoor
namespace Go.Proofs.YtgcnmjjlmcnllaaGreatDoor
set_option maxRecDepth 20000
set_option maxHeartbeats 16000000
theorem writeL_at (L:List Ce) (q:Nat) (r:Int) (s:St) (hw:wdV r≠0) (hq:q+(wdV r).toNat<=L.length) (i:Nat) :
  atC (writeL L q r s) i=if wdV r=2/\i=q+1 then ⟨0,s,2⟩ else if i=q then ⟨r,s,wdV r-1⟩ else atC (clearL L q (q+(wdV r).toNat) s) i:=by
 have hb:=widthV_bd r;have hl:=clearL_len L q (q+(wdV r).toNat) s;unfold writeL
 by_cases h2:wdV r=2
 ·rw [if_pos h2,atC_set,List.length_set,hl,atC_set,hl]
  by_cases c:i=q+1
  ·have hlt:q+1<L.length:=by omega
   simp [h2,c,hlt]
  ·by_cases d:i=q
   ·have hlt:q<L.length:=by omega
    simp [h2,d,hlt]
   ·simp [c,d]
 ·rw [if_neg h2,atC_set,hl]
  by_cases d:i=q
  ·have hlt:q<L.length:=by omega
   simp [h2,d,hlt]
  ·simp [h2,d]
theorem writeL_right {L:List Ce} (hR:Right L) (q:Nat) (r:Int) (s:St) (hs:s.ok=true) (hw:wdV r≠0) (hq:q+(wdV r).toNat<=L.length):Right (writeL L q r s):=by
 have hb:=widthV_bd r;have hC:=clearL_right hR q (q+(wdV r).toNat) s hs hq;have hCl:=clearL_len L q (q+(wdV r).toNat) s;have hin:=fun i h1 h2=>clear_in (l:=L) q (q+(wdV r).toNat) s hq i h1 h2
 have hat:=fun i=>writeL_at L q r s hw hq i
 have hlen:=writeL_len L q r s;have h0:=hin q (Nat.le_refl _) (by omega);generalize clearL L q (q+(wdV r).toNat) s=C at *;refine ⟨fun i hi=>?_,fun i h1=>?_,fun i h2=>?_⟩
 ·rw [hat i]
  split
  ·exact ⟨hs,.inr (.inr ⟨rfl,rfl⟩)⟩
  ·split
   ·rename_i h2 hi
    refine ⟨hs,?_⟩
    by_cases e:wdV r=2
    ·exact .inr (.inl ⟨by show wdV r-1=1;omega,e⟩)
    ·exact .inl ⟨by show wdV r-1=0;omega,by show wdV r=1;omega⟩
   ·exact hC.1 i (by omega)
 ·rw [hat i] at h1
  split at h1
  ·exact absurd h1 (by simp)
  ·rename_i n1
   split at h1
   ·rename_i e
    have hw2:wdV r=2:=by have:wdV r-1=1:=h1;omega
    rw [hat (i+1),if_pos ⟨hw2,by omega⟩,hat i,if_neg n1,if_pos e]
    exact ⟨rfl,rfl⟩
   ·rename_i n2
    have h3:=hC.2.1 i h1;have n3:¬ (i+1=q):=fun e=>by rw [e,h0] at h3;exact absurd h3.1 (by simp [blankC])
    have n4:¬ (wdV r=2/\i+1=q+1):=fun e=>n2 (by omega)
    rw [hat (i+1),if_neg n4,if_neg n3,hat i,if_neg n1,if_neg n2]
    exact h3
 ·rw [hat i] at h2
  split at h2
  ·rename_i e
   have n1:¬ (wdV r=2/\i-1=q+1):=by omega
   refine ⟨by omega,?_⟩;rw [hat (i-1),if_neg n1,if_pos (by omega)]
   show wdV r-1=1
   omega
  ·rename_i n1
   split at h2
   ·exfalso
    have:wdV r-1=2:=h2;omega
   ·rename_i n2
    have h3:=hC.2.2 i h2;have n3:¬ (i-1=q):=fun e=>by rw [e,h0] at h3;exact absurd h3.2 (by simp [blankC])
    have n4:¬ (wdV r=2/\i-1=q+1):=fun e=>by
     have:=hin (q+1) (by omega) (by omega);rw [e.2,this] at h3;exact absurd h3.2 (by simp [blankC])
    rw [hat (i-1),if_neg n4,if_neg n3]
    exact h3
open Go.ChangeShapes Go.WideShapes Go.ChangeAt Go.RowKit
def pushedV (xs:List Ce) (f t:Int) (s:St):List Ce:=if rowOkB xs=true/\s.ok=true/\(0<=f/\f<=xs.length-1)/\(0<=t/\t<=xs.length) then pushL xs f.toNat t.toNat s else []
def pulledV (xs:List Ce) (f t:Int) (s:St):List Ce:=if rowOkB xs=true/\s.ok=true/\(0<=f/\f<=xs.length-1)/\(0<=t/\t<=xs.length) then pullL xs f.toNat t.toNat s else []
structure RtK (t:Te) (cn N:Nat):Prop where
 w:RtW t cn N
 gr:∀ i,i<N->Right (rowX t.g i)
 xr:∀ i,i<N->Right (rowX t.o i)
 st:t.st.ok=true
 ss:t.ss.ok=true
 sr:0<=t.sr/\t.sr<N
 sc:0<=t.sc/\t.sc<cn
 fu:t.full=true->t.col=(cn:Int)-1
 tb:¬ (t.top=t.bot/\1<N)
 ti:t.ti.length<=40/\runesB t.ti=true
 pa:okV t.pa=true
 fe:feedOk t.fe=true
theorem RtK.gok {t:Te} {cn N:Nat} (h:RtK t cn N):gridOkB (cn:Int) t.g=true :=
 gridOk_of2 h.w.c (by rw [h.w.n];exact h.w.n1) fun i hi=>by rw [h.w.n] at hi;exact ⟨h.w.gx i hi,h.gr i hi⟩
theorem RtK.ook {t:Te} {cn N:Nat} (h:RtK t cn N):gridOkB (cn:Int) t.o=true :=
 gridOk_of2 h.w.c (by rw [h.w.m];exact h.w.n1) fun i hi=>by rw [h.w.m] at hi;exact ⟨h.w.ox i hi,h.xr i hi⟩
theorem RtK.ok {t:Te} {cn N:Nat} (h:RtK t cn N):termOkB t=true:=by
 have hg:=h.gok;have ho:=h.ook;rw [<- h.w.gc] at hg
 rw [<- h.w.oc] at ho
 have e1:=h.w.gc;have e2:=h.w.oc;have e3:=h.w.n;have e4:=h.w.m;have e5:=h.w.n1;have e6:=h.w.row;have e7:=h.w.col;have e8:=h.w.tb;have e9:=h.tb;have e10:=h.sr;have e11:=h.sc;unfold termOkB cellB;simp only [Bool.and_eq_true,decide_eq_true_eq];exact ⟨⟨hg,ho,by omega,by omega⟩,⟨⟨by omega,by omega⟩,by omega,by omega⟩,by omega,fun f=>by have:=h.fu f;omega,⟨h.st,h.ss⟩,h.ti,h.pa,h.fe⟩
theorem rtK_of {t:Te} (h:termOkB t=true):RtK t t.gc.toNat t.g.length:=by
 unfold termOkB cellB at h;simp only [Bool.and_eq_true,decide_eq_true_eq] at h;obtain ⟨⟨h1,h2,h3,h4⟩,⟨⟨r1,r2⟩,r3,r4⟩,b,f,⟨s1,s2⟩,ti,pa,fe⟩:=h;have q:=((gridOk_iff _ _).1 h1).1;obtain ⟨gc,hgc⟩:∃ k:Nat,t.gc=k:=⟨t.gc.toNat,by omega⟩;have hoc:t.oc=gc:=by rw [<- h3,hgc]
 rw [hgc] at h1
 rw [hoc] at h2
 obtain ⟨⟨g1,g2⟩,gl,gx⟩:=gridOk_rows h1;obtain ⟨_,ol,ox⟩:=gridOk_rows h2;rw [hgc,Int.toNat_natCast]
 exact ⟨⟨hgc,hoc,⟨g1,g2⟩,rfl,h4.symm,gl,fun i hi=>(gx i hi).1,fun i hi=>(ox i (by omega)).1,by omega,by omega,by omega⟩,fun i hi=>(gx i hi).2,fun i hi=>(ox i (by omega)).2,s1,s2,by omega,by omega,fun e=>by have:=f e;omega,by omega,ti,pa,fe⟩
theorem RtK.back {t:Te} {cn N:Nat} (h:RtK t cn N):(backS t.st).ok=true:=by
 have:=(St.ok_iff _).1 h.st;exact (St.ok_iff _).2 ⟨Int.le_refl _,by show (0:Int)<=8;omega,this.2.2.1,this.2.2.2⟩
theorem RtK.move {t:Te} {cn N:Nat} (h:RtK t cn N) (a b n:Int) (ha:0<=a) (hb:b<N) (hab:a<=b):RtK (moveT t a b n) cn N:=by
 have hk:=moveR_ok h.gok a.toNat b.toNat (by rw [h.w.n];omega) n (backS t.st) h.back;obtain ⟨_,_,gx⟩:=gridOk_rows hk;rw [moveR_len,h.w.n] at gx
 have e:moveT t a b n={ t with g:=moveR cn t.g a.toNat b.toNat n (backS t.st) }:=by unfold moveT;rw [h.w.gc,Int.toNat_natCast]
 rw [e]
 exact ⟨⟨h.w.gc,h.w.oc,h.w.c,by rw [<- h.w.n];exact moveR_len _ _ _ _ _ _,h.w.m,h.w.n1,fun i hi=>(gx i hi).1,h.w.ox,h.w.row,h.w.col,h.w.tb⟩,fun i hi=>(gx i hi).2,h.xr,h.st,h.ss,h.sr,h.sc,h.fu,h.tb,h.ti,h.pa,h.fe⟩
theorem RtK.cur {t:Te} {cn N:Nat} (h:RtK t cn N) (r c:Int) (hr:0<=r/\r<N) (hc:0<=c/\c<cn):RtK { t with row:=r,col:=c,full:=false } cn N :=
 ⟨⟨h.w.gc,h.w.oc,h.w.c,h.w.n,h.w.m,h.w.n1,h.w.gx,h.w.ox,hr,hc,h.w.tb⟩,h.gr,h.xr,h.st,h.ss,h.sr,h.sc,(fun e=>by cases e),h.tb,h.ti,h.pa,h.fe⟩
theorem RtK.rowp {t:Te} {cn N:Nat} (h:RtK t cn N) (r:Int) (hr:0<=r/\r<N):RtK { t with row:=r } cn N :=
 ⟨⟨h.w.gc,h.w.oc,h.w.c,h.w.n,h.w.m,h.w.n1,h.w.gx,h.w.ox,hr,h.w.col,h.w.tb⟩,h.gr,h.xr,h.st,h.ss,h.sr,h.sc,h.fu,h.tb,h.ti,h.pa,h.fe⟩
theorem RtK.nofull {t:Te} {cn N:Nat} (h:RtK t cn N):RtK { t with full:=false } cn N:=h.cur t.row t.col h.w.row h.w.col
theorem RtK.colp {t:Te} {cn N:Nat} (h:RtK t cn N) (c:Int) (hc:0<=c/\c<cn) (hf:t.full=false):RtK { t with col:=c } cn N :=
 ⟨⟨h.w.gc,h.w.oc,h.w.c,h.w.n,h.w.m,h.w.n1,h.w.gx,h.w.ox,h.w.row,hc,h.w.tb⟩,h.gr,h.xr,h.st,h.ss,h.sr,h.sc,(fun e=>by rw [hf] at e;cases e),h.tb,h.ti,h.pa,h.fe⟩
theorem RtK.style {t:Te} {cn N:Nat} (h:RtK t cn N) (s:St) (hs:s.ok=true):RtK { t with st:=s } cn N :=
 ⟨⟨h.w.gc,h.w.oc,h.w.c,h.w.n,h.w.m,h.w.n1,h.w.gx,h.w.ox,h.w.row,h.w.col,h.w.tb⟩,h.gr,h.xr,hs,h.ss,h.sr,h.sc,h.fu,h.tb,h.ti,h.pa,h.fe⟩
theorem RtK.line {t:Te} {cn N:Nat} (h:RtK t cn N):RtK (lineT t) cn N:=by
 have hr:=h.w.row;have hb:=h.w.tb;unfold lineT;split
 ·exact h.move _ _ _ hb.1 hb.2.2 hb.2.1
 ·split
  ·exact h.rowp _ (by have:=h.w.n;omega)
  ·exact h
theorem lineT_fullc (t:Te):(lineT t).full=t.full:=by unfold lineT moveT;(split;rfl;split<;>rfl)
theorem RtK.rowT {t:Te} {cn N:Nat} (h:RtK t cn N) (r:Int) (_hr:0<=r) (xs:List Ce) (hl:xs.length=cn) (hx:Right xs):RtK (rowT t r xs) cn N:=by
 have hlen:(t.g.set r.toNat xs).length=N:=by rw [List.length_set];exact h.w.n
 have hat:∀ i,i<N->rowX (t.g.set r.toNat xs) i=xs\/rowX (t.g.set r.toNat xs) i=rowX t.g i:=fun i hi=>by
  by_cases e:r.toNat=i
  ·left;rw [rowX_lt (by rw [hlen];exact hi)];simp [e]
  ·right;unfold rowX;simp [List.getD,e]
 unfold Go.Proofs.YtgcnmjjlmcnllaaGreatDoor.rowT
 exact ⟨⟨h.w.gc,h.w.oc,h.w.c,hlen,h.w.m,h.w.n1,fun i hi=>by rcases hat i hi with e|e<;>(show (rowX (t.g.set r.toNat xs) i).length=cn);rw [e];exact hl;rw [e];exact h.w.gx i hi,h.w.ox,h.w.row,h.w.col,h.w.tb⟩,
  fun i hi=>by rcases hat i hi with e|e<;>(show Right (rowX (t.g.set r.toNat xs) i));rw [e];exact hx;rw [e];exact h.gr i hi,h.xr,h.st,h.ss,h.sr,h.sc,h.fu,h.tb,h.ti,h.pa,h.fe⟩
theorem RtK.gat {t:Te} {cn N:Nat} (h:RtK t cn N) (r:Int) (hr:0<=r/\r<N):(rowX t.g r.toNat).length=cn/\Right (rowX t.g r.toNat):=⟨h.w.gx _ (by omega),h.gr _ (by omega)⟩
theorem RtK.clear {t:Te} {cn N:Nat} (h:RtK t cn N) (r p q:Int) (hr:0<=r/\r<N) (hq:q<=cn):RtK (clearT t r p q) cn N:=by
 obtain ⟨h1,h2⟩:=h.gat r hr;exact h.rowT r hr.1 _ (by rw [clearL_len];exact h1) (clearL_right h2 _ _ _ h.back (by rw [h1];omega))
theorem RtK.print {t:Te} {cn N:Nat} (h:RtK t cn N) (r:Int):RtK (printT t r) cn N:=by
 have hw:=widthV_bd r;unfold printT;split
 ·exact h
 ·rename_i hn
  have hc:=h.w.gc;have hcc:=h.w.c;have hcol:=h.w.col;have h0:=h.nofull;simp only
  have k1:∃ t1:Te,t1=(if t.full=true/\t.wrap=true then lineT { t with full:=false,col:=0 } else { t with full:=false })/\RtK t1 cn N/\t1.full=false/\t1.gc=cn:=by
   refine ⟨_,rfl,?_⟩;split
   ·refine ⟨(h.cur t.row 0 h.w.row (by omega)).line,?_,?_⟩
    ·rw [lineT_fullc]
    ·exact ((h.cur t.row 0 h.w.row (by omega)).line).w.gc
   ·exact ⟨h0,rfl,hc⟩
  obtain ⟨t1,e1,k1,f1,g1⟩:=k1;rw [<- e1]
  clear e1
  have k2:∃ t2:Te,t2=(if t.gc<t1.col+wdV r then (if t1.wrap=true then lineT { t1 with col:=0 } else { t1 with col:=t.gc-wdV r }) else t1)/\RtK t2 cn N/\t2.full=false/\t2.col+wdV r<=cn:=by
   refine ⟨_,rfl,?_⟩;split
   ·split
    ·have k:=(k1.colp 0 (by omega) f1).line
     refine ⟨k,by rw [lineT_fullc];exact f1,?_⟩;have e:(lineT { t1 with col:=0 }).col=0:=by unfold lineT moveT;(split;rfl;split<;>rfl)
     rw [e];omega
    ·refine ⟨k1.colp _ (by omega) f1,f1,?_⟩
     show t.gc-wdV r+wdV r<=cn
     omega
   ·exact ⟨k1,f1,by omega⟩
  obtain ⟨t2,e2,k2,f2,g2⟩:=k2;rw [<- e2]
  clear e2;obtain ⟨q1,q2⟩:=k2.gat t2.row k2.w.row;have hcol2:=k2.w.col;have k3:=k2.rowT t2.row k2.w.row.1 (writeL (rowX t2.g t2.row.toNat) t2.col.toNat r t2.st) (by rw [writeL_len];exact q1) (writeL_right q2 _ _ _ k2.st (by omega) (by rw [q1];omega));split
  ·have k:=k3.colp ((cn:Int)-1) (by omega) f2
   rw [hc]
   exact ⟨⟨k.w.gc,k.w.oc,k.w.c,k.w.n,k.w.m,k.w.n1,k.w.gx,k.w.ox,k.w.row,k.w.col,k.w.tb⟩,k.gr,k.xr,k.st,k.ss,k.sr,k.sc,fun _=>rfl,k.tb,k.ti,k.pa,k.fe⟩
  ·exact k3.colp _ (by omega) f2
theorem RtK.control {t:Te} {cn N:Nat} (h:RtK t cn N) (r:Int):RtK (controlT t r) cn N:=by
 have hc:=h.w.gc;have hcc:=h.w.c;have hcol:=h.w.col;unfold controlT;split
 ·exact h.cur t.row _ h.w.row (by omega)
 ·split
  ·exact h.cur t.row _ h.w.row (by omega)
  ·split
   ·exact h.line.nofull
   ·split
    ·exact h.cur t.row _ h.w.row (by omega)
    ·exact h
theorem newR_rows (cn N i:Nat) (hi:i<N):rowX (newR cn N) i=rowL cn St.zero:=by
 rw [rowX_lt (by simp [newR];exact hi)];simp [newR]
theorem RtK.anew {t:Te} {cn N:Nat} (h:RtK t cn N):RtK (anewT t) cn N:=by
 have hn:=h.w.n1;have hc:=h.w.c;unfold anewT newT;rw [h.w.gc,h.w.n,Int.toNat_natCast]
 have hl:(newR cn N).length=N:=by simp [newR]
 have hx:∀ i,i<N->(rowX (newR cn N) i).length=cn/\Right (rowX (newR cn N) i):=fun i hi=>by rw [newR_rows _ _ _ hi];exact ⟨rowL_len _ _,rowL_right _ _ rfl⟩
 exact ⟨⟨rfl,rfl,h.w.c,hl,hl,h.w.n1,fun i hi=>(hx i hi).1,fun i hi=>(hx i hi).1,⟨by show (0:Int)<=0;omega,by show (0:Int)<N;omega⟩,⟨by show (0:Int)<=0;omega,by show (0:Int)<cn;omega⟩,⟨by show (0:Int)<=0;omega,by show (0:Int)<=(N:Int)-1;omega,by show (N:Int)-1<N;omega⟩⟩,
  fun i hi=>(hx i hi).2,fun i hi=>(hx i hi).2,rfl,rfl,⟨by show (0:Int)<=0;omega,by show (0:Int)<N;omega⟩,⟨by show (0:Int)<=0;omega,by show (0:Int)<cn;omega⟩,(fun e=>by cases e),by show ¬ ((0:Int)=(N:Int)-1/\1<N);omega,h.ti,h.pa,h.fe⟩
theorem RtK.escape {t:Te} {cn N:Nat} (h:RtK t cn N) (r:Int):RtK (escapeT t r) cn N:=by
 have hcc:=h.w.c;have hcol:=h.w.col;have hb:=h.w.tb;have hr:=h.w.row;unfold escapeT;split
 ·exact h.line.nofull
 ·split
  ·have k:=h.line
   exact k.cur _ 0 k.w.row (by omega)
  ·split
   ·split
    ·exact (h.move _ _ _ hb.1 hb.2.2 hb.2.1).nofull
    ·exact h.cur _ t.col (by omega) h.w.col
   ·split
    ·have k:=h.nofull
     exact ⟨⟨k.w.gc,k.w.oc,k.w.c,k.w.n,k.w.m,k.w.n1,k.w.gx,k.w.ox,k.w.row,k.w.col,k.w.tb⟩,k.gr,k.xr,k.st,h.st,h.w.row,h.w.col,k.fu,k.tb,k.ti,k.pa,k.fe⟩
    ·split
     ·exact (h.cur t.sr t.sc h.sr h.sc).style _ h.ss
     ·split
      ·exact h.anew
      ·exact h
theorem RtK.goT {t:Te} {cn N:Nat} (h:RtK t cn N) (r c:Int) (hf:t.full=false):RtK (goT t r c) cn N:=by
 have hc:=h.w.gc;have hcc:=h.w.c;have hn:=h.w.n;have hn1:=h.w.n1;unfold Go.Proofs.YtgcnmjjlmcnllaaGreatDoor.goT;exact (h.rowp (max 0 (min ((t.g.length:Int)-1) r)) (by omega)).colp (max 0 (min (t.gc-1) c)) (by omega) hf
theorem RtK.eraseRow {t:Te} {cn N:Nat} (h:RtK t cn N) (how:Int):RtK (eraseRow t how) cn N:=by
 have hc:=h.w.gc;have hcol:=h.w.col;unfold Go.Proofs.YtgcnmjjlmcnllaaGreatDoor.eraseRow;split
 ·exact h.clear _ _ _ h.w.row (by omega)
 ·split
  ·exact h.clear _ _ _ h.w.row (by omega)
  ·split
   ·exact h.clear _ _ _ h.w.row (by omega)
   ·exact h
theorem RtK.eraseAll {t:Te} {cn N:Nat} (h:RtK t cn N) (how:Int):RtK (eraseAll t how) cn N:=by
 have hc:=h.w.gc;have hn:=h.w.n
 have hx:∀ i,i<N->(rowX (Go.Proofs.YtgcnmjjlmcnllaaGreatDoor.eraseAll t how).g i).length=cn/\Right (rowX (Go.Proofs.YtgcnmjjlmcnllaaGreatDoor.eraseAll t how).g i):=fun i hi=>by
  unfold Go.Proofs.YtgcnmjjlmcnllaaGreatDoor.eraseAll;simp only;rw [genR_at _ _ _ (by omega)]
  split
  ·rw [clearL_len]
   exact ⟨h.w.gx i hi,clearL_right (h.gr i hi) _ _ _ h.back (by rw [h.w.gx i hi];omega)⟩
  ·have k:=h.eraseRow how
   exact ⟨k.w.gx i hi,k.gr i hi⟩
 exact ⟨⟨h.w.gc,h.w.oc,h.w.c,by rw [<- hn];exact genR_len _ _,h.w.m,h.w.n1,fun i hi=>(hx i hi).1,h.w.ox,h.w.row,h.w.col,h.w.tb⟩,fun i hi=>(hx i hi).2,h.xr,h.st,h.ss,h.sr,h.sc,h.fu,h.tb,h.ti,h.pa,h.fe⟩
theorem parN_bd {p:List Int} (hp:∀ x∈p,0<=x/\x<=9999) (i:Nat) (u:Int) (hu:1<=u/\u<=9999):1<=parN p i u/\parN p i u<=9999:=by
 unfold parN;split
 ·exact hu
 ·rename_i h
  by_cases hi:i<p.length
  ·have e:p.getD i 0=p[i]:=by simp [List.getD,hi]
   have:=hp p[i] (List.getElem_mem hi);rw [e] at h ⊢
   omega
  ·exfalso;apply h;simp [List.getD,List.getElem?_eq_none (by omega:p.length<=i)]
theorem rtk_ite {c:Prop} [Decidable c] {a b:Te} {cn N:Nat} (h1:c->RtK a cn N) (h2:¬ c->RtK b cn N):RtK (if c then a else b) cn N:=by
 by_cases hc:c
 ·rw [if_pos hc];exact h1 hc
 ·rw [if_neg hc];exact h2 hc
theorem RtK.list {t:Te} {cn N:Nat} (h:RtK t cn N) (r:Int) (p:List Int) (hp:∀ x∈p,0<=x/\x<=9999):RtK (listT t r p) cn N:=by
 have hn:=parN_bd hp 0 1 (by omega);have hc:=h.w.gc;have hcc:=h.w.c;have hcol:=h.w.col;have hb:=h.w.tb;have hr:=h.w.row;have hN:=h.w.n;have hN1:=h.w.n1;have h0:=h.nofull;have hm:=parN_bd hp 1 (t.g.length:Int) (by omega);refine rtk_ite (fun _=>?_) fun _=>?_
 ·exact h0.rowp _ (by split<;>omega)
 refine rtk_ite (fun _=>?_) fun _=>?_
 ·exact h0.rowp _ (by split<;>omega)
 refine rtk_ite (fun _=>?_) fun _=>?_
 ·exact h0.goT _ _ rfl
 refine rtk_ite (fun _=>?_) fun _=>?_
 ·exact h0.goT _ _ rfl
 refine rtk_ite (fun _=>?_) fun _=>?_
 ·exact h0.goT _ _ rfl
 refine rtk_ite (fun _=>?_) fun _=>?_
 ·exact h0.goT _ _ rfl
 refine rtk_ite (fun _=>?_) fun _=>?_
 ·exact h0.goT _ _ rfl
 refine rtk_ite (fun _=>?_) fun _=>?_
 ·exact h0.eraseAll _
 refine rtk_ite (fun _=>?_) fun _=>?_
 ·exact h0.eraseRow _
 refine rtk_ite (fun _=>?_) fun _=>?_
 ·split
  ·exact (h0.move t.row t.bot _ (by omega) (by omega) (by omega)).colp 0 (by omega) rfl
  ·exact h0
 obtain ⟨q1,q2⟩:=h.gat t.row hr;refine rtk_ite (fun _=>?_) fun _=>?_
 ·exact h0.rowT _ hr.1 _ (by show (pushV _ _ _ _).length=cn;rw [pushV_len];exact q1) (pushV_right q2 _ _ _ h.back)
 refine rtk_ite (fun _=>?_) fun _=>?_
 ·exact h0.rowT _ hr.1 _ (by show (pullV _ _ _ _).length=cn;rw [pullV_len _ _ _ _ (by rw [q1];omega)];exact q1) (pullV_right q2 _ _ _ h.back)
 refine rtk_ite (fun _=>?_) fun _=>?_
 ·exact h0.clear _ _ _ hr (by omega)
 refine rtk_ite (fun _=>?_) fun _=>?_
 ·exact h0.move t.top t.bot _ hb.1 hb.2.2 hb.2.1
 refine rtk_ite (fun _=>?_) fun _=>?_
 ·exact h0.move t.top t.bot _ hb.1 hb.2.2 hb.2.1
 refine rtk_ite (fun _=>?_) fun _=>?_
 ·refine h.style _ ?_
  unfold stylN;split
  ·rfl
  ·exact styledF_ok _ _ h.st
 refine rtk_ite (fun _=>?_) fun _=>?_
 ·refine rtk_ite (fun hx=>?_) fun _=>?_
  ·have hx':parN p 0 1-1<parN p 1 (t.g.length:Int)-1/\parN p 1 (t.g.length:Int)-1<=(t.g.length:Int)-1:=hx
   have k:=h0.cur 0 0 (by omega) (by omega);exact ⟨⟨k.w.gc,k.w.oc,k.w.c,k.w.n,k.w.m,k.w.n1,k.w.gx,k.w.ox,k.w.row,k.w.col,⟨by show (0:Int)<=parN p 0 1-1;omega,by show parN p 0 1-1<=parN p 1 (t.g.length:Int)-1;omega,by show parN p 1 (t.g.length:Int)-1<N;omega⟩⟩,k.gr,k.xr,k.st,k.ss,k.sr,k.sc,(fun e=>by cases e),by show ¬ (parN p 0 1-1=parN p 1 (t.g.length:Int)-1/\1<N);omega,k.ti,k.pa,k.fe⟩
  ·exact h0
 ·exact h
theorem RtK.mode {t:Te} {cn N:Nat} (h:RtK t cn N) (on:Bool) (m:Int):RtK (modeT on t m) cn N:=by
 unfold modeT;split
 ·exact ⟨⟨h.w.gc,h.w.oc,h.w.c,h.w.n,h.w.m,h.w.n1,h.w.gx,h.w.ox,h.w.row,h.w.col,h.w.tb⟩,h.gr,h.xr,h.st,h.ss,h.sr,h.sc,h.fu,h.tb,h.ti,h.pa,h.fe⟩
 split
 ·exact ⟨⟨h.w.gc,h.w.oc,h.w.c,h.w.n,h.w.m,h.w.n1,h.w.gx,h.w.ox,h.w.row,h.w.col,h.w.tb⟩,h.gr,h.xr,h.st,h.ss,h.sr,h.sc,h.fu,h.tb,h.ti,h.pa,h.fe⟩
 split
 ·split
  ·exact h
  ·have hx:∀ i,i<N->(rowX (if on=true then newR t.gc.toNat t.g.length else t.o) i).length=cn/\Right (rowX (if on=true then newR t.gc.toNat t.g.length else t.o) i):=fun i hi=>by
    split
    ·rw [h.w.gc,h.w.n,Int.toNat_natCast,newR_rows _ _ _ hi];exact ⟨rowL_len _ _,rowL_right _ _ rfl⟩
    ·exact ⟨h.w.ox i hi,h.xr i hi⟩
   have hl:(if on=true then newR t.gc.toNat t.g.length else t.o).length=N:=by
    split
    ·simp [newR];exact h.w.n
    ·exact h.w.m
   exact ⟨⟨h.w.oc,h.w.gc,h.w.c,hl,h.w.n,h.w.n1,fun i hi=>(hx i hi).1,h.w.gx,h.w.row,h.w.col,h.w.tb⟩,fun i hi=>(hx i hi).2,h.gr,h.st,h.ss,h.sr,h.sc,h.fu,h.tb,h.ti,h.pa,h.fe⟩
 ·exact h
theorem RtK.modes {cn N:Nat} (on:Bool):∀ (p:List Int) {t:Te},RtK t cn N->RtK (p.foldl (modeT on) t) cn N
 | [],_,h=>h
 | m::p,_,h=>RtK.modes on p (h.mode on m)
def actB (a:Ac):Bool:=runeOk a.rune && (decide (a.params.length<=16) && (decide (a.mark=0\/a.mark=63) && ((decide (a.text.length<=40) && runesB a.text) && paramsB a.params)))
theorem paramsB_all {l:List Int} (h:paramsB l=true):∀ x∈l,0<=x/\x<=9999:=fun x hx=>by
 have:=List.all_eq_true.1 h x hx
 simpa using this
theorem RtK.doT {t:Te} {cn N:Nat} (h:RtK t cn N) (a:Ac) (ha:actB a=true):RtK (doT t a) cn N:=by
 unfold actB at ha;simp only [Bool.and_eq_true,decide_eq_true_eq] at ha;obtain ⟨_,_,_,⟨h4,h5⟩,h6⟩:=ha;unfold Go.Proofs.YtgcnmjjlmcnllaaGreatDoor.doT;split
 ·exact h.print _
 split
 ·exact h.control _
 split
 ·exact h.escape _
 split
 ·split
  ·exact h.list _ _ (paramsB_all h6)
  ·split
   ·exact RtK.modes _ _ h
   ·exact h
 split
 ·exact ⟨⟨h.w.gc,h.w.oc,h.w.c,h.w.n,h.w.m,h.w.n1,h.w.gx,h.w.ox,h.w.row,h.w.col,h.w.tb⟩,h.gr,h.xr,h.st,h.ss,h.sr,h.sc,h.fu,h.tb,⟨h4,h5⟩,h.pa,h.fe⟩
 ·exact h
def moveB (xs:List Ce) (f t:Int) (s:St):Bool:=rowOkB xs && (s.ok && (decide (0<=f) && (decide (f<xs.length) && (decide (0<=t) && decide (t<=xs.length)))))
theorem moveB_iff (xs:List Ce) (f t:Int) (s:St):moveB xs f t s=true ↔ rowOkB xs=true/\s.ok=true/\(0<=f/\f<=xs.length-1)/\(0<=t/\t<=xs.length):=by
 unfold moveB;simp only [Bool.and_eq_true,decide_eq_true_eq]
 constructor
 ·rintro ⟨a,b,c,d,e,f⟩;exact ⟨a,b,⟨c,by omega⟩,e,f⟩
 ·rintro ⟨a,b,⟨c,d⟩,e,f⟩;exact ⟨a,b,c,by omega,e,f⟩
theorem moveOk_any (v:Value) (xs:List Ce) (f t:Int) (s:St) (w:World) (hS:SpansAt w) (hv:SlC w v xs) (hl:xs.length<=1048576) :
  Calls Tryz.prog 254 #[v,.int .i64 f,.int .i64 t,stV s] w fun e w'=>e=.returned (.bool (moveB xs f t s))/\Below w.heap.size w w':=by
 have h2:=StAt.new w s 28;have hbA:=bal' w (Obj.cells #[.int .i64 s.fore,.int .i64 s.back,.bool s.bold,.bool s.under,.bool s.turned] 28);have hOK:=implStyleOk_any s;have hro:=implRowOk_any v xs _ (hS.below hbA hS.lt) (hv.below hbA) hl;have hM:Hid (moveB xs f t s=(rowOkB xs && (s.ok && (decide (0<=f) && (decide (f<xs.length) && (decide (0<=t) && decide (t<=xs.length))))))):=rfl;obtain ⟨a,c,rfl,hcp,_⟩:=id hv;clear hv;unfold stV at *;generalize rowOkB xs=rb at *;generalize s.ok=so at *;generalize xs.length=n at *;go_enter Tryz.func254,Tryz.ntmps254;go_wp2_with fail;refine hro.mono ?_;rintro e w2 ⟨rfl,hb2⟩;have kb:=hbA.trans (hb2.mono hbA.size);have hs:=h2.below hb2;clear hbA hb2 h2 hro
 cases rb
 ·clear hOK
  go_wp2;go_ret;exact ⟨by rw [hM.out];rfl,kb⟩
 ·obtain ⟨_,⟨c0,c1,c2,c3,c4⟩,_⟩:=id hs
  go_wp2_with fail;refine (hOK _).mono ?_;rintro e w3 ⟨rfl,hb3⟩;have kb:=kb.trans (hb3.mono kb.size);clear hb3 hOK c0 c1 c2 c3 c4 hs
  cases so
  ·go_wp2
   go_ret;exact ⟨by rw [hM.out];rfl,kb⟩
  ·by_cases h1:0<=f
   ·by_cases h2:f<(n:Int)
    ·by_cases h3:0<=t
     ·have hM2:Hid (moveB xs f t s=decide (t<=(n:Int))):=by show _=_;rw [hM.out,decide_eq_true h1,decide_eq_true h2,decide_eq_true h3];rfl
      clear hM;go_wp2;go_ret;exact ⟨by rw [hM2.out];first|rfl|(simp;done),kb⟩
     ·have hM2:Hid (moveB xs f t s=false):=by show _=_;rw [hM.out,decide_eq_true h1,decide_eq_true h2,decide_eq_false h3];rfl
      clear hM;go_wp2;go_ret;exact ⟨by rw [hM2.out];first|rfl|(simp;done),kb⟩
    ·have hM2:Hid (moveB xs f t s=false):=by show _=_;rw [hM.out,decide_eq_true h1,decide_eq_false h2];rfl
     clear hM;go_wp2;go_ret;exact ⟨by rw [hM2.out];first|rfl|(simp;done),kb⟩
   ·have hM2:Hid (moveB xs f t s=false):=by show _=_;rw [hM.out,decide_eq_false h1];rfl
    clear hM;go_wp2;go_ret;exact ⟨by rw [hM2.out];first|rfl|(simp;done),kb⟩
theorem wind_move (Q:List Ce) (q p k:Nat) (h1:q+k<=Q.length) (h2:p+k<=Q.length):windL Q q ((Q.drop p).take k)=moveL Q q p k:=by
 have hl:((Q.drop p).take k).length=k:=by rw [List.length_take,List.length_drop];omega
 refine ext_atC _ _ (by rw [windL_len _ _ _ (by rw [hl];exact h1),moveL_len]) fun i hi=>?_
 rw [windL_len _ _ _ (by rw [hl];exact h1)] at hi
 rw [windL_at _ _ _ (by rw [hl];exact h1),moveL_at _ _ _ _ _ hi,hl]
 by_cases c:q<=i/\i<q+k
 ·rw [if_pos c,if_pos c,atC_take _ _ _ (by omega),atC_drop]
 ·rw [if_neg c,if_neg c]
theorem pushL_V (xs:List Ce) (p n:Nat) (s:St):pushL xs p n s=pushV xs p n s:=rfl
theorem implPushed_any (v:Value) (xs:List Ce) (f t:Int) (s:St) (w:World) (hS:SpansAt w) (hv:SlC w v xs) (hl:xs.length<=1048576) :
  Calls Tryz.prog 238 #[v,.int .i64 f,.int .i64 t,stV s] w fun e w'=>∃ u,e=.returned u/\OwnC w' w.heap.size u (pushedV xs f t s)/\Below w.heap.size w w':=by
 have h2:=StAt.new w s 28;have hbA:=bal' w (Obj.cells #[.int .i64 s.fore,.int .i64 s.back,.bool s.bold,.bool s.under,.bool s.turned] 28);have hno:∀ W:World,OwnC W w.heap.size (.slice none 0 0) []:=fun W=>ownC_none W _
 have hmo:=moveOk_any v xs f t s _ (hS.below hbA hS.lt) (hv.below hbA) hl;have hv1:=hv.below hbA;have hmi:=moveB_iff xs f t s;obtain ⟨a,c,rfl,hcp,_⟩:=id hv;unfold stV at *;obtain ⟨_,⟨c0,c1,c2,c3,c4⟩,_⟩:=id h2;go_enter Tryz.func238,Tryz.ntmps238;go_wp2_with fail;refine hmo.mono ?_;rintro e w2 ⟨rfl,hb2⟩;have kb:=hbA.trans (hb2.mono hbA.size);have hs:=h2.below hb2;have hv2:=hv1.below hb2;clear hbA hb2 h2 hmo hv1 hv c0 c1 c2 c3 c4
 cases hm:moveB xs f t s
 ·have hV:Hid (pushedV xs f t s=[]):=by show _=_;unfold pushedV;rw [if_neg (fun h=>by have:=hmi.2 h;rw [hm] at this;cases this)]
  clear hmi hm;go_wp2;go_ret;exact ⟨_,rfl,by rw [hV.out];exact hno _,kb⟩
 ·obtain ⟨hr,ho,h1,h3⟩:=hmi.1 hm
  obtain ⟨p,rfl⟩:∃ p:Nat,f=p:=⟨f.toNat,by omega⟩;obtain ⟨n,rfl⟩:∃ n:Nat,t=n:=⟨t.toNat,by omega⟩;have hV:Hid (pushedV xs p n s=pushV xs p n s):=by show _=_;unfold pushedV;rw [if_pos ⟨hr,ho,h1,h3⟩];simp [pushL_V]
  obtain ⟨hx60,hR⟩:=(right_iff xs).1 hr;have hcop:=copied_any _ xs _ hv2 (by omega);have hlt3:=hs.1;have hpx:p<xs.length:=by omega
  have hway:=fun m=>push_way hR p n m s ho hpx
  clear hr hmi hm;generalize hN:xs.length=N at *;have hnN:n<=N:=by omega
  have hw0:IntKind.i64.wrap ((N:Int)-(p:Int))=(N:Int)-(p:Int):=by simp [IntKind.wrap_i64];omega
  go_wp2_with fail;refine hcop.mono ?_;rintro e w4 ⟨g,rfl,ho4,hb4⟩;have kb4:=kb.trans (hb4.mono kb.size);have hs4:=hs.below hb4;have hgl:=(ho4.lt g rfl).1;have ho4:=ho4.low kb.size;have hBg:w.heap.size≠g:=by omega
  clear hcop hb4 hs hv2;obtain ⟨m,hm⟩:∃ m,m=min n (N-p):=⟨_,rfl⟩;have hmI:(if (N:Int)-(p:Int)<(n:Int) then (N:Int)-(p:Int) else (n:Int))=(m:Int):=by split<;>omega
  by_cases h0:n=0
  ·have hm0:m=0:=by omega
   have hV2:Hid (pushedV xs p n s=xs):=by show _=_;rw [hV.out,pushV,if_pos h0]
   subst hm0;clear hway hV hm h0 hR;go_wp2;go_ret;exact ⟨_,rfl,by rw [hV2.out];exact ho4,kb4⟩
  ·have hway:=hway m h0 (by rw [hm])
   have hmp:0<m:=by omega
   have hmN:p+m<=N:=by omega
   have hmpi:(0:Int)<(m:Int):=by omega
   have hw1:IntKind.i64.wrap ((N:Int)-(m:Int))=(N:Int)-(m:Int):=by simp [IntKind.wrap_i64];omega
   have hw2:IntKind.i64.wrap ((p:Int)+(m:Int))=(p:Int)+(m:Int):=by simp [IntKind.wrap_i64];omega
   have hpa:=part_any w.heap.size g N N p xs w4 ho4 hN hR (by omega) (by omega);have hpb:=fun W h=>part_any w.heap.size g N N (N-m) (partW xs p) W h (by rw [partW_len];exact hN) (partW_right hR p) (by omega) (by omega)
   have eNm:((N-m:Nat):Int)=(N:Int)-(m:Int):=by omega
   have epm:((p+m:Nat):Int)=(p:Int)+(m:Int):=by omega
   have hQl:(partW (partW xs p) (N-m)).length=N:=by rw [partW_len,partW_len];exact hN
   have hcut2:=fun W=>cut_any g N N p (p+m) W (by omega) (by omega) (Nat.le_refl _)
   rw [eNm] at hpb
   rw [epm,show p+m-p=m by omega] at hcut2
   have hbo:=fun L W h1 h2 (h3:L.length=N)=>blankOut_box w.heap.size w.heap.size g N N p m m (p*7) L s W h1 hBg h2 h3 (by omega) (by omega) (by omega) rfl
   have hwm:=wind_move (partW (partW xs p) (N-m)) (p+m) p (N-m-p) (by rw [hQl];omega) (by rw [hQl];omega);have hml:(((partW (partW xs p) (N-m)).drop p).take (N-m-p)).length=N-m-p:=by rw [List.length_take,List.length_drop,hQl];omega
   have hmat:∀ i,i<N-m-p->atC (((partW (partW xs p) (N-m)).drop p).take (N-m-p)) i=atC (partW (partW xs p) (N-m)) (p+i):=fun i hi=>by rw [atC_take _ _ _ hi,atC_drop]

   have hfin:Hid (fillUp (windL (partW (partW xs p) (N-m)) (p+m) (((partW (partW xs p) (N-m)).drop p).take (N-m-p))) p (p+m) s=pushV xs p n s):=by show _=_;rw [hwm];exact hway
   have hwl:(windL (partW (partW xs p) (N-m)) (p+m) (((partW (partW xs p) (N-m)).drop p).take (N-m-p))).length=N:=by rw [windL_len _ _ _ (by rw [hml,hQl];omega)];exact hQl
   clear hway hm h0 hwm hnN;go_wp2_with fail;refine hpa.mono ?_;clear hpa;rintro e w5 ⟨rfl,ho5,hg5⟩;have kb5:=kb4.grown hg5 kb4.size (fun k hk=>by cases hk;exact Nat.le_trans kb.size hgl);have hs5:=hs4.grown hg5 (by simpa using Ne.symm hBg);clear ho4 hg5 hs4;go_wp2_with fail;refine (hpb _ ho5).mono ?_;clear hpb;rintro e w6 ⟨rfl,ho6,hg6⟩;have kb6:=kb5.grown hg6 kb5.size (fun k hk=>by cases hk;exact Nat.le_trans kb.size hgl);have hs6:=hs5.grown hg6 (by simpa using Ne.symm hBg);clear ho5 hg6 hs5;generalize hQ:partW (partW xs p) (N-m)=Q at *;generalize hM:(Q.drop p).take (N-m-p)=M at *;have hpm0:(0:Int)<=(p:Int)+(m:Int):=by omega
   have htn:((p:Int)+(m:Int)).toNat=p+m:=by omega
   have hpmN:(p:Int)+(m:Int)<=(N:Int):=by omega
   have hod:=ho6.below (bdr w6);have hsd:=hs6.below (bdr w6);have kbd:=kb6.trans ((bdr w6).mono kb6.size);have hnat:∀ i,i<N->CeAt w6.drew g (i*7) (atC Q i):=fun i hi=>hod.at hQl i hi
   by_cases hE:p+m=N
   ·have hcut:=fun W=>cut_none g N N p W (by omega) (Nat.le_refl _)
    have eNp:(N:Int)-(m:Int)=(p:Int):=by omega
    have hEt:(N=p+m)=True:=eq_true hE.symm;have hM0:M.length=0:=by rw [hml];omega
    have hz0:N-(p+m)=0:=by omega
    have hw3:IntKind.i64.wrap (p:Int)=(p:Int):=by simp [IntKind.wrap_i64];omega
    clear hmI hE;go_wp2
    go_region_held3 (fun _=>True) (trivial)
     (first
      | (go_at_call 219;refine (hcut _).mono ?_;rintro e wk ⟨rfl,hwk⟩;subst hwk)
      | (refine step_copy_oc (by rfl) _ _ (by rfl) w.heap.size g N N (p+m) Q M hod hQl (some ⟨g,0,none⟩) (some ⟨g,0,none⟩) 0 0 0 0 (by rfl) (by rfl) hM0 (by rw [hM0];omega) (fun h=>by rw [hM0] at h;exact absurd h (Nat.lt_irrefl 0)) ?_;intro w7 ho7 hg7))
    have hs7:=hsd.grown hg7 (by simpa using Ne.symm hBg);have kb7:=kbd.grown hg7 kbd.size (fun k hk=>by cases hk;exact Nat.le_trans kb.size hgl);have hod7:=ho7.below (bdr w7);have hsd7:=hs7.below (bdr w7);have kbd7:=kb7.trans ((bdr w7).mono kb7.size);have hcd:w7.drew.cell? ⟨w.heap.size,0,none⟩=some (.int .i64 s.fore)/\w7.drew.cell? ⟨w.heap.size,1,none⟩=some (.int .i64 s.back)/\w7.drew.cell? ⟨w.heap.size,2,none⟩=some (.bool s.bold)/\w7.drew.cell? ⟨w.heap.size,3,none⟩=some (.bool s.under)/\w7.drew.cell? ⟨w.heap.size,4,none⟩=some (.bool s.turned):=hsd7.2.1;have hbz:=hbo (windL Q (p+m) M) _ hsd7 hod7 hwl;obtain ⟨_,⟨c0,c1,c2,c3,c4⟩,_⟩:=id hs7;clear hbo hs7 hsd7 hod hsd kbd hg7 ho7 hmat hnat;go_wp2;clear c0 c1 c2 c3 c4
    go_region_held3 (fun W=>W.cell? ⟨w.heap.size,0,none⟩=some (.int .i64 s.fore)/\W.cell? ⟨w.heap.size,1,none⟩=some (.int .i64 s.back)/\W.cell? ⟨w.heap.size,2,none⟩=some (.bool s.bold)/\W.cell? ⟨w.heap.size,3,none⟩=some (.bool s.under)/\W.cell? ⟨w.heap.size,4,none⟩=some (.bool s.turned)) (first|with_reducible assumption)
     (first
      | (go_at_call 219;refine (hcut2 _).mono ?_;rintro e wk ⟨rfl,hwk⟩;subst hwk)
      | (go_at_call 206;refine hbz.mono ?_;rintro e wz ⟨rfl,hcz,hoz,hgz⟩))
    go_wp2;go_ret;rw [hfin.out] at hoz
    exact ⟨_,rfl,by rw [hV.out];exact hoz,kbd7.grown hgz kbd7.size (fun k hk=>by cases hk;exact Nat.le_trans kb.size hgl)⟩
   ·have hcut:=fun W=>cut_any g N N p (N-m) W (by omega) (by omega) (Nat.le_refl _)
    rw [eNm] at hcut
    have hEf:(N=p+m)=False:=eq_false (fun h=>hE h.symm);clear hmI;clear hE;go_wp2
    go_region_held3 (fun _=>True) (trivial)
     (first
      | (go_at_call 219;refine (hcut _).mono ?_;rintro e wk ⟨rfl,hwk⟩;subst hwk)
      | (refine step_copy_oc (by rfl) _ _ (by rfl) w.heap.size g N N (p+m) Q M hod hQl (some ⟨g,(p+m)*7,none⟩) (some ⟨g,p*7,none⟩) (N-(p+m)) (N-(p+m)) (N-m-p) (N-m-p) (by rfl) (by rfl) (by rw [hml,show N-(p+m)=N-m-p by omega];exact (Nat.min_self _).symm) (by rw [hml];omega) (fun _=>⟨rfl,g,p*7,rfl,fun i hi=>by rw [hml] at hi;rw [hmat i hi,<- Nat.add_mul];exact hnat _ (by omega)⟩) ?_;intro w7 ho7 hg7))
    have hs7:=hsd.grown hg7 (by simpa using Ne.symm hBg);have kb7:=kbd.grown hg7 kbd.size (fun k hk=>by cases hk;exact Nat.le_trans kb.size hgl);have hod7:=ho7.below (bdr w7);have hsd7:=hs7.below (bdr w7);have kbd7:=kb7.trans ((bdr w7).mono kb7.size);have hcd:w7.drew.cell? ⟨w.heap.size,0,none⟩=some (.int .i64 s.fore)/\w7.drew.cell? ⟨w.heap.size,1,none⟩=some (.int .i64 s.back)/\w7.drew.cell? ⟨w.heap.size,2,none⟩=some (.bool s.bold)/\w7.drew.cell? ⟨w.heap.size,3,none⟩=some (.bool s.under)/\w7.drew.cell? ⟨w.heap.size,4,none⟩=some (.bool s.turned):=hsd7.2.1;have hbz:=hbo (windL Q (p+m) M) _ hsd7 hod7 hwl;obtain ⟨_,⟨c0,c1,c2,c3,c4⟩,_⟩:=id hs7;clear hbo hs7 hsd7 hod hsd kbd hg7 ho7 hmat hnat;go_wp2;clear c0 c1 c2 c3 c4
    go_region_held3 (fun W=>W.cell? ⟨w.heap.size,0,none⟩=some (.int .i64 s.fore)/\W.cell? ⟨w.heap.size,1,none⟩=some (.int .i64 s.back)/\W.cell? ⟨w.heap.size,2,none⟩=some (.bool s.bold)/\W.cell? ⟨w.heap.size,3,none⟩=some (.bool s.under)/\W.cell? ⟨w.heap.size,4,none⟩=some (.bool s.turned)) (first|with_reducible assumption)
     (first
      | (go_at_call 219;refine (hcut2 _).mono ?_;rintro e wk ⟨rfl,hwk⟩;subst hwk)
      | (go_at_call 206;refine hbz.mono ?_;rintro e wz ⟨rfl,hcz,hoz,hgz⟩))
    go_wp2;go_ret;rw [hfin.out] at hoz
    exact ⟨_,rfl,by rw [hV.out];exact hoz,kbd7.grown hgz kbd7.size (fun k hk=>by cases hk;exact Nat.le_trans kb.size hgl)⟩
theorem pullL_V (xs:List Ce) (p n:Nat) (s:St):pullL xs p n s=pullV xs p n s:=rfl
theorem implPulled_any (v:Value) (xs:List Ce) (f t:Int) (s:St) (w:World) (hS:SpansAt w) (hv:SlC w v xs) (hl:xs.length<=1048576) :
  Calls Tryz.prog 240 #[v,.int .i64 f,.int .i64 t,stV s] w fun e w'=>∃ u,e=.returned u/\OwnC w' w.heap.size u (pulledV xs f t s)/\Below w.heap.size w w':=by
 have h2:=StAt.new w s 28;have hbA:=bal' w (Obj.cells #[.int .i64 s.fore,.int .i64 s.back,.bool s.bold,.bool s.under,.bool s.turned] 28);have hno:∀ W:World,OwnC W w.heap.size (.slice none 0 0) []:=fun W=>ownC_none W _
 have hmo:=moveOk_any v xs f t s _ (hS.below hbA hS.lt) (hv.below hbA) hl;have hv1:=hv.below hbA;have hmi:=moveB_iff xs f t s;obtain ⟨a,c,rfl,hcp,_⟩:=id hv;unfold stV at *;obtain ⟨_,⟨c0,c1,c2,c3,c4⟩,_⟩:=id h2;go_enter Tryz.func240,Tryz.ntmps240;go_wp2_with fail;refine hmo.mono ?_;rintro e w2 ⟨rfl,hb2⟩;have kb:=hbA.trans (hb2.mono hbA.size);have hs:=h2.below hb2;have hv2:=hv1.below hb2;clear hbA hb2 h2 hmo hv1 hv c0 c1 c2 c3 c4
 cases hm:moveB xs f t s
 ·have hV:Hid (pulledV xs f t s=[]):=by show _=_;unfold pulledV;rw [if_neg (fun h=>by have:=hmi.2 h;rw [hm] at this;cases this)]
  clear hmi hm;go_wp2;go_ret;exact ⟨_,rfl,by rw [hV.out];exact hno _,kb⟩
 ·obtain ⟨hr,ho,h1,h3⟩:=hmi.1 hm
  obtain ⟨p,rfl⟩:∃ p:Nat,f=p:=⟨f.toNat,by omega⟩;obtain ⟨n,rfl⟩:∃ n:Nat,t=n:=⟨t.toNat,by omega⟩;have hV:Hid (pulledV xs p n s=pullV xs p n s):=by show _=_;unfold pulledV;rw [if_pos ⟨hr,ho,h1,h3⟩];simp [pullL_V]
  obtain ⟨hx60,hR⟩:=(right_iff xs).1 hr;have hcop:=copied_any _ xs _ hv2 (by omega);have hlt3:=hs.1;have hpx:p<xs.length:=by omega
  have hway:=fun m=>pull_way hR p n m s hpx
  clear hr hmi hm;generalize hN:xs.length=N at *;have hnN:n<=N:=by omega
  have hw0:IntKind.i64.wrap ((N:Int)-(p:Int))=(N:Int)-(p:Int):=by simp [IntKind.wrap_i64];omega
  go_wp2_with fail;refine hcop.mono ?_;rintro e w4 ⟨g,rfl,ho4,hb4⟩;have kb4:=kb.trans (hb4.mono kb.size);have hs4:=hs.below hb4;have hgl:=(ho4.lt g rfl).1;have ho4:=ho4.low kb.size;have hBg:w.heap.size≠g:=by omega
  clear hcop hb4 hs hv2;obtain ⟨m,hm⟩:∃ m,m=min n (N-p):=⟨_,rfl⟩;have hmI:(if (N:Int)-(p:Int)<(n:Int) then (N:Int)-(p:Int) else (n:Int))=(m:Int):=by split<;>omega
  by_cases h0:n=0
  ·have hm0:m=0:=by omega
   have hV2:Hid (pulledV xs p n s=xs):=by show _=_;rw [hV.out,pullV,if_pos (by omega)]
   subst hm0;clear hway hV hm h0 hR;go_wp2;go_ret;exact ⟨_,rfl,by rw [hV2.out];exact ho4,kb4⟩
  ·have hway:=hway m h0 (by rw [hm])
   have hmp:0<m:=by omega
   have hmN:p+m<=N:=by omega
   have hmpi:(0:Int)<(m:Int):=by omega
   have hw1:IntKind.i64.wrap ((N:Int)-(m:Int))=(N:Int)-(m:Int):=by simp [IntKind.wrap_i64];omega
   have hw2:IntKind.i64.wrap ((p:Int)+(m:Int))=(p:Int)+(m:Int):=by simp [IntKind.wrap_i64];omega
   have hpa:=part_any w.heap.size g N N p xs w4 ho4 hN hR (by omega) (by omega);have hpb:=fun W h=>part_any w.heap.size g N N (p+m) (partW xs p) W h (by rw [partW_len];exact hN) (partW_right hR p) (by omega) (by omega)
   have eNm:((N-m:Nat):Int)=(N:Int)-(m:Int):=by omega
   have epm:((p+m:Nat):Int)=(p:Int)+(m:Int):=by omega
   have hQl:(partW (partW xs p) (p+m)).length=N:=by rw [partW_len,partW_len];exact hN
   have hcut2:=fun W=>cut_any g N N (N-m) N W (by omega) (by omega) (Nat.le_refl _)
   rw [epm] at hpb
   rw [eNm,show N-(N-m)=m by omega] at hcut2
   have hbo:=fun L W h1 h2 (h3:L.length=N)=>blankOut_box w.heap.size w.heap.size g N N (N-m) m m ((N-m)*7) L s W h1 hBg h2 h3 (by omega) (by omega) (by omega) rfl
   have hwm:=wind_move (partW (partW xs p) (p+m)) p (p+m) (N-m-p) (by rw [hQl];omega) (by rw [hQl];omega);have hml:(((partW (partW xs p) (p+m)).drop (p+m)).take (N-m-p)).length=N-m-p:=by rw [List.length_take,List.length_drop,hQl];omega
   have hmat:∀ i,i<N-m-p->atC (((partW (partW xs p) (p+m)).drop (p+m)).take (N-m-p)) i=atC (partW (partW xs p) (p+m)) (p+m+i):=fun i hi=>by rw [atC_take _ _ _ hi,atC_drop]

   have hfin:Hid (fillUp (windL (partW (partW xs p) (p+m)) p (((partW (partW xs p) (p+m)).drop (p+m)).take (N-m-p))) (N-m) (N-m+m) s=pullV xs p n s):=by show _=_;rw [hwm,show N-m+m=N by omega];exact hway
   have hwl:(windL (partW (partW xs p) (p+m)) p (((partW (partW xs p) (p+m)).drop (p+m)).take (N-m-p))).length=N:=by rw [windL_len _ _ _ (by rw [hml,hQl];omega)];exact hQl
   clear hway hm h0 hwm hnN;go_wp2_with fail;refine hpa.mono ?_;clear hpa;rintro e w5 ⟨rfl,ho5,hg5⟩;have kb5:=kb4.grown hg5 kb4.size (fun k hk=>by cases hk;exact Nat.le_trans kb.size hgl);have hs5:=hs4.grown hg5 (by simpa using Ne.symm hBg);clear ho4 hg5 hs4;go_wp2_with fail;refine (hpb _ ho5).mono ?_;clear hpb;rintro e w6 ⟨rfl,ho6,hg6⟩;have kb6:=kb5.grown hg6 kb5.size (fun k hk=>by cases hk;exact Nat.le_trans kb.size hgl);have hs6:=hs5.grown hg6 (by simpa using Ne.symm hBg);clear ho5 hg6 hs5;generalize hQ:partW (partW xs p) (p+m)=Q at *;generalize hM:(Q.drop (p+m)).take (N-m-p)=M at *;have hpm0:(0:Int)<=(p:Int)+(m:Int):=by omega
   have htn:((p:Int)+(m:Int)).toNat=p+m:=by omega
   have hpmN:(p:Int)+(m:Int)<=(N:Int):=by omega
   have hod:=ho6.below (bdr w6);have hsd:=hs6.below (bdr w6);have kbd:=kb6.trans ((bdr w6).mono kb6.size);have hnat:∀ i,i<N->CeAt w6.drew g (i*7) (atC Q i):=fun i hi=>hod.at hQl i hi
   by_cases hE:p+m=N
   ·have hcut:=fun W=>cut_none g N N p W (by omega) (Nat.le_refl _)
    have eNp:(N:Int)-(m:Int)=(p:Int):=by omega
    have hEt:(N=p+m)=True:=eq_true hE.symm;have hM0:M.length=0:=by rw [hml];omega
    have hz0:N-(p+m)=0:=by omega
    have hw3:IntKind.i64.wrap (p:Int)=(p:Int):=by simp [IntKind.wrap_i64];omega
    rw [eNp] at hcut2
    clear hmI hE;go_wp2
    go_region_held3 (fun _=>True) (trivial)
     (first
      | (go_at_call 219;refine (hcut _).mono ?_;rintro e wk ⟨rfl,hwk⟩;subst hwk)
      | (refine step_copy_oc (by rfl) _ _ (by rfl) w.heap.size g N N p Q M hod hQl (some ⟨g,0,none⟩) (some ⟨g,0,none⟩) 0 0 0 0 (by rfl) (by rfl) hM0 (by rw [hM0];omega) (fun h=>by rw [hM0] at h;exact absurd h (Nat.lt_irrefl 0)) ?_;intro w7 ho7 hg7))
    have hs7:=hsd.grown hg7 (by simpa using Ne.symm hBg);have kb7:=kbd.grown hg7 kbd.size (fun k hk=>by cases hk;exact Nat.le_trans kb.size hgl);have hod7:=ho7.below (bdr w7);have hsd7:=hs7.below (bdr w7);have kbd7:=kb7.trans ((bdr w7).mono kb7.size);have hcd:w7.drew.cell? ⟨w.heap.size,0,none⟩=some (.int .i64 s.fore)/\w7.drew.cell? ⟨w.heap.size,1,none⟩=some (.int .i64 s.back)/\w7.drew.cell? ⟨w.heap.size,2,none⟩=some (.bool s.bold)/\w7.drew.cell? ⟨w.heap.size,3,none⟩=some (.bool s.under)/\w7.drew.cell? ⟨w.heap.size,4,none⟩=some (.bool s.turned):=hsd7.2.1;have hbz:=hbo (windL Q p M) _ hsd7 hod7 hwl;obtain ⟨_,⟨c0,c1,c2,c3,c4⟩,_⟩:=id hs7;clear hbo hs7 hsd7 hod hsd kbd hg7 ho7 hmat hnat;go_wp2;clear c0 c1 c2 c3 c4
    go_region_held3 (fun W=>W.cell? ⟨w.heap.size,0,none⟩=some (.int .i64 s.fore)/\W.cell? ⟨w.heap.size,1,none⟩=some (.int .i64 s.back)/\W.cell? ⟨w.heap.size,2,none⟩=some (.bool s.bold)/\W.cell? ⟨w.heap.size,3,none⟩=some (.bool s.under)/\W.cell? ⟨w.heap.size,4,none⟩=some (.bool s.turned)) (first|with_reducible assumption)
     (first
      | (go_at_call 219;refine (hcut2 _).mono ?_;rintro e wk ⟨rfl,hwk⟩;subst hwk)
      | (go_at_call 206;refine hbz.mono ?_;rintro e wz ⟨rfl,hcz,hoz,hgz⟩))
    go_wp2;go_ret;rw [hfin.out] at hoz
    exact ⟨_,rfl,by rw [hV.out];exact hoz,kbd7.grown hgz kbd7.size (fun k hk=>by cases hk;exact Nat.le_trans kb.size hgl)⟩
   ·have hcut:=fun W=>cut_any g N N p (N-m) W (by omega) (by omega) (Nat.le_refl _)
    rw [eNm] at hcut
    have hEf:(N=p+m)=False:=eq_false (fun h=>hE h.symm);clear hmI;clear hE;go_wp2
    go_region_held3 (fun _=>True) (trivial)
     (first
      | (go_at_call 219;refine (hcut _).mono ?_;rintro e wk ⟨rfl,hwk⟩;subst hwk)
      | (refine step_copy_oc (by rfl) _ _ (by rfl) w.heap.size g N N p Q M hod hQl (some ⟨g,p*7,none⟩) (some ⟨g,(p+m)*7,none⟩) (N-m-p) (N-m-p) (N-(p+m)) (N-(p+m)) (by rfl) (by rfl) (by rw [hml,show N-(p+m)=N-m-p by omega];exact (Nat.min_self _).symm) (by rw [hml];omega) (fun _=>⟨rfl,g,(p+m)*7,rfl,fun i hi=>by rw [hml] at hi;rw [hmat i hi,<- Nat.add_mul];exact hnat _ (by omega)⟩) ?_;intro w7 ho7 hg7))
    have hs7:=hsd.grown hg7 (by simpa using Ne.symm hBg);have kb7:=kbd.grown hg7 kbd.size (fun k hk=>by cases hk;exact Nat.le_trans kb.size hgl);have hod7:=ho7.below (bdr w7);have hsd7:=hs7.below (bdr w7);have kbd7:=kb7.trans ((bdr w7).mono kb7.size);have hcd:w7.drew.cell? ⟨w.heap.size,0,none⟩=some (.int .i64 s.fore)/\w7.drew.cell? ⟨w.heap.size,1,none⟩=some (.int .i64 s.back)/\w7.drew.cell? ⟨w.heap.size,2,none⟩=some (.bool s.bold)/\w7.drew.cell? ⟨w.heap.size,3,none⟩=some (.bool s.under)/\w7.drew.cell? ⟨w.heap.size,4,none⟩=some (.bool s.turned):=hsd7.2.1;have hbz:=hbo (windL Q p M) _ hsd7 hod7 hwl;obtain ⟨_,⟨c0,c1,c2,c3,c4⟩,_⟩:=id hs7;clear hbo hs7 hsd7 hod hsd kbd hg7 ho7 hmat hnat;go_wp2;clear c0 c1 c2 c3 c4
    go_region_held3 (fun W=>W.cell? ⟨w.heap.size,0,none⟩=some (.int .i64 s.fore)/\W.cell? ⟨w.heap.size,1,none⟩=some (.int .i64 s.back)/\W.cell? ⟨w.heap.size,2,none⟩=some (.bool s.bold)/\W.cell? ⟨w.heap.size,3,none⟩=some (.bool s.under)/\W.cell? ⟨w.heap.size,4,none⟩=some (.bool s.turned)) (first|with_reducible assumption)
     (first
      | (go_at_call 219;refine (hcut2 _).mono ?_;rintro e wk ⟨rfl,hwk⟩;subst hwk)
      | (go_at_call 206;refine hbz.mono ?_;rintro e wz ⟨rfl,hcz,hoz,hgz⟩))
    go_wp2;go_ret;rw [hfin.out] at hoz
    exact ⟨_,rfl,by rw [hV.out];exact hoz,kbd7.grown hgz kbd7.size (fun k hk=>by cases hk;exact Nat.le_trans kb.size hgl)⟩
end Go.Proofs.YtgcnmjjlmcnllaaGreatDoor
namespace Go.Proofs.YtgcnmjjlmcnllaaGreatDoor
set_option maxRecDepth 20000
set_option maxHeartbeats 16000000
open Go.ChangeShapes Go.WideShapes Go.ChangeAt Go.RowKit
open Go.Maps (Keyed)
def Chg (f B:Nat) (n:Int) (g:St->St):Prop:=∀ (s:St) (w:World),StAt w B s ->
 Calls Tryz.prog f #[.int .i64 n,.pointer (some ⟨B,0,none⟩)] w fun e w'=>e=.returned (.tuple #[])/\StAt w' B (g s)/\w.grownBy w' (some B)
theorem chg_fore (B:Nat) (n:Int) (hn:30<=n/\n<=37):Chg 255 B n (fun s=>{ s with fore:=n-29 }):=by
 intro s w k;obtain ⟨h1,h2⟩:=hn;have k':=k.fore (n-30+1);obtain ⟨_,⟨c0,c1,c2,c3,c4⟩,⟨z0,z1,z2,z3,z4⟩⟩:=k;have e:n-30+1=n-29:=by omega
 go_enter Tryz.func255,Tryz.ntmps255;go_wp2;go_end0;exact ⟨rfl,by rw [<- e];exact k',setCell_gr _ _ _ _⟩
theorem chg_back (B:Nat) (n:Int) (hn:40<=n/\n<=47):Chg 256 B n (fun s=>{ s with back:=n-39 }):=by
 intro s w k;obtain ⟨h1,h2⟩:=hn;have k':=k.back (n-40+1);obtain ⟨_,⟨c0,c1,c2,c3,c4⟩,⟨z0,z1,z2,z3,z4⟩⟩:=k;have e:n-40+1=n-39:=by omega
 go_enter Tryz.func256,Tryz.ntmps256;go_wp2;go_end0;exact ⟨rfl,by rw [<- e];exact k',setCell_gr _ _ _ _⟩
theorem chg_zero (B:Nat) (n:Int):Chg 257 B n (fun _=>St.zero):=by
 intro s w k;have k':=k.put St.zero;have g':=putSt_grown w B St.zero;obtain ⟨_,⟨c0,c1,c2,c3,c4⟩,⟨z0,z1,z2,z3,z4⟩⟩:=k;simp only [putSt,St.zero] at k' g';go_enter Tryz.func257,Tryz.ntmps257;go_wp2;go_end0;exact ⟨rfl,k',g'⟩
theorem chg_bold (B:Nat) (n:Int):Chg 258 B n (fun s=>{ s with bold:=true }):=by
 intro s w k;have k':=k.bold true;obtain ⟨_,⟨c0,c1,c2,c3,c4⟩,⟨z0,z1,z2,z3,z4⟩⟩:=k;go_enter Tryz.func258,Tryz.ntmps258;go_wp2;go_end0;exact ⟨rfl,k',setCell_gr _ _ _ _⟩
theorem chg_unbold (B:Nat) (n:Int):Chg 259 B n (fun s=>{ s with bold:=false }):=by
 intro s w k;have k':=k.bold false;obtain ⟨_,⟨c0,c1,c2,c3,c4⟩,⟨z0,z1,z2,z3,z4⟩⟩:=k;go_enter Tryz.func259,Tryz.ntmps259;go_wp2;go_end0;exact ⟨rfl,k',setCell_gr _ _ _ _⟩
theorem chg_under (B:Nat) (n:Int):Chg 260 B n (fun s=>{ s with under:=true }):=by
 intro s w k;have k':=k.under true;obtain ⟨_,⟨c0,c1,c2,c3,c4⟩,⟨z0,z1,z2,z3,z4⟩⟩:=k;go_enter Tryz.func260,Tryz.ntmps260;go_wp2;go_end0;exact ⟨rfl,k',setCell_gr _ _ _ _⟩
theorem chg_ununder (B:Nat) (n:Int):Chg 261 B n (fun s=>{ s with under:=false }):=by
 intro s w k;have k':=k.under false;obtain ⟨_,⟨c0,c1,c2,c3,c4⟩,⟨z0,z1,z2,z3,z4⟩⟩:=k;go_enter Tryz.func261,Tryz.ntmps261;go_wp2;go_end0;exact ⟨rfl,k',setCell_gr _ _ _ _⟩
theorem chg_turned (B:Nat) (n:Int):Chg 262 B n (fun s=>{ s with turned:=true }):=by
 intro s w k;have k':=k.turned true;obtain ⟨_,⟨c0,c1,c2,c3,c4⟩,⟨z0,z1,z2,z3,z4⟩⟩:=k;go_enter Tryz.func262,Tryz.ntmps262;go_wp2;go_end0;exact ⟨rfl,k',setCell_gr _ _ _ _⟩
theorem chg_unturned (B:Nat) (n:Int):Chg 263 B n (fun s=>{ s with turned:=false }):=by
 intro s w k;have k':=k.turned false;obtain ⟨_,⟨c0,c1,c2,c3,c4⟩,⟨z0,z1,z2,z3,z4⟩⟩:=k;go_enter Tryz.func263,Tryz.ntmps263;go_wp2;go_end0;exact ⟨rfl,k',setCell_gr _ _ _ _⟩
theorem chg_fore0 (B:Nat) (n:Int):Chg 264 B n (fun s=>{ s with fore:=0 }):=by
 intro s w k;have k':=k.fore 0;obtain ⟨_,⟨c0,c1,c2,c3,c4⟩,⟨z0,z1,z2,z3,z4⟩⟩:=k;go_enter Tryz.func264,Tryz.ntmps264;go_wp2;go_end0;exact ⟨rfl,k',setCell_gr _ _ _ _⟩
theorem chg_back0 (B:Nat) (n:Int):Chg 265 B n (fun s=>{ s with back:=0 }):=by
 intro s w k;have k':=k.back 0;obtain ⟨_,⟨c0,c1,c2,c3,c4⟩,⟨z0,z1,z2,z3,z4⟩⟩:=k;go_enter Tryz.func265,Tryz.ntmps265;go_wp2;go_end0;exact ⟨rfl,k',setCell_gr _ _ _ _⟩

/-! ### the map -/
def clo (f B:Nat):Value:=.func (.func f) #[] #[.pointer (some ⟨B,0,none⟩)]
def heldR (v:Value):Option (DataW Value×List MemPlace):=some (.held v,[])
def CH:List (Int×Nat):=[(0,257),(1,258),(22,259),(4,260),(24,261),(7,262),(27,263),
 (30,255),(31,255),(32,255),(33,255),(34,255),(35,255),(36,255),(37,255),(39,264),
 (40,256),(41,256),(42,256),(43,256),(44,256),(45,256),(46,256),(47,256),(49,265)]
def mapD (B:Nat) (l:List (Int×Nat)):DataW Value:=l.foldl (fun D p=>D.put (.int .i64 p.1) (.held (clo p.2 B))) (.map [])
theorem fold_miss (B:Nat) (n:Int) (l:List (Int×Nat)):∀ D:DataW Value,(∀ p∈l,n≠p.1) ->
  Maps.has (l.foldl (fun D p=>D.put (.int .i64 p.1) (.held (clo p.2 B))) D) (.int .i64 n)=Maps.has D (.int .i64 n)/\∀ z,(l.foldl (fun D p=>D.put (.int .i64 p.1) (.held (clo p.2 B))) D).atKey (.int .i64 n) z=D.atKey (.int .i64 n) z:=by
 induction l with
 | nil=>intro D _;exact ⟨rfl,fun _=>rfl⟩
 | cons p l ih =>
  intro D h;have hne:Lit.int .i64 n≠Lit.int .i64 p.1:=fun e=>h p (by simp) (by injection e)
  obtain ⟨h1,h2⟩:=ih (D.put (.int .i64 p.1) (.held (clo p.2 B))) (fun q hq=>h q (by simp [hq]));exact ⟨h1.trans (Maps.has_put_other hne _),fun z=>(h2 z).trans (Maps.atKey_put_other hne _ z)⟩
def Look (B:Nat) (n:Int) (v:Value) (b:Bool):Prop:=Maps.has (mapD B CH) (.int .i64 n)=b/\(mapD B CH).atKey (.int .i64 n) (.held .nilFunc)=.held v
theorem look_miss (B:Nat) (n:Int) (h:∀ p∈CH,n≠p.1):Look B n .nilFunc false:=by
 obtain ⟨h1,h2⟩:=fold_miss B n CH (.map []) h;exact ⟨h1,h2 _⟩
end Go.Proofs.YtgcnmjjlmcnllaaGreatDoor
namespace Go.Proofs.YtgcnmjjlmcnllaaGreatDoor
set_option maxRecDepth 20000
set_option maxHeartbeats 16000000
open Go.ChangeShapes Go.WideShapes Go.ChangeAt Go.RowKit
open Go.Maps (Keyed)
def MK (Bm B B4:Nat) (s:St) (w0 W:World) (l:List (Int×Nat)):Prop :=
 W.ownsMap Tryz.prog 2 heldR Bm l.length (mapD B l)/\StAt W B s/\StAt W B4 St.zero/\Below w0.heap.size w0 W/\B<Bm/\B4<Bm/\w0.heap.size<=B/\B≠B4
theorem fold_isMap (B:Nat) (l:List (Int×Nat)):∀ D:DataW Value,Maps.IsMap D->Maps.IsMap (l.foldl (fun D p=>D.put (.int .i64 p.1) (.held (clo p.2 B))) D):=by
 induction l with
 | nil=>intro D h;exact h
 | cons p l ih=>intro D h;exact ih _ (h.put _ _)
def putD (B:Nat) (D:DataW Value) (p:Int×Nat):DataW Value:=D.put (.int .i64 p.1) (.held (clo p.2 B))
theorem look_hit (B i:Nat) (n:Int) (f:Nat) (h:CH=CH.take i++(n,f)::CH.drop (i+1)) (h2:∀ p∈CH.drop (i+1),n≠p.1):Look B n (clo f B) true:=by
 have e:mapD B CH=(CH.drop (i+1)).foldl (putD B) (putD B ((CH.take i).foldl (putD B) (DataW.map [])) (n,f)):=by
  show CH.foldl (putD B) (DataW.map [])=_
  conv=>lhs;rw [h,List.foldl_append,List.foldl_cons]
 have hm:Maps.IsMap ((CH.take i).foldl (putD B) (DataW.map [])):=fold_isMap B (CH.take i) (.map []) Maps.isMap_empty;obtain ⟨h3,h4⟩:=fold_miss B n (CH.drop (i+1)) (putD B ((CH.take i).foldl (putD B) (DataW.map [])) (n,f)) h2;refine ⟨?_,?_⟩
 ·rw [e];exact h3.trans (Maps.has_put_same (k:=.int .i64 n) hm trivial _)
 ·rw [e];exact (h4 _).trans (Maps.atKey_put_same (k:=.int .i64 n) hm trivial _ _)
theorem looks (B:Nat) (n:Int) :
  (Look B n .nilFunc false/\∀ s,paramV s n=s)\/(∃ f g,Look B n (clo f B) true/\Chg f B n g/\(∀ s,paramV s n=g s)/\f∈[255,256,257,258,259,260,261,262,263,264,265]):=by
 by_cases h0:n=0
 ·subst h0;exact .inr ⟨_,_,look_hit B 0 0 _ rfl (by decide),chg_zero B 0,fun _=>rfl,by simp⟩
 by_cases h1:n=1
 ·subst h1;exact .inr ⟨_,_,look_hit B 1 1 _ rfl (by decide),chg_bold B 1,fun _=>rfl,by simp⟩
 by_cases h2:n=22
 ·subst h2;exact .inr ⟨_,_,look_hit B 2 22 _ rfl (by decide),chg_unbold B 22,fun _=>rfl,by simp⟩
 by_cases h3:n=4
 ·subst h3;exact .inr ⟨_,_,look_hit B 3 4 _ rfl (by decide),chg_under B 4,fun _=>rfl,by simp⟩
 by_cases h4:n=24
 ·subst h4;exact .inr ⟨_,_,look_hit B 4 24 _ rfl (by decide),chg_ununder B 24,fun _=>rfl,by simp⟩
 by_cases h5:n=7
 ·subst h5;exact .inr ⟨_,_,look_hit B 5 7 _ rfl (by decide),chg_turned B 7,fun _=>rfl,by simp⟩
 by_cases h6:n=27
 ·subst h6;exact .inr ⟨_,_,look_hit B 6 27 _ rfl (by decide),chg_unturned B 27,fun _=>rfl,by simp⟩
 by_cases h7:n=39
 ·subst h7;exact .inr ⟨_,_,look_hit B 15 39 _ rfl (by decide),chg_fore0 B 39,fun _=>rfl,by simp⟩
 by_cases h8:n=49
 ·subst h8;exact .inr ⟨_,_,look_hit B 24 49 _ rfl (by decide),chg_back0 B 49,fun _=>rfl,by simp⟩
 by_cases h9:30<=n/\n<=37
 ·have hp:∀ s,paramV s n={ s with fore:=n-29 }:=fun s=>by
   unfold paramV;rw [if_neg (by omega),if_neg (by omega),if_neg (by omega),if_neg (by omega),if_pos (by omega)]
  refine .inr ⟨255,_,?_,chg_fore B n h9,hp,by simp⟩;rcases (show n=30\/n=31\/n=32\/n=33\/n=34\/n=35\/n=36\/n=37 from by omega) with rfl|rfl|rfl|rfl|rfl|rfl|rfl|rfl
  ·exact look_hit B 7 30 _ rfl (by decide)
  ·exact look_hit B 8 31 _ rfl (by decide)
  ·exact look_hit B 9 32 _ rfl (by decide)
  ·exact look_hit B 10 33 _ rfl (by decide)
  ·exact look_hit B 11 34 _ rfl (by decide)
  ·exact look_hit B 12 35 _ rfl (by decide)
  ·exact look_hit B 13 36 _ rfl (by decide)
  ·exact look_hit B 14 37 _ rfl (by decide)
 by_cases h10:40<=n/\n<=47
 ·have hp:∀ s,paramV s n={ s with back:=n-39 }:=fun s=>by
   unfold paramV;rw [if_neg (by omega),if_neg (by omega),if_neg (by omega),if_neg (by omega),if_neg (by omega),if_neg (by omega),if_pos (by omega)]
  refine .inr ⟨256,_,?_,chg_back B n h10,hp,by simp⟩;rcases (show n=40\/n=41\/n=42\/n=43\/n=44\/n=45\/n=46\/n=47 from by omega) with rfl|rfl|rfl|rfl|rfl|rfl|rfl|rfl
  ·exact look_hit B 16 40 _ rfl (by decide)
  ·exact look_hit B 17 41 _ rfl (by decide)
  ·exact look_hit B 18 42 _ rfl (by decide)
  ·exact look_hit B 19 43 _ rfl (by decide)
  ·exact look_hit B 20 44 _ rfl (by decide)
  ·exact look_hit B 21 45 _ rfl (by decide)
  ·exact look_hit B 22 46 _ rfl (by decide)
  ·exact look_hit B 23 47 _ rfl (by decide)
 refine .inl ⟨look_miss B n ?_,fun s=>?_⟩
 ·simp only [CH,List.mem_cons,List.not_mem_nil,or_false]
  rintro p (rfl|rfl|rfl|rfl|rfl|rfl|rfl|rfl|rfl|rfl|rfl|rfl|rfl|rfl|rfl|rfl|rfl|rfl|rfl|rfl|rfl|rfl|rfl|rfl|rfl)<;>simp only<;>omega
 ·unfold paramV
  rw [if_neg (by omega),if_neg (by omega),if_neg (by omega),if_neg (by omega),if_neg (by omega),if_neg (by omega),if_neg (by omega),if_neg (by omega)]
end Go.Proofs.YtgcnmjjlmcnllaaGreatDoor
namespace Go.Proofs.YtgcnmjjlmcnllaaGreatDoor
set_option maxRecDepth 20000
set_option maxHeartbeats 16000000
open Go.ChangeShapes Go.WideShapes Go.ChangeAt Go.RowKit
attribute [local go_sem ↓] Go.wp_at_zero Go.wp_at_succ
theorem wf64 (n:Int) (h:-9223372036854775808<=n/\n<=9223372036854775807):(Lit.int .i64 n).wf=true:=WalkArith.wf_i64 h
theorem implStyled_main (s:St) (bb off c:Nat) (xs:List Int) (w:World) (hbb:bb<w.heap.size) (hc:∀ j,j<xs.length->w.cell? ⟨bb,off+j,none⟩=some (.int .i64 (xs.getD j 0))) (hwf:∀ j,j<xs.length->(Lit.int .i64 (xs.getD j 0)).wf=true) (h0:0<xs.length) (h16:xs.length<=16) (hok:s.ok=true) :
  Calls Tryz.prog 241 #[stV s,.slice (some ⟨bb,off,none⟩) xs.length c] w fun e w'=>e=.returned (stV (styledF s xs))/\Below w.heap.size w w':=by
 have hxz:((xs.length:Int)==0)=false:=by simp;intro e;simp [e] at h0
 have hi16:¬ 16<(xs.length:Int):=by omega
 have hmm:=@run_makeMap Tryz.prog;have h2:=StAt.new w s 28;have h4:=StAt.new (w.alloc (Obj.cells #[.int .i64 s.fore,.int .i64 s.back,.bool s.bold,.bool s.under,.bool s.turned] 28)) St.zero 28;have h2':=h2.below (w':=(w.alloc (Obj.cells #[.int .i64 s.fore,.int .i64 s.back,.bool s.bold,.bool s.under,.bool s.turned] 28)).alloc (Obj.cells #[.int .i64 0,.int .i64 0,.bool false,.bool false,.bool false] 28)) ((Below.refl _ _).alloc (Nat.le_refl _) _);have e4:(w.alloc (Obj.cells #[.int .i64 s.fore,.int .i64 s.back,.bool s.bold,.bool s.under,.bool s.turned] 28)).heap.size=w.heap.size+1:=by simp
 rw [e4] at h4
 have hbA:Below w.heap.size w ((w.alloc (Obj.cells #[.int .i64 s.fore,.int .i64 s.back,.bool s.bold,.bool s.under,.bool s.turned] 28)).alloc (Obj.cells #[.int .i64 0,.int .i64 0,.bool false,.bool false,.bool false] 28)):=((Below.refl _ _).alloc (Nat.le_refl _) _).alloc (by simp) _;have hOK:=implStyleOk_any s;rw [hok] at hOK
 unfold stV at *;go_enter Tryz.func241,Tryz.ntmps241;go_wp2_with fail;refine (hOK _).mono ?_;rintro e w2 ⟨rfl,hb2⟩;have k2:=h2'.below hb2;have k4:=h4.below hb2;have kb:=hbA.trans (hb2.mono hbA.size);clear h2 h4 h2' e4 hbA hb2 hOK hok;have hk:=MK.start k2 k4 kb (Nat.le_refl _) (by omega);clear k2 k4 kb;go_wp2_with (refine MK.ins hk rfl _ _ _ rfl (by decide) rfl _ _ rfl (by decide) rfl ?_;clear hk;intro w' hk);have hk:MK w2.heap.size w.heap.size (w.heap.size+1) s w w' CH:=hk;generalize w2.heap.size=Bm at *;clear hmm;go_loopw [57] (fun i wr=>∃ j:Nat,i=.int .i64 j/\j<=xs.length/\MK Bm w.heap.size (w.heap.size+1) (styledF s (xs.take j)) w wr CH) (fun i _=>xs.length-(intOf i).toNat)
 case atStart=>exact ⟨0,rfl,Nat.zero_le _,hk⟩
 case round =>
  clear hk;obtain ⟨j,rfl,hj,hk⟩:=hrel
  by_cases hlt:j<xs.length
  ·have hji:(j:Int)<(xs.length:Int):=by omega
   have hj0:(0:Int)<=(j:Int):=by omega
   have hst:Hid (styledF s (xs.take (j+1))=paramV (styledF s (xs.take j)) (xs.getD j 0)):=by
    show _=_
    rw [List.take_succ_eq_append_getElem hlt,styledF,List.foldl_append]
    simp [styledF,hlt]
   have hcj:=(hk.2.2.2.1.cell (p:=⟨bb,off+j,none⟩) hbb).trans (hc j hlt);have hwj:=hwf j hlt;clear hc hwf;generalize xs.getD j 0=n at *;generalize styledF s (xs.take j)=y at *;rcases looks w.heap.size n with ⟨hlk,hpv⟩|⟨f,g,hlk,hcg,hpv,hf⟩
   ·have hst':Hid (styledF s (xs.take (j+1))=y):=by show _=_;rw [hst.out,hpv]
    clear hst hpv;go_wp2_with (refine MK.look hk rfl _ _ rfl rfl _ _ _ hlk rfl hwj ?_);go_roundw
    case rel=>exact ⟨j+1,by go_num,by omega,by rw [hst'.out];exact hk⟩
    case measure=>simp [intOf];omega
   ·have hst':Hid (styledF s (xs.take (j+1))=g y):=by show _=_;rw [hst.out,hpv]
    have hcl:=fun W h=>hcg y W h
    clear hst hpv hcg;simp only [List.mem_cons,List.not_mem_nil,or_false] at hf;rcases hf with rfl|rfl|rfl|rfl|rfl|rfl|rfl|rfl|rfl|rfl|rfl
    all_goals
     unfold clo at hlk;go_wp2_with (refine MK.look hk rfl _ _ rfl rfl _ _ _ hlk rfl hwj ?_);refine (hcl _ hk.2.1).mono ?_;rintro e w3 ⟨rfl,hs3,hg3⟩;have hk3:=hk.chg hs3 hg3;clear hk hcl hs3 hg3;go_wp2;go_roundw
     case rel=>exact ⟨j+1,by go_num,by omega,by rw [hst'.out];exact hk3⟩
     case measure=>simp [intOf];omega
  ·have hjn:j=xs.length:=by omega
   have hji:¬ (j:Int)<(xs.length:Int):=by omega
   rw [hjn,List.take_length] at hk
   have HY:Hid (∃ y,y=styledF s xs):=⟨_,rfl⟩;obtain ⟨y,hy⟩:=HY.out;rw [<- hy] at hk
   have HYY:Hid (y=styledF s xs):=hy;clear hy HY hc hwf;obtain ⟨_,k2,k4,kb,_⟩:=hk;have kP:=k4.put y;have kbP:=own_lift kb (putSt_grown wr (w.heap.size+1) y) (by omega);obtain ⟨_,⟨c0,c1,c2,c3,c4⟩,⟨z0,z1,z2,z3,z4⟩⟩:=k2;obtain ⟨_,⟨d0,d1,d2,d3,d4⟩,⟨x0,x1,x2,x3,x4⟩⟩:=k4;obtain ⟨_,⟨e0,e1,e2,e3,e4⟩,_⟩:=kP;simp only [putSt] at kbP e0 e1 e2 e3 e4;go_wp2;exact bodyPost_ret (v:=.agg #[.int .i64 y.fore,.int .i64 y.back,.bool y.bold,.bool y.under,.bool y.turned]) (by simp [results,Tryz.results241,go_sem,e0,e1,e2,e3,e4]) rfl ⟨by rw [<- HYY.out],kbP⟩
end Go.Proofs.YtgcnmjjlmcnllaaGreatDoor
namespace Go.Proofs.YtgcnmjjlmcnllaaGreatDoor
set_option maxRecDepth 20000
set_option maxHeartbeats 16000000
open Go.ChangeShapes Go.WideShapes Go.ChangeAt Go.RowKit
theorem implStyled_none (s:St) (a:Option Addr) (c:Nat) (xs:List Int) (w:World) (hl:xs.length<=1048576) (hn:¬ (s.ok=true/\xs.length<=16/\xs≠[])) :
  Calls Tryz.prog 241 #[stV s,.slice a xs.length c] w fun e w'=>e=.returned (stV St.zero)/\Below w.heap.size w w':=by
 have h2:=StAt.new w s 28;have h4:=StAt.new (w.alloc (Obj.cells #[.int .i64 s.fore,.int .i64 s.back,.bool s.bold,.bool s.under,.bool s.turned] 28)) St.zero 28;have e4:(w.alloc (Obj.cells #[.int .i64 s.fore,.int .i64 s.back,.bool s.bold,.bool s.under,.bool s.turned] 28)).heap.size=w.heap.size+1:=by simp
 rw [e4] at h4
 have hbA:Below w.heap.size w ((w.alloc (Obj.cells #[.int .i64 s.fore,.int .i64 s.back,.bool s.bold,.bool s.under,.bool s.turned] 28)).alloc (Obj.cells #[.int .i64 0,.int .i64 0,.bool false,.bool false,.bool false] 28)):=((Below.refl _ _).alloc (Nat.le_refl _) _).alloc (by simp) _;have hOK:=implStyleOk_any s
 have H3:s.ok=false\/(s.ok=true/\(((xs.length:Int)==0)=true))\/(s.ok=true/\(((xs.length:Int)==0)=false)/\16<(xs.length:Int)):=by
  cases h:s.ok
  ·exact .inl rfl
  ·by_cases hx:xs=[]
   ·exact .inr (.inl ⟨rfl,by simp [hx]⟩)
   ·refine .inr (.inr ⟨rfl,by simp;exact hx,?_⟩)
    have:¬ xs.length<=16:=fun e=>hn ⟨h,e,hx⟩
    omega
 clear hn;unfold stV at *;go_enter Tryz.func241,Tryz.ntmps241;go_wp2_with fail;refine (hOK _).mono ?_;rintro e w2 ⟨rfl,hb2⟩;have k4:=h4.below hb2;have kb:=hbA.trans (hb2.mono hbA.size);clear h2 h4 e4 hbA hb2 hOK;have kP:=k4.put St.zero;have kbP:=own_lift kb (putSt_grown w2 (w.heap.size+1) St.zero) (by omega);obtain ⟨_,⟨d0,d1,d2,d3,d4⟩,⟨x0,x1,x2,x3,x4⟩⟩:=k4;obtain ⟨_,⟨e0,e1,e2,e3,e4⟩,_⟩:=kP;simp only [putSt,St.zero] at kbP e0 e1 e2 e3 e4 d0 d1 d2 d3 d4;rcases H3 with h|⟨h,hz⟩|⟨h,hz,hi⟩
 all_goals
  rw [h]
  clear h;go_wp2;exact bodyPost_ret (v:=.agg #[.int .i64 0,.int .i64 0,.bool false,.bool false,.bool false]) (by simp [results,Tryz.results241,go_sem,e0,e1,e2,e3,e4]) rfl ⟨rfl,kbP⟩
theorem implStyled_any (s:St) (v:Value) (xs:List Int) (w:World) (hv:SlI w v xs) (hwf:∀ x∈xs,-9223372036854775808<=x/\x<=9223372036854775807) (hl:xs.length<=1048576) :
  Calls Tryz.prog 241 #[stV s,v] w fun e w'=>e=.returned (stV (styledV s xs))/\Below w.heap.size w w':=by
 by_cases hc:s.ok=true/\xs.length<=16/\xs≠[]
 ·obtain ⟨h1,h2,h3⟩:=hc
  have hs:styledV s xs=styledF s xs:=by unfold styledV;rw [if_pos ⟨h1,h2⟩,if_neg h3]
  obtain ⟨_,c,rfl,e|⟨bb,off,rfl,hbb,hcl⟩⟩:=hv
  ·exact absurd e h3
  ·rw [hs]
   exact implStyled_main s bb off c xs w hbb hcl (fun j hj=>by
    have e:xs.getD j 0=xs[j]:=by simp [List.getD,hj]
    rw [e];exact wf64 _ (hwf _ (List.getElem_mem hj))) (List.length_pos_iff.2 h3) h2 h1
 ·have hs:styledV s xs=St.zero:=by
   unfold styledV
   by_cases hx:xs=[]
   ·subst hx;by_cases h1:s.ok=true<;>simp [h1]
   ·rw [if_neg (fun h=>hc ⟨h.1,h.2,hx⟩)]
  obtain ⟨a,c,rfl,_⟩:=hv;rw [hs]
  exact implStyled_none s a c xs w hl hc
def ApF (w:World) (B:Nat) (v:Tv) (vg vo:List Value) (pv:Value):Prop:=∀ g,pv.ownBlock=some g->g<w.heap.size/\¬ Ft B v vg vo g
theorem ApF.mono {w w':World} {B:Nat} {v:Tv} {vg vo:List Value} {pv:Value} (h:ApF w B v vg vo pv) (hs:w.heap.size<=w'.heap.size):ApF w' B v vg vo pv:=fun g e=>⟨Nat.lt_of_lt_of_le (h g e).1 hs,(h g e).2⟩
theorem SlN.si {w:World} {v:Value} {xs:List Int} (h:SlN w v xs):SlI w v xs:=by
 obtain ⟨a,c,hv,_,_,hr⟩:=h;exact ⟨a,c,hv,hr⟩
theorem SlN.grp {S:Nat->Prop} {w w':World} {u:Value} {xs:List Int} (h:SlN w u xs) (hg:GrP S w w') (hne:∀ g,u.ownBlock=some g->¬ S g):SlN w' u xs:=by
 obtain ⟨a,c,hv,hc0,hn,h|⟨b,off,ha,hlt,hc⟩⟩:=h
 ·exact ⟨a,c,hv,hc0,hn,.inl h⟩
 ·refine ⟨a,c,hv,hc0,hn,.inr ⟨b,off,ha,Nat.lt_of_lt_of_le hlt hg.size,fun i hi=>?_⟩⟩
  have e:=hg.2.2.2.2 b hlt (hne b (by rw [hv,ha];rfl));exact (World.cell?_of_block (w:=w) (a:=⟨b,off+i,none⟩) e).trans (hc i hi)
theorem SlN.res {w w':World} {T:TypeId} {base B:Nat} {X:List Value} {v v':Tv} {vg vo vg' vo':List Value} {t':Te} {u:Value} {xs:List Int} (h:SlN w u xs) (hd:ApF w B v vg vo u) (r:Res w w' T base B X v vg vo t' v' vg' vo'):SlN w' u xs/\ApF w' B v' vg' vo' u :=
 ⟨h.grp r.g (fun g e=>(hd g e).2),fun g e=>⟨Nat.lt_of_lt_of_le (hd g e).1 r.g.size,fun c=>(hd g e).2 (r.c g (hd g e).1 c)⟩⟩
theorem Scr.ftb {W:World} {T:TypeId} {base B:Nat} {X:List Value} {t:Te} {v:Tv} {vg vo:List Value} (h:Scr W T base B X t v vg vo) {k:Nat} (hk:Ft B v vg vo k):base<=k:=by
 rcases hk with rfl|hk|hk
 ·exact h.hb
 ·exact (GrS.bd h.o.1 hk).1
 ·exact (GrS.bd h.o.2.1 hk).1
theorem Scr.bel {W W':World} {T:TypeId} {base B:Nat} {X:List Value} {t t':Te} {v v':Tv} {vg vo vg' vo':List Value} (h:Scr W T base B X t v vg vo) (hbase:base<=W.heap.size) (r:Res W W' T base B X v vg vo t' v' vg' vo'):Below base W W':=r.g.to_below (fun _ c=>h.ftb c) hbase

theorem goCell_any (cn N base B:Nat) (x0 x1 x2 x3 x4 x5 pv:Value) (ps:List Int) (t:Te) (v:Tv) (vg vo:List Value) (w:World) (h:Scr w 98 base B [x0,x1,x2,x3,x4,x5] t v vg vo) (rk:RtK t cn N) (hp:SlN w pv ps) (hl:ps.length<=1000) (hd:ApF w B v vg vo pv) (n m:Int) (en:Hid (parN ps 0 1=n)) (em:Hid (parN ps 1 1=m)) (hn:0<=n/\n<=9999) (hm:0<=m/\m<=9999) :
  Calls Tryz.prog 189 #[.pointer (some ⟨B,0,none⟩),pv] w fun e w'=>e=.returned (.tuple #[])/\∃ v' vg' vo',Res w w' 98 base B [x0,x1,x2,x3,x4,x5] v vg vo { t with row:=min (n-1) ((t.g.length:Int)-1),col:=min (m-1) (t.gc-1) } v' vg' vo':=by
 have h1:=toRow_any cn N base B x0 x1 x2 x3 x4 x5 pv ps t v vg vo w h rk.w hp hl n en hn;have rt:=rk.w;obtain ⟨c1,c2⟩:=rt.c;have hgc:=rt.gc;have hpa:=fun W (hW:SlN W pv ps)=>paramAt_any pv ps 1 1 W hW hl
 simp only [em.out] at hpa;have hpr:=fun W' v' vg' vo' (r:Res w W' 98 base B [x0,x1,x2,x3,x4,x5] v vg vo { t with row:=min (n-1) ((t.g.length:Int)-1) } v' vg' vo')=>(hp.res hd r).1
 have hw:IntKind.i64.wrap (m-1)=m-1:=by simp [IntKind.wrap,IntKind.bits,IntKind.signed];omega
 obtain ⟨q,e⟩:∃ q,Hid (min (m-1) (t.gc-1)=q):=⟨_,rfl⟩;rw [e.out]
 have hmx:min (m-1) ((cn:Int)-1)=q:=by have:=e.out;omega
 obtain ⟨pa,pc,rfl⟩:=hp.shp;clear hp h rt hn hm en em hl hd rk;go_enter Tryz.func189,Tryz.ntmps189;go_wp2_with fail;refine h1.mono ?_;rintro e w1 ⟨rfl,v1,g1,o1,hR1⟩;have hp1:=hpa _ (hpr _ _ _ _ hR1);have hla:=lastCol_any B (cn:Int) w1 (by rw [<- hgc];exact hR1.s.cell 6) (by omega);have c11:w1.cell? ⟨B,11,none⟩=some (.int .i64 t.col):=hR1.s.cell 11;have z11:=hR1.s.frozen 11;have hR:=(show Hid _ from hR1.trans (hR1.s.put (sCg B [.int .i64 q] 11 w1) { t with row:=min (n-1) ((t.g.length:Int)-1),col:=q } (sCh B 98 [.int .i64 q] 11 w1 _ hR1.s.b) rfl rfl rfl rfl rfl));clear hpa hpr hR1 h1 hgc e;go_wp2_with fail;refine hp1.mono ?_;rintro e wk ⟨rfl,hw1⟩;subst hw1;go_wp2_with fail;refine hla.mono ?_;rintro e wk ⟨rfl,hw1⟩;subst hw1;go_wp2;refine be ?_;exact ⟨rfl,_,_,_,hR.out⟩
theorem clearPartK_any (cn N base B:Nat) (x0 x1 x2 x3 x4 x5:Value) (t:Te) (v:Tv) (vg vo:List Value) (w:World) (hSp:SpansAt w) (h:Scr w 98 base B [x0,x1,x2,x3,x4,x5] t v vg vo) (hbase:base<=w.heap.size) (rk:RtK t cn N) (r p q:Int) (hr:0<=r/\r<N) (hpq:0<=p/\p<=q/\q<=cn) :
  Calls Tryz.prog 236 #[.pointer (some ⟨B,0,none⟩),.int .i64 r,.int .i64 p,.int .i64 q] w fun e w'=>e=.returned (.tuple #[])/\∃ v' vg' vo',Res w w' 98 base B [x0,x1,x2,x3,x4,x5] v vg vo (clearT t r p q) v' vg' vo':=by
 have:=clearPart_any cn N base B x0 x1 x2 x3 x4 x5 t v vg vo w hSp h hbase rk.w r.toNat (by omega) p q;rw [show ((r.toNat:Nat):Int)=r by omega,rk.cleared r p q hr hpq] at this
 exact this
def cpF (how a _n:Int):Int:=if how=0 then a else if how=1 then 0 else if how=2 then 0 else a
def cpT (how a n:Int):Int:=if how=0 then n else if how=1 then a+1 else if how=2 then n else a
theorem clearedPart_any (pv:Value) (ps:List Int) (a n:Int) (w:World) (h:SlN w pv ps) (hl:ps.length<=1000) (ha:0<=a/\a<=1000) :
  Calls Tryz.prog 235 #[pv,.int .i64 a,.int .i64 n] w fun e w'=>e=.returned (.tuple #[.int .i64 (cpF (parN ps 0 0) a n),.int .i64 (cpT (parN ps 0 0) a n)])/\w'=w:=by
 have hp:=paramAt_any pv ps 0 0 w h hl;obtain ⟨pa,pc,rfl⟩:=h.shp;obtain ⟨q,eq⟩:∃ q,Hid (parN ps 0 0=q):=⟨_,rfl⟩;simp only [eq.out] at hp ⊢
 clear eq h
 by_cases q0:q=0
 ·subst q0
  rw [show cpF 0 a n=a from rfl,show cpT 0 a n=n from rfl]
  go_enter Tryz.func235,Tryz.ntmps235;go_wp2_with fail;refine hp.mono ?_;rintro e w1 ⟨rfl,hw⟩;subst hw;go_wp2;go_ret2;exact ⟨rfl,rfl⟩
 by_cases q1:q=1
 ·subst q1
  rw [show cpF 1 a n=0 from rfl,show cpT 1 a n=a+1 from rfl]
  have hw:IntKind.i64.wrap (a+1)=a+1:=by simp [IntKind.wrap,IntKind.bits,IntKind.signed];omega
  go_enter Tryz.func235,Tryz.ntmps235;go_wp2_with fail;refine hp.mono ?_;rintro e w1 ⟨rfl,hw⟩;subst hw;go_wp2;go_ret2;exact ⟨rfl,rfl⟩
 by_cases q2:q=2
 ·subst q2
  rw [show cpF 2 a n=0 from rfl,show cpT 2 a n=n from rfl]
  go_enter Tryz.func235,Tryz.ntmps235;go_wp2_with fail;refine hp.mono ?_;rintro e w1 ⟨rfl,hw⟩;subst hw;go_wp2;go_ret2;exact ⟨rfl,rfl⟩
 ·have e0:(q==0)=false:=by simp [q0]
  have e1:(q==1)=false:=by simp [q1]
  have e2:(q==2)=false:=by simp [q2]
  have hf:cpF q a n=a:=by unfold cpF;rw [if_neg q0,if_neg q1,if_neg q2]
  have ht:cpT q a n=a:=by unfold cpT;rw [if_neg q0,if_neg q1,if_neg q2]
  rw [hf,ht]
  clear hf ht;go_enter Tryz.func235,Tryz.ntmps235;go_wp2_with fail;refine hp.mono ?_;rintro e w1 ⟨rfl,hw⟩;subst hw;go_wp2;go_ret2;exact ⟨rfl,rfl⟩
theorem cp_bd (how a n:Int) (ha:0<=a/\a<n):0<=cpF how a n/\cpF how a n<=cpT how a n/\cpT how a n<=n:=by
 unfold cpF cpT;split
 ·omega
 split
 ·omega
 split<;>omega
theorem clearRow_any (cn N base B:Nat) (x0 x1 x2 x3 x4 x5 pv:Value) (ps:List Int) (t:Te) (v:Tv) (vg vo:List Value) (w:World) (hSp:SpansAt w) (h:Scr w 98 base B [x0,x1,x2,x3,x4,x5] t v vg vo) (hbase:base<=w.heap.size) (rk:RtK t cn N) (hp:SlN w pv ps) (hl:ps.length<=1000) (how:Int) (eh:Hid (parN ps 0 0=how)) :
  Calls Tryz.prog 191 #[.pointer (some ⟨B,0,none⟩),pv] w fun e w'=>e=.returned (.tuple #[])/\∃ v' vg' vo',Res w w' 98 base B [x0,x1,x2,x3,x4,x5] v vg vo (eraseRow t how) v' vg' vo':=by
 have hcp:=fun W (hb:Below w.heap.size w W)=>clearedPart_any pv ps t.col t.gc W (hp.below hb) hl (by have:=rk.w.col;have:=rk.w.c;omega)
 simp only [eh.out] at hcp;have hbd:=cp_bd how t.col t.gc (by have:=rk.w.col;have:=rk.w.gc;omega);rw [rk.cpV how]
 have hcl:=fun W (hb:Below w.heap.size w W)=>clearPartK_any cn N base B x0 x1 x2 x3 x4 x5 t v vg vo W (hSp.below hb hSp.lt) (h.below hb) (Nat.le_trans hbase hb.size) rk t.row (cpF how t.col t.gc) (cpT how t.col t.gc) rk.w.row (by have:=rk.w.gc;omega)
 have cf:∀ W,Below w.heap.size w W->W.cell? ⟨B,11,none⟩=some (.int .i64 t.col)/\W.cell? ⟨B,6,none⟩=some (.int .i64 t.gc):=fun W hb=>⟨(h.below hb).cell 11,(h.below hb).cell 6⟩
 have c10:∀ W,Below w.heap.size w W->W.cell? ⟨B,10,none⟩=some (.int .i64 t.row):=fun W hb=>(h.below hb).cell 10
 have hof:=fun W (hbW:Below w.heap.size w W)=>Res.of_below h hbW
 have hd:=bdr w;obtain ⟨pa,pc,rfl⟩:=hp.shp;generalize cpF how t.col t.gc=f1 at *;generalize cpT how t.col t.gc=f2 at *;clear h hbase rk hp hl eh hSp hbd;go_enter Tryz.func191,Tryz.ntmps191;go_wp2;refine wp_region_noPanic ?_;refine wp_region_held_drew (S:=(fun W=>W.cell? ⟨B,11,none⟩=some (.int .i64 t.col)/\W.cell? ⟨B,6,none⟩=some (.int .i64 t.gc))) (by kernel_rfl) (cf _ hd) (fun hHeld=>?_);refine tk 0 ?_;refine tk 1 ?_;refine tk 2 ?_;refine tk 3 ?_;refine tk 4 ?_;refine tk 5 ?_;refine tk 6 ?_;refine tk 7 ?_;refine tk 8 ?_;refine tk 9 ?_;refine tk 10 ?_;refine tk 11 ?_;refine rd 12 fun K hK=>?_
 go_simp;refine (hcp _ hd).mono ?_;rintro e wk ⟨rfl,hw1⟩;subst hw1;go_wp2_with fail;refine hK.out _ _ (cf _ hd) (fun hHeld=>?_);clear hK K;refine tk 13 ?_;refine tk 14 ?_;refine tk 15 ?_;refine tk 16 ?_;refine tk 17 ?_;simp only [Act.put,ZA,ZB,ZC,ZD,ZE,ZF];refine dn ?_;have k10:=c10 _ hd;go_wp2_with fail;refine (hcl _ hd).mono ?_;rintro e w2 ⟨rfl,v2,g2,o2,hR⟩;go_wp2;refine be ?_;exact ⟨rfl,_,_,_,(hof _ hd).trans hR⟩
theorem clearCells_any (cn N base B:Nat) (x0 x1 x2 x3 x4 x5 pv:Value) (ps:List Int) (t:Te) (v:Tv) (vg vo:List Value) (w:World) (hSp:SpansAt w) (h:Scr w 98 base B [x0,x1,x2,x3,x4,x5] t v vg vo) (hbase:base<=w.heap.size) (rk:RtK t cn N) (hp:SlN w pv ps) (hl:ps.length<=1000) (n:Int) (en:Hid (parN ps 0 1=n)) (hn:0<=n/\n<=9999) :
  Calls Tryz.prog 192 #[.pointer (some ⟨B,0,none⟩),pv] w fun e w'=>e=.returned (.tuple #[])/\∃ v' vg' vo',Res w w' 98 base B [x0,x1,x2,x3,x4,x5] v vg vo (clearT t t.row t.col (min t.gc (t.col+n))) v' vg' vo':=by
 have hc1:=fun W (hbW:Below w.heap.size w W)=>countOf_any pv ps W (hp.below hbW) hl
 simp only [en.out] at hc1;obtain ⟨k1,k2⟩:=rk.w.col;have hgc:=rk.w.gc;have hcc:=rk.w.c;have hw:IntKind.i64.wrap (t.col+n)=t.col+n:=by simp [IntKind.wrap,IntKind.bits,IntKind.signed];omega
 obtain ⟨q,e⟩:∃ q,Hid (min t.gc (t.col+n)=q):=⟨_,rfl⟩;rw [e.out]
 have hmx:min (t.col+n) t.gc=q:=by have:=e.out;omega
 have hcl:=fun W (hb:Below w.heap.size w W)=>clearPartK_any cn N base B x0 x1 x2 x3 x4 x5 t v vg vo W (hSp.below hb hSp.lt) (h.below hb) (Nat.le_trans hbase hb.size) rk t.row t.col q rk.w.row (by have:=e.out;omega)
 have cf:∀ W,Below w.heap.size w W->W.cell? ⟨B,10,none⟩=some (.int .i64 t.row)/\W.cell? ⟨B,11,none⟩=some (.int .i64 t.col)/\W.cell? ⟨B,6,none⟩=some (.int .i64 t.gc):=fun W hb=>⟨(h.below hb).cell 10,(h.below hb).cell 11,(h.below hb).cell 6⟩
 have cr:∀ W W2 v2 g2 o2,Res W W2 98 base B [x0,x1,x2,x3,x4,x5] v vg vo (clearT t t.row t.col q) v2 g2 o2->W2.cell? ⟨B,10,none⟩=some (.int .i64 t.row)/\W2.cell? ⟨B,11,none⟩=some (.int .i64 t.col)/\W2.cell? ⟨B,6,none⟩=some (.int .i64 t.gc):=fun W W2 v2 g2 o2 h=>⟨h.s.cell 10,h.s.cell 11,h.s.cell 6⟩
 have hof:=fun W (hbW:Below w.heap.size w W)=>Res.of_below h hbW
 have hd:=bdr w;obtain ⟨pa,pc,rfl⟩:=hp.shp;clear h hbase rk hp hl en hSp hgc k1 k2 hcc hn e;go_enter Tryz.func192,Tryz.ntmps192;go_wp2;refine wp_region_noPanic ?_;refine wp_region_held_drew (S:=(fun W=>W.cell? ⟨B,10,none⟩=some (.int .i64 t.row)/\W.cell? ⟨B,11,none⟩=some (.int .i64 t.col)/\W.cell? ⟨B,6,none⟩=some (.int .i64 t.gc))) (by kernel_rfl) (cf _ hd) (fun hHeld=>?_);refine tk 0 ?_;refine tk 1 ?_;refine tk 2 ?_;refine tk 3 ?_;refine tk 4 ?_;refine tk 5 ?_;refine tk 6 ?_;refine tk 7 ?_;refine tk 8 ?_;refine tk 9 ?_;refine tk 10 ?_;refine tk 11 ?_;refine tk 12 ?_;refine tk 13 ?_;refine tk 14 ?_;refine tk 15 ?_;refine tk 16 ?_;refine tk 19 ?_;refine tk 20 ?_;refine tk 21 ?_;refine tk 22 ?_;refine tk 23 ?_;refine tk 24 ?_;refine rd 17 fun K hK=>?_
 go_simp;refine (hc1 _ hd).mono ?_;rintro e wk ⟨rfl,hw1⟩;subst hw1;go_wp2_with fail;refine hK.out _ _ (cf _ hd) (fun hHeld=>?_);clear hK K;refine tk 18 ?_;refine tk 25 ?_;refine rd 26 fun K hK=>?_
 go_simp;refine (hcl _ hd).mono ?_;rintro e w2 ⟨rfl,v2,g2,o2,hR⟩;go_wp2_with fail;refine hK.out _ _ (cr _ _ _ _ _ hR) (fun hHeld=>?_);clear hK K
 (try simp only [Act.put,ZA,ZB,ZC,ZD,ZE,ZF])
 refine dn ?_;go_wp2;refine be ?_;exact ⟨rfl,_,_,_,(hof _ hd).trans hR⟩
theorem putCells_any (cn N base B:Nat) (x0 x1 x2 x3 x4 x5 pv:Value) (ps:List Int) (t:Te) (v:Tv) (vg vo:List Value) (w:World) (hSp:SpansAt w) (h:Scr w 98 base B [x0,x1,x2,x3,x4,x5] t v vg vo) (hbase:base<=w.heap.size) (rk:RtK t cn N) (hp:SlN w pv ps) (hl:ps.length<=1000) (n:Int) (en:Hid (parN ps 0 1=n)) (hn:0<=n/\n<=9999) :
  Calls Tryz.prog 195 #[.pointer (some ⟨B,0,none⟩),pv] w fun e w'=>e=.returned (.tuple #[])/\∃ v' vg' vo',Res w w' 98 base B [x0,x1,x2,x3,x4,x5] v vg vo (Go.Proofs.YtgcnmjjlmcnllaaGreatDoor.rowT t t.row (pushL (rowX t.g t.row.toNat) t.col.toNat (min n (t.gc-t.col)).toNat (backS t.st))) v' vg' vo':=by
 have hc1:=fun W (hbW:Below w.heap.size w W)=>countOf_any pv ps W (hp.below hbW) hl
 simp only [en.out] at hc1;obtain ⟨k1,k2⟩:=rk.w.col;have hgc:=rk.w.gc;have hcc:=rk.w.c;have hN:=rk.w.n;have hn1:=rk.w.n1;have hw:IntKind.i64.wrap (t.gc-t.col)=t.gc-t.col:=by simp [IntKind.wrap,IntKind.bits,IntKind.signed];omega
 obtain ⟨m,e⟩:∃ m,Hid (min n (t.gc-t.col)=m):=⟨_,rfl⟩;have hVV:=rk.pushed t.row t.col m rk.w.row ⟨k1,k2⟩ (by have:=e.out;omega);rw [e.out,<- hVV]
 have hmx:min n (t.gc-t.col)=m:=e.out;obtain ⟨i,hri⟩:∃ i:Nat,t.row=(i:Int):=⟨t.row.toNat,by have:=rk.w.row;omega⟩;have hi:i<N:=by have:=rk.w.row;omega
 rw [hri,Int.toNat_natCast]
 clear hVV;rcases h.o.1.shape with ⟨_,hs⟩|⟨g,cap,hvg,hbg,hlg,hcap⟩
 ·rw [hs] at hN;simp at hN;omega
 rw [hN] at hvg hcap
 have ho:=h.o.1;have hro:=ho.2.2.1 i (by omega);have hvl:=ho.1;rw [hvg] at ho
 have hci:=ho.cell hN i hi;obtain ⟨ra,rn,rc,hre⟩:=hro.isSl;rw [hre] at hci hro
 have hgx:=rk.w.gx i hi;have hsl:SlC w (.slice ra rn rc) (rowX t.g i):=SlC.of_own hro;have hlt:=h.lt;have cf0:∀ W,Below w.heap.size w W->W.cell? ⟨B,6,none⟩=some (.int .i64 t.gc)/\W.cell? ⟨B,11,none⟩=some (.int .i64 t.col):=fun W hb=>⟨(h.below hb).cell 6,(h.below hb).cell 11⟩
 have cf:∀ W,Below w.heap.size w W->W.cell? ⟨B,7,none⟩=some (.slice (some ⟨g,0,none⟩) N cap)/\W.cell? ⟨B,10,none⟩=some (.int .i64 (i:Int))/\W.cell? ⟨B,11,none⟩=some (.int .i64 t.col):=fun W hb=>⟨by rw [(h.below hb).cell 7];show some v.g=_;rw [hvg],by rw [(h.below hb).cell 10];show some (Value.int .i64 t.row)=_;rw [hri],(h.below hb).cell 11⟩
 have ci:∀ W,Below w.heap.size w W->W.cell? ⟨g,i,none⟩=some (.slice ra rn rc):=fun W hb=>(hb.cell (p:=⟨g,i,none⟩) hlg).trans hci
 have zi:∀ W,Below w.heap.size w W->W.frozen? ⟨g,i,none⟩=false:=fun W hb=>(ho.below hb).frozen hN i
 have hbk:=fun W (hb:Below w.heap.size w W)=>back_any B t.st W ((h.below hb).cell 13) (Nat.lt_of_lt_of_le hlt hb.size)
 have hcd:=fun W (hb:Below w.heap.size w W)=>implPushed_any (.slice ra rn rc) (rowX t.g i) t.col m (backS t.st) W (hSp.below hb hSp.lt) (hsl.below hb) (by omega)
 obtain ⟨R,hR⟩:∃ R,Hid (pushedV (rowX t.g i) t.col m (backS t.st)=R):=⟨_,rfl⟩;simp only [hR.out] at hcd ⊢
 have hfin:∀ W r,Below w.heap.size w W->OwnC W w.heap.size r R->Res w (W.setCell ⟨g,i,none⟩ r) 98 base B [x0,x1,x2,x3,x4,x5] v vg vo (Go.Proofs.YtgcnmjjlmcnllaaGreatDoor.rowT t i R) v (vg.set i r) vo:=fun W r hb hr=>by
  have:=h.row hbase hb hvg hN i hi r R hr;unfold Go.Proofs.YtgcnmjjlmcnllaaGreatDoor.rowT;rw [Int.toNat_natCast]
  exact this
 have hsc:∀ W r,Below w.heap.size w W->(W.setCell ⟨g,i,none⟩ r).cell? ⟨B,7,none⟩=some (.slice (some ⟨g,0,none⟩) N cap)/\(W.setCell ⟨g,i,none⟩ r).cell? ⟨B,10,none⟩=some (.int .i64 (i:Int))/\(W.setCell ⟨g,i,none⟩ r).cell? ⟨B,11,none⟩=some (.int .i64 t.col):=fun W r hb=>by
  have hne:g≠B:=fun e=>grS_not h.o.1 h.b h.n1 h.n2 (.inl (by rw [hvg,<- e];rfl))
  have hk:∀ k,(W.setCell ⟨g,i,none⟩ r).cell? ⟨B,k,none⟩=W.cell? ⟨B,k,none⟩:=fun k=>World.cell?_of_block (w:=W) ((setCell_gr W g i r).block B (Nat.lt_of_lt_of_le hlt hb.size) (fun e=>hne (Option.some.inj e).symm))
  rw [hk,hk,hk]
  exact cf W hb
 unfold stV at hbk hcd;have hd:=bdr w;obtain ⟨pa,pc,rfl⟩:=hp.shp;have i0:(0:Int)<=(i:Int):=by omega
 have i1:(i:Int)<(N:Int):=by omega
 clear h hbase rk ho hro hre hsl hgx hSp hvg hbg hcap hlt hvl hci hR hri hp hl en hn hgc hcc hN k1 k2 hn1 e hi hlg;go_enter Tryz.func195,Tryz.ntmps195;go_wp2;refine wp_region_noPanic ?_;refine wp_region_held_drew (S:=(fun W=>W.cell? ⟨B,6,none⟩=some (.int .i64 t.gc)/\W.cell? ⟨B,11,none⟩=some (.int .i64 t.col))) (by kernel_rfl) (cf0 _ hd) (fun hHeld=>?_);refine tk 0 ?_;refine tk 2 ?_;refine tk 3 ?_;refine tk 4 ?_;refine tk 5 ?_;refine tk 6 ?_;refine tk 7 ?_;refine tk 8 ?_;refine tk 9 ?_;refine tk 10 ?_;refine tk 11 ?_;refine tk 12 ?_;refine tk 13 ?_;refine rd 1 fun K hK=>?_
 go_simp;refine (hc1 _ hd).mono ?_;rintro e wk ⟨rfl,hw1⟩;subst hw1;go_wp2_with fail;refine hK.out _ _ (cf0 _ hd) (fun hHeld=>?_);clear hK K;refine tk 14 ?_;refine tk 15 ?_;simp only [Act.put,ZA,ZB,ZC,ZD,ZE,ZF];refine dn ?_;replace hd:=hd.trans ((bdr _).mono hd.size);clear hc1 cf0;go_wp2;refine wp_region_noPanic ?_;refine wp_region_held_drew (S:=(fun W=>W.cell? ⟨B,7,none⟩=some (.slice (some ⟨g,0,none⟩) N cap)/\W.cell? ⟨B,10,none⟩=some (.int .i64 (i:Int))/\W.cell? ⟨B,11,none⟩=some (.int .i64 t.col))) (by kernel_rfl) (cf _ hd) (fun hHeld=>?_);have di:=ci _ hd;refine tk 0 ?_;refine tk 1 ?_;refine tk 2 ?_;refine tk 3 ?_;refine tk 4 ?_;refine tk 5 ?_;refine tk 6 ?_;refine tk 7 ?_;refine tk 8 ?_;refine tk 9 ?_;refine tk 10 ?_;refine tk 11 ?_;refine tk 12 ?_;refine tk 13 ?_;refine tk 14 ?_;refine tk 15 ?_;refine tk 16 ?_;refine tk 17 ?_;refine tk 18 ?_;refine tk 19 ?_;refine tk 20 ?_;refine tk 21 ?_;refine tk 22 ?_;refine tk 24 ?_;refine tk 25 ?_;refine tk 26 ?_;refine tk 27 ?_;refine tk 28 ?_;refine tk 29 ?_;refine tk 30 ?_;refine rd2 23 31 (fun K hK=>?_) fun K hK=>?_
 ·go_simp
  refine hK.out _ _ (hHeld) (fun hHeld=>?_);clear hK K;refine rd 31 fun K hK=>?_
  go_simp;refine (hbk _ hd).mono ?_;rintro e wk ⟨rfl,hb⟩;replace hd:=hd.trans (hb.mono hd.size);have di:=ci _ hd;unfold backS;go_wp2_with fail;refine hK.out _ _ (cf _ hd) (fun hHeld=>?_);clear hK K;refine rd 32 fun K hK=>?_
  go_simp;refine (hcd _ hd).mono ?_;rintro e w2 ⟨u,rfl,hu,hb⟩;have hu2:=hu.low hd.size;replace hd:=hd.trans (hb.mono hd.size);obtain ⟨ua,un,uc,hue⟩:=hu2.isSl;subst hue;have di:=ci _ hd;have zj:=zi _ hd;go_wp2_with fail;refine hK.out _ _ (cf _ hd) (fun hHeld=>?_);clear hK K;refine tk 33 ?_;refine rd 34 fun K hK=>?_
  go_simp;refine hK.out _ _ (hsc _ _ hd) (fun hHeld=>?_);clear hK K
  (try simp only [Act.put,ZA,ZB,ZC,ZD,ZE,ZF])
  refine dn ?_;go_wp2;refine be ?_;exact ⟨rfl,_,_,_,hfin _ _ hd hu2⟩
 ·go_simp
  refine (hbk _ hd).mono ?_;rintro e wk ⟨rfl,hb⟩;replace hd:=hd.trans (hb.mono hd.size);have di:=ci _ hd;unfold backS;go_wp2_with fail;refine hK.out _ _ (cf _ hd) (fun hHeld=>?_);clear hK K;refine rd 23 fun K hK=>?_
  go_simp;refine hK.out _ _ (hHeld) (fun hHeld=>?_);clear hK K;refine rd 32 fun K hK=>?_
  go_simp;refine (hcd _ hd).mono ?_;rintro e w2 ⟨u,rfl,hu,hb⟩;have hu2:=hu.low hd.size;replace hd:=hd.trans (hb.mono hd.size);obtain ⟨ua,un,uc,hue⟩:=hu2.isSl;subst hue;have di:=ci _ hd;have zj:=zi _ hd;go_wp2_with fail;refine hK.out _ _ (cf _ hd) (fun hHeld=>?_);clear hK K;refine tk 33 ?_;refine rd 34 fun K hK=>?_
  go_simp;refine hK.out _ _ (hsc _ _ hd) (fun hHeld=>?_);clear hK K
  (try simp only [Act.put,ZA,ZB,ZC,ZD,ZE,ZF])
  refine dn ?_;go_wp2;refine be ?_;exact ⟨rfl,_,_,_,hfin _ _ hd hu2⟩
theorem takeCells_any (cn N base B:Nat) (x0 x1 x2 x3 x4 x5 pv:Value) (ps:List Int) (t:Te) (v:Tv) (vg vo:List Value) (w:World) (hSp:SpansAt w) (h:Scr w 98 base B [x0,x1,x2,x3,x4,x5] t v vg vo) (hbase:base<=w.heap.size) (rk:RtK t cn N) (hp:SlN w pv ps) (hl:ps.length<=1000) (n:Int) (en:Hid (parN ps 0 1=n)) (hn:0<=n/\n<=9999) :
  Calls Tryz.prog 196 #[.pointer (some ⟨B,0,none⟩),pv] w fun e w'=>e=.returned (.tuple #[])/\∃ v' vg' vo',Res w w' 98 base B [x0,x1,x2,x3,x4,x5] v vg vo (Go.Proofs.YtgcnmjjlmcnllaaGreatDoor.rowT t t.row (pullL (rowX t.g t.row.toNat) t.col.toNat (min n (t.gc-t.col)).toNat (backS t.st))) v' vg' vo':=by
 have hc1:=fun W (hbW:Below w.heap.size w W)=>countOf_any pv ps W (hp.below hbW) hl
 simp only [en.out] at hc1;obtain ⟨k1,k2⟩:=rk.w.col;have hgc:=rk.w.gc;have hcc:=rk.w.c;have hN:=rk.w.n;have hn1:=rk.w.n1;have hw:IntKind.i64.wrap (t.gc-t.col)=t.gc-t.col:=by simp [IntKind.wrap,IntKind.bits,IntKind.signed];omega
 obtain ⟨m,e⟩:∃ m,Hid (min n (t.gc-t.col)=m):=⟨_,rfl⟩;have hVV:=rk.pulled t.row t.col m rk.w.row ⟨k1,k2⟩ (by have:=e.out;omega);rw [e.out,<- hVV]
 have hmx:min n (t.gc-t.col)=m:=e.out;obtain ⟨i,hri⟩:∃ i:Nat,t.row=(i:Int):=⟨t.row.toNat,by have:=rk.w.row;omega⟩;have hi:i<N:=by have:=rk.w.row;omega
 rw [hri,Int.toNat_natCast]
 clear hVV;rcases h.o.1.shape with ⟨_,hs⟩|⟨g,cap,hvg,hbg,hlg,hcap⟩
 ·rw [hs] at hN;simp at hN;omega
 rw [hN] at hvg hcap
 have ho:=h.o.1;have hro:=ho.2.2.1 i (by omega);have hvl:=ho.1;rw [hvg] at ho
 have hci:=ho.cell hN i hi;obtain ⟨ra,rn,rc,hre⟩:=hro.isSl;rw [hre] at hci hro
 have hgx:=rk.w.gx i hi;have hsl:SlC w (.slice ra rn rc) (rowX t.g i):=SlC.of_own hro;have hlt:=h.lt;have cf0:∀ W,Below w.heap.size w W->W.cell? ⟨B,6,none⟩=some (.int .i64 t.gc)/\W.cell? ⟨B,11,none⟩=some (.int .i64 t.col):=fun W hb=>⟨(h.below hb).cell 6,(h.below hb).cell 11⟩
 have cf:∀ W,Below w.heap.size w W->W.cell? ⟨B,7,none⟩=some (.slice (some ⟨g,0,none⟩) N cap)/\W.cell? ⟨B,10,none⟩=some (.int .i64 (i:Int))/\W.cell? ⟨B,11,none⟩=some (.int .i64 t.col):=fun W hb=>⟨by rw [(h.below hb).cell 7];show some v.g=_;rw [hvg],by rw [(h.below hb).cell 10];show some (Value.int .i64 t.row)=_;rw [hri],(h.below hb).cell 11⟩
 have ci:∀ W,Below w.heap.size w W->W.cell? ⟨g,i,none⟩=some (.slice ra rn rc):=fun W hb=>(hb.cell (p:=⟨g,i,none⟩) hlg).trans hci
 have zi:∀ W,Below w.heap.size w W->W.frozen? ⟨g,i,none⟩=false:=fun W hb=>(ho.below hb).frozen hN i
 have hbk:=fun W (hb:Below w.heap.size w W)=>back_any B t.st W ((h.below hb).cell 13) (Nat.lt_of_lt_of_le hlt hb.size)
 have hcd:=fun W (hb:Below w.heap.size w W)=>implPulled_any (.slice ra rn rc) (rowX t.g i) t.col m (backS t.st) W (hSp.below hb hSp.lt) (hsl.below hb) (by omega)
 obtain ⟨R,hR⟩:∃ R,Hid (pulledV (rowX t.g i) t.col m (backS t.st)=R):=⟨_,rfl⟩;simp only [hR.out] at hcd ⊢
 have hfin:∀ W r,Below w.heap.size w W->OwnC W w.heap.size r R->Res w (W.setCell ⟨g,i,none⟩ r) 98 base B [x0,x1,x2,x3,x4,x5] v vg vo (Go.Proofs.YtgcnmjjlmcnllaaGreatDoor.rowT t i R) v (vg.set i r) vo:=fun W r hb hr=>by
  have:=h.row hbase hb hvg hN i hi r R hr;unfold Go.Proofs.YtgcnmjjlmcnllaaGreatDoor.rowT;rw [Int.toNat_natCast]
  exact this
 have hsc:∀ W r,Below w.heap.size w W->(W.setCell ⟨g,i,none⟩ r).cell? ⟨B,7,none⟩=some (.slice (some ⟨g,0,none⟩) N cap)/\(W.setCell ⟨g,i,none⟩ r).cell? ⟨B,10,none⟩=some (.int .i64 (i:Int))/\(W.setCell ⟨g,i,none⟩ r).cell? ⟨B,11,none⟩=some (.int .i64 t.col):=fun W r hb=>by
  have hne:g≠B:=fun e=>grS_not h.o.1 h.b h.n1 h.n2 (.inl (by rw [hvg,<- e];rfl))
  have hk:∀ k,(W.setCell ⟨g,i,none⟩ r).cell? ⟨B,k,none⟩=W.cell? ⟨B,k,none⟩:=fun k=>World.cell?_of_block (w:=W) ((setCell_gr W g i r).block B (Nat.lt_of_lt_of_le hlt hb.size) (fun e=>hne (Option.some.inj e).symm))
  rw [hk,hk,hk]
  exact cf W hb
 unfold stV at hbk hcd;have hd:=bdr w;obtain ⟨pa,pc,rfl⟩:=hp.shp;have i0:(0:Int)<=(i:Int):=by omega
 have i1:(i:Int)<(N:Int):=by omega
 clear h hbase rk ho hro hre hsl hgx hSp hvg hbg hcap hlt hvl hci hR hri hp hl en hn hgc hcc hN k1 k2 hn1 e hi hlg;go_enter Tryz.func196,Tryz.ntmps196;go_wp2;refine wp_region_noPanic ?_;refine wp_region_held_drew (S:=(fun W=>W.cell? ⟨B,6,none⟩=some (.int .i64 t.gc)/\W.cell? ⟨B,11,none⟩=some (.int .i64 t.col))) (by kernel_rfl) (cf0 _ hd) (fun hHeld=>?_);refine tk 0 ?_;refine tk 2 ?_;refine tk 3 ?_;refine tk 4 ?_;refine tk 5 ?_;refine tk 6 ?_;refine tk 7 ?_;refine tk 8 ?_;refine tk 9 ?_;refine tk 10 ?_;refine tk 11 ?_;refine tk 12 ?_;refine tk 13 ?_;refine rd 1 fun K hK=>?_
 go_simp;refine (hc1 _ hd).mono ?_;rintro e wk ⟨rfl,hw1⟩;subst hw1;go_wp2_with fail;refine hK.out _ _ (cf0 _ hd) (fun hHeld=>?_);clear hK K;refine tk 14 ?_;refine tk 15 ?_;simp only [Act.put,ZA,ZB,ZC,ZD,ZE,ZF];refine dn ?_;replace hd:=hd.trans ((bdr _).mono hd.size);clear hc1 cf0;go_wp2;refine wp_region_noPanic ?_;refine wp_region_held_drew (S:=(fun W=>W.cell? ⟨B,7,none⟩=some (.slice (some ⟨g,0,none⟩) N cap)/\W.cell? ⟨B,10,none⟩=some (.int .i64 (i:Int))/\W.cell? ⟨B,11,none⟩=some (.int .i64 t.col))) (by kernel_rfl) (cf _ hd) (fun hHeld=>?_);have di:=ci _ hd;refine tk 0 ?_;refine tk 1 ?_;refine tk 2 ?_;refine tk 3 ?_;refine tk 4 ?_;refine tk 5 ?_;refine tk 6 ?_;refine tk 7 ?_;refine tk 8 ?_;refine tk 9 ?_;refine tk 10 ?_;refine tk 11 ?_;refine tk 12 ?_;refine tk 13 ?_;refine tk 14 ?_;refine tk 15 ?_;refine tk 16 ?_;refine tk 17 ?_;refine tk 18 ?_;refine tk 19 ?_;refine tk 20 ?_;refine tk 21 ?_;refine tk 22 ?_;refine tk 24 ?_;refine tk 25 ?_;refine tk 26 ?_;refine tk 27 ?_;refine tk 28 ?_;refine tk 29 ?_;refine tk 30 ?_;refine rd2 23 31 (fun K hK=>?_) fun K hK=>?_
 ·go_simp
  refine hK.out _ _ (hHeld) (fun hHeld=>?_);clear hK K;refine rd 31 fun K hK=>?_
  go_simp;refine (hbk _ hd).mono ?_;rintro e wk ⟨rfl,hb⟩;replace hd:=hd.trans (hb.mono hd.size);have di:=ci _ hd;unfold backS;go_wp2_with fail;refine hK.out _ _ (cf _ hd) (fun hHeld=>?_);clear hK K;refine rd 32 fun K hK=>?_
  go_simp;refine (hcd _ hd).mono ?_;rintro e w2 ⟨u,rfl,hu,hb⟩;have hu2:=hu.low hd.size;replace hd:=hd.trans (hb.mono hd.size);obtain ⟨ua,un,uc,hue⟩:=hu2.isSl;subst hue;have di:=ci _ hd;have zj:=zi _ hd;go_wp2_with fail;refine hK.out _ _ (cf _ hd) (fun hHeld=>?_);clear hK K;refine tk 33 ?_;refine rd 34 fun K hK=>?_
  go_simp;refine hK.out _ _ (hsc _ _ hd) (fun hHeld=>?_);clear hK K
  (try simp only [Act.put,ZA,ZB,ZC,ZD,ZE,ZF])
  refine dn ?_;go_wp2;refine be ?_;exact ⟨rfl,_,_,_,hfin _ _ hd hu2⟩
 ·go_simp
  refine (hbk _ hd).mono ?_;rintro e wk ⟨rfl,hb⟩;replace hd:=hd.trans (hb.mono hd.size);have di:=ci _ hd;unfold backS;go_wp2_with fail;refine hK.out _ _ (cf _ hd) (fun hHeld=>?_);clear hK K;refine rd 23 fun K hK=>?_
  go_simp;refine hK.out _ _ (hHeld) (fun hHeld=>?_);clear hK K;refine rd 32 fun K hK=>?_
  go_simp;refine (hcd _ hd).mono ?_;rintro e w2 ⟨u,rfl,hu,hb⟩;have hu2:=hu.low hd.size;replace hd:=hd.trans (hb.mono hd.size);obtain ⟨ua,un,uc,hue⟩:=hu2.isSl;subst hue;have di:=ci _ hd;have zj:=zi _ hd;go_wp2_with fail;refine hK.out _ _ (cf _ hd) (fun hHeld=>?_);clear hK K;refine tk 33 ?_;refine rd 34 fun K hK=>?_
  go_simp;refine hK.out _ _ (hsc _ _ hd) (fun hHeld=>?_);clear hK K
  (try simp only [Act.put,ZA,ZB,ZC,ZD,ZE,ZF])
  refine dn ?_;go_wp2;refine be ?_;exact ⟨rfl,_,_,_,hfin _ _ hd hu2⟩
theorem restyle_any (cn N base B:Nat) (x0 x1 x2 x3 x4 x5 pv:Value) (ps:List Int) (t:Te) (v:Tv) (vg vo:List Value) (w:World) (_hSp:SpansAt w) (h:Scr w 98 base B [x0,x1,x2,x3,x4,x5] t v vg vo) (_hbase:base<=w.heap.size) (rk:RtK t cn N) (hp:SlN w pv ps) (hl:ps.length<=1000) (h16:ps.length<=16) (hq:∀ x∈ps,0<=x/\x<=9999) :
  Calls Tryz.prog 199 #[.pointer (some ⟨B,0,none⟩),pv] w fun e w'=>e=.returned (.tuple #[])/\∃ v' vg' vo',Res w w' 98 base B [x0,x1,x2,x3,x4,x5] v vg vo { t with st:=stylN t.st ps } v' vg' vo':=by
 have hst:=implStyled_any t.st pv ps w hp.si (fun x hx=>by have:=hq x hx;omega) (by omega);rw [rk.styled ps h16] at hst
 obtain ⟨s,hs⟩:∃ s,Hid (stylN t.st ps=s):=⟨_,rfl⟩;rw [hs.out] at hst ⊢
 obtain ⟨c12,c13,c14,c15,c16⟩:w.cell? ⟨B,12,none⟩=some (.int .i64 t.st.fore)/\w.cell? ⟨B,13,none⟩=some (.int .i64 t.st.back)/\w.cell? ⟨B,14,none⟩=some (.bool t.st.bold)/\w.cell? ⟨B,15,none⟩=some (.bool t.st.under)/\w.cell? ⟨B,16,none⟩=some (.bool t.st.turned):=⟨h.cell 12,h.cell 13,h.cell 14,h.cell 15,h.cell 16⟩
 have hR:∀ W,Below w.heap.size w W->Res w (W.setCells B 12 [.int .i64 s.fore,.int .i64 s.back,.bool s.bold,.bool s.under,.bool s.turned]) 98 base B [x0,x1,x2,x3,x4,x5] v vg vo { t with st:=s } v vg vo:=fun W hb =>
  (Res.of_below h hb).trans ((h.below hb).put (sCg B _ 12 W) _ (sCh B 98 _ 12 W _ (h.below hb).b) rfl rfl rfl rfl rfl)
 have cc:∀ W,Below w.heap.size w W->W.cell? ⟨B,12,none⟩=some (.int .i64 t.st.fore)/\W.cell? ⟨B,13,none⟩=some (.int .i64 t.st.back)/\W.cell? ⟨B,14,none⟩=some (.bool t.st.bold)/\W.cell? ⟨B,15,none⟩=some (.bool t.st.under)/\W.cell? ⟨B,16,none⟩=some (.bool t.st.turned):=fun W hb=>⟨(h.below hb).cell 12,(h.below hb).cell 13,(h.below hb).cell 14,(h.below hb).cell 15,(h.below hb).cell 16⟩
 have zz:∀ W,Below w.heap.size w W->∀ k,W.frozen? ⟨B,k,none⟩=false:=fun W hb k=>(h.below hb).frozen k
 unfold stV at hst;obtain ⟨pa,pc,rfl⟩:=hp.shp;clear h rk hp hl hq h16 hs;go_enter Tryz.func199,Tryz.ntmps199;go_wp2_with fail;refine hst.mono ?_;rintro e w1 ⟨rfl,hb⟩;obtain ⟨d12,d13,d14,d15,d16⟩:=cc _ hb;have y12:=zz _ hb 12;have y13:=zz _ hb 13;have y14:=zz _ hb 14;have y15:=zz _ hb 15;have y16:=zz _ hb 16;have hF:=(show Hid _ from hR _ hb);clear hst cc zz hR;go_wp2;refine be ?_;exact ⟨rfl,_,_,_,hF.out⟩
end Go.Proofs.YtgcnmjjlmcnllaaGreatDoor
