/- Parts of the proof. -/
import Derived.Test.YtgcnmjjlmcnllaaGreatDoorP1
import Derived.Test.YtgcnmjjlmcnllaaGreatDoorP2
import Derived.Test.YtgcnmjjlmcnllaaGreatDoorP3
import Derived.Test.YtgcnmjjlmcnllaaGreatDoorP4
import Derived.Test.YtgcnmjjlmcnllaaGreatDoorP5
import Derived.Test.YtgcnmjjlmcnllaaGreatDoorP6
import Derived.Test.YtgcnmjjlmcnllaaGreatDoorP8
import Derived.Test.YtgcnmjjlmcnllaaGreatDoorP9
import Derived.Test.YtgcnmjjlmcnllaaGreatDoorP10
import Derived.Test.YtgcnmjjlmcnllaaGreatDoorP11
import Derived.Test.YtgcnmjjlmcnllaaGreatDoorP12
import Derived.Test.YtgcnmjjlmcnllaaGreatDoorP13
namespace Go.Proofs.YtgcnmjjlmcnllaaGreatDoor
set_option maxRecDepth 20000
set_option maxHeartbeats 16000000
theorem writeL_at (L:List Ce) (q:Nat) (r:Int) (s:St) (hw:wdV r≠0) (hq:q+(wdV r).toNat<=L.length) (i:Nat) :
  atC (writeL L q r s) i=if wdV r=2/\i=q+1 then ⟨0,s,2⟩ else if i=q then ⟨r,s,wdV r-1⟩ else atC (clearL L q (q+(wdV r).toNat) s) i:=by
 have hb:=widthV_bd r;have hl:=clearL_len L q (q+(wdV r).toNat) s;unfold writeL
 by_cases h2:wdV r=2
 ·rw [if_pos h2,atC_set,List.length_set,hl,atC_set,hl]
  by_cases c:i=q+1
  ·have hlt:q+1<L.length:=by omega
   simp [h2,c,hlt]
  ·by_cases d:i=q
   ·have hlt:q<L.length:=by omega
    simp [h2,d,hlt]
   ·simp [c,d]
 ·rw [if_neg h2,atC_set,hl]
  by_cases d:i=q
  ·have hlt:q<L.length:=by omega
   simp [h2,d,hlt]
  ·simp [h2,d]
theorem writeL_right {L:List Ce} (hR:Right L) (q:Nat) (r:Int) (s:St) (hs:s.ok=true) (hw:wdV r≠0) (hq:q+(wdV r).toNat<=L.length):Right (writeL L q r s):=by
 have hb:=widthV_bd r;have hC:=clearL_right hR q (q+(wdV r).toNat) s hs hq;have hCl:=clearL_len L q (q+(wdV r).toNat) s;have hin:=fun i h1 h2=>clear_in (l:=L) q (q+(wdV r).toNat) s hq i h1 h2
 have hat:=fun i=>writeL_at L q r s hw hq i
 have hlen:=writeL_len L q r s;have h0:=hin q (Nat.le_refl _) (by omega);generalize clearL L q (q+(wdV r).toNat) s=C at *;refine ⟨fun i hi=>?_,fun i h1=>?_,fun i h2=>?_⟩
 ·rw [hat i]
  split
  ·exact ⟨hs,.inr (.inr ⟨rfl,rfl⟩)⟩
  ·split
   ·rename_i h2 hi
    refine ⟨hs,?_⟩
    by_cases e:wdV r=2
    ·exact .inr (.inl ⟨by show wdV r-1=1;omega,e⟩)
    ·exact .inl ⟨by show wdV r-1=0;omega,by show wdV r=1;omega⟩
   ·exact hC.1 i (by omega)
 ·rw [hat i] at h1
  split at h1
  ·exact absurd h1 (by simp)
  ·rename_i n1
   split at h1
   ·rename_i e
    have hw2:wdV r=2:=by have:wdV r-1=1:=h1;omega
    rw [hat (i+1),if_pos ⟨hw2,by omega⟩,hat i,if_neg n1,if_pos e]
    exact ⟨rfl,rfl⟩
   ·rename_i n2
    have h3:=hC.2.1 i h1;have n3:¬ (i+1=q):=fun e=>by rw [e,h0] at h3;exact absurd h3.1 (by simp [blankC])
    have n4:¬ (wdV r=2/\i+1=q+1):=fun e=>n2 (by omega)
    rw [hat (i+1),if_neg n4,if_neg n3,hat i,if_neg n1,if_neg n2]
    exact h3
 ·rw [hat i] at h2
  split at h2
  ·rename_i e
   have n1:¬ (wdV r=2/\i-1=q+1):=by omega
   refine ⟨by omega,?_⟩;rw [hat (i-1),if_neg n1,if_pos (by omega)]
   show wdV r-1=1
   omega
  ·rename_i n1
   split at h2
   ·exfalso
    have:wdV r-1=2:=h2;omega
   ·rename_i n2
    have h3:=hC.2.2 i h2;have n3:¬ (i-1=q):=fun e=>by rw [e,h0] at h3;exact absurd h3.2 (by simp [blankC])
    have n4:¬ (wdV r=2/\i-1=q+1):=fun e=>by
     have:=hin (q+1) (by omega) (by omega);rw [e.2,this] at h3;exact absurd h3.2 (by simp [blankC])
    rw [hat (i-1),if_neg n4,if_neg n3]
    exact h3
open Go.ChangeShapes Go.WideShapes Go.ChangeAt Go.RowKit
structure RtK (t:Te) (cn N:Nat):Prop where
 w:RtW t cn N
 gr:∀ i,i<N->Right (rowX t.g i)
 xr:∀ i,i<N->Right (rowX t.o i)
 st:t.st.ok=true
 ss:t.ss.ok=true
 sr:0<=t.sr/\t.sr<N
 sc:0<=t.sc/\t.sc<cn
 fu:t.full=true->t.col=(cn:Int)-1
 tb:¬ (t.top=t.bot/\1<N)
 ti:t.ti.length<=40/\runesB t.ti=true
 pa:okV t.pa=true
 fe:feedOk t.fe=true
theorem RtK.gok {t:Te} {cn N:Nat} (h:RtK t cn N):gridOkB (cn:Int) t.g=true :=
 gridOk_of2 h.w.c (by rw [h.w.n];exact h.w.n1) fun i hi=>by rw [h.w.n] at hi;exact ⟨h.w.gx i hi,h.gr i hi⟩
theorem RtK.ook {t:Te} {cn N:Nat} (h:RtK t cn N):gridOkB (cn:Int) t.o=true :=
 gridOk_of2 h.w.c (by rw [h.w.m];exact h.w.n1) fun i hi=>by rw [h.w.m] at hi;exact ⟨h.w.ox i hi,h.xr i hi⟩
theorem RtK.ok {t:Te} {cn N:Nat} (h:RtK t cn N):termOkB t=true:=by
 have hg:=h.gok;have ho:=h.ook;rw [<- h.w.gc] at hg
 rw [<- h.w.oc] at ho
 have e1:=h.w.gc;have e2:=h.w.oc;have e3:=h.w.n;have e4:=h.w.m;have e5:=h.w.n1;have e6:=h.w.row;have e7:=h.w.col;have e8:=h.w.tb;have e9:=h.tb;have e10:=h.sr;have e11:=h.sc;unfold termOkB cellB;simp only [Bool.and_eq_true,decide_eq_true_eq];exact ⟨⟨hg,ho,by omega,by omega⟩,⟨⟨by omega,by omega⟩,by omega,by omega⟩,by omega,fun f=>by have:=h.fu f;omega,⟨h.st,h.ss⟩,h.ti,h.pa,h.fe⟩
theorem rtK_of {t:Te} (h:termOkB t=true):RtK t t.gc.toNat t.g.length:=by
 unfold termOkB cellB at h;simp only [Bool.and_eq_true,decide_eq_true_eq] at h;obtain ⟨⟨h1,h2,h3,h4⟩,⟨⟨r1,r2⟩,r3,r4⟩,b,f,⟨s1,s2⟩,ti,pa,fe⟩:=h;have q:=((gridOk_iff _ _).1 h1).1;obtain ⟨gc,hgc⟩:∃ k:Nat,t.gc=k:=⟨t.gc.toNat,by omega⟩;have hoc:t.oc=gc:=by rw [<- h3,hgc]
 rw [hgc] at h1
 rw [hoc] at h2
 obtain ⟨⟨g1,g2⟩,gl,gx⟩:=gridOk_rows h1;obtain ⟨_,ol,ox⟩:=gridOk_rows h2;rw [hgc,Int.toNat_natCast]
 exact ⟨⟨hgc,hoc,⟨g1,g2⟩,rfl,h4.symm,gl,fun i hi=>(gx i hi).1,fun i hi=>(ox i (by omega)).1,by omega,by omega,by omega⟩,fun i hi=>(gx i hi).2,fun i hi=>(ox i (by omega)).2,s1,s2,by omega,by omega,fun e=>by have:=f e;omega,by omega,ti,pa,fe⟩
theorem RtK.back {t:Te} {cn N:Nat} (h:RtK t cn N):(backS t.st).ok=true:=by
 have:=(St.ok_iff _).1 h.st;exact (St.ok_iff _).2 ⟨Int.le_refl _,by show (0:Int)<=8;omega,this.2.2.1,this.2.2.2⟩
theorem RtK.move {t:Te} {cn N:Nat} (h:RtK t cn N) (a b n:Int) (ha:0<=a) (hb:b<N) (hab:a<=b):RtK (moveT t a b n) cn N:=by
 have hk:=moveR_ok h.gok a.toNat b.toNat (by rw [h.w.n];omega) n (backS t.st) h.back;obtain ⟨_,_,gx⟩:=gridOk_rows hk;rw [moveR_len,h.w.n] at gx
 have e:moveT t a b n={ t with g:=moveR cn t.g a.toNat b.toNat n (backS t.st) }:=by unfold moveT;rw [h.w.gc,Int.toNat_natCast]
 rw [e]
 exact ⟨⟨h.w.gc,h.w.oc,h.w.c,by rw [<- h.w.n];exact moveR_len _ _ _ _ _ _,h.w.m,h.w.n1,fun i hi=>(gx i hi).1,h.w.ox,h.w.row,h.w.col,h.w.tb⟩,fun i hi=>(gx i hi).2,h.xr,h.st,h.ss,h.sr,h.sc,h.fu,h.tb,h.ti,h.pa,h.fe⟩
theorem RtK.cur {t:Te} {cn N:Nat} (h:RtK t cn N) (r c:Int) (hr:0<=r/\r<N) (hc:0<=c/\c<cn):RtK { t with row:=r,col:=c,full:=false } cn N :=
 ⟨⟨h.w.gc,h.w.oc,h.w.c,h.w.n,h.w.m,h.w.n1,h.w.gx,h.w.ox,hr,hc,h.w.tb⟩,h.gr,h.xr,h.st,h.ss,h.sr,h.sc,(fun e=>by cases e),h.tb,h.ti,h.pa,h.fe⟩
theorem RtK.rowp {t:Te} {cn N:Nat} (h:RtK t cn N) (r:Int) (hr:0<=r/\r<N):RtK { t with row:=r } cn N :=
 ⟨⟨h.w.gc,h.w.oc,h.w.c,h.w.n,h.w.m,h.w.n1,h.w.gx,h.w.ox,hr,h.w.col,h.w.tb⟩,h.gr,h.xr,h.st,h.ss,h.sr,h.sc,h.fu,h.tb,h.ti,h.pa,h.fe⟩
theorem RtK.nofull {t:Te} {cn N:Nat} (h:RtK t cn N):RtK { t with full:=false } cn N:=h.cur t.row t.col h.w.row h.w.col
theorem RtK.colp {t:Te} {cn N:Nat} (h:RtK t cn N) (c:Int) (hc:0<=c/\c<cn) (hf:t.full=false):RtK { t with col:=c } cn N :=
 ⟨⟨h.w.gc,h.w.oc,h.w.c,h.w.n,h.w.m,h.w.n1,h.w.gx,h.w.ox,h.w.row,hc,h.w.tb⟩,h.gr,h.xr,h.st,h.ss,h.sr,h.sc,(fun e=>by rw [hf] at e;cases e),h.tb,h.ti,h.pa,h.fe⟩
theorem RtK.style {t:Te} {cn N:Nat} (h:RtK t cn N) (s:St) (hs:s.ok=true):RtK { t with st:=s } cn N :=
 ⟨⟨h.w.gc,h.w.oc,h.w.c,h.w.n,h.w.m,h.w.n1,h.w.gx,h.w.ox,h.w.row,h.w.col,h.w.tb⟩,h.gr,h.xr,hs,h.ss,h.sr,h.sc,h.fu,h.tb,h.ti,h.pa,h.fe⟩
theorem RtK.line {t:Te} {cn N:Nat} (h:RtK t cn N):RtK (lineT t) cn N:=by
 have hr:=h.w.row;have hb:=h.w.tb;unfold lineT;split
 ·exact h.move _ _ _ hb.1 hb.2.2 hb.2.1
 ·split
  ·exact h.rowp _ (by have:=h.w.n;omega)
  ·exact h
theorem lineT_fullc (t:Te):(lineT t).full=t.full:=by unfold lineT moveT;(split;rfl;split<;>rfl)
theorem RtK.rowT {t:Te} {cn N:Nat} (h:RtK t cn N) (r:Int) (_hr:0<=r) (xs:List Ce) (hl:xs.length=cn) (hx:Right xs):RtK (rowT t r xs) cn N:=by
 have hlen:(t.g.set r.toNat xs).length=N:=by rw [List.length_set];exact h.w.n
 have hat:∀ i,i<N->rowX (t.g.set r.toNat xs) i=xs\/rowX (t.g.set r.toNat xs) i=rowX t.g i:=fun i hi=>by
  by_cases e:r.toNat=i
  ·left;rw [rowX_lt (by rw [hlen];exact hi)];simp [e]
  ·right;unfold rowX;simp [List.getD,e]
 unfold Go.Proofs.YtgcnmjjlmcnllaaGreatDoor.rowT
 exact ⟨⟨h.w.gc,h.w.oc,h.w.c,hlen,h.w.m,h.w.n1,fun i hi=>by rcases hat i hi with e|e<;>(show (rowX (t.g.set r.toNat xs) i).length=cn);rw [e];exact hl;rw [e];exact h.w.gx i hi,h.w.ox,h.w.row,h.w.col,h.w.tb⟩,
  fun i hi=>by rcases hat i hi with e|e<;>(show Right (rowX (t.g.set r.toNat xs) i));rw [e];exact hx;rw [e];exact h.gr i hi,h.xr,h.st,h.ss,h.sr,h.sc,h.fu,h.tb,h.ti,h.pa,h.fe⟩
theorem RtK.gat {t:Te} {cn N:Nat} (h:RtK t cn N) (r:Int) (hr:0<=r/\r<N):(rowX t.g r.toNat).length=cn/\Right (rowX t.g r.toNat):=⟨h.w.gx _ (by omega),h.gr _ (by omega)⟩
theorem RtK.clear {t:Te} {cn N:Nat} (h:RtK t cn N) (r p q:Int) (hr:0<=r/\r<N) (hq:q<=cn):RtK (clearT t r p q) cn N:=by
 obtain ⟨h1,h2⟩:=h.gat r hr;exact h.rowT r hr.1 _ (by rw [clearL_len];exact h1) (clearL_right h2 _ _ _ h.back (by rw [h1];omega))
theorem RtK.print {t:Te} {cn N:Nat} (h:RtK t cn N) (r:Int):RtK (printT t r) cn N:=by
 have hw:=widthV_bd r;unfold printT;split
 ·exact h
 ·rename_i hn
  have hc:=h.w.gc;have hcc:=h.w.c;have hcol:=h.w.col;have h0:=h.nofull;simp only
  have k1:∃ t1:Te,t1=(if t.full=true/\t.wrap=true then lineT { t with full:=false,col:=0 } else { t with full:=false })/\RtK t1 cn N/\t1.full=false/\t1.gc=cn:=by
   refine ⟨_,rfl,?_⟩;split
   ·refine ⟨(h.cur t.row 0 h.w.row (by omega)).line,?_,?_⟩
    ·rw [lineT_fullc]
    ·exact ((h.cur t.row 0 h.w.row (by omega)).line).w.gc
   ·exact ⟨h0,rfl,hc⟩
  obtain ⟨t1,e1,k1,f1,g1⟩:=k1;rw [<- e1]
  clear e1
  have k2:∃ t2:Te,t2=(if t.gc<t1.col+wdV r then (if t1.wrap=true then lineT { t1 with col:=0 } else { t1 with col:=t.gc-wdV r }) else t1)/\RtK t2 cn N/\t2.full=false/\t2.col+wdV r<=cn:=by
   refine ⟨_,rfl,?_⟩;split
   ·split
    ·have k:=(k1.colp 0 (by omega) f1).line
     refine ⟨k,by rw [lineT_fullc];exact f1,?_⟩;have e:(lineT { t1 with col:=0 }).col=0:=by unfold lineT moveT;(split;rfl;split<;>rfl)
     rw [e];omega
    ·refine ⟨k1.colp _ (by omega) f1,f1,?_⟩
     show t.gc-wdV r+wdV r<=cn
     omega
   ·exact ⟨k1,f1,by omega⟩
  obtain ⟨t2,e2,k2,f2,g2⟩:=k2;rw [<- e2]
  clear e2;obtain ⟨q1,q2⟩:=k2.gat t2.row k2.w.row;have hcol2:=k2.w.col;have k3:=k2.rowT t2.row k2.w.row.1 (writeL (rowX t2.g t2.row.toNat) t2.col.toNat r t2.st) (by rw [writeL_len];exact q1) (writeL_right q2 _ _ _ k2.st (by omega) (by rw [q1];omega));split
  ·have k:=k3.colp ((cn:Int)-1) (by omega) f2
   rw [hc]
   exact ⟨⟨k.w.gc,k.w.oc,k.w.c,k.w.n,k.w.m,k.w.n1,k.w.gx,k.w.ox,k.w.row,k.w.col,k.w.tb⟩,k.gr,k.xr,k.st,k.ss,k.sr,k.sc,fun _=>rfl,k.tb,k.ti,k.pa,k.fe⟩
  ·exact k3.colp _ (by omega) f2
theorem RtK.control {t:Te} {cn N:Nat} (h:RtK t cn N) (r:Int):RtK (controlT t r) cn N:=by
 have hc:=h.w.gc;have hcc:=h.w.c;have hcol:=h.w.col;unfold controlT;split
 ·exact h.cur t.row _ h.w.row (by omega)
 ·split
  ·exact h.cur t.row _ h.w.row (by omega)
  ·split
   ·exact h.line.nofull
   ·split
    ·exact h.cur t.row _ h.w.row (by omega)
    ·exact h
theorem newR_rows (cn N i:Nat) (hi:i<N):rowX (newR cn N) i=rowL cn St.zero:=by
 rw [rowX_lt (by simp [newR];exact hi)];simp [newR]
theorem RtK.anew {t:Te} {cn N:Nat} (h:RtK t cn N):RtK (anewT t) cn N:=by
 have hn:=h.w.n1;have hc:=h.w.c;unfold anewT newT;rw [h.w.gc,h.w.n,Int.toNat_natCast]
 have hl:(newR cn N).length=N:=by simp [newR]
 have hx:∀ i,i<N->(rowX (newR cn N) i).length=cn/\Right (rowX (newR cn N) i):=fun i hi=>by rw [newR_rows _ _ _ hi];exact ⟨rowL_len _ _,rowL_right _ _ rfl⟩
 exact ⟨⟨rfl,rfl,h.w.c,hl,hl,h.w.n1,fun i hi=>(hx i hi).1,fun i hi=>(hx i hi).1,⟨by show (0:Int)<=0;omega,by show (0:Int)<N;omega⟩,⟨by show (0:Int)<=0;omega,by show (0:Int)<cn;omega⟩,⟨by show (0:Int)<=0;omega,by show (0:Int)<=(N:Int)-1;omega,by show (N:Int)-1<N;omega⟩⟩,
  fun i hi=>(hx i hi).2,fun i hi=>(hx i hi).2,rfl,rfl,⟨by show (0:Int)<=0;omega,by show (0:Int)<N;omega⟩,⟨by show (0:Int)<=0;omega,by show (0:Int)<cn;omega⟩,(fun e=>by cases e),by show ¬ ((0:Int)=(N:Int)-1/\1<N);omega,h.ti,h.pa,h.fe⟩
theorem RtK.escape {t:Te} {cn N:Nat} (h:RtK t cn N) (r:Int):RtK (escapeT t r) cn N:=by
 have hcc:=h.w.c;have hcol:=h.w.col;have hb:=h.w.tb;have hr:=h.w.row;unfold escapeT;split
 ·exact h.line.nofull
 ·split
  ·have k:=h.line
   exact k.cur _ 0 k.w.row (by omega)
  ·split
   ·split
    ·exact (h.move _ _ _ hb.1 hb.2.2 hb.2.1).nofull
    ·exact h.cur _ t.col (by omega) h.w.col
   ·split
    ·have k:=h.nofull
     exact ⟨⟨k.w.gc,k.w.oc,k.w.c,k.w.n,k.w.m,k.w.n1,k.w.gx,k.w.ox,k.w.row,k.w.col,k.w.tb⟩,k.gr,k.xr,k.st,h.st,h.w.row,h.w.col,k.fu,k.tb,k.ti,k.pa,k.fe⟩
    ·split
     ·exact (h.cur t.sr t.sc h.sr h.sc).style _ h.ss
     ·split
      ·exact h.anew
      ·exact h
theorem RtK.goT {t:Te} {cn N:Nat} (h:RtK t cn N) (r c:Int) (hf:t.full=false):RtK (goT t r c) cn N:=by
 have hc:=h.w.gc;have hcc:=h.w.c;have hn:=h.w.n;have hn1:=h.w.n1;unfold Go.Proofs.YtgcnmjjlmcnllaaGreatDoor.goT;exact (h.rowp (max 0 (min ((t.g.length:Int)-1) r)) (by omega)).colp (max 0 (min (t.gc-1) c)) (by omega) hf
theorem RtK.eraseRow {t:Te} {cn N:Nat} (h:RtK t cn N) (how:Int):RtK (eraseRow t how) cn N:=by
 have hc:=h.w.gc;have hcol:=h.w.col;unfold Go.Proofs.YtgcnmjjlmcnllaaGreatDoor.eraseRow;split
 ·exact h.clear _ _ _ h.w.row (by omega)
 ·split
  ·exact h.clear _ _ _ h.w.row (by omega)
  ·split
   ·exact h.clear _ _ _ h.w.row (by omega)
   ·exact h
theorem RtK.eraseAll {t:Te} {cn N:Nat} (h:RtK t cn N) (how:Int):RtK (eraseAll t how) cn N:=by
 have hc:=h.w.gc;have hn:=h.w.n
 have hx:∀ i,i<N->(rowX (Go.Proofs.YtgcnmjjlmcnllaaGreatDoor.eraseAll t how).g i).length=cn/\Right (rowX (Go.Proofs.YtgcnmjjlmcnllaaGreatDoor.eraseAll t how).g i):=fun i hi=>by
  unfold Go.Proofs.YtgcnmjjlmcnllaaGreatDoor.eraseAll;simp only;rw [genR_at _ _ _ (by omega)]
  split
  ·rw [clearL_len]
   exact ⟨h.w.gx i hi,clearL_right (h.gr i hi) _ _ _ h.back (by rw [h.w.gx i hi];omega)⟩
  ·have k:=h.eraseRow how
   exact ⟨k.w.gx i hi,k.gr i hi⟩
 exact ⟨⟨h.w.gc,h.w.oc,h.w.c,by rw [<- hn];exact genR_len _ _,h.w.m,h.w.n1,fun i hi=>(hx i hi).1,h.w.ox,h.w.row,h.w.col,h.w.tb⟩,fun i hi=>(hx i hi).2,h.xr,h.st,h.ss,h.sr,h.sc,h.fu,h.tb,h.ti,h.pa,h.fe⟩
theorem parN_bd {p:List Int} (hp:∀ x∈p,0<=x/\x<=9999) (i:Nat) (u:Int) (hu:1<=u/\u<=9999):1<=parN p i u/\parN p i u<=9999:=by
 unfold parN;split
 ·exact hu
 ·rename_i h
  by_cases hi:i<p.length
  ·have e:p.getD i 0=p[i]:=by simp [List.getD,hi]
   have:=hp p[i] (List.getElem_mem hi);rw [e] at h ⊢
   omega
  ·exfalso;apply h;simp [List.getD,List.getElem?_eq_none (by omega:p.length<=i)]
theorem rtk_ite {c:Prop} [Decidable c] {a b:Te} {cn N:Nat} (h1:c->RtK a cn N) (h2:¬ c->RtK b cn N):RtK (if c then a else b) cn N:=by
 by_cases hc:c
 ·rw [if_pos hc];exact h1 hc
 ·rw [if_neg hc];exact h2 hc
theorem RtK.list {t:Te} {cn N:Nat} (h:RtK t cn N) (r:Int) (p:List Int) (hp:∀ x∈p,0<=x/\x<=9999):RtK (listT t r p) cn N:=by
 have hn:=parN_bd hp 0 1 (by omega);have hc:=h.w.gc;have hcc:=h.w.c;have hcol:=h.w.col;have hb:=h.w.tb;have hr:=h.w.row;have hN:=h.w.n;have hN1:=h.w.n1;have h0:=h.nofull;have hm:=parN_bd hp 1 (t.g.length:Int) (by omega);refine rtk_ite (fun _=>?_) fun _=>?_
 ·exact h0.rowp _ (by split<;>omega)
 refine rtk_ite (fun _=>?_) fun _=>?_
 ·exact h0.rowp _ (by split<;>omega)
 refine rtk_ite (fun _=>?_) fun _=>?_
 ·exact h0.goT _ _ rfl
 refine rtk_ite (fun _=>?_) fun _=>?_
 ·exact h0.goT _ _ rfl
 refine rtk_ite (fun _=>?_) fun _=>?_
 ·exact h0.goT _ _ rfl
 refine rtk_ite (fun _=>?_) fun _=>?_
 ·exact h0.goT _ _ rfl
 refine rtk_ite (fun _=>?_) fun _=>?_
 ·exact h0.goT _ _ rfl
 refine rtk_ite (fun _=>?_) fun _=>?_
 ·exact h0.eraseAll _
 refine rtk_ite (fun _=>?_) fun _=>?_
 ·exact h0.eraseRow _
 refine rtk_ite (fun _=>?_) fun _=>?_
 ·split
  ·exact (h0.move t.row t.bot _ (by omega) (by omega) (by omega)).colp 0 (by omega) rfl
  ·exact h0
 obtain ⟨q1,q2⟩:=h.gat t.row hr;refine rtk_ite (fun _=>?_) fun _=>?_
 ·exact h0.rowT _ hr.1 _ (by show (pushV _ _ _ _).length=cn;rw [pushV_len];exact q1) (pushV_right q2 _ _ _ h.back)
 refine rtk_ite (fun _=>?_) fun _=>?_
 ·exact h0.rowT _ hr.1 _ (by show (pullV _ _ _ _).length=cn;rw [pullV_len _ _ _ _ (by rw [q1];omega)];exact q1) (pullV_right q2 _ _ _ h.back)
 refine rtk_ite (fun _=>?_) fun _=>?_
 ·exact h0.clear _ _ _ hr (by omega)
 refine rtk_ite (fun _=>?_) fun _=>?_
 ·exact h0.move t.top t.bot _ hb.1 hb.2.2 hb.2.1
 refine rtk_ite (fun _=>?_) fun _=>?_
 ·exact h0.move t.top t.bot _ hb.1 hb.2.2 hb.2.1
 refine rtk_ite (fun _=>?_) fun _=>?_
 ·refine h.style _ ?_
  unfold stylN;split
  ·rfl
  ·exact styledF_ok _ _ h.st
 refine rtk_ite (fun _=>?_) fun _=>?_
 ·refine rtk_ite (fun hx=>?_) fun _=>?_
  ·have hx':parN p 0 1-1<parN p 1 (t.g.length:Int)-1/\parN p 1 (t.g.length:Int)-1<=(t.g.length:Int)-1:=hx
   have k:=h0.cur 0 0 (by omega) (by omega);exact ⟨⟨k.w.gc,k.w.oc,k.w.c,k.w.n,k.w.m,k.w.n1,k.w.gx,k.w.ox,k.w.row,k.w.col,⟨by show (0:Int)<=parN p 0 1-1;omega,by show parN p 0 1-1<=parN p 1 (t.g.length:Int)-1;omega,by show parN p 1 (t.g.length:Int)-1<N;omega⟩⟩,k.gr,k.xr,k.st,k.ss,k.sr,k.sc,(fun e=>by cases e),by show ¬ (parN p 0 1-1=parN p 1 (t.g.length:Int)-1/\1<N);omega,k.ti,k.pa,k.fe⟩
  ·exact h0
 ·exact h
theorem RtK.mode {t:Te} {cn N:Nat} (h:RtK t cn N) (on:Bool) (m:Int):RtK (modeT on t m) cn N:=by
 unfold modeT;split
 ·exact ⟨⟨h.w.gc,h.w.oc,h.w.c,h.w.n,h.w.m,h.w.n1,h.w.gx,h.w.ox,h.w.row,h.w.col,h.w.tb⟩,h.gr,h.xr,h.st,h.ss,h.sr,h.sc,h.fu,h.tb,h.ti,h.pa,h.fe⟩
 split
 ·exact ⟨⟨h.w.gc,h.w.oc,h.w.c,h.w.n,h.w.m,h.w.n1,h.w.gx,h.w.ox,h.w.row,h.w.col,h.w.tb⟩,h.gr,h.xr,h.st,h.ss,h.sr,h.sc,h.fu,h.tb,h.ti,h.pa,h.fe⟩
 split
 ·split
  ·exact h
  ·have hx:∀ i,i<N->(rowX (if on=true then newR t.gc.toNat t.g.length else t.o) i).length=cn/\Right (rowX (if on=true then newR t.gc.toNat t.g.length else t.o) i):=fun i hi=>by
    split
    ·rw [h.w.gc,h.w.n,Int.toNat_natCast,newR_rows _ _ _ hi];exact ⟨rowL_len _ _,rowL_right _ _ rfl⟩
    ·exact ⟨h.w.ox i hi,h.xr i hi⟩
   have hl:(if on=true then newR t.gc.toNat t.g.length else t.o).length=N:=by
    split
    ·simp [newR];exact h.w.n
    ·exact h.w.m
   exact ⟨⟨h.w.oc,h.w.gc,h.w.c,hl,h.w.n,h.w.n1,fun i hi=>(hx i hi).1,h.w.gx,h.w.row,h.w.col,h.w.tb⟩,fun i hi=>(hx i hi).2,h.gr,h.st,h.ss,h.sr,h.sc,h.fu,h.tb,h.ti,h.pa,h.fe⟩
 ·exact h
theorem RtK.modes {cn N:Nat} (on:Bool):∀ (p:List Int) {t:Te},RtK t cn N->RtK (p.foldl (modeT on) t) cn N
 | [],_,h=>h
 | m::p,_,h=>RtK.modes on p (h.mode on m)
def actB (a:Ac):Bool:=runeOk a.rune && (decide (a.params.length<=16) && (decide (a.mark=0\/a.mark=63) && ((decide (a.text.length<=40) && runesB a.text) && paramsB a.params)))
theorem paramsB_all {l:List Int} (h:paramsB l=true):∀ x∈l,0<=x/\x<=9999:=fun x hx=>by
 have:=List.all_eq_true.1 h x hx
 simpa using this
theorem RtK.doT {t:Te} {cn N:Nat} (h:RtK t cn N) (a:Ac) (ha:actB a=true):RtK (doT t a) cn N:=by
 unfold actB at ha;simp only [Bool.and_eq_true,decide_eq_true_eq] at ha;obtain ⟨_,_,_,⟨h4,h5⟩,h6⟩:=ha;unfold Go.Proofs.YtgcnmjjlmcnllaaGreatDoor.doT;split
 ·exact h.print _
 split
 ·exact h.control _
 split
 ·exact h.escape _
 split
 ·split
  ·exact h.list _ _ (paramsB_all h6)
  ·split
   ·exact RtK.modes _ _ h
   ·exact h
 split
 ·exact ⟨⟨h.w.gc,h.w.oc,h.w.c,h.w.n,h.w.m,h.w.n1,h.w.gx,h.w.ox,h.w.row,h.w.col,h.w.tb⟩,h.gr,h.xr,h.st,h.ss,h.sr,h.sc,h.fu,h.tb,⟨h4,h5⟩,h.pa,h.fe⟩
 ·exact h
def ApF (w:World) (B:Nat) (v:Tv) (vg vo:List Value) (pv:Value):Prop:=∀ g,pv.ownBlock=some g->g<w.heap.size/\¬ Ft B v vg vo g
theorem ApF.mono {w w':World} {B:Nat} {v:Tv} {vg vo:List Value} {pv:Value} (h:ApF w B v vg vo pv) (hs:w.heap.size<=w'.heap.size):ApF w' B v vg vo pv:=fun g e=>⟨Nat.lt_of_lt_of_le (h g e).1 hs,(h g e).2⟩
theorem SlN.si {w:World} {v:Value} {xs:List Int} (h:SlN w v xs):SlI w v xs:=by
 obtain ⟨a,c,hv,_,_,hr⟩:=h;exact ⟨a,c,hv,hr⟩
theorem SlN.grp {S:Nat->Prop} {w w':World} {u:Value} {xs:List Int} (h:SlN w u xs) (hg:GrP S w w') (hne:∀ g,u.ownBlock=some g->¬ S g):SlN w' u xs:=by
 obtain ⟨a,c,hv,hc0,hn,h|⟨b,off,ha,hlt,hc⟩⟩:=h
 ·exact ⟨a,c,hv,hc0,hn,.inl h⟩
 ·refine ⟨a,c,hv,hc0,hn,.inr ⟨b,off,ha,Nat.lt_of_lt_of_le hlt hg.size,fun i hi=>?_⟩⟩
  have e:=hg.2.2.2.2 b hlt (hne b (by rw [hv,ha];rfl));exact (World.cell?_of_block (w:=w) (a:=⟨b,off+i,none⟩) e).trans (hc i hi)
theorem SlN.res {w w':World} {T:TypeId} {base B:Nat} {X:List Value} {v v':Tv} {vg vo vg' vo':List Value} {t':Te} {u:Value} {xs:List Int} (h:SlN w u xs) (hd:ApF w B v vg vo u) (r:Res w w' T base B X v vg vo t' v' vg' vo'):SlN w' u xs/\ApF w' B v' vg' vo' u :=
 ⟨h.grp r.g (fun g e=>(hd g e).2),fun g e=>⟨Nat.lt_of_lt_of_le (hd g e).1 r.g.size,fun c=>(hd g e).2 (r.c g (hd g e).1 c)⟩⟩
theorem Scr.ftb {W:World} {T:TypeId} {base B:Nat} {X:List Value} {t:Te} {v:Tv} {vg vo:List Value} (h:Scr W T base B X t v vg vo) {k:Nat} (hk:Ft B v vg vo k):base<=k:=by
 rcases hk with rfl|hk|hk
 ·exact h.hb
 ·exact (GrS.bd h.o.1 hk).1
 ·exact (GrS.bd h.o.2.1 hk).1
theorem Scr.bel {W W':World} {T:TypeId} {base B:Nat} {X:List Value} {t t':Te} {v v':Tv} {vg vo vg' vo':List Value} (h:Scr W T base B X t v vg vo) (hbase:base<=W.heap.size) (r:Res W W' T base B X v vg vo t' v' vg' vo'):Below base W W':=r.g.to_below (fun _ c=>h.ftb c) hbase

def swapT (t:Te):Te:={ t with gc:=t.oc,g:=t.o,oc:=t.gc,o:=t.g }
def swapV (v:Tv):Tv:=⟨v.o,v.g,v.ti,v.pp,v.pt⟩
theorem Scr.swap {W W':World} {T:TypeId} {base B:Nat} {X:List Value} {t:Te} {v:Tv} {vg vo:List Value} (h:Scr W T base B X t v vg vo) (hg:W.grownBy W' (some B)) (hb:BlkC W' B T (X++(teCs (swapT t) (swapV v)).toList)):Res W W' T base B X v vg vo (swapT t) (swapV v) vo vg:=by
 have ho:=h.o.grown hg h.b h.n1 h.n2 h.n3;refine ⟨⟨hb,ho.swap,h.n1,h.n2,h.n3,h.hb⟩,GrP.of_grown hg (fun g e=>by cases e;exact .inl rfl),fun k _ c=>?_,rfl,rfl⟩;rcases c with c|c|c
 ·exact .inl c
 ·exact .inr (.inr c)
 ·exact .inr (.inl c)
theorem rowX_same (l:List (List Ce)) (j i:Nat) (r:List Ce) (hj:j<l.length):rowX (l.set j r) i=if i=j then r else rowX l i:=by
 by_cases e:i=j
 ·subst e
  rw [if_pos rfl,rowX_lt (by rw [List.length_set];exact hj)];simp
 ·rw [if_neg e];unfold rowX;simp [List.getD,Ne.symm e]
theorem allReady_one {P:Program} {ops:Array Oper} {Q:Exit->Act->World->Prop} {md:Region.Mode} {S:World->Prop} {fuel:Nat} {listed:Array Bool} {a:Act} {w:World} {i:Nat} {o:Oper} (ho:ops[i]?=some o) (hg:o.guard=none)
  (h:∀ K':Act->World->Prop,Shut (∀ a w,S w->(S w->wpAnyH P md ops Q S fuel (listed.setIfInBounds i true) a w)->K' a w)->Oper.wp P o a w K' Q):AllReadyH P md ops Q S fuel listed a w [i] :=
 AllReadyH.cons ho (fun K' hK=>by rw [if_pos (by simp [Region.wanted,hg])];exact h K' hK) AllReadyH.nil
theorem LiOk.new' {w:World} {base:Nat} {u:Value} {xs:List Int} {L:List (Value×List Int)} (h:LiOk w base L) (hu:OwnI w base u xs) (hn:∀ p∈L,∀ g,p.1.ownBlock=some g->u.ownBlock=some g->False):LiOk w base ((u,xs)::L) :=
 ⟨fun p hp=>by
  rcases List.mem_cons.1 hp with rfl|hp
  ·exact hu
  ·exact h.1 p hp,List.pairwise_cons.2 ⟨fun q hq g e1 e2=>hn q hq g e2 e1,h.2⟩⟩
theorem Scr.title {W0 W1 W':World} {T:TypeId} {base B:Nat} {X:List Value} {t:Te} {v:Tv} {vg vo:List Value} (h:Scr W0 T base B X t v vg vo) (hbase:base<=W0.heap.size) (hb:Below W0.heap.size W0 W1) (u:Value) (xs:List Int) (hu:OwnI W1 W0.heap.size u xs) (hg:W1.grownBy W' (some B)) (hb':BlkC W' B T (X++(teCs { t with ti:=xs } ⟨v.g,v.o,u,v.pp,v.pt⟩).toList)):Res W0 W' T base B X v vg vo { t with ti:=xs } ⟨v.g,v.o,u,v.pp,v.pt⟩ vg vo:=by
 have h1:=h.below hb
 have hl:LiOk W1 base [(u,xs),(v.pp,t.pa.params),(v.pt,t.pa.text)]:=h1.o.2.2.2.tail.new' (hu.low hbase) (fun p hp g e1 e2=>by
  have:=(h.o.2.2.2.tail.1 p hp).lt g e1;have:=(hu.lt g e2).1;omega)
 have ho:OwnS W1 base { t with ti:=xs } ⟨v.g,v.o,u,v.pp,v.pt⟩ vg vo:=⟨h1.o.1,h1.o.2.1,h1.o.2.2.1,hl⟩;have ho2:=ho.grown hg h1.b h.n1 h.n2 h.n3;exact ⟨⟨hb',ho2,h.n1,h.n2,h.n3,h.hb⟩,(GrP.of_below hb).trans (GrP.of_grown hg (fun g e=>by cases e;exact .inl rfl)),fun k _ c=>c,rfl,rfl⟩
theorem mix_gr {w1:World} {M a b N:Nat} {n:Int} {X:List Ce} {vs us:List Value} (hG:Gat w1 M vs X (sigM a b n) us) (hvl:vs.length=N) (hus:us.length=b+1-a) (hb:b<N):∀ k,k<M->RwS (mixV vs us a (b+1-a)) k->RwS vs k:=by
 intro k hk c;obtain ⟨i,hi,e⟩:=c;rw [mixV_len] at hi
 rw [mixV_at _ _ _ _ _ hi] at e
 by_cases c:a<=i/\i<a+(b+1-a)
 ·rw [if_pos c] at e
  cases es:sigM a b n (i-a) with
  | some p =>
   rw [hG.1 (i-a) p (by omega) es] at e
   exact ⟨p,by have:=sigM_some es;omega,e⟩
  | none =>
   have:=((hG.2.1 (i-a) (by omega) es).lt k e).1;omega
 ·rw [if_neg c] at e
  exact ⟨i,hi,e⟩
theorem l5Move_s (Bk base B cols:Nat) (v:Value) (vs:List Value) (rows:List (List Ce)) (a b:Nat) (n:Int) (s:St) (w:World) (hG:GrW w Bk cols v) (ho:OwnV w base B v vs rows) (hBk:v.ownBlock≠some Bk) (hB:B<=w.heap.size) (hbase:base<=w.heap.size) (hab:a<=b) (hbn:b<rows.length) (hn:-10000<=n/\n<=10000) (hl:rows.length<=1000) (hc:cols<=1000) :
  Calls Tryz.prog 209 #[.pointer (some ⟨Bk,0,none⟩),.int .i64 (a:Int),.int .i64 (b:Int),.int .i64 n,stV s] w fun e w'=>e=.returned (.tuple #[])/\(∃ vs',OwnV w' base w'.heap.size v vs' (moveR cols rows a b n s)/\∀ k,k<w.heap.size->RwS vs' k->RwS vs k)/\GrP (fun k=>v.ownBlock=some k) w w':=by
 have hvl:=ho.1;have hrow:=fun W=>l4Row_any cols s W hc
 have hin:=fun x W=>l1In_any x a b W
 have hS0:=StAt.new w s 28;have hb0:=bal' w (Obj.cells #[.int .i64 s.fore,.int .i64 s.back,.bool s.bold,.bool s.under,.bool s.turned] 28);rcases ho.shape with ⟨_,h⟩|⟨g,cap,rfl,hbg,hlg,hcap⟩
 ·rw [h] at hbn;simp at hbn
 have hvsl:=ho.areSl;have hgB:g≠Bk:=fun e=>hBk (by rw [e];rfl)
 have hBk0:=hG.1;clear hBk;unfold stV at *
 have k0:MvK w.heap.size (.slice (some ⟨w.heap.size+1,0,none⟩) 0 0) vs [] (rowL cols s) (sigM a b n) s w ((w.alloc (Obj.cells #[.int .i64 s.fore,.int .i64 s.back,.bool s.bold,.bool s.under,.bool s.turned] 28)).alloc (.cells #[] 120)):=by
  have e1:(w.alloc (Obj.cells #[.int .i64 s.fore,.int .i64 s.back,.bool s.bold,.bool s.under,.bool s.turned] 28)).heap.size=w.heap.size+1:=by simp
  have h1:=World.ownsRow_lit (base:=w.heap.size+1) (e:=120) (size:=1) (w.alloc (Obj.cells #[.int .i64 s.fore,.int .i64 s.back,.bool s.bold,.bool s.under,.bool s.turned] 28)) #[] 0 (by omega) (Nat.zero_le _) rfl;rw [e1] at h1
  exact ⟨hS0.below (bal' _ _),h1,Gat.nil _ _ _ _ _,hb0.trans ((bal' _ _).mono hb0.size)⟩
 clear hS0 hb0;go_enter Tryz.func209,Tryz.ntmps209;go_wp2;go_loopw [10,11] (fun u i wr=>∃ (q:Nat) (us:List Value),i=.int .i64 q/\a<=q/\q<=b+1/\us.length=q-a/\MvK w.heap.size u vs us (rowL cols s) (sigM a b n) s w wr) (fun _ i _=>b+1-(intOf i).toNat)
 case atStart=>exact ⟨a,[],rfl,Nat.le_refl _,by omega,by simp,k0⟩
 case round =>
  clear k0;obtain ⟨q,us,rfl,hq1,hq2,hul,k⟩:=hrel
  by_cases hlt:q<=b
  ·have hji:(q:Int)<=(b:Int):=by omega
   have hG1:=hG.below (k.2.2.2);have ho1:=ho.below (k.2.2.2);have c0:=hG1.2.1.1;have c1:=hG1.2.1.2;obtain ⟨_,⟨d0,d1,d2,d3,d4⟩,_⟩:=id k.1;have hM:=k.1.1;obtain ⟨ua,un,uc,rfl⟩:=ownsShape k.2.1
   by_cases hw:(a:Int)<=(q:Int)+n/\(q:Int)+n<=(b:Int)
   ·obtain ⟨p,hp⟩:∃ p:Nat,(q:Int)+n=(p:Int):=⟨((q:Int)+n).toNat,by omega⟩
    have hsg:sigM a b n us.length=some p:=by
     unfold sigM;rw [hul,if_pos (by omega)]
     congr 1;omega
    have hdd:decide ((a:Int)<=(p:Int)/\(p:Int)<=(b:Int))=true:=decide_eq_true (by omega);have hin1:=fun W=>l1In_any (p:Int) a b W
    simp only [hdd] at hin1;have hcp:=ho1.cell rfl p (by omega);have hp0:(0:Int)<=(p:Int):=by omega
    have hpl:(p:Int)<(rows.length:Int):=by omega
    have hr:=hvsl p (by omega);have hGat:=k.2.2.1.old p hsg;have hHp:Hid ((q:Int)+n=(p:Int)):=hp;have hlen:us.length<2000000:=by omega
    obtain ⟨ra,rn,rc,hre⟩:=hr;rw [hre] at hcp hGat
    have hfin:∀ (v':Value) (w':World),w'.ownsRow (w.heap.size+1) 120 1 v' (us.length+1) (us++[.slice ra rn rc])->(wr.alloc (.cells #[.slice ra rn rc] 120)).grownBy w' (Value.slice ua un uc).ownBlock->MvK w.heap.size v' vs (us++[.slice ra rn rc]) (rowL cols s) (sigM a b n) s w w':=fun v' w' h1 h2=>k.more hGat h1 h2
    have hown:=k.2.1;clear hrow hGat k hG1 ho1 hre hvsl hw hdd hin;go_wp2_with fail;refine (hin1 _).mono ?_;rintro e w2 ⟨rfl,hw⟩;subst hw;go_wp2_with (at_builtin;refine append_ov (by rfl) _ _ (by rfl) (w.heap.size+1) us.length (.slice ua un uc) us (.slice ra rn rc) (by rfl) hown ⟨_,_,_,rfl⟩ (by omega) hlen _ rfl (by rfl) ?_;intro v' w' ho' hg');have kk:=hfin v' w' ho' hg';clear hfin ho' hg' hown;go_wp2;go_roundw
    case rel=>exact ⟨q+1,us++[.slice ra rn rc],by go_num,by omega,by omega,by rw [List.length_append,hul,List.length_singleton];omega,kk⟩
    case measure=>simp [intOf];omega
   ·have hsg:sigM a b n us.length=none:=by
     unfold sigM;rw [hul,if_neg (by omega)]
    have hdd:decide ((a:Int)<=(q:Int)+n/\(q:Int)+n<=(b:Int))=false:=decide_eq_false hw;have hlen:us.length<2000000:=by omega
    have hS0:∀ W:World,Below wr.heap.size wr W->(W.cell? ⟨Bk,0,none⟩=some (.int .i64 cols)/\W.cell? ⟨w.heap.size,0,none⟩=some (.int .i64 s.fore)/\W.cell? ⟨w.heap.size,1,none⟩=some (.int .i64 s.back)/\W.cell? ⟨w.heap.size,2,none⟩=some (.bool s.bold)/\W.cell? ⟨w.heap.size,3,none⟩=some (.bool s.under)/\W.cell? ⟨w.heap.size,4,none⟩=some (.bool s.turned)):=fun W h=>⟨(hG1.below h).2.1.1,(k.1.below h).2.1⟩
    have hS1:∀ (W0 W:World) (r:Value),Below wr.heap.size wr W0->(W0.alloc (.cells #[r] 120)).grownBy W (Value.slice ua un uc).ownBlock->(W.cell? ⟨Bk,0,none⟩=some (.int .i64 cols)/\W.cell? ⟨w.heap.size,0,none⟩=some (.int .i64 s.fore)/\W.cell? ⟨w.heap.size,1,none⟩=some (.int .i64 s.back)/\W.cell? ⟨w.heap.size,2,none⟩=some (.bool s.bold)/\W.cell? ⟨w.heap.size,3,none⟩=some (.bool s.under)/\W.cell? ⟨w.heap.size,4,none⟩=some (.bool s.turned)):=fun W0 W r h hg=>by
     have h2:=h.trans ((bal' W0 (Obj.cells #[r] 120)).mono h.size);have h3:=fun g e=>(k.2.1.lt g e).1
     exact ⟨((hG1.below h2).grown hg (fun e=>by have:=h3 Bk e;omega)).2.1.1,((k.1.below h2).grown hg (fun e=>by have:=h3 w.heap.size e;omega)).2.1⟩
    have hfin:∀ (v' r:Value) (W0 w':World),Below wr.heap.size wr W0->OwnC W0 wr.heap.size r (rowL cols s)->w'.ownsRow (w.heap.size+1) 120 1 v' (us.length+1) (us++[r])->(W0.alloc (.cells #[r] 120)).grownBy w' (Value.slice ua un uc).ownBlock->MvK w.heap.size v' vs (us++[r]) (rowL cols s) (sigM a b n) s w w':=fun v' r W0 w' hb hr h1 h2=>(k.below hb).more (k.2.2.1.new hsg hb r hr (by omega)) h1 h2
    have hown:=fun W h=>World.ownsRow.below k.2.1 (w':=W) h
    have hin1:=fun W=>l1In_any ((q:Int)+n) a b W
    simp only [hdd] at hin1;clear hG1 ho1 hdd hin k;go_wp2_with fail;refine (hin1 _).mono ?_;rintro e w2 ⟨rfl,hw⟩;subst hw;have hbd:=bdr w2;have hkd:=hS0 _ hbd;go_wp2
    go_region_held3 (fun W=>W.cell? ⟨Bk,0,none⟩=some (.int .i64 cols)/\W.cell? ⟨w.heap.size,0,none⟩=some (.int .i64 s.fore)/\W.cell? ⟨w.heap.size,1,none⟩=some (.int .i64 s.back)/\W.cell? ⟨w.heap.size,2,none⟩=some (.bool s.bold)/\W.cell? ⟨w.heap.size,3,none⟩=some (.bool s.under)/\W.cell? ⟨w.heap.size,4,none⟩=some (.bool s.turned)) (with_reducible assumption)
     (first
      | (go_at_call 160;refine (hrow _).mono ?_;rintro e wk ⟨r,rfl,hor,hb2⟩;obtain ⟨ra,rn,rc,rfl⟩:=hor.isSl;have hbk:=hbd.trans (hb2.mono hbd.size);have hka:=hS0 _ hbk;have hkl:=hS0 _ (hbk.trans ((bal' wk (Obj.cells #[.slice ra rn rc] 120)).mono hbk.size)))
      | (refine step_append_ov (by rfl) _ _ (by rfl) (w.heap.size+1) us.length (.slice ua un uc) us (.slice ra rn rc) (by rfl) (hown _ hbk) ⟨_,_,_,rfl⟩ (Nat.le_trans hM hbk.size) hlen _ rfl (by rfl) ?_;intro v' w' ho' hg';have hkc:=hS1 _ _ _ hbk hg'))
    have kk:=hfin v' _ wk w' hbk hor ho' hg';clear hfin hS0 hS1 hown ho' hg' hor hb2 hbk hka hkl hkc hkd hbd hrow;go_wp2;go_roundw
    case rel=>exact ⟨q+1,us++[.slice ra rn rc],by go_num,by omega,by omega,by rw [List.length_append,hul,List.length_singleton];omega,kk⟩
    case measure=>simp [intOf];omega
  ·have hji:¬ (q:Int)<=(b:Int):=by omega
   have hqe:q=b+1:=by omega
   subst hqe;have hM:=k.1.1;have hG1:=hG.below (k.2.2.2);have ho1:=ho.below (k.2.2.2);have husl:AreSl us:=k.2.2.1.areSl hvsl (fun k p _ e=>by have:=sigM_some e;omega);rcases k.2.1.2 with ⟨_,h⟩|⟨gu,cu,cur,rfl,hgu,hgu2,_⟩
   ·omega
   have hne:gu≠g:=by omega
   have hown1:=ho1.2.1;have hown2:=k.2.1;have hGat:=k.2.2.1;have hbw:=k.2.2.2;obtain ⟨w1,rfl⟩:∃ w1,w1=wr:=⟨wr,rfl⟩;clear k hin hrow hgu2;go_wp2;go_loopw [12] (fun i W=>∃ (q:Nat),i=.int .i64 q/\a<=q/\q<=b+1/\W.ownsRow base 120 1 (.slice (some ⟨g,0,none⟩) rows.length cap) rows.length (mixV vs us a (q-a))/\w1.grownBy W (some g)) (fun i _=>b+1-(intOf i).toNat)
   case atStart=>exact ⟨a,rfl,Nat.le_refl _,by omega,by rw [Nat.sub_self,mixV_zero];exact hown1,World.grownBy.refl _ _⟩
   case round =>
    obtain ⟨q,rfl,hq1,hq2,ko,kg⟩:=hrel
    by_cases hlt:q<=b
    ·have hji2:(q:Int)<=(b:Int):=by omega
     obtain ⟨j,hj⟩:∃ j:Nat,(q:Int)-(a:Int)=(j:Int):=⟨q-a,by omega⟩;have hj2:q-a=j:=by omega
     have hj3:q+1-a=j+1:=by omega
     have hq3:q=a+j:=by omega
     have hst:=mixV_step vs us a j (by omega);rw [hj2] at ko
     obtain ⟨ra,rn,rc,hre⟩:=husl j (by omega);rw [hre] at hst
     have hcu:w1.cell? ⟨gu,j,none⟩=some (.slice ra rn rc):=by rw [World.ownsRow.cellAt hown2 j (by omega),rowV_get (by omega),hre]
     have hown3:=World.ownsRow.kept hown2 kg (Or.inr (fun e=>hne (Option.some.inj e)));have hcq:_:=World.ownsRow.cellAt ko q (by omega);have hfz:=World.ownsRow.frozenAt ko q
     have hvq:∃ a' n' c',rowV (mixV vs us a j) q=Value.slice a' n' c':=by
      rw [mixV_at _ _ _ _ _ (by omega)]
      split
      ·exact husl _ (by omega)
      ·exact hvsl _ (by omega)
     rw [rowV_get (by rw [mixV_len];omega)] at hcq
     have c1:=(hG1.grown kg (by simp;exact hgB)).2.1.2;have hcu2:wr.cell? ⟨gu,j,none⟩=some (.slice ra rn rc):=by rw [World.ownsRow.cellAt hown3 j (by omega),rowV_get (by omega),hre]
     have hkd:=(show (wr.drew.cell? ⟨Bk,1,none⟩=some (.slice (some ⟨g,0,none⟩) rows.length cap)/\wr.drew.cell? ⟨gu,j,none⟩=some (.slice ra rn rc)) from ⟨c1,hcu2⟩);have hk0:=World.ownsRow.stored ko q (.slice ra rn rc)
     have hk1:(wr.setCell ⟨g,q,none⟩ (.slice ra rn rc)).drew.ownsRow base 120 1 (.slice (some ⟨g,0,none⟩) rows.length cap) rows.length (mixV vs us a (q+1-a)):=by
      rw [hj3,hst,<- hq3];exact World.ownsRow.below hk0.1 (bdr _)
     have hkg:w1.grownBy (wr.setCell ⟨g,q,none⟩ (.slice ra rn rc)).drew (some g):=grown_tr (grown_tr kg hk0.2) (gbl (bdr _) (some g))
     have hks:(wr.setCell ⟨g,q,none⟩ (.slice ra rn rc)).drew.cell? ⟨Bk,1,none⟩=some (.slice (some ⟨g,0,none⟩) rows.length cap)/\(wr.setCell ⟨g,q,none⟩ (.slice ra rn rc)).drew.cell? ⟨gu,j,none⟩=some (.slice ra rn rc):=by
      refine ⟨(hG1.grown hkg (by simp;exact hgB)).2.1.2,?_⟩;rw [World.ownsRow.cellAt (World.ownsRow.kept hown2 hkg (Or.inr (fun e=>hne (Option.some.inj e)))) j (by omega),rowV_get (by omega),hre]
     obtain ⟨xa,xn,xc,hxe⟩:=hvq;have hwj:IntKind.i64.wrap ((q:Int)-(a:Int))=(j:Int):=by rw [hj];simp [IntKind.wrap_i64];omega
     rw [hxe] at hcq
     have hqr:q<rows.length:=by omega
     have hjl:j<b+1-a:=by omega
     have hj0:(0:Int)<=(j:Int):=by omega
     have hqri:(q:Int)<(rows.length:Int):=by omega
     have hjli:(j:Int)<((b+1-a:Nat):Int):=by omega
     clear hul hvl hj hk0 hxe hown3 hst hre hcu ko kg hGat hown1 hown2 hG1 ho1 husl hvsl hj2 hj3 hq3;go_wp2;go_region_held3 (fun W=>W.cell? ⟨Bk,1,none⟩=some (.slice (some ⟨g,0,none⟩) rows.length cap)/\W.cell? ⟨gu,j,none⟩=some (.slice ra rn rc)) (with_reducible assumption) (fail);clear hks hkd;go_wp2;go_roundw
     case rel=>exact ⟨q+1,by go_num,by omega,by omega,hk1,hkg⟩
     case measure=>simp [intOf];omega
    ·have hji2:¬ (q:Int)<=(b:Int):=by omega
     have hqe:q=b+1:=by omega
     subst hqe;have hfin:=mixed_move ho1 hGat hul hab hbn hbase hB ko kg;have hbb:=(GrP.of_below (S:=fun k=>Value.ownBlock (.slice (some ⟨g,0,none⟩) rows.length cap)=some k) hbw).trans (GrP.of_grown kg (fun g' e=>by cases e;rfl));have hmg:=mix_gr hGat hvl hul hbn;clear ko kg hGat hown1 hown2 hG1 ho1 husl hvsl hul;go_wp2;refine be ?_;exact ⟨rfl,⟨_,hfin,hmg⟩,hbb⟩
end Go.Proofs.YtgcnmjjlmcnllaaGreatDoor
