import Derived.Test.YtfpopnkhmjkdlaaGreatDoorP23
set_option maxRecDepth 20000
set_option maxHeartbeats 16000000
namespace Go.Proofs.YtfpopnkhmjkdlaaGreatDoor
open Go.ChangeShapes Go.WideShapes Go.ChangeAt Go.RowKit
def Qb (t:Te):Te:=if t.row=t.top then XH t t.top t.bot (-1) else { t with row:=max 0 (t.row-1) }
theorem Za (t:Te) (c:Int):Xm { t with col:=c }={ Xm t with col:=c }:=by
 unfold Xm XH;split
 ·rfl
 ·split<;>rfl
theorem RtW.cols {t:Te} {cn N:Nat} (h:RtW t cn N) (c:Int) (hc:0<=c/\c<cn):RtW { t with col:=c } cn N:=⟨h.gc,h.oc,h.c,h.n,h.m,h.n1,h.gx,h.ox,h.row,hc,h.tb⟩
theorem JN (cn N base B:Nat) (x0 x1 x2 x3 x4 x5:Value) (t:Te) (v:Tv) (vg vo:List Value) (w:World) (h:Scr w 98 base B [x0,x1,x2,x3,x4,x5] t v vg vo) (hbase:base<=w.heap.size) (rt:RtW t cn N) :
  Calls Tryz.prog 177 #[.pointer (some ⟨B,0,none⟩)] w fun e w'=>e=.returned (.tuple #[])/\∃ v' vg' vo',Res w w' 98 base B [x0,x1,x2,x3,x4,x5] v vg vo { Xm t with col:=0 } v' vg' vo':=by
 have h1:Res w (w.setCell ⟨B,11,none⟩ (.int .i64 0)) 98 base B [x0,x1,x2,x3,x4,x5] v vg vo { t with col:=0 } v vg vo :=
  h.put (sCg B [.int .i64 0] 11 w) _ (sCh B 98 [.int .i64 0] 11 w _ h.b) rfl rfl rfl rfl rfl
 have c11:w.cell? ⟨B,11,none⟩=some (.int .i64 t.col):=h.cell 11;have z11:w.frozen? ⟨B,11,none⟩=false:=h.frozen 11;rw [<- Za]
 have hfl:=ZK cn N base B x0 x1 x2 x3 x4 x5 { t with col:=0 } v vg vo _ h1.s (Nat.le_trans hbase h1.g.size) (rt.cols 0 (by have:=rt.c;omega));replace h1:=(show Hid _ from h1);clear h rt hbase;go_enter Tryz.func177,Tryz.ntmps177;go_wp2_with fail;refine hfl.mono ?_;rintro e w2 ⟨rfl,v2,g2,o2,hR2⟩;replace hR2:=(show Hid _ from h1.out.trans hR2);clear hfl h1;go_wp2;refine be ?_;exact ⟨rfl,_,_,_,hR2.out⟩
theorem XbD (cn N base B:Nat) (x0 x1 x2 x3 x4 x5:Value) (t:Te) (v:Tv) (vg vo:List Value) (w:World) (h:Scr w 98 base B [x0,x1,x2,x3,x4,x5] t v vg vo) (hbase:base<=w.heap.size) (rt:RtW t cn N) :
  Calls Tryz.prog 180 #[.pointer (some ⟨B,0,none⟩)] w fun e w'=>e=.returned (.tuple #[])/\∃ v' vg' vo',Res w w' 98 base B [x0,x1,x2,x3,x4,x5] v vg vo (Qb t) v' vg' vo':=by
 have c10:w.cell? ⟨B,10,none⟩=some (.int .i64 t.row):=h.cell 10;have c17:w.cell? ⟨B,17,none⟩=some (.int .i64 t.top):=h.cell 17;have c18:w.cell? ⟨B,18,none⟩=some (.int .i64 t.bot):=h.cell 18;have z10:w.frozen? ⟨B,10,none⟩=false:=h.frozen 10;obtain ⟨r1,r2⟩:=rt.row;obtain ⟨b1,b2,b3⟩:=rt.tb;have hn2:=rt.n1.2
 by_cases hb:t.row=t.top
 ·have hru:=fun W (hbW:Below w.heap.size w W)=>Jl cn N base B x0 x1 x2 x3 x4 x5 t v vg vo W (h.below hbW) (Nat.le_trans hbase hbW.size) rt t.top.toNat (t.bot+1-t.top).toNat 1 (by omega) (by omega)
  rw [show ((t.top.toNat:Nat):Int)=t.top by omega,show t.top+((t.bot+1-t.top).toNat:Int)-1=t.bot by omega] at hru
  have hV:Hid (Qb t=XH t t.top t.bot (-((1:Nat):Int))):=by show _=_;unfold Qb;rw [if_pos hb];rfl
  rw [hV.out]
  have hof:=fun W (hbW:Below w.heap.size w W)=>Res.of_below h hbW
  have hd:=(bdr w).trans ((bdr w.drew).mono (bdr w).size);rw [hb] at c10
  clear rt hbase hb r1 r2 b1 b2 b3 hn2 hV h;go_enter Tryz.func180,Tryz.ntmps180;go_wp2;go_region;go_wp2;refine wp_region_noPanic ?_;refine wp_region_held_drew (S:=(fun _=>True)) (by kernel_rfl) (trivial) (fun Hh=>?_);refine tK 0 ?_;refine tK 1 ?_;refine tK 2 ?_;refine tK 3 ?_;refine tK 4 ?_;refine tK 6 ?_;refine tK 7 ?_;refine tK 8 ?_;refine tk 9 ?_;refine rd2 5 10 (fun K hK=>?_) fun K hK=>?_
  ·go_simp
   refine hK.out _ _ (trivial) (fun Hh=>?_);clear hK K;refine rd 10 fun K hK=>?_
   go_simp;refine hK.out _ _ (trivial) (fun Hh=>?_);clear hK K;refine rd 11 fun K hK=>?_
   go_simp;refine (hru _ hd).mono ?_;rintro e w2 ⟨rfl,v2,vg2,vo2,hR⟩;go_wp2_with fail;refine hK.out _ _ (trivial) (fun Hh=>?_);clear hK K
   (try simp only [Act.put,ZA,ZB,ZC,ZD,ZE,ZF])
   refine dn ?_;go_wp2;exact bodyPost_ret (v:=.tuple #[]) (results_none rfl _ _ _) rfl ⟨rfl,_,_,_,(hof _ hd).trans hR⟩
  ·go_simp
   refine hK.out _ _ (trivial) (fun Hh=>?_);clear hK K;refine rd 5 fun K hK=>?_
   go_simp;refine hK.out _ _ (trivial) (fun Hh=>?_);clear hK K;refine rd 11 fun K hK=>?_
   go_simp;refine (hru _ hd).mono ?_;rintro e w2 ⟨rfl,v2,vg2,vo2,hR⟩;go_wp2_with fail;refine hK.out _ _ (trivial) (fun Hh=>?_);clear hK K
   (try simp only [Act.put,ZA,ZB,ZC,ZD,ZE,ZF])
   refine dn ?_;go_wp2;exact bodyPost_ret (v:=.tuple #[]) (results_none rfl _ _ _) rfl ⟨rfl,_,_,_,(hof _ hd).trans hR⟩
 ·have hq:(t.row==t.top)=false:=by simp [hb]
  obtain ⟨q,e⟩:∃ q,Hid (max 0 (t.row-1)=q):=⟨_,rfl⟩;have hV:Hid (Qb t={ t with row:=q }):=by show _=_;unfold Qb;rw [if_neg hb,e.out]
  rw [hV.out]
  have hmx:max (t.row-1) 0=q:=by have:=e.out;omega
  have hw:IntKind.i64.wrap (t.row-1)=t.row-1:=by simp [IntKind.wrap,IntKind.bits,IntKind.signed];omega
  have hR:Hid (Res w (w.setCell ⟨B,10,none⟩ (.int .i64 q)).drew 98 base B [x0,x1,x2,x3,x4,x5] v vg vo { t with row:=q } v vg vo) :=
   Res.below (h.put (sCg B [.int .i64 q] 10 w) _ (sCh B 98 [.int .i64 q] 10 w _ h.b) rfl rfl rfl rfl rfl) (bdr _)
  clear rt hbase hb hV h b1 b2 b3 r2;go_enter Tryz.func180,Tryz.ntmps180;go_wp2;go_region;go_wp2;refine be ?_;exact ⟨rfl,_,_,_,hR.out⟩
theorem ZT (t:Te) (b:Bool):Xm { t with full:=b }={ Xm t with full:=b }:=by
 unfold Xm XH;split
 ·rfl
 ·split<;>rfl
theorem RtW.full {t:Te} {cn N:Nat} (h:RtW t cn N) (b:Bool):RtW { t with full:=b } cn N:=⟨h.gc,h.oc,h.c,h.n,h.m,h.n1,h.gx,h.ox,h.row,h.col,h.tb⟩
theorem XaE (cn N base B:Nat) (t:Te) (v:Tv) (vg vo:List Value) (w:World) (h:Scr w 35 base B [] t v vg vo) (hbase:base<=w.heap.size) (rt:RtW t cn N) (r:Int) :
  Calls Tryz.prog 142 #[.pointer (some ⟨B,0,none⟩),.int .i64 r] w fun e w'=>e=.returned (.tuple #[])/\∃ v' vg' vo',Res w w' 35 base B [] v vg vo (XL t r) v' vg' vo':=by
 obtain ⟨k1,k2⟩:=rt.col;have hc:=rt.c
 have full:∀ (W1:World) (t1:Te) (b:Bool) (v1:Tv) (g1 o1:List Value),Scr W1 35 base B [] t1 v1 g1 o1->Res W1 (W1.setCell ⟨B,13,none⟩ (.bool b)) 35 base B [] v1 g1 o1 { t1 with full:=b } v1 g1 o1 :=
  fun W1 t1 b v1 g1 o1 h1=>h1.put (sCg B [.bool b] 13 W1) _ (sCh B 35 [.bool b] 13 W1 _ h1.b) rfl rfl rfl rfl rfl
 have colp:∀ (W1:World) (t1:Te) (c:Int) (v1:Tv) (g1 o1:List Value),Scr W1 35 base B [] t1 v1 g1 o1->Res W1 (W1.setCell ⟨B,5,none⟩ (.int .i64 c)) 35 base B [] v1 g1 o1 { t1 with col:=c } v1 g1 o1 :=
  fun W1 t1 c v1 g1 o1 h1=>h1.put (sCg B [.int .i64 c] 5 W1) _ (sCh B 35 [.int .i64 c] 5 W1 _ h1.b) rfl rfl rfl rfl rfl
 have c0:w.cell? ⟨B,0,none⟩=some (.int .i64 t.gc):=h.cell 0;have c5:w.cell? ⟨B,5,none⟩=some (.int .i64 t.col):=h.cell 5;have z5:w.frozen? ⟨B,5,none⟩=false:=h.frozen 5;have c13:w.cell? ⟨B,13,none⟩=some (.bool t.full):=h.cell 13;have z13:w.frozen? ⟨B,13,none⟩=false:=h.frozen 13;have h1:=full w t false v vg vo h
 by_cases r8:r=8
 ·subst r8
  obtain ⟨q,hq⟩:∃ q,Hid (max 0 (t.col-1)=q):=⟨_,rfl⟩;have hV:XL t 8={ { t with full:=false } with col:=q }:=by rw [<- hq.out];rfl
  rw [hV]
  have hR:=(show Hid _ from h1.trans (colp _ _ q _ _ _ h1.s));have hw:IntKind.i64.wrap (t.col-1)=t.col-1:=by simp [IntKind.wrap,IntKind.bits,IntKind.signed];omega
  have hmx:=fun W=>Uj 0 (t.col-1) W
  rw [hq.out] at hmx
  clear h full colp rt hbase h1 hV;go_enter Tryz.func142,Tryz.ntmps142;go_wp2_with fail;refine (hmx _).mono ?_;rintro e w1 ⟨rfl,hw1⟩;subst hw1;go_wp2;refine be ?_;exact ⟨rfl,_,_,_,hR.out⟩
 by_cases r13:r=13
 ·subst r13
  have hV:XL t 13={ { t with full:=false } with col:=0 }:=rfl;rw [hV]
  have hR:=(show Hid _ from h1.trans (colp _ _ 0 _ _ _ h1.s));clear h full colp rt hbase h1 hV r8;go_enter Tryz.func142,Tryz.ntmps142;go_wp2;refine be ?_;exact ⟨rfl,_,_,_,hR.out⟩
 by_cases r10:r=10
 ·subst r10
  have hV:XL t 10=Xm { t with full:=false }:=by rw [ZT];rfl
  rw [hV]
  have hfl:=YY cn N base B { t with full:=false } v vg vo _ h1.s (Nat.le_trans hbase h1.g.size) (rt.full false);clear h full colp rt hbase hV c0 c5 z5;replace h1:=(show Hid _ from h1);go_enter Tryz.func142,Tryz.ntmps142;go_wp2_with fail;refine hfl.mono ?_;rintro e w2 ⟨rfl,v2,g2,o2,hR2⟩;replace hR2:=(show Hid _ from h1.out.trans hR2);clear hfl h1;go_wp2;refine be ?_;exact ⟨rfl,_,_,_,hR2.out⟩
 by_cases r11:r=11
 ·subst r11
  have hV:XL t 11=Xm { t with full:=false }:=by rw [ZT];rfl
  rw [hV]
  have hfl:=YY cn N base B { t with full:=false } v vg vo _ h1.s (Nat.le_trans hbase h1.g.size) (rt.full false);clear h full colp rt hbase hV c0 c5 z5;replace h1:=(show Hid _ from h1);go_enter Tryz.func142,Tryz.ntmps142;go_wp2_with fail;refine hfl.mono ?_;rintro e w2 ⟨rfl,v2,g2,o2,hR2⟩;replace hR2:=(show Hid _ from h1.out.trans hR2);clear hfl h1;go_wp2;refine be ?_;exact ⟨rfl,_,_,_,hR2.out⟩
 by_cases r12:r=12
 ·subst r12
  have hV:XL t 12=Xm { t with full:=false }:=by rw [ZT];rfl
  rw [hV]
  have hfl:=YY cn N base B { t with full:=false } v vg vo _ h1.s (Nat.le_trans hbase h1.g.size) (rt.full false);clear h full colp rt hbase hV c0 c5 z5;replace h1:=(show Hid _ from h1);go_enter Tryz.func142,Tryz.ntmps142;go_wp2_with fail;refine hfl.mono ?_;rintro e w2 ⟨rfl,v2,g2,o2,hR2⟩;replace hR2:=(show Hid _ from h1.out.trans hR2);clear hfl h1;go_wp2;refine be ?_;exact ⟨rfl,_,_,_,hR2.out⟩
 by_cases r9:r=9
 ·subst r9
  obtain ⟨q,hq⟩:∃ q,Hid (min (t.gc-1) (t.col / 8*8+8)=q):=⟨_,rfl⟩;have hV:XL t 9={ { t with full:=false } with col:=q }:=by rw [<- hq.out];rfl
  rw [hV]
  have hR:=(show Hid _ from (h1.trans (colp _ _ q _ _ _ h1.s)).below (bdr _));have hgc:=rt.gc;have e0:IntKind.i64.wrap (t.gc-1)=t.gc-1:=by simp [IntKind.wrap,IntKind.bits,IntKind.signed];omega
  have hmn:∀ W,Calls Tryz.prog 158 #[.int .i64 (IntKind.i64.wrap (t.gc-1)),.int .i64 (IntKind.i64.wrap (IntKind.i64.wrap (IntKind.i64.wrap (t.col.tdiv 8)*8)+8))] W fun e w'=>e=.returned (.int .i64 q)/\w'=W:=by
   intro W;have e1:t.col.tdiv 8=t.col / 8:=Int.tdiv_eq_ediv_of_nonneg k1;have e2:IntKind.i64.wrap (t.col / 8)=t.col / 8:=by simp [IntKind.wrap,IntKind.bits,IntKind.signed];omega
   have e3:IntKind.i64.wrap (t.col / 8*8)=t.col / 8*8:=by simp [IntKind.wrap,IntKind.bits,IntKind.signed];omega
   have e4:IntKind.i64.wrap (t.col / 8*8+8)=t.col / 8*8+8:=by simp [IntKind.wrap,IntKind.bits,IntKind.signed];omega
   rw [e0,e1,e2,e3,e4,<- hq.out]
   exact Zw _ _ W
  clear h full colp rt hbase h1 hV r8 r13 e0 hgc;go_enter Tryz.func142,Tryz.ntmps142;go_wp2;refine wp_region_noPanic ?_;refine wp_region_held_drew (S:=(fun _=>True)) (by kernel_rfl) (trivial) (fun Hh=>?_);refine tK 0 ?_;refine tK 1 ?_;refine tK 2 ?_;refine tK 3 ?_;refine tK 4 ?_;refine tK 7 ?_;refine tK 8 ?_;refine tk 9 ?_;refine rd2 5 10 (fun K hK=>?_) fun K hK=>?_
  ·go_simp
   refine hK.out _ _ (trivial) (fun Hh=>?_);clear hK K;refine tk 6 ?_;refine rd 10 fun K hK=>?_
   go_simp;refine hK.out _ _ (trivial) (fun Hh=>?_);clear hK K;refine tK 11 ?_;refine tK 12 ?_;refine tk 13 ?_;refine rd 14 fun K hK=>?_
   go_simp;refine (hmn _).mono ?_;rintro e wk ⟨rfl,hw⟩;subst hw;go_wp2_with fail;refine hK.out _ _ (trivial) (fun Hh=>?_);clear hK K;refine tK 15 ?_;refine tk 16 ?_;refine rd 17 fun K hK=>?_
   go_simp;refine hK.out _ _ (trivial) (fun Hh=>?_);clear hK K
   (try simp only [Act.put,ZA,ZB,ZC,ZD,ZE,ZF])
   refine dn ?_;go_wp2;refine be ?_;exact ⟨rfl,_,_,_,hR.out⟩
  ·go_simp
   refine hK.out _ _ (trivial) (fun Hh=>?_);clear hK K;refine tK 11 ?_;refine tK 12 ?_;refine tk 13 ?_;refine rd 5 fun K hK=>?_
   go_simp;refine hK.out _ _ (trivial) (fun Hh=>?_);clear hK K;refine tk 6 ?_;refine rd 14 fun K hK=>?_
   go_simp;refine (hmn _).mono ?_;rintro e wk ⟨rfl,hw⟩;subst hw;go_wp2_with fail;refine hK.out _ _ (trivial) (fun Hh=>?_);clear hK K;refine tK 15 ?_;refine tk 16 ?_;refine rd 17 fun K hK=>?_
   go_simp;refine hK.out _ _ (trivial) (fun Hh=>?_);clear hK K
   (try simp only [Act.put,ZA,ZB,ZC,ZD,ZE,ZF])
   refine dn ?_;go_wp2;refine be ?_;exact ⟨rfl,_,_,_,hR.out⟩
 have hV:XL t r=t:=by unfold XL;rw [if_neg r8,if_neg r9,if_neg (by omega),if_neg r13]
 rw [hV]
 have q8:(r==8)=false:=by simp [r8]
 have q9:(r==9)=false:=by simp [r9]
 have q10:(r==10)=false:=by simp [r10]
 have q11:(r==11)=false:=by simp [r11]
 have q12:(r==12)=false:=by simp [r12]
 have q13:(r==13)=false:=by simp [r13]
 have hR:=(show Hid _ from h1.trans (full _ _ t.full _ _ _ h1.s));clear h full colp rt hbase h1 hV r8 r9 r10 r11 r12 r13;go_enter Tryz.func142,Tryz.ntmps142;go_wp2;refine be ?_;exact ⟨rfl,_,_,_,hR.out⟩
theorem XbR (p:Ac) (pv tv:Value) (left:Nat) (w:World) (hp:SlI w pv p.params) (ht:SlI w tv p.text) (hpl:p.params.length<=maxLen) (htl:p.text.length<=maxLen) (hf:left<=4611686018427387904) :
  Calls Tryz.prog 29 #[.agg (acA p.kind p.rune pv p.mark tv),.int .i64 left] w fun e w'=>e=.returned (.int .i64 (szP p.params.length p.text.length left))/\Below w.heap.size w w':=by
 obtain ⟨k,r,ps,m,ts⟩:=p;have hb:=Xd w (Obj.cells #[.int .i64 k,.int .i64 r,pv,.int .i64 m,tv] 66);have hP:=Xj.new w 66 (acA k r pv m tv).toList;have h1:=UK pv ps left _ (hp.below hb) hpl hf;have h2:=fun l h=>UK tv ts l _ (ht.below hb) htl h
 unfold acA at *;simp only at *;obtain ⟨pa,pc,hpv⟩:=hp.shp;obtain ⟨ta,tc,htv⟩:=ht.shp;subst hpv;subst htv;have c0:(w.alloc (Obj.cells #[.int .i64 k,.int .i64 r,.slice pa ps.length pc,.int .i64 m,.slice ta ts.length tc] 66)).cell? ⟨w.heap.size,2,none⟩=some (.slice pa ps.length pc):=cAl hP 2;have c1:(w.alloc (Obj.cells #[.int .i64 k,.int .i64 r,.slice pa ps.length pc,.int .i64 m,.slice ta ts.length tc] 66)).cell? ⟨w.heap.size,4,none⟩=some (.slice ta ts.length tc):=cAl hP 4;obtain ⟨rv,hrv⟩:∃ rv,Hid (rv=szP ps.length ts.length left):=⟨_,rfl⟩;rw [<- hrv.out]
 by_cases q1:left<ps.length
 ·have hv:Hid (rv=-1):=by show _=_;rw [hrv.out];unfold szP;rw [if_pos q1]
  rw [if_pos q1] at h1
  clear h2 hp ht hP hrv;go_enter Tryz.func29,Tryz.ntmps29;go_wp2_with (go_at_call 88;refine h1.mono ?_;rintro e w' ⟨rfl,rfl⟩);go_ret;exact ⟨by rw [hv.out];rfl,hb⟩
 ·rw [if_neg q1] at h1
  have h3:=h2 (left-ps.length) (by omega);have hn:¬ (((left-ps.length:Nat):Int)<0):=by omega
  obtain ⟨l2,hl2⟩:∃ l2,Hid (l2=left-ps.length):=⟨_,rfl⟩;rw [<- hl2.out] at h1 h3 hn
  by_cases q2:l2<ts.length
  ·have hv:Hid (rv=-1):=by show _=_;rw [hrv.out];unfold szP;rw [if_neg q1,if_pos (by rw [<- hl2.out];exact q2)]
   rw [if_pos q2] at h3
   clear h2 hp ht hP hrv hl2;go_enter Tryz.func29,Tryz.ntmps29;go_wp2_with fail;refine h1.mono ?_;rintro e w3 ⟨rfl,hw⟩;subst hw;clear h1;go_wp2_with fail;refine h3.mono ?_;rintro e w4 ⟨rfl,hw⟩;subst hw;clear h3;go_wp2;go_ret;exact ⟨by rw [hv.out];rfl,hb⟩
  ·obtain ⟨l3,hl3⟩:∃ l3,Hid (l3=l2-ts.length):=⟨_,rfl⟩
   have hv:Hid (rv=(l3:Int)):=by show _=_;rw [hrv.out,hl3.out,hl2.out];unfold szP;rw [if_neg q1,if_neg (by rw [<- hl2.out];exact q2)]
   rw [if_neg q2,<- hl3.out] at h3
   have hn3:¬ ((l3:Int)<0):=by omega
   clear h2 hp ht hP hrv hl2 hl3;go_enter Tryz.func29,Tryz.ntmps29;go_wp2_with fail;refine h1.mono ?_;rintro e w3 ⟨rfl,hw⟩;subst hw;clear h1;go_wp2_with fail;refine h3.mono ?_;rintro e w4 ⟨rfl,hw⟩;subst hw;clear h3;go_wp2;go_ret;exact ⟨by rw [hv.out];rfl,hb⟩
