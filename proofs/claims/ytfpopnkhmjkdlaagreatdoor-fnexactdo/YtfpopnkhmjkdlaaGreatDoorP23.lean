import Derived.Test.YtfpopnkhmjkdlaaGreatDoorP22
set_option maxRecDepth 20000
set_option maxHeartbeats 16000000
namespace Go.Proofs.YtfpopnkhmjkdlaaGreatDoor
open Go.ChangeShapes Go.WideShapes Go.ChangeAt Go.RowKit
def acA (k r:Int) (p:Value) (m:Int) (x:Value):Array Value:=#[.int .i64 k,.int .i64 r,p,.int .i64 m,x]
theorem Xb4 (cn N base B:Nat) (x0 x1 x2 x3 x4 x5:Value) (t:Te) (v:Tv) (vg vo:List Value) (w:World) (h:Scr w 98 base B [x0,x1,x2,x3,x4,x5] t v vg vo) (hbase:base<=w.heap.size) (rt:RtW t cn N) (k r m:Int) (p x:Value) :
  Calls Tryz.prog 123 #[.pointer (some ⟨B,0,none⟩),.agg (acA k r p m x)] w fun e w'=>e=.returned (.tuple #[])/\∃ v' vg' vo',Res w w' 98 base B [x0,x1,x2,x3,x4,x5] v vg vo (XL t r) v' vg' vo':=by
 obtain ⟨W,hW⟩:∃ W,W=w.alloc (Obj.cells #[.int .i64 k,.int .i64 r,p,.int .i64 m,x] 37):=⟨_,rfl⟩;have hb0:Below w.heap.size w W:=by rw [hW];exact Xd _ _
 have hA1:W.cell? ⟨w.heap.size,1,none⟩=some (.int .i64 r):=by rw [hW];exact cAl (heap_alloc_new w _) 1
 have h0:=h.below hb0;have hof:=Res.of_below h hb0;have hbase0:base<=W.heap.size:=Nat.le_trans hbase hb0.size;replace hW:=(show Hid _ from hW);obtain ⟨k1,k2⟩:=rt.col;have hc:=rt.c
 have full:∀ (W1:World) (t1:Te) (v1:Tv) (g1 o1:List Value),Scr W1 98 base B [x0,x1,x2,x3,x4,x5] t1 v1 g1 o1->Res W1 (W1.setCell ⟨B,19,none⟩ (.bool false)) 98 base B [x0,x1,x2,x3,x4,x5] v1 g1 o1 { t1 with full:=false } v1 g1 o1 :=
  fun W1 t1 v1 g1 o1 h1=>h1.put (sCg B [.bool false] 19 W1) _ (sCh B 98 [.bool false] 19 W1 _ h1.b) rfl rfl rfl rfl rfl
 have colp:∀ (c:Int),Res W (W.setCell ⟨B,11,none⟩ (.int .i64 c)) 98 base B [x0,x1,x2,x3,x4,x5] v vg vo { t with col:=c } v vg vo :=
  fun c=>h0.put (sCg B [.int .i64 c] 11 W) _ (sCh B 98 [.int .i64 c] 11 W _ h0.b) rfl rfl rfl rfl rfl
 have c11:W.cell? ⟨B,11,none⟩=some (.int .i64 t.col):=h0.cell 11;have z11:W.frozen? ⟨B,11,none⟩=false:=h0.frozen 11;have c19:W.cell? ⟨B,19,none⟩=some (.bool t.full):=h0.cell 19;have z19:W.frozen? ⟨B,19,none⟩=false:=h0.frozen 19;unfold acA
 by_cases r8:r=8
 ·subst r8
  have hV:XL t 8={ { t with col:=max 0 (t.col-1) } with full:=false }:=by unfold XL;rw [if_pos rfl]
  rw [hV]
  obtain ⟨q,hq⟩:∃ q,Hid (max 0 (t.col-1)=q):=⟨_,rfl⟩;have hq2:max (t.col-1) 0=q:=by have:=hq.out;omega
  rw [hq.out]
  have h1:=colp q;have hR:=(show Hid _ from hof.trans (h1.trans (full _ _ _ _ _ h1.s)));have hw:IntKind.i64.wrap (t.col-1)=t.col-1:=by simp [IntKind.wrap,IntKind.bits,IntKind.signed];omega
  clear h h0 hof colp full rt hbase hbase0 h1 hV hb0;go_enter Tryz.func123,Tryz.ntmps123;refine wp_seq_k (fun K hK=>?_);have hH:=(show Hid _ from hK);clear hK;go_wp2;refine hH.out _ _ ?_;rw [<- hW.out]
  clear hH hW;go_wp2;refine be ?_;exact ⟨rfl,_,_,_,hR.out⟩
 by_cases r13:r=13
 ·subst r13
  have hV:XL t 13={ { t with col:=0 } with full:=false }:=rfl;rw [hV]
  have h1:=colp 0;have hR:=(show Hid _ from hof.trans (h1.trans (full _ _ _ _ _ h1.s)));clear h h0 hof colp full rt hbase hbase0 h1 hV hb0 r8;go_enter Tryz.func123,Tryz.ntmps123;refine wp_seq_k (fun K hK=>?_);have hH:=(show Hid _ from hK);clear hK;go_wp2;refine hH.out _ _ ?_;rw [<- hW.out]
  clear hH hW;go_wp2;refine be ?_;exact ⟨rfl,_,_,_,hR.out⟩
 by_cases r10:r=10
 ·subst r10
  have hV:XL t 10={ Xm t with full:=false }:=rfl;rw [hV]
  have hfl:=ZK cn N base B x0 x1 x2 x3 x4 x5 t v vg vo W h0 hbase0 rt;clear h h0 colp rt hbase hbase0 hV hb0 c11 z11 c19 z19;go_enter Tryz.func123,Tryz.ntmps123;refine wp_seq_k (fun K hK=>?_);have hH:=(show Hid _ from hK);clear hK;go_wp2;refine hH.out _ _ ?_;rw [<- hW.out]
  clear hH hW;go_wp2_with fail;refine hfl.mono ?_;rintro e w2 ⟨rfl,v2,g2,o2,hR2⟩;have c19:w2.cell? ⟨B,19,none⟩=some (.bool (Xm t).full):=hR2.s.cell 19;have z19:w2.frozen? ⟨B,19,none⟩=false:=hR2.s.frozen 19;have hR:=(show Hid _ from hof.trans (hR2.trans (full _ _ _ _ _ hR2.s)));clear hR2 hof full hfl;go_wp2;refine be ?_;exact ⟨rfl,_,_,_,hR.out⟩
 by_cases r11:r=11
 ·subst r11
  have hV:XL t 11={ Xm t with full:=false }:=rfl;rw [hV]
  have hfl:=ZK cn N base B x0 x1 x2 x3 x4 x5 t v vg vo W h0 hbase0 rt;clear h h0 colp rt hbase hbase0 hV hb0 c11 z11 c19 z19;go_enter Tryz.func123,Tryz.ntmps123;refine wp_seq_k (fun K hK=>?_);have hH:=(show Hid _ from hK);clear hK;go_wp2;refine hH.out _ _ ?_;rw [<- hW.out]
  clear hH hW;go_wp2_with fail;refine hfl.mono ?_;rintro e w2 ⟨rfl,v2,g2,o2,hR2⟩;have c19:w2.cell? ⟨B,19,none⟩=some (.bool (Xm t).full):=hR2.s.cell 19;have z19:w2.frozen? ⟨B,19,none⟩=false:=hR2.s.frozen 19;have hR:=(show Hid _ from hof.trans (hR2.trans (full _ _ _ _ _ hR2.s)));clear hR2 hof full hfl;go_wp2;refine be ?_;exact ⟨rfl,_,_,_,hR.out⟩
 by_cases r12:r=12
 ·subst r12
  have hV:XL t 12={ Xm t with full:=false }:=rfl;rw [hV]
  have hfl:=ZK cn N base B x0 x1 x2 x3 x4 x5 t v vg vo W h0 hbase0 rt;clear h h0 colp rt hbase hbase0 hV hb0 c11 z11 c19 z19;go_enter Tryz.func123,Tryz.ntmps123;refine wp_seq_k (fun K hK=>?_);have hH:=(show Hid _ from hK);clear hK;go_wp2;refine hH.out _ _ ?_;rw [<- hW.out]
  clear hH hW;go_wp2_with fail;refine hfl.mono ?_;rintro e w2 ⟨rfl,v2,g2,o2,hR2⟩;have c19:w2.cell? ⟨B,19,none⟩=some (.bool (Xm t).full):=hR2.s.cell 19;have z19:w2.frozen? ⟨B,19,none⟩=false:=hR2.s.frozen 19;have hR:=(show Hid _ from hof.trans (hR2.trans (full _ _ _ _ _ hR2.s)));clear hR2 hof full hfl;go_wp2;refine be ?_;exact ⟨rfl,_,_,_,hR.out⟩
 by_cases r9:r=9
 ·subst r9
  obtain ⟨q,hq⟩:∃ q,Hid (min (t.gc-1) (t.col / 8*8+8)=q):=⟨_,rfl⟩;have hV:XL t 9={ { t with col:=q } with full:=false }:=by rw [<- hq.out];rfl
  rw [hV]
  have h1:=colp q;have hR:=(show Hid _ from (hof.trans (h1.trans (full _ _ _ _ _ h1.s))).below (bdr _))
  have hmin:min (IntKind.i64.wrap (IntKind.i64.wrap (IntKind.i64.wrap (t.col.tdiv 8)+1)*8)) ((cn:Int)-1)=q:=by
   have e1:t.col.tdiv 8=t.col / 8:=Int.tdiv_eq_ediv_of_nonneg k1;have e2:IntKind.i64.wrap (t.col / 8)=t.col / 8:=by simp [IntKind.wrap,IntKind.bits,IntKind.signed];omega
   have e3:IntKind.i64.wrap (t.col / 8+1)=t.col / 8+1:=by simp [IntKind.wrap,IntKind.bits,IntKind.signed];omega
   have e4:IntKind.i64.wrap ((t.col / 8+1)*8)=(t.col / 8+1)*8:=by simp [IntKind.wrap,IntKind.bits,IntKind.signed];omega
   rw [e1,e2,e3,e4]
   have:=hq.out;have:=rt.gc;omega
  have hd:=bdr W;have hlc:=Yd B (cn:Int) W.drew (by rw [<- rt.gc];exact h0.cell 6) (by omega);have hgc:=rt.gc;clear h h0 hof colp full rt hbase hbase0 h1 hV hb0;go_enter Tryz.func123,Tryz.ntmps123;refine wp_seq_k (fun K hK=>?_);have hH:=(show Hid _ from hK);clear hK;go_wp2;refine hH.out _ _ ?_;rw [<- hW.out]
  clear hH hW;go_wp2;refine wp_region_noPanic ?_;refine wp_region_held_drew (S:=(fun _=>True)) (by kernel_rfl) (trivial) (fun Hh=>?_);refine tK 0 ?_;refine tK 1 ?_;refine tK 2 ?_;refine tK 3 ?_;refine tK 4 ?_;refine tk 9 ?_;refine rd2 5 10 (fun K hK=>?_) fun K hK=>?_
  ·go_simp
   refine hK.out _ _ (trivial) (fun Hh=>?_);clear hK K;refine tK 6 ?_;refine tK 7 ?_;refine tk 8 ?_;refine rd 10 fun K hK=>?_
   go_simp;refine hlc.mono ?_;rintro e wk ⟨rfl,hw⟩;subst hw;go_wp2_with fail;refine hK.out _ _ (trivial) (fun Hh=>?_);clear hK K;refine tK 11 ?_;refine tK 12 ?_;refine tK 13 ?_;refine tk 14 ?_;refine rd 15 fun K hK=>?_
   go_simp;refine hK.out _ _ (trivial) (fun Hh=>?_);clear hK K
   (try simp only [Act.put,ZA,ZB,ZC,ZD,ZE,ZF])
   refine dn ?_;go_wp2;refine be ?_;exact ⟨rfl,_,_,_,hR.out⟩
  ·go_simp
   refine hlc.mono ?_;rintro e wk ⟨rfl,hw⟩;subst hw;go_wp2_with fail;refine hK.out _ _ (trivial) (fun Hh=>?_);clear hK K;refine rd 5 fun K hK=>?_
   go_simp;refine hK.out _ _ (trivial) (fun Hh=>?_);clear hK K;refine tK 6 ?_;refine tK 7 ?_;refine tK 8 ?_;refine tK 11 ?_;refine tK 12 ?_;refine tK 13 ?_;refine tk 14 ?_;refine rd 15 fun K hK=>?_
   go_simp;refine hK.out _ _ (trivial) (fun Hh=>?_);clear hK K
   (try simp only [Act.put,ZA,ZB,ZC,ZD,ZE,ZF])
   refine dn ?_;go_wp2;refine be ?_;exact ⟨rfl,_,_,_,hR.out⟩
 have hV:XL t r=t:=by unfold XL;rw [if_neg r8,if_neg r9,if_neg (by omega),if_neg r13]
 rw [hV]
 have q8:(r==8)=false:=by simp [r8]
 have q9:(r==9)=false:=by simp [r9]
 have q10:(r==10)=false:=by simp [r10]
 have q11:(r==11)=false:=by simp [r11]
 have q12:(r==12)=false:=by simp [r12]
 have q13:(r==13)=false:=by simp [r13]
 have hR:=(show Hid _ from hof);clear h h0 hof colp full rt hbase hbase0 hV hb0 r8 r9 r10 r11 r12 r13;go_enter Tryz.func123,Tryz.ntmps123;refine wp_seq_k (fun K hK=>?_);have hH:=(show Hid _ from hK);clear hK;go_wp2;refine hH.out _ _ ?_;rw [<- hW.out]
 clear hH hW;go_wp2;exact bodyPost_ret (v:=.tuple #[]) (results_none rfl _ _ _) rfl ⟨rfl,_,_,_,hR.out⟩
structure RtK (t:Te) (cn N:Nat):Prop where
 w:RtW t cn N
 gr:∀ i,i<N->XK (Xb t.g i)
 xr:∀ i,i<N->XK (Xb t.o i)
 st:t.st.ok=true
 ss:t.ss.ok=true
 sr:0<=t.sr/\t.sr<N
 sc:0<=t.sc/\t.sc<cn
 fu:t.full=true->t.col=(cn:Int)-1
 tb:¬ (t.top=t.bot/\1<N)
 ti:t.ti.length<=40/\XZ t.ti=true
 pa:okV t.pa=true
 fe:Zg t.fe=true
theorem RtK.gok {t:Te} {cn N:Nat} (h:RtK t cn N):Xy (cn:Int) t.g=true :=
 Ui h.w.c (by rw [h.w.n];exact h.w.n1) fun i hi=>by rw [h.w.n] at hi;exact ⟨h.w.gx i hi,h.gr i hi⟩
theorem RtK.ook {t:Te} {cn N:Nat} (h:RtK t cn N):Xy (cn:Int) t.o=true :=
 Ui h.w.c (by rw [h.w.m];exact h.w.n1) fun i hi=>by rw [h.w.m] at hi;exact ⟨h.w.ox i hi,h.xr i hi⟩
theorem RtK.ok {t:Te} {cn N:Nat} (h:RtK t cn N):Xk t=true:=by
 have hg:=h.gok;have ho:=h.ook;rw [<- h.w.gc] at hg
 rw [<- h.w.oc] at ho
 have e1:=h.w.gc;have e2:=h.w.oc;have e3:=h.w.n;have e4:=h.w.m;have e5:=h.w.n1;have e6:=h.w.row;have e7:=h.w.col;have e8:=h.w.tb;have e9:=h.tb;have e10:=h.sr;have e11:=h.sc;unfold Xk Y4;simp only [Bool.and_eq_true,decide_eq_true_eq];exact ⟨⟨hg,ho,by omega,by omega⟩,⟨⟨by omega,by omega⟩,by omega,by omega⟩,by omega,fun f=>by have:=h.fu f;omega,⟨h.st,h.ss⟩,h.ti,h.pa,h.fe⟩
theorem XdT {t:Te} (h:Xk t=true):RtK t t.gc.toNat t.g.length:=by
 unfold Xk Y4 at h;simp only [Bool.and_eq_true,decide_eq_true_eq] at h;obtain ⟨⟨h1,h2,h3,h4⟩,⟨⟨r1,r2⟩,r3,r4⟩,b,f,⟨s1,s2⟩,ti,pa,fe⟩:=h;have q:=((YU _ _).1 h1).1;obtain ⟨gc,hgc⟩:∃ k:Nat,t.gc=k:=⟨t.gc.toNat,by omega⟩;have hoc:t.oc=gc:=by rw [<- h3,hgc]
 rw [hgc] at h1
 rw [hoc] at h2
 obtain ⟨⟨g1,g2⟩,gl,gx⟩:=YP h1;obtain ⟨_,ol,ox⟩:=YP h2;rw [hgc,Int.toNat_natCast]
 exact ⟨⟨hgc,hoc,⟨g1,g2⟩,rfl,h4.symm,gl,fun i hi=>(gx i hi).1,fun i hi=>(ox i (by omega)).1,by omega,by omega,by omega⟩,fun i hi=>(gx i hi).2,fun i hi=>(ox i (by omega)).2,s1,s2,by omega,by omega,fun e=>by have:=f e;omega,by omega,ti,pa,fe⟩
theorem RtK.back {t:Te} {cn N:Nat} (h:RtK t cn N):(Xn t.st).ok=true:=by
 have:=(St.ok_iff _).1 h.st;exact (St.ok_iff _).2 ⟨Int.le_refl _,by show (0:Int)<=8;omega,this.2.2.1,this.2.2.2⟩
theorem RtK.move {t:Te} {cn N:Nat} (h:RtK t cn N) (a b n:Int) (ha:0<=a) (hb:b<N) (hab:a<=b):RtK (XH t a b n) cn N:=by
 have hk:=XgG h.gok a.toNat b.toNat (by rw [h.w.n];omega) n (Xn t.st) h.back;obtain ⟨_,_,gx⟩:=YP hk;rw [Zl,h.w.n] at gx
 have e:XH t a b n={ t with g:=Zo cn t.g a.toNat b.toNat n (Xn t.st) }:=by unfold XH;rw [h.w.gc,Int.toNat_natCast]
 rw [e]
 exact ⟨⟨h.w.gc,h.w.oc,h.w.c,by rw [<- h.w.n];exact Zl _ _ _ _ _ _,h.w.m,h.w.n1,fun i hi=>(gx i hi).1,h.w.ox,h.w.row,h.w.col,h.w.tb⟩,fun i hi=>(gx i hi).2,h.xr,h.st,h.ss,h.sr,h.sc,h.fu,h.tb,h.ti,h.pa,h.fe⟩
theorem RtK.cur {t:Te} {cn N:Nat} (h:RtK t cn N) (r c:Int) (hr:0<=r/\r<N) (hc:0<=c/\c<cn):RtK { t with row:=r,col:=c,full:=false } cn N :=
 ⟨⟨h.w.gc,h.w.oc,h.w.c,h.w.n,h.w.m,h.w.n1,h.w.gx,h.w.ox,hr,hc,h.w.tb⟩,h.gr,h.xr,h.st,h.ss,h.sr,h.sc,(fun e=>by cases e),h.tb,h.ti,h.pa,h.fe⟩
theorem RtK.rowp {t:Te} {cn N:Nat} (h:RtK t cn N) (r:Int) (hr:0<=r/\r<N):RtK { t with row:=r } cn N :=
 ⟨⟨h.w.gc,h.w.oc,h.w.c,h.w.n,h.w.m,h.w.n1,h.w.gx,h.w.ox,hr,h.w.col,h.w.tb⟩,h.gr,h.xr,h.st,h.ss,h.sr,h.sc,h.fu,h.tb,h.ti,h.pa,h.fe⟩
theorem RtK.nofull {t:Te} {cn N:Nat} (h:RtK t cn N):RtK { t with full:=false } cn N:=h.cur t.row t.col h.w.row h.w.col
theorem RtK.colp {t:Te} {cn N:Nat} (h:RtK t cn N) (c:Int) (hc:0<=c/\c<cn) (hf:t.full=false):RtK { t with col:=c } cn N :=
 ⟨⟨h.w.gc,h.w.oc,h.w.c,h.w.n,h.w.m,h.w.n1,h.w.gx,h.w.ox,h.w.row,hc,h.w.tb⟩,h.gr,h.xr,h.st,h.ss,h.sr,h.sc,(fun e=>by rw [hf] at e;cases e),h.tb,h.ti,h.pa,h.fe⟩
theorem RtK.style {t:Te} {cn N:Nat} (h:RtK t cn N) (s:St) (hs:s.ok=true):RtK { t with st:=s } cn N :=
 ⟨⟨h.w.gc,h.w.oc,h.w.c,h.w.n,h.w.m,h.w.n1,h.w.gx,h.w.ox,h.w.row,h.w.col,h.w.tb⟩,h.gr,h.xr,hs,h.ss,h.sr,h.sc,h.fu,h.tb,h.ti,h.pa,h.fe⟩
theorem RtK.line {t:Te} {cn N:Nat} (h:RtK t cn N):RtK (Xm t) cn N:=by
 have hr:=h.w.row;have hb:=h.w.tb;unfold Xm;split
 ·exact h.move _ _ _ hb.1 hb.2.2 hb.2.1
 ·split
  ·exact h.rowp _ (by have:=h.w.n;omega)
  ·exact h
theorem Qi (t:Te):(Xm t).full=t.full:=by unfold Xm XH;(split;rfl;split<;>rfl)
theorem RtK.rowT {t:Te} {cn N:Nat} (h:RtK t cn N) (r:Int) (_hr:0<=r) (xs:List Ce) (hl:xs.length=cn) (hx:XK xs):RtK (Ka t r xs) cn N:=by
 have hlen:(t.g.set r.toNat xs).length=N:=by rw [List.length_set];exact h.w.n
 have hat:∀ i,i<N->Xb (t.g.set r.toNat xs) i=xs\/Xb (t.g.set r.toNat xs) i=Xb t.g i:=fun i hi=>by
  by_cases e:r.toNat=i
  ·left;rw [Zd (by rw [hlen];exact hi)];simp [e]
  ·right;unfold Xb;simp [List.getD,e]
 unfold Ka
 exact ⟨⟨h.w.gc,h.w.oc,h.w.c,hlen,h.w.m,h.w.n1,fun i hi=>by rcases hat i hi with e|e<;>(show (Xb (t.g.set r.toNat xs) i).length=cn);rw [e];exact hl;rw [e];exact h.w.gx i hi,h.w.ox,h.w.row,h.w.col,h.w.tb⟩,
  fun i hi=>by rcases hat i hi with e|e<;>(show XK (Xb (t.g.set r.toNat xs) i));rw [e];exact hx;rw [e];exact h.gr i hi,h.xr,h.st,h.ss,h.sr,h.sc,h.fu,h.tb,h.ti,h.pa,h.fe⟩
theorem RtK.gat {t:Te} {cn N:Nat} (h:RtK t cn N) (r:Int) (hr:0<=r/\r<N):(Xb t.g r.toNat).length=cn/\XK (Xb t.g r.toNat):=⟨h.w.gx _ (by omega),h.gr _ (by omega)⟩
theorem RtK.clear {t:Te} {cn N:Nat} (h:RtK t cn N) (r p q:Int) (hr:0<=r/\r<N) (hq:q<=cn):RtK (X3 t r p q) cn N:=by
 obtain ⟨h1,h2⟩:=h.gat r hr;exact h.rowT r hr.1 _ (by rw [X9];exact h1) (ZI h2 _ _ _ h.back (by rw [h1];omega))
theorem RtK.cleared {t:Te} {cn N:Nat} (h:RtK t cn N) (r p q:Int) (hr:0<=r/\r<N) (hp:0<=p/\p<=q/\q<=cn):X4 (Xb t.g r.toNat) p q (Xn t.st)=XU (Xb t.g r.toNat) p.toNat q.toNat (Xn t.st):=by
 obtain ⟨h1,h2⟩:=h.gat r hr;have hc:=h.w.c;unfold X4;rw [if_pos ⟨JP h2 (by omega) (by omega),h.back,⟨hp.1,hp.2.1⟩,by omega⟩]
theorem RtK.written {t:Te} {cn N:Nat} (h:RtK t cn N) (r p x:Int) (hr:0<=r/\r<N) (hp:0<=p/\p+wdV x<=cn) (hw:wdV x≠0):X5 (Xb t.g r.toNat) p x t.st=X6 (Xb t.g r.toNat) p.toNat x t.st:=by
 obtain ⟨h1,h2⟩:=h.gat r hr;have hc:=h.w.c;unfold X5;rw [if_pos ⟨JP h2 (by omega) (by omega),hw,⟨hp.1,by omega⟩,h.st⟩]
theorem RtK.pushed {t:Te} {cn N:Nat} (h:RtK t cn N) (r p n:Int) (hr:0<=r/\r<N) (hp:0<=p/\p<cn) (hn:0<=n/\n<=cn):Ko (Xb t.g r.toNat) p n (Xn t.st)=KP (Xb t.g r.toNat) p.toNat n.toNat (Xn t.st):=by
 obtain ⟨h1,h2⟩:=h.gat r hr;have hc:=h.w.c;unfold Ko;rw [if_pos ⟨JP h2 (by omega) (by omega),h.back,⟨hp.1,by omega⟩,by omega⟩]
theorem RtK.pulled {t:Te} {cn N:Nat} (h:RtK t cn N) (r p n:Int) (hr:0<=r/\r<N) (hp:0<=p/\p<cn) (hn:0<=n/\n<=cn):Kn (Xb t.g r.toNat) p n (Xn t.st)=K6 (Xb t.g r.toNat) p.toNat n.toNat (Xn t.st):=by
 obtain ⟨h1,h2⟩:=h.gat r hr;have hc:=h.w.c;unfold Kn;rw [if_pos ⟨JP h2 (by omega) (by omega),h.back,⟨hp.1,by omega⟩,by omega⟩]
theorem RtK.clear_same {t:Te} {cn N:Nat} (h:RtK t cn N) (r p:Int) (hr:0<=r/\r<N):X3 t r p p=t:=by
 obtain ⟨h1,h2⟩:=h.gat r hr;unfold X3 Ka;rw [Ud h2]
 have e:t.g.set r.toNat (Xb t.g r.toNat)=t.g:=by
  have hl:r.toNat<t.g.length:=by rw [h.w.n];omega
  rw [Zd hl,List.set_getElem_self]
 rw [e]
theorem RtK.styled {t:Te} {cn N:Nat} (h:RtK t cn N) (p:List Int) (hp:p.length<=16):Jn t.st p=KR t.st p:=by
 unfold Jn KR;rw [if_pos ⟨h.st,hp⟩]
theorem RtK.print {t:Te} {cn N:Nat} (h:RtK t cn N) (r:Int):RtK (XJ t r) cn N:=by
 have hw:=XG r;unfold XJ;split
 ·exact h
 ·rename_i hn
  have hc:=h.w.gc;have hcc:=h.w.c;have hcol:=h.w.col;have h0:=h.nofull;simp only
  have k1:∃ t1:Te,t1=(if t.full=true/\t.wrap=true then Xm { t with full:=false,col:=0 } else { t with full:=false })/\RtK t1 cn N/\t1.full=false/\t1.gc=cn:=by
   refine ⟨_,rfl,?_⟩;split
   ·refine ⟨(h.cur t.row 0 h.w.row (by omega)).line,?_,?_⟩
    ·rw [Qi]
    ·exact ((h.cur t.row 0 h.w.row (by omega)).line).w.gc
   ·exact ⟨h0,rfl,hc⟩
  obtain ⟨t1,e1,k1,f1,g1⟩:=k1;rw [<- e1]
  clear e1
  have k2:∃ t2:Te,t2=(if t.gc<t1.col+wdV r then (if t1.wrap=true then Xm { t1 with col:=0 } else { t1 with col:=t.gc-wdV r }) else t1)/\RtK t2 cn N/\t2.full=false/\t2.col+wdV r<=cn:=by
   refine ⟨_,rfl,?_⟩;split
   ·split
    ·have k:=(k1.colp 0 (by omega) f1).line
     refine ⟨k,by rw [Qi];exact f1,?_⟩;have e:(Xm { t1 with col:=0 }).col=0:=by unfold Xm XH;(split;rfl;split<;>rfl)
     rw [e];omega
    ·refine ⟨k1.colp _ (by omega) f1,f1,?_⟩
     show t.gc-wdV r+wdV r<=cn
     omega
   ·exact ⟨k1,f1,by omega⟩
  obtain ⟨t2,e2,k2,f2,g2⟩:=k2;rw [<- e2]
  clear e2;obtain ⟨q1,q2⟩:=k2.gat t2.row k2.w.row;have hcol2:=k2.w.col;have k3:=k2.rowT t2.row k2.w.row.1 (X6 (Xb t2.g t2.row.toNat) t2.col.toNat r t2.st) (by rw [Xao];exact q1) (XbW q2 _ _ _ k2.st (by omega) (by rw [q1];omega));split
  ·have k:=k3.colp ((cn:Int)-1) (by omega) f2
   rw [hc]
   exact ⟨⟨k.w.gc,k.w.oc,k.w.c,k.w.n,k.w.m,k.w.n1,k.w.gx,k.w.ox,k.w.row,k.w.col,k.w.tb⟩,k.gr,k.xr,k.st,k.ss,k.sr,k.sc,fun _=>rfl,k.tb,k.ti,k.pa,k.fe⟩
  ·exact k3.colp _ (by omega) f2
theorem RtK.control {t:Te} {cn N:Nat} (h:RtK t cn N) (r:Int):RtK (XL t r) cn N:=by
 have hc:=h.w.gc;have hcc:=h.w.c;have hcol:=h.w.col;unfold XL;split
 ·exact h.cur t.row _ h.w.row (by omega)
 ·split
  ·exact h.cur t.row _ h.w.row (by omega)
  ·split
   ·exact h.line.nofull
   ·split
    ·exact h.cur t.row _ h.w.row (by omega)
    ·exact h
theorem U0 (cn N i:Nat) (hi:i<N):Xb (XB cn N) i=X0 cn St.zero:=by
 rw [Zd (by simp [XB];exact hi)];simp [XB]
theorem RtK.anew {t:Te} {cn N:Nat} (h:RtK t cn N):RtK (Jz t) cn N:=by
 have hn:=h.w.n1;have hc:=h.w.c;unfold Jz Yw;rw [h.w.gc,h.w.n,Int.toNat_natCast]
 have hl:(XB cn N).length=N:=by simp [XB]
 have hx:∀ i,i<N->(Xb (XB cn N) i).length=cn/\XK (Xb (XB cn N) i):=fun i hi=>by rw [U0 _ _ _ hi];exact ⟨KF _ _,KH _ _ rfl⟩
 exact ⟨⟨rfl,rfl,h.w.c,hl,hl,h.w.n1,fun i hi=>(hx i hi).1,fun i hi=>(hx i hi).1,⟨by show (0:Int)<=0;omega,by show (0:Int)<N;omega⟩,⟨by show (0:Int)<=0;omega,by show (0:Int)<cn;omega⟩,⟨by show (0:Int)<=0;omega,by show (0:Int)<=(N:Int)-1;omega,by show (N:Int)-1<N;omega⟩⟩,
  fun i hi=>(hx i hi).2,fun i hi=>(hx i hi).2,rfl,rfl,⟨by show (0:Int)<=0;omega,by show (0:Int)<N;omega⟩,⟨by show (0:Int)<=0;omega,by show (0:Int)<cn;omega⟩,(fun e=>by cases e),by show ¬ ((0:Int)=(N:Int)-1/\1<N);omega,h.ti,h.pa,h.fe⟩
theorem RtK.escape {t:Te} {cn N:Nat} (h:RtK t cn N) (r:Int):RtK (X2 t r) cn N:=by
 have hcc:=h.w.c;have hcol:=h.w.col;have hb:=h.w.tb;have hr:=h.w.row;unfold X2;split
 ·exact h.line.nofull
 ·split
  ·have k:=h.line
   exact k.cur _ 0 k.w.row (by omega)
  ·split
   ·split
    ·exact (h.move _ _ _ hb.1 hb.2.2 hb.2.1).nofull
    ·exact h.cur _ t.col (by omega) h.w.col
   ·split
    ·have k:=h.nofull
     exact ⟨⟨k.w.gc,k.w.oc,k.w.c,k.w.n,k.w.m,k.w.n1,k.w.gx,k.w.ox,k.w.row,k.w.col,k.w.tb⟩,k.gr,k.xr,k.st,h.st,h.w.row,h.w.col,k.fu,k.tb,k.ti,k.pa,k.fe⟩
    ·split
     ·exact (h.cur t.sr t.sc h.sr h.sc).style _ h.ss
     ·split
      ·exact h.anew
      ·exact h
theorem RtK.goT {t:Te} {cn N:Nat} (h:RtK t cn N) (r c:Int) (hf:t.full=false):RtK (goT t r c) cn N:=by
 have hc:=h.w.gc;have hcc:=h.w.c;have hn:=h.w.n;have hn1:=h.w.n1;unfold Go.Proofs.YtfpopnkhmjkdlaaGreatDoor.goT;exact (h.rowp (max 0 (min ((t.g.length:Int)-1) r)) (by omega)).colp (max 0 (min (t.gc-1) c)) (by omega) hf
theorem RtK.eraseRow {t:Te} {cn N:Nat} (h:RtK t cn N) (how:Int):RtK (Zf t how) cn N:=by
 have hc:=h.w.gc;have hcol:=h.w.col;unfold Zf;split
 ·exact h.clear _ _ _ h.w.row (by omega)
 ·split
  ·exact h.clear _ _ _ h.w.row (by omega)
  ·split
   ·exact h.clear _ _ _ h.w.row (by omega)
   ·exact h
theorem RtK.eraseAll {t:Te} {cn N:Nat} (h:RtK t cn N) (how:Int):RtK (ZJ t how) cn N:=by
 have hc:=h.w.gc;have hn:=h.w.n
 have hx:∀ i,i<N->(Xb (ZJ t how).g i).length=cn/\XK (Xb (ZJ t how).g i):=fun i hi=>by
  unfold ZJ;simp only;rw [Yq _ _ _ (by omega)]
  split
  ·rw [X9]
   exact ⟨h.w.gx i hi,ZI (h.gr i hi) _ _ _ h.back (by rw [h.w.gx i hi];omega)⟩
  ·have k:=h.eraseRow how
   exact ⟨k.w.gx i hi,k.gr i hi⟩
 exact ⟨⟨h.w.gc,h.w.oc,h.w.c,by rw [<- hn];exact XM _ _,h.w.m,h.w.n1,fun i hi=>(hx i hi).1,h.w.ox,h.w.row,h.w.col,h.w.tb⟩,fun i hi=>(hx i hi).2,h.xr,h.st,h.ss,h.sr,h.sc,h.fu,h.tb,h.ti,h.pa,h.fe⟩
theorem XW {p:List Int} (hp:∀ x∈p,0<=x/\x<=9999) (i:Nat) (u:Int) (hu:1<=u/\u<=9999):1<=Xa p i u/\Xa p i u<=9999:=by
 unfold Xa;split
 ·exact hu
 ·rename_i h
  by_cases hi:i<p.length
  ·have e:p.getD i 0=p[i]:=by simp [List.getD,hi]
   have:=hp p[i] (List.getElem_mem hi);rw [e] at h ⊢
   omega
  ·exfalso;apply h;simp [List.getD,List.getElem?_eq_none (by omega:p.length<=i)]
theorem YB {c:Prop} [Decidable c] {a b:Te} {cn N:Nat} (h1:c->RtK a cn N) (h2:¬ c->RtK b cn N):RtK (if c then a else b) cn N:=by
 by_cases hc:c
 ·rw [if_pos hc];exact h1 hc
 ·rw [if_neg hc];exact h2 hc
theorem RtK.list {t:Te} {cn N:Nat} (h:RtK t cn N) (r:Int) (p:List Int) (hp:∀ x∈p,0<=x/\x<=9999):RtK (Xi t r p) cn N:=by
 have hn:=XW hp 0 1 (by omega);have hc:=h.w.gc;have hcc:=h.w.c;have hcol:=h.w.col;have hb:=h.w.tb;have hr:=h.w.row;have hN:=h.w.n;have hN1:=h.w.n1;have h0:=h.nofull;have hm:=XW hp 1 (t.g.length:Int) (by omega);refine YB (fun _=>?_) fun _=>?_
 ·exact h0.rowp _ (by split<;>omega)
 refine YB (fun _=>?_) fun _=>?_
 ·exact h0.rowp _ (by split<;>omega)
 refine YB (fun _=>?_) fun _=>?_
 ·exact h0.goT _ _ rfl
 refine YB (fun _=>?_) fun _=>?_
 ·exact h0.goT _ _ rfl
 refine YB (fun _=>?_) fun _=>?_
 ·exact h0.goT _ _ rfl
 refine YB (fun _=>?_) fun _=>?_
 ·exact h0.goT _ _ rfl
 refine YB (fun _=>?_) fun _=>?_
 ·exact h0.goT _ _ rfl
 refine YB (fun _=>?_) fun _=>?_
 ·exact h0.eraseAll _
 refine YB (fun _=>?_) fun _=>?_
 ·exact h0.eraseRow _
 refine YB (fun _=>?_) fun _=>?_
 ·split
  ·exact (h0.move t.row t.bot _ (by omega) (by omega) (by omega)).colp 0 (by omega) rfl
  ·exact h0
 obtain ⟨q1,q2⟩:=h.gat t.row hr;refine YB (fun _=>?_) fun _=>?_
 ·exact h0.rowT _ hr.1 _ (by show (Ju _ _ _ _).length=cn;rw [Xa0];exact q1) (XcG q2 _ _ _ h.back)
 refine YB (fun _=>?_) fun _=>?_
 ·exact h0.rowT _ hr.1 _ (by show (Jt _ _ _ _).length=cn;rw [XaZ _ _ _ _ (by rw [q1];omega)];exact q1) (XcF q2 _ _ _ h.back)
 refine YB (fun _=>?_) fun _=>?_
 ·exact h0.clear _ _ _ hr (by omega)
 refine YB (fun _=>?_) fun _=>?_
 ·exact h0.move t.top t.bot _ hb.1 hb.2.2 hb.2.1
 refine YB (fun _=>?_) fun _=>?_
 ·exact h0.move t.top t.bot _ hb.1 hb.2.2 hb.2.1
 refine YB (fun _=>?_) fun _=>?_
 ·refine h.style _ ?_
  unfold KR;split
  ·rfl
  ·exact XdZ _ _ h.st
 refine YB (fun _=>?_) fun _=>?_
 ·refine YB (fun hx=>?_) fun _=>?_
  ·have hx':Xa p 0 1-1<Xa p 1 (t.g.length:Int)-1/\Xa p 1 (t.g.length:Int)-1<=(t.g.length:Int)-1:=hx
   have k:=h0.cur 0 0 (by omega) (by omega);exact ⟨⟨k.w.gc,k.w.oc,k.w.c,k.w.n,k.w.m,k.w.n1,k.w.gx,k.w.ox,k.w.row,k.w.col,⟨by show (0:Int)<=Xa p 0 1-1;omega,by show Xa p 0 1-1<=Xa p 1 (t.g.length:Int)-1;omega,by show Xa p 1 (t.g.length:Int)-1<N;omega⟩⟩,k.gr,k.xr,k.st,k.ss,k.sr,k.sc,(fun e=>by cases e),by show ¬ (Xa p 0 1-1=Xa p 1 (t.g.length:Int)-1/\1<N);omega,k.ti,k.pa,k.fe⟩
  ·exact h0
 ·exact h
theorem RtK.mode {t:Te} {cn N:Nat} (h:RtK t cn N) (on:Bool) (m:Int):RtK (XA on t m) cn N:=by
 unfold XA;split
 ·exact ⟨⟨h.w.gc,h.w.oc,h.w.c,h.w.n,h.w.m,h.w.n1,h.w.gx,h.w.ox,h.w.row,h.w.col,h.w.tb⟩,h.gr,h.xr,h.st,h.ss,h.sr,h.sc,h.fu,h.tb,h.ti,h.pa,h.fe⟩
 split
 ·exact ⟨⟨h.w.gc,h.w.oc,h.w.c,h.w.n,h.w.m,h.w.n1,h.w.gx,h.w.ox,h.w.row,h.w.col,h.w.tb⟩,h.gr,h.xr,h.st,h.ss,h.sr,h.sc,h.fu,h.tb,h.ti,h.pa,h.fe⟩
 split
 ·split
  ·exact h
  ·have hx:∀ i,i<N->(Xb (if on=true then XB t.gc.toNat t.g.length else t.o) i).length=cn/\XK (Xb (if on=true then XB t.gc.toNat t.g.length else t.o) i):=fun i hi=>by
    split
    ·rw [h.w.gc,h.w.n,Int.toNat_natCast,U0 _ _ _ hi];exact ⟨KF _ _,KH _ _ rfl⟩
    ·exact ⟨h.w.ox i hi,h.xr i hi⟩
   have hl:(if on=true then XB t.gc.toNat t.g.length else t.o).length=N:=by
    split
    ·simp [XB];exact h.w.n
    ·exact h.w.m
   exact ⟨⟨h.w.oc,h.w.gc,h.w.c,hl,h.w.n,h.w.n1,fun i hi=>(hx i hi).1,h.w.gx,h.w.row,h.w.col,h.w.tb⟩,fun i hi=>(hx i hi).2,h.gr,h.st,h.ss,h.sr,h.sc,h.fu,h.tb,h.ti,h.pa,h.fe⟩
 ·exact h
theorem RtK.modes {cn N:Nat} (on:Bool):∀ (p:List Int) {t:Te},RtK t cn N->RtK (p.foldl (XA on) t) cn N
 | [],_,h=>h
 | m::p,_,h=>RtK.modes on p (h.mode on m)
def Jw (a:Ac):Bool:=Xh a.rune && (decide (a.params.length<=16) && (decide (a.mark=0\/a.mark=63) && ((decide (a.text.length<=40) && XZ a.text) && XX a.params)))
theorem JO {l:List Int} (h:XX l=true):∀ x∈l,0<=x/\x<=9999:=fun x hx=>by
 have:=List.all_eq_true.1 h x hx
 simpa using this
theorem RtK.doT {t:Te} {cn N:Nat} (h:RtK t cn N) (a:Ac) (ha:Jw a=true):RtK (doT t a) cn N:=by
 unfold Jw at ha;simp only [Bool.and_eq_true,decide_eq_true_eq] at ha;obtain ⟨_,_,_,⟨h4,h5⟩,h6⟩:=ha;unfold Go.Proofs.YtfpopnkhmjkdlaaGreatDoor.doT;split
 ·exact h.print _
 split
 ·exact h.control _
 split
 ·exact h.escape _
 split
 ·split
  ·exact h.list _ _ (JO h6)
  ·split
   ·exact RtK.modes _ _ h
   ·exact h
 split
 ·exact ⟨⟨h.w.gc,h.w.oc,h.w.c,h.w.n,h.w.m,h.w.n1,h.w.gx,h.w.ox,h.w.row,h.w.col,h.w.tb⟩,h.gr,h.xr,h.st,h.ss,h.sr,h.sc,h.fu,h.tb,⟨h4,h5⟩,h.pa,h.fe⟩
 ·exact h
theorem YX (B:Nat) (s:St) (w:World) (hc:w.cell? ⟨B,7,none⟩=some (.int .i64 s.back)) (hlt:B<w.heap.size) :
  Calls Tryz.prog 210 #[.pointer (some ⟨B,0,none⟩)] w fun e w'=>e=.returned (stV (Xn s))/\Below w.heap.size w w':=by
 have hb:=Xd w (Obj.cells #[Value.int IntKind.i64 0,Value.int IntKind.i64 s.back,Value.bool false,Value.bool false,Value.bool false] 28);go_enter Tryz.func210,Tryz.ntmps210;go_wp2;exact bodyPost_ret (v:=.agg #[Value.int IntKind.i64 0,Value.int IntKind.i64 s.back,Value.bool false,Value.bool false,Value.bool false]) (by simp [results,Tryz.results210,go_sem]) rfl ⟨rfl,hb⟩
theorem Yn (B:Nat) (a:Option Addr) (n c:Nat) (w:World) (hc:w.cell? ⟨B,1,none⟩=some (.slice a n c)) (hn:n<=1000) :
  Calls Tryz.prog 212 #[.pointer (some ⟨B,0,none⟩)] w fun e w'=>e=.returned (.int .i64 ((n:Int)-1))/\w'=w:=by
 go_enter Tryz.func212,Tryz.ntmps212;go_wp2;go_ret;exact ⟨rfl,rfl⟩
theorem Kr (cn N base B:Nat) (t:Te) (v:Tv) (vg vo:List Value) (w:World) (h:Scr w 35 base B [] t v vg vo) (hbase:base<=w.heap.size) (rt:RtW t cn N) (a b:Nat) (n:Int) (hab:a<=b) (hb:b<N) (hn:-10000<=n/\n<=10000) :
  Calls Tryz.prog 209 #[.pointer (some ⟨B,0,none⟩),.int .i64 (a:Int),.int .i64 (b:Int),.int .i64 n,stV (Xn t.st)] w fun e w'=>e=.returned (.tuple #[])/\∃ vg',Res w w' 35 base B [] v vg vo (XH t a b n) v vg' vo:=by
 have hG:GrW w B cn v.g:=⟨h.lt,⟨by rw [<- rt.gc];exact h.cell 0,h.cell 1⟩,⟨h.frozen 0,h.frozen 1⟩⟩;have hne:v.g.ownBlock≠some B:=fun e=>YA h.o.1 h.b h.n1 h.n2 (.inl e)
 have hN:=rt.n;have hn1:=rt.n1;have hc:=rt.c;refine (Xgw B base w.heap.size cn v.g vg t.g a b n (Xn t.st) w hG h.o.1 hne (Nat.le_refl _) hbase hab (by omega) hn (by omega) (by omega)).mono ?_;rintro e w' ⟨rfl,⟨vs',hv,hc'⟩,hg⟩;refine ⟨rfl,vs',?_⟩;have hr:=h.rows hbase vs' (Zo cn t.g a b n (Xn t.st)) hv (hg.mono (fun k _ c=>.inl c)) (fun k hk c=>c.elim .inl (fun c=>.inr (hc' k hk c)))
 have em:XH t a b n={ t with g:=Zo cn t.g a b n (Xn t.st) }:=by
  unfold XH;rw [rt.gc,Int.toNat_natCast,Int.toNat_natCast,Int.toNat_natCast]
 rw [em]
 exact hr
theorem YY (cn N base B:Nat) (t:Te) (v:Tv) (vg vo:List Value) (w:World) (h:Scr w 35 base B [] t v vg vo) (hbase:base<=w.heap.size) (rt:RtW t cn N) :
  Calls Tryz.prog 207 #[.pointer (some ⟨B,0,none⟩)] w fun e w'=>e=.returned (.tuple #[])/\∃ v' vg' vo',Res w w' 35 base B [] v vg vo (Xm t) v' vg' vo':=by
 have hc:∀ W,Below w.heap.size w W->(W.cell? ⟨B,4,none⟩=some (.int .i64 t.row)/\W.cell? ⟨B,11,none⟩=some (.int .i64 t.top)/\W.cell? ⟨B,12,none⟩=some (.int .i64 t.bot)/\W.cell? ⟨B,7,none⟩=some (.int .i64 t.st.back)):=fun W hb=>⟨(h.below hb).cell 4,(h.below hb).cell 11,(h.below hb).cell 12,(h.below hb).cell 7⟩
 obtain ⟨r1,r2⟩:=rt.row;obtain ⟨b1,b2,b3⟩:=rt.tb;have hn2:=rt.n1.2;have hlt:=h.lt;have hd:=bdr w;obtain ⟨d4,d11,d12,d7⟩:=hc _ hd
 by_cases hb:t.row=t.bot
 ·have hmv:=fun W (hbW:Below w.heap.size w W)=>Kr cn N base B t v vg vo W (h.below hbW) (Nat.le_trans hbase hbW.size) rt t.top.toNat t.bot.toNat 1 (by omega) (by omega) (by omega)
  rw [show ((t.top.toNat:Nat):Int)=t.top by omega,show ((t.bot.toNat:Nat):Int)=t.bot by omega] at hmv
  have hbk:=fun W (hbW:Below w.heap.size w W)=>YX B t.st W (hc W hbW).2.2.2 (Nat.lt_of_lt_of_le hlt hbW.size)
  unfold stV at hmv hbk;have hV:Hid (Xm t=XH t t.top t.bot 1):=by show _=_;unfold Xm;rw [if_pos hb]
  rw [hV.out]
  have hof:=fun W (hbW:Below w.heap.size w W)=>Res.of_below h hbW
  rw [hb] at d4
  have hd2:=hd.trans ((bdr w.drew).mono hd.size);have d9:=hc _ hd2;clear rt hbase r1 r2 b1 b2 b3 hn2 hV h hlt;go_enter Tryz.func207,Tryz.ntmps207;go_wp2;go_region;go_wp2;obtain ⟨g4,g11,g12,g7⟩:=d9;refine wp_region_noPanic ?_;refine wp_region_held_drew (S:=(fun _=>True)) (by kernel_rfl) (trivial) (fun Hh=>?_);refine tK 0 ?_;refine tK 1 ?_;refine tK 2 ?_;refine tK 3 ?_;refine tK 4 ?_;refine tK 5 ?_;refine tK 7 ?_;refine tK 8 ?_;refine tK 9 ?_;refine tk 11 ?_;simp only [Act.put,ZA,ZB,ZC,ZD,ZE,ZF];refine wpAnyH_ready (rs:=[6,10,12]) (by kernel_rfl) (by simp) (AllReadyH.cons rfl (fun K hK=>?_) (AllReadyH.cons rfl (fun K hK=>?_) (AllReadyH.cons rfl (fun K hK=>?_) AllReadyH.nil)))
  ·go_simp
   refine hK.out _ _ (trivial) (fun Hh=>?_);clear hK K;refine rd2 10 12 (fun K hK=>?_) fun K hK=>?_
   ·go_simp
    refine hK.out _ _ (trivial) (fun Hh=>?_);clear hK K;refine rd 12 fun K hK=>?_
    go_simp;refine (hbk _ hd2).mono ?_;rintro e wk ⟨rfl,hb⟩;have hd3:=hd2.trans (hb.mono hd2.size);obtain ⟨k4,k11,k12,k7⟩:=hc _ hd3;unfold Xn;go_wp2_with fail;refine hK.out _ _ (trivial) (fun Hh=>?_);clear hK K;refine rd 13 fun K hK=>?_
    go_simp;refine (hmv _ hd3).mono ?_;rintro e w2 ⟨rfl,vg2,hR⟩;go_wp2_with fail;refine hK.out _ _ (trivial) (fun Hh=>?_);clear hK K
    (try simp only [Act.put,ZA,ZB,ZC,ZD,ZE,ZF])
    refine dn ?_;go_wp2;refine be ?_;exact ⟨rfl,_,_,_,(hof _ hd3).trans hR⟩
   ·go_simp
    refine (hbk _ hd2).mono ?_;rintro e wk ⟨rfl,hb⟩;have hd3:=hd2.trans (hb.mono hd2.size);obtain ⟨k4,k11,k12,k7⟩:=hc _ hd3;unfold Xn;go_wp2_with fail;refine hK.out _ _ (trivial) (fun Hh=>?_);clear hK K;refine rd 10 fun K hK=>?_
    go_simp;refine hK.out _ _ (trivial) (fun Hh=>?_);clear hK K;refine rd 13 fun K hK=>?_
    go_simp;refine (hmv _ hd3).mono ?_;rintro e w2 ⟨rfl,vg2,hR⟩;go_wp2_with fail;refine hK.out _ _ (trivial) (fun Hh=>?_);clear hK K
    (try simp only [Act.put,ZA,ZB,ZC,ZD,ZE,ZF])
    refine dn ?_;go_wp2;refine be ?_;exact ⟨rfl,_,_,_,(hof _ hd3).trans hR⟩
  ·go_simp
   refine hK.out _ _ (trivial) (fun Hh=>?_);clear hK K;refine rd2 6 12 (fun K hK=>?_) fun K hK=>?_
   ·go_simp
    refine hK.out _ _ (trivial) (fun Hh=>?_);clear hK K;refine rd 12 fun K hK=>?_
    go_simp;refine (hbk _ hd2).mono ?_;rintro e wk ⟨rfl,hb⟩;have hd3:=hd2.trans (hb.mono hd2.size);obtain ⟨k4,k11,k12,k7⟩:=hc _ hd3;unfold Xn;go_wp2_with fail;refine hK.out _ _ (trivial) (fun Hh=>?_);clear hK K;refine rd 13 fun K hK=>?_
    go_simp;refine (hmv _ hd3).mono ?_;rintro e w2 ⟨rfl,vg2,hR⟩;go_wp2_with fail;refine hK.out _ _ (trivial) (fun Hh=>?_);clear hK K
    (try simp only [Act.put,ZA,ZB,ZC,ZD,ZE,ZF])
    refine dn ?_;go_wp2;refine be ?_;exact ⟨rfl,_,_,_,(hof _ hd3).trans hR⟩
   ·go_simp
    refine (hbk _ hd2).mono ?_;rintro e wk ⟨rfl,hb⟩;have hd3:=hd2.trans (hb.mono hd2.size);obtain ⟨k4,k11,k12,k7⟩:=hc _ hd3;unfold Xn;go_wp2_with fail;refine hK.out _ _ (trivial) (fun Hh=>?_);clear hK K;refine rd 6 fun K hK=>?_
    go_simp;refine hK.out _ _ (trivial) (fun Hh=>?_);clear hK K;refine rd 13 fun K hK=>?_
    go_simp;refine (hmv _ hd3).mono ?_;rintro e w2 ⟨rfl,vg2,hR⟩;go_wp2_with fail;refine hK.out _ _ (trivial) (fun Hh=>?_);clear hK K
    (try simp only [Act.put,ZA,ZB,ZC,ZD,ZE,ZF])
    refine dn ?_;go_wp2;refine be ?_;exact ⟨rfl,_,_,_,(hof _ hd3).trans hR⟩
  ·go_simp
   refine (hbk _ hd2).mono ?_;rintro e wk ⟨rfl,hb⟩;have hd3:=hd2.trans (hb.mono hd2.size);obtain ⟨k4,k11,k12,k7⟩:=hc _ hd3;unfold Xn;go_wp2_with fail;refine hK.out _ _ (trivial) (fun Hh=>?_);clear hK K;refine rd2 6 10 (fun K hK=>?_) fun K hK=>?_
   ·go_simp
    refine hK.out _ _ (trivial) (fun Hh=>?_);clear hK K;refine rd 10 fun K hK=>?_
    go_simp;refine hK.out _ _ (trivial) (fun Hh=>?_);clear hK K;refine rd 13 fun K hK=>?_
    go_simp;refine (hmv _ hd3).mono ?_;rintro e w2 ⟨rfl,vg2,hR⟩;go_wp2_with fail;refine hK.out _ _ (trivial) (fun Hh=>?_);clear hK K
    (try simp only [Act.put,ZA,ZB,ZC,ZD,ZE,ZF])
    refine dn ?_;go_wp2;refine be ?_;exact ⟨rfl,_,_,_,(hof _ hd3).trans hR⟩
   ·go_simp
    refine hK.out _ _ (trivial) (fun Hh=>?_);clear hK K;refine rd 6 fun K hK=>?_
    go_simp;refine hK.out _ _ (trivial) (fun Hh=>?_);clear hK K;refine rd 13 fun K hK=>?_
    go_simp;refine (hmv _ hd3).mono ?_;rintro e w2 ⟨rfl,vg2,hR⟩;go_wp2_with fail;refine hK.out _ _ (trivial) (fun Hh=>?_);clear hK K
    (try simp only [Act.put,ZA,ZB,ZC,ZD,ZE,ZF])
    refine dn ?_;go_wp2;refine be ?_;exact ⟨rfl,_,_,_,(hof _ hd3).trans hR⟩
 ·have hq:(t.row==t.bot)=false:=by simp [hb]
  obtain ⟨ga,gc,hvg⟩:∃ a c,v.g=.slice a N c:=by
   obtain ⟨a,c,e⟩:=sGs (SlG.of_own h.o.1.g);rw [rt.n] at e
   exact ⟨a,c,e⟩
  have hc1:∀ W,Below w.heap.size w W->W.cell? ⟨B,1,none⟩=some (.slice ga N gc):=fun W hb=>by rw [(h.below hb).cell 1];show some v.g=_;rw [hvg]
  have hll:=fun W (hbW:Below w.heap.size w W)=>Yn B ga N gc W (hc1 W hbW) (by omega)
  have hN:=rt.n;have hd2:=hd.trans ((bdr w.drew).mono hd.size);obtain ⟨g4,_,_,_⟩:=hc _ hd2
  by_cases hl:t.row<(N:Int)-1
  ·have hV:Hid (Xm t={ t with row:=t.row+1 }):=by show _=_;unfold Xm;rw [if_neg hb,if_pos (by omega)]
   rw [hV.out]
   have hs2:=h.below hd2;have z4:w.drew.drew.frozen? ⟨B,4,none⟩=false:=hs2.frozen 4
   have hR:Hid (Res w (w.drew.drew.setCell ⟨B,4,none⟩ (.int .i64 (t.row+1))) 35 base B [] v vg vo { t with row:=t.row+1 } v vg vo) :=
    (Res.of_below h hd2).trans (hs2.put (sCg B [.int .i64 (t.row+1)] 4 w.drew.drew) _ (sCh B 35 [.int .i64 (t.row+1)] 4 w.drew.drew _ hs2.b) rfl rfl rfl rfl rfl)
   have hr2:t.row<=30:=by omega
   clear rt hbase hvg hV h hN b1 b2 b3 r2 hc hc1 hlt hs2 d11 d7;go_enter Tryz.func207,Tryz.ntmps207;go_wp2;go_region;go_wp2;refine wp_region_noPanic ?_;refine wp_region_held_drew (S:=(fun _=>True)) (by kernel_rfl) (trivial) (fun Hh=>?_);refine tK 0 ?_;refine tK 1 ?_;refine tK 2 ?_;refine tk 4 ?_;refine rd2 3 5 (fun K hK=>?_) fun K hK=>?_
   ·go_simp
    refine hK.out _ _ (trivial) (fun Hh=>?_);clear hK K;refine rd 5 fun K hK=>?_
    go_simp;refine (hll _ hd2).mono ?_;rintro e wk ⟨rfl,hw⟩;subst hw;go_wp2_with fail;refine hK.out _ _ (trivial) (fun Hh=>?_);clear hK K;refine tK 6 ?_;refine tk 7 ?_;simp only [Act.put,ZA,ZB,ZC,ZD,ZE,ZF];refine dn ?_;go_wp2;refine be ?_;exact ⟨rfl,_,_,_,hR.out⟩
   ·go_simp
    refine (hll _ hd2).mono ?_;rintro e wk ⟨rfl,hw⟩;subst hw;go_wp2_with fail;refine hK.out _ _ (trivial) (fun Hh=>?_);clear hK K;refine rd 3 fun K hK=>?_
    go_simp;refine hK.out _ _ (trivial) (fun Hh=>?_);clear hK K;refine tK 6 ?_;refine tk 7 ?_;simp only [Act.put,ZA,ZB,ZC,ZD,ZE,ZF];refine dn ?_;go_wp2;refine be ?_;exact ⟨rfl,_,_,_,hR.out⟩
  ·have hV:Hid (Xm t=t):=by show _=_;unfold Xm;rw [if_neg hb,if_neg (by omega)]
   rw [hV.out]
   have hR:=Res.of_below h hd2;clear rt hbase hvg hV h hN b1 b2 b3 r2 hc hc1 hlt d11 d7;go_enter Tryz.func207,Tryz.ntmps207;go_wp2;go_region;go_wp2;refine wp_region_noPanic ?_;refine wp_region_held_drew (S:=(fun _=>True)) (by kernel_rfl) (trivial) (fun Hh=>?_);refine tK 0 ?_;refine tK 1 ?_;refine tK 2 ?_;refine tk 4 ?_;refine rd2 3 5 (fun K hK=>?_) fun K hK=>?_
   ·go_simp
    refine hK.out _ _ (trivial) (fun Hh=>?_);clear hK K;refine rd 5 fun K hK=>?_
    go_simp;refine (hll _ hd2).mono ?_;rintro e wk ⟨rfl,hw⟩;subst hw;go_wp2_with fail;refine hK.out _ _ (trivial) (fun Hh=>?_);clear hK K;refine tK 6 ?_;refine tk 7 ?_;simp only [Act.put,ZA,ZB,ZC,ZD,ZE,ZF];refine dn ?_;go_wp2;refine be ?_;exact ⟨rfl,_,_,_,hR⟩
   ·go_simp
    refine (hll _ hd2).mono ?_;rintro e wk ⟨rfl,hw⟩;subst hw;go_wp2_with fail;refine hK.out _ _ (trivial) (fun Hh=>?_);clear hK K;refine rd 3 fun K hK=>?_
    go_simp;refine hK.out _ _ (trivial) (fun Hh=>?_);clear hK K;refine tK 6 ?_;refine tk 7 ?_;simp only [Act.put,ZA,ZB,ZC,ZD,ZE,ZF];refine dn ?_;go_wp2;refine be ?_;exact ⟨rfl,_,_,_,hR⟩
