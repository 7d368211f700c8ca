import Derived.Test.YtfpopnkhmjkdlaaGreatDoorP25
set_option maxRecDepth 20000
set_option maxHeartbeats 16000000
namespace Go.Proofs.YtfpopnkhmjkdlaaGreatDoor
open Go.ChangeShapes Go.WideShapes Go.ChangeAt Go.RowKit
theorem Xcd (cn N base B:Nat) (x0 x1 x2 x3 x4 x5 pv:Value) (ps:List Int) (t:Te) (v:Tv) (vg vo:List Value) (w:World) (h:Scr w 98 base B [x0,x1,x2,x3,x4,x5] t v vg vo) (rt:RtW t cn N) (hp:SlN w pv ps) (hl:ps.length<=1000) (n:Int) (en:Hid (Xa ps 0 1=n)) (hn:0<=n/\n<=9999) :
  Calls Tryz.prog 185 #[.pointer (some ⟨B,0,none⟩),pv] w fun e w'=>e=.returned (.tuple #[])/\∃ v' vg' vo',Res w w' 98 base B [x0,x1,x2,x3,x4,x5] v vg vo { t with col:=min (t.col+n) (t.gc-1) } v' vg' vo':=by
 have c0:w.cell? ⟨B,11,none⟩=some (.int .i64 t.col):=h.cell 11;have z0:w.frozen? ⟨B,11,none⟩=false:=h.frozen 11;obtain ⟨r1,r2⟩:=rt.row;obtain ⟨b1,b2⟩:=rt.col;obtain ⟨c1,c2⟩:=rt.c;have hgc:=rt.gc;have hgl:=rt.n;have hn2:=rt.n1.2;have hc1:=X1 pv ps w.drew (hp.below (bdr w)) hl;obtain ⟨pa,pc,rfl⟩:=hp.shp;simp only [en.out] at hc1;have hw:IntKind.i64.wrap (t.col+n)=t.col+n:=by simp [IntKind.wrap,IntKind.bits,IntKind.signed];omega
 have hla:=Yd B (cn:Int) w.drew (by rw [<- rt.gc];exact h.cell 6) (by have:=rt.c;omega);obtain ⟨q,e⟩:∃ q,Hid (min (t.col+n) (t.gc-1)=q):=⟨_,rfl⟩;rw [e.out]
 have hmx:min (t.col+n) ((cn:Int)-1)=q:=by have:=e.out;omega
 have hR:=(show Hid (Res w (w.setCell ⟨B,11,none⟩ (.int .i64 q)).drew 98 base B [x0,x1,x2,x3,x4,x5] v vg vo { t with col:=q } v vg vo) from
  Res.below (h.put (sCg B [.int .i64 q] 11 w) _ (sCh B 98 [.int .i64 q] 11 w _ h.b) rfl rfl rfl rfl rfl) (bdr _))
 clear h rt hp hn hn2 b1 b2 r1 r2 c1 c2 hl hgc hgl en;go_enter Tryz.func185,Tryz.ntmps185;go_wp2;refine wp_region_noPanic ?_;refine wp_region_held_drew (S:=(fun _=>True)) (by kernel_rfl) (trivial) (fun Hh=>?_);refine tK 0 ?_;refine tK 1 ?_;refine tK 2 ?_;refine tK 3 ?_;refine tK 4 ?_;refine tK 6 ?_;refine tk 9 ?_;refine rd2 5 7 (fun K hK=>?_) fun K hK=>?_
 ·go_simp
  refine hK.out _ _ (trivial) (fun Hh=>?_);clear hK K;refine rd 7 fun K hK=>?_
  go_simp;refine hc1.mono ?_;rintro e wk ⟨rfl,hw1⟩;subst hw1;go_wp2_with fail;refine hK.out _ _ (trivial) (fun Hh=>?_);clear hK K;refine tk 8 ?_;refine rd 10 fun K hK=>?_
  go_simp;refine hla.mono ?_;rintro e wk ⟨rfl,hw1⟩;subst hw1;go_wp2_with fail;refine hK.out _ _ (trivial) (fun Hh=>?_);clear hK K;refine tK 11 ?_;refine tK 12 ?_;refine tK 13 ?_;refine tk 14 ?_;refine rd 15 fun K hK=>?_
  go_simp;refine hK.out _ _ (trivial) (fun Hh=>?_);clear hK K
  (try simp only [Act.put,ZA,ZB,ZC,ZD,ZE,ZF])
  refine dn ?_;go_wp2;refine be ?_;exact ⟨rfl,_,_,_,hR.out⟩
 ·go_simp
  refine hc1.mono ?_;rintro e wk ⟨rfl,hw1⟩;subst hw1;go_wp2_with fail;refine hK.out _ _ (trivial) (fun Hh=>?_);clear hK K;refine rd2 5 10 (fun K hK=>?_) fun K hK=>?_
  ·go_simp
   refine hK.out _ _ (trivial) (fun Hh=>?_);clear hK K;refine tk 8 ?_;refine rd 10 fun K hK=>?_
   go_simp;refine hla.mono ?_;rintro e wk ⟨rfl,hw1⟩;subst hw1;go_wp2_with fail;refine hK.out _ _ (trivial) (fun Hh=>?_);clear hK K;refine tK 11 ?_;refine tK 12 ?_;refine tK 13 ?_;refine tk 14 ?_;refine rd 15 fun K hK=>?_
   go_simp;refine hK.out _ _ (trivial) (fun Hh=>?_);clear hK K
   (try simp only [Act.put,ZA,ZB,ZC,ZD,ZE,ZF])
   refine dn ?_;go_wp2;refine be ?_;exact ⟨rfl,_,_,_,hR.out⟩
  ·go_simp
   refine hla.mono ?_;rintro e wk ⟨rfl,hw1⟩;subst hw1;go_wp2_with fail;refine hK.out _ _ (trivial) (fun Hh=>?_);clear hK K;refine rd 5 fun K hK=>?_
   go_simp;refine hK.out _ _ (trivial) (fun Hh=>?_);clear hK K;refine tK 8 ?_;refine tK 11 ?_;refine tK 12 ?_;refine tK 13 ?_;refine tk 14 ?_;refine rd 15 fun K hK=>?_
   go_simp;refine hK.out _ _ (trivial) (fun Hh=>?_);clear hK K
   (try simp only [Act.put,ZA,ZB,ZC,ZD,ZE,ZF])
   refine dn ?_;go_wp2;refine be ?_;exact ⟨rfl,_,_,_,hR.out⟩
theorem Xdb (cn N base B:Nat) (x0 x1 x2 x3 x4 x5 pv:Value) (ps:List Int) (t:Te) (v:Tv) (vg vo:List Value) (w:World) (h:Scr w 98 base B [x0,x1,x2,x3,x4,x5] t v vg vo) (rt:RtW t cn N) (hp:SlN w pv ps) (hl:ps.length<=1000) (n:Int) (en:Hid (Xa ps 0 1=n)) (hn:0<=n/\n<=9999) :
  Calls Tryz.prog 186 #[.pointer (some ⟨B,0,none⟩),pv] w fun e w'=>e=.returned (.tuple #[])/\∃ v' vg' vo',Res w w' 98 base B [x0,x1,x2,x3,x4,x5] v vg vo { t with col:=max 0 (t.col-n) } v' vg' vo':=by
 have c0:w.cell? ⟨B,11,none⟩=some (.int .i64 t.col):=h.cell 11;have z0:w.frozen? ⟨B,11,none⟩=false:=h.frozen 11;obtain ⟨r1,r2⟩:=rt.row;obtain ⟨b1,b2⟩:=rt.col;obtain ⟨c1,c2⟩:=rt.c;have hgc:=rt.gc;have hgl:=rt.n;have hn2:=rt.n1.2;have hc1:=X1 pv ps w.drew (hp.below (bdr w)) hl;obtain ⟨pa,pc,rfl⟩:=hp.shp;simp only [en.out] at hc1;have hw:IntKind.i64.wrap (t.col-n)=t.col-n:=by simp [IntKind.wrap,IntKind.bits,IntKind.signed];omega
 obtain ⟨q,e⟩:∃ q,Hid (max 0 (t.col-n)=q):=⟨_,rfl⟩;rw [e.out]
 have hmx:max (t.col-n) 0=q:=by have:=e.out;omega
 have hR:=(show Hid (Res w (w.setCell ⟨B,11,none⟩ (.int .i64 q)).drew 98 base B [x0,x1,x2,x3,x4,x5] v vg vo { t with col:=q } v vg vo) from
  Res.below (h.put (sCg B [.int .i64 q] 11 w) _ (sCh B 98 [.int .i64 q] 11 w _ h.b) rfl rfl rfl rfl rfl) (bdr _))
 clear h rt hp hn hn2 b1 b2 r1 r2 c1 c2 hl hgc hgl en;go_enter Tryz.func186,Tryz.ntmps186;go_wp2;refine wp_region_noPanic ?_;refine wp_region_held_drew (S:=(fun _=>True)) (by kernel_rfl) (trivial) (fun Hh=>?_);refine tK 0 ?_;refine tK 1 ?_;refine tK 2 ?_;refine tK 3 ?_;refine tK 4 ?_;refine tk 6 ?_;refine rd2 5 7 (fun K hK=>?_) fun K hK=>?_
 ·go_simp
  refine hK.out _ _ (trivial) (fun Hh=>?_);clear hK K;refine rd 7 fun K hK=>?_
  go_simp;refine hc1.mono ?_;rintro e wk ⟨rfl,hw1⟩;subst hw1;go_wp2_with fail;refine hK.out _ _ (trivial) (fun Hh=>?_);clear hK K;refine tK 8 ?_;refine tK 9 ?_;refine tK 10 ?_;refine tK 11 ?_;refine tk 12 ?_;refine rd 13 fun K hK=>?_
  go_simp;refine hK.out _ _ (trivial) (fun Hh=>?_);clear hK K
  (try simp only [Act.put,ZA,ZB,ZC,ZD,ZE,ZF])
  refine dn ?_;go_wp2;refine be ?_;exact ⟨rfl,_,_,_,hR.out⟩
 ·go_simp
  refine hc1.mono ?_;rintro e wk ⟨rfl,hw1⟩;subst hw1;go_wp2_with fail;refine hK.out _ _ (trivial) (fun Hh=>?_);clear hK K;refine rd 5 fun K hK=>?_
  go_simp;refine hK.out _ _ (trivial) (fun Hh=>?_);clear hK K;refine tK 8 ?_;refine tK 9 ?_;refine tK 10 ?_;refine tK 11 ?_;refine tk 12 ?_;refine rd 13 fun K hK=>?_
  go_simp;refine hK.out _ _ (trivial) (fun Hh=>?_);clear hK K
  (try simp only [Act.put,ZA,ZB,ZC,ZD,ZE,ZF])
  refine dn ?_;go_wp2;refine be ?_;exact ⟨rfl,_,_,_,hR.out⟩
theorem XfK (cn N base B:Nat) (x0 x1 x2 x3 x4 x5 pv:Value) (ps:List Int) (t:Te) (v:Tv) (vg vo:List Value) (w:World) (h:Scr w 98 base B [x0,x1,x2,x3,x4,x5] t v vg vo) (rt:RtW t cn N) (hp:SlN w pv ps) (hl:ps.length<=1000) (n:Int) (en:Hid (Xa ps 0 1=n)) (hn:0<=n/\n<=9999) :
  Calls Tryz.prog 187 #[.pointer (some ⟨B,0,none⟩),pv] w fun e w'=>e=.returned (.tuple #[])/\∃ v' vg' vo',Res w w' 98 base B [x0,x1,x2,x3,x4,x5] v vg vo { t with col:=min (n-1) (t.gc-1) } v' vg' vo':=by
 have c0:w.cell? ⟨B,11,none⟩=some (.int .i64 t.col):=h.cell 11;have z0:w.frozen? ⟨B,11,none⟩=false:=h.frozen 11;obtain ⟨r1,r2⟩:=rt.row;obtain ⟨b1,b2⟩:=rt.col;obtain ⟨c1,c2⟩:=rt.c;have hgc:=rt.gc;have hgl:=rt.n;have hn2:=rt.n1.2;have hc1:=X1 pv ps w hp hl;obtain ⟨pa,pc,rfl⟩:=hp.shp;simp only [en.out] at hc1;have hw:IntKind.i64.wrap (n-1)=n-1:=by simp [IntKind.wrap,IntKind.bits,IntKind.signed];omega
 have hla:=Yd B (cn:Int) w (by rw [<- rt.gc];exact h.cell 6) (by have:=rt.c;omega);obtain ⟨q,e⟩:∃ q,Hid (min (n-1) (t.gc-1)=q):=⟨_,rfl⟩;rw [e.out]
 have hmx:min (n-1) ((cn:Int)-1)=q:=by have:=e.out;omega
 have hR:=(show Hid (Res w (w.setCell ⟨B,11,none⟩ (.int .i64 q)) 98 base B [x0,x1,x2,x3,x4,x5] v vg vo { t with col:=q } v vg vo) from
  (h.put (sCg B [.int .i64 q] 11 w) _ (sCh B 98 [.int .i64 q] 11 w _ h.b) rfl rfl rfl rfl rfl))
 clear h rt hp hn hn2 b1 b2 r1 r2 c1 c2 hl hgc hgl en;go_enter Tryz.func187,Tryz.ntmps187;go_wp2_with fail;refine hc1.mono ?_;rintro e wk ⟨rfl,hw1⟩;subst hw1;go_wp2_with fail;refine hla.mono ?_;rintro e wk ⟨rfl,hw1⟩;subst hw1;go_wp2;refine be ?_;exact ⟨rfl,_,_,_,hR.out⟩
theorem Xa4 (cn N base B:Nat) (x0 x1 x2 x3 x4 x5 pv:Value) (ps:List Int) (t:Te) (v:Tv) (vg vo:List Value) (w:World) (h:Scr w 98 base B [x0,x1,x2,x3,x4,x5] t v vg vo) (rt:RtW t cn N) (hp:SlN w pv ps) (hl:ps.length<=1000) (n:Int) (en:Hid (Xa ps 0 1=n)) (hn:0<=n/\n<=9999) :
  Calls Tryz.prog 188 #[.pointer (some ⟨B,0,none⟩),pv] w fun e w'=>e=.returned (.tuple #[])/\∃ v' vg' vo',Res w w' 98 base B [x0,x1,x2,x3,x4,x5] v vg vo { t with row:=min (n-1) ((t.g.length:Int)-1) } v' vg' vo':=by
 have c0:w.cell? ⟨B,10,none⟩=some (.int .i64 t.row):=h.cell 10;have z0:w.frozen? ⟨B,10,none⟩=false:=h.frozen 10;obtain ⟨r1,r2⟩:=rt.row;obtain ⟨b1,b2⟩:=rt.col;obtain ⟨c1,c2⟩:=rt.c;have hgc:=rt.gc;have hgl:=rt.n;have hn2:=rt.n1.2;have hc1:=X1 pv ps w hp hl;obtain ⟨pa,pc,rfl⟩:=hp.shp;simp only [en.out] at hc1;have hw:IntKind.i64.wrap (n-1)=n-1:=by simp [IntKind.wrap,IntKind.bits,IntKind.signed];omega
 obtain ⟨ga,gc,hvg⟩:∃ a c,v.g=.slice a N c:=by
  obtain ⟨a,c,e⟩:=sGs (SlG.of_own h.o.1.g);rw [rt.n] at e
  exact ⟨a,c,e⟩
 have hla:=KN B ga N gc w (by show w.cell? _=_;rw [h.cell 7];show some v.g=_;rw [hvg]) (by omega);clear hvg;obtain ⟨q,e⟩:∃ q,Hid (min (n-1) ((t.g.length:Int)-1)=q):=⟨_,rfl⟩;rw [e.out]
 have hmx:min (n-1) ((N:Int)-1)=q:=by have:=e.out;omega
 have hR:=(show Hid (Res w (w.setCell ⟨B,10,none⟩ (.int .i64 q)) 98 base B [x0,x1,x2,x3,x4,x5] v vg vo { t with row:=q } v vg vo) from
  (h.put (sCg B [.int .i64 q] 10 w) _ (sCh B 98 [.int .i64 q] 10 w _ h.b) rfl rfl rfl rfl rfl))
 clear h rt hp hn hn2 b1 b2 r1 r2 c1 c2 hl hgc hgl en;go_enter Tryz.func188,Tryz.ntmps188;go_wp2_with fail;refine hc1.mono ?_;rintro e wk ⟨rfl,hw1⟩;subst hw1;go_wp2_with fail;refine hla.mono ?_;rintro e wk ⟨rfl,hw1⟩;subst hw1;go_wp2;refine be ?_;exact ⟨rfl,_,_,_,hR.out⟩
theorem Ys (cn N base B:Nat) (t:Te) (v:Tv) (vg vo:List Value) (w:World) (h:Scr w 35 base B [] t v vg vo) (hbase:base<=w.heap.size) (rt:RtW t cn N) (r p q:Int) (hr:0<=r/\r<N) (hpq:0<=p/\p<=q/\q<=cn) :
  Calls Tryz.prog 217 #[.pointer (some ⟨B,0,none⟩),.int .i64 r,.int .i64 p,.int .i64 q] w fun e w'=>e=.returned (.tuple #[])/\∃ v' vg' vo',Res w w' 35 base B [] v vg vo (X3 t r p q) v' vg' vo':=by
 have hN:=rt.n;have hn2:=rt.n1;have hcl:=rt.c;obtain ⟨i,rfl⟩:∃ i:Nat,r=(i:Int):=⟨r.toNat,by omega⟩;obtain ⟨a,rfl⟩:∃ i:Nat,p=(i:Int):=⟨p.toNat,by omega⟩;obtain ⟨b,rfl⟩:∃ i:Nat,q=(i:Int):=⟨q.toNat,by omega⟩;have hi:i<N:=by omega
 have hV:X3 t i a b=Ka t i (XU (Xb t.g i) a b (Xn t.st)):=by unfold X3;rw [Int.toNat_natCast,Int.toNat_natCast,Int.toNat_natCast]
 rw [hV]
 rcases h.o.1.shape with ⟨_,hs⟩|⟨g,cap,hvg,hbg,hlg,hcap⟩
 ·rw [hs] at hN;simp at hN;omega
 rw [hN] at hvg hcap
 have ho:=h.o.1;have hro:=ho.2.2.1 i (by omega);have hvl:=ho.1;rw [hvg] at ho
 have hci:=ho.cell hN i hi;obtain ⟨ra,rn,rc,hre⟩:=hro.isSl;rw [hre] at hci hro
 have hgx:=rt.gx i hi;have hsl:SlC w (.slice ra rn rc) (Xb t.g i):=SlC.of_own hro;have hlt:=h.lt;have c1:∀ W,Below w.heap.size w W->W.cell? ⟨B,1,none⟩=some (.slice (some ⟨g,0,none⟩) N cap):=fun W hb=>by rw [(h.below hb).cell 1];show some v.g=_;rw [hvg]
 have ci:∀ W,Below w.heap.size w W->W.cell? ⟨g,i,none⟩=some (.slice ra rn rc):=fun W hb=>(hb.cell (p:=⟨g,i,none⟩) hlg).trans hci
 have zi:∀ W,Below w.heap.size w W->W.frozen? ⟨g,i,none⟩=false:=fun W hb=>(ho.below hb).frozen hN i
 have hbk:=fun W (hb:Below w.heap.size w W)=>YX B t.st W ((h.below hb).cell 7) (Nat.lt_of_lt_of_le hlt hb.size)
 have hcd:=fun W (hb:Below w.heap.size w W)=>J9 (.slice ra rn rc) (Xb t.g i) a b (Xn t.st) W (hsl.below hb) (by omega) (by omega) (by omega)
 obtain ⟨R,hR⟩:∃ R,Hid (XU (Xb t.g i) a b (Xn t.st)=R):=⟨_,rfl⟩;simp only [hR.out] at hcd ⊢
 have hfin:∀ W r,Below w.heap.size w W->Xl W w.heap.size r R->Res w (W.setCell ⟨g,i,none⟩ r) 35 base B [] v vg vo (Ka t i R) v (vg.set i r) vo:=fun W r hb hr=>by
  have:=h.row hbase hb hvg hN i hi r R hr;unfold Ka;rw [Int.toNat_natCast]
  exact this
 have hsc:∀ W r,Below w.heap.size w W->(W.setCell ⟨g,i,none⟩ r).cell? ⟨B,1,none⟩=some (.slice (some ⟨g,0,none⟩) N cap):=fun W r hb=>by
  have hne:g≠B:=fun e=>YA h.o.1 h.b h.n1 h.n2 (.inl (by rw [hvg,<- e];rfl))
  rw [<- c1 W hb]
  exact World.cell?_of_block (w:=W) ((sCc W g i r).block B (Nat.lt_of_lt_of_le hlt hb.size) (fun e=>hne (Option.some.inj e).symm))
 unfold stV at hbk hcd;have hd:=bdr w;have i0:(0:Int)<=(i:Int):=by omega
 have i1:(i:Int)<(N:Int):=by omega
 clear h hbase rt ho hro hre hsl hgx hvg hbg hcap hlt hvl hci hR hV;go_enter Tryz.func217,Tryz.ntmps217;go_wp2;refine wp_region_noPanic ?_;refine wp_region_held_drew (S:=(fun W=>W.cell? ⟨B,1,none⟩=some (.slice (some ⟨g,0,none⟩) N cap))) (by kernel_rfl) (c1 _ hd) (fun Hh=>?_);have di:=ci _ hd;refine tK 0 ?_;refine tK 1 ?_;refine tK 2 ?_;refine tK 3 ?_;refine tK 4 ?_;refine tK 5 ?_;refine tK 6 ?_;refine tK 7 ?_;refine tK 8 ?_;refine tK 9 ?_;refine tK 10 ?_;refine tK 11 ?_;refine tK 12 ?_;refine tK 14 ?_;refine tK 15 ?_;refine tk 16 ?_;refine rd2 13 17 (fun K hK=>?_) fun K hK=>?_
 ·go_simp
  refine hK.out _ _ (Hh) (fun Hh=>?_);clear hK K;refine rd 17 fun K hK=>?_
  go_simp;refine (hbk _ hd).mono ?_;rintro e wk ⟨rfl,hb⟩;replace hd:=hd.trans (hb.mono hd.size);have di:=ci _ hd;unfold Xn;go_wp2_with fail;refine hK.out _ _ (c1 _ hd) (fun Hh=>?_);clear hK K;refine rd 18 fun K hK=>?_
  go_simp;refine (hcd _ hd).mono ?_;rintro e w2 ⟨u,rfl,hu,hb⟩;have hu2:=hu.low hd.size;replace hd:=hd.trans (hb.mono hd.size);obtain ⟨ua,un,uc,hue⟩:=hu2.isSl;subst hue;have di:=ci _ hd;have zj:=zi _ hd;go_wp2_with fail;refine hK.out _ _ (c1 _ hd) (fun Hh=>?_);clear hK K;refine tk 19 ?_;refine rd 20 fun K hK=>?_
  go_simp;refine hK.out _ _ (hsc _ _ hd) (fun Hh=>?_);clear hK K
  (try simp only [Act.put,ZA,ZB,ZC,ZD,ZE,ZF])
  refine dn ?_;go_wp2;refine be ?_;exact ⟨rfl,_,_,_,hfin _ _ hd hu2⟩
 ·go_simp
  refine (hbk _ hd).mono ?_;rintro e wk ⟨rfl,hb⟩;replace hd:=hd.trans (hb.mono hd.size);have di:=ci _ hd;unfold Xn;go_wp2_with fail;refine hK.out _ _ (c1 _ hd) (fun Hh=>?_);clear hK K;refine rd 13 fun K hK=>?_
  go_simp;refine hK.out _ _ (Hh) (fun Hh=>?_);clear hK K;refine rd 18 fun K hK=>?_
  go_simp;refine (hcd _ hd).mono ?_;rintro e w2 ⟨u,rfl,hu,hb⟩;have hu2:=hu.low hd.size;replace hd:=hd.trans (hb.mono hd.size);obtain ⟨ua,un,uc,hue⟩:=hu2.isSl;subst hue;have di:=ci _ hd;have zj:=zi _ hd;go_wp2_with fail;refine hK.out _ _ (c1 _ hd) (fun Hh=>?_);clear hK K;refine tk 19 ?_;refine rd 20 fun K hK=>?_
  go_simp;refine hK.out _ _ (hsc _ _ hd) (fun Hh=>?_);clear hK K
  (try simp only [Act.put,ZA,ZB,ZC,ZD,ZE,ZF])
  refine dn ?_;go_wp2;refine be ?_;exact ⟨rfl,_,_,_,hfin _ _ hd hu2⟩
theorem K2 (cn N base B:Nat) (t:Te) (v:Tv) (vg vo:List Value) (w:World) (h:Scr w 35 base B [] t v vg vo) (_hbase:base<=w.heap.size) (rt:RtW t cn N) (r c:Int) :
  Calls Tryz.prog 213 #[.pointer (some ⟨B,0,none⟩),.int .i64 r,.int .i64 c] w fun e w'=>e=.returned (.tuple #[])/\∃ v' vg' vo',Res w w' 35 base B [] v vg vo (goT t r c) v' vg' vo':=by
 obtain ⟨ga,gc,hvg⟩:∃ a c,v.g=.slice a N c:=by
  obtain ⟨a,c,e⟩:=sGs (SlG.of_own h.o.1.g);rw [rt.n] at e
  exact ⟨a,c,e⟩
 have hn2:=rt.n1;have hcl:=rt.c;have hgc:=rt.gc;have hN:=rt.n;have hla:=Yn B ga N gc w (by rw [h.cell 1];show some v.g=_;rw [hvg]) (by omega);have hmn:=fun a b W=>Zw a b W
 have hmx:=fun a b W=>Uj a b W
 obtain ⟨q1,e1⟩:∃ q,Hid (max 0 (min ((t.g.length:Int)-1) r)=q):=⟨_,rfl⟩;obtain ⟨q2,e2⟩:∃ q,Hid (max 0 (min (t.gc-1) c)=q):=⟨_,rfl⟩;have hV:goT t r c={ t with row:=q1,col:=q2 }:=by unfold goT;rw [e1.out,e2.out]
 rw [hV]
 have m1:max 0 (min ((N:Int)-1) r)=q1:=by rw [<- hN];exact e1.out
 have m2:max 0 (min ((cn:Int)-1) c)=q2:=by rw [<- hgc];exact e2.out
 have hw:IntKind.i64.wrap ((cn:Int)-1)=(cn:Int)-1:=by simp [IntKind.wrap,IntKind.bits,IntKind.signed];omega
 have p1:=h.put (sCg B [.int .i64 q1] 4 w) { t with row:=q1 } (sCh B 35 [.int .i64 q1] 4 w _ h.b) rfl rfl rfl rfl rfl;have p2:=p1.s.put (sCg B [.int .i64 q2] 5 _) { t with row:=q1,col:=q2 } (sCh B 35 [.int .i64 q2] 5 _ _ p1.s.b) rfl rfl rfl rfl rfl;have hR:=(show Hid _ from p1.trans p2);have c4:w.cell? ⟨B,4,none⟩=some (.int .i64 t.row):=h.cell 4;have c5:w.cell? ⟨B,5,none⟩=some (.int .i64 t.col):=h.cell 5;have c0:w.cell? ⟨B,0,none⟩=some (.int .i64 (cn:Int)):=by rw [<- hgc];exact h.cell 0
 have z4:w.frozen? ⟨B,4,none⟩=false:=h.frozen 4;have z5:w.frozen? ⟨B,5,none⟩=false:=h.frozen 5;clear h rt hvg hV p1 p2 hgc hN e1 e2;go_enter Tryz.func213,Tryz.ntmps213;go_wp2_with fail;refine hla.mono ?_;rintro e wk ⟨rfl,hw1⟩;subst hw1;go_wp2_with fail;refine (hmn _ _ _).mono ?_;rintro e wk ⟨rfl,hw1⟩;subst hw1;go_wp2_with fail;refine (hmx _ _ _).mono ?_;rintro e wk ⟨rfl,hw1⟩;subst hw1;rw [m1]
 go_wp2_with fail;refine (hmn _ _ _).mono ?_;rintro e wk ⟨rfl,hw1⟩;subst hw1;go_wp2_with fail;refine (hmx _ _ _).mono ?_;rintro e wk ⟨rfl,hw1⟩;subst hw1;rw [m2]
 go_wp2;refine be ?_;exact ⟨rfl,_,_,_,hR.out⟩
theorem AxC.kept {w w':World} {B:Nat} {k r m:Int} {pv tv:Value} {row:Option Nat} (h:AxC w B k r pv m tv) (hg:w.grownBy w' row) (hne:row≠some B):AxC w' B k r pv m tv:=by
 unfold AxC;rw [hg.block B h.lt (Ne.symm hne)]
 exact h
theorem Q1 (p:Ac) (pv tv:Value) (k:Nat) (base:Nat) (R:List (Value×List Int)) (w:World) (h:XS w base ((pv,p.params)::(tv,p.text)::R)) (_hb:base<=w.heap.size) (hk:k<=134217728) (hpl:p.params.length<=1048576) (htl:p.text.length<=1048576) :
  Calls Tryz.prog 35 #[.agg (acA p.kind p.rune pv p.mark tv),.int .i64 k] w fun e w'=>e=.returned (.int .i64 ((k+p.params.length+p.text.length:Nat):Int))/\XS w' base ((pv,Ya k p.params.length)::(tv,Ya ((k+p.params.length:Nat):Int) p.text.length)::R)/\GrV pv tv w w':=by
 obtain ⟨a,r,ps,m,ts⟩:=p;have hb0:=Xd w (Obj.cells #[.int .i64 a,.int .i64 r,pv,.int .i64 m,tv] 37);have hP:=AxC.new w a r m pv tv;have h0:=h.below hb0;have m1:=K3 base pv k ps.length (ps.map (Value.int .i64)) _ h0.head ⟨by omega,by omega⟩ (by simp only at hpl;omega);have m2:=fun W (hW:Yi W base tv ts)=>K3 base tv ((k+ps.length:Nat):Int) ts.length (ts.map (Value.int .i64)) W hW ⟨by omega,by simp only at hpl;omega⟩ (by simp only at htl;omega)
 have n1:Hid ((k:Int)+(ps.length:Int)=((k+ps.length:Nat):Int)):=by show _=_;omega
 have n2:Hid (((k+ps.length:Nat):Int)+(ts.length:Int)=((k+ps.length+ts.length:Nat):Int)):=by show _=_;omega
 rw [n1.out] at m1
 unfold acA at *;simp only at *;obtain ⟨pa,pn,pc,hpv⟩:=h.head.shape;obtain ⟨ta,tn,tc,htv⟩:=h.tail.head.shape;simp only at hpv htv;subst hpv;subst htv;have hGr:GrV (.slice pa pn pc) (.slice ta tn tc) w (w.alloc (Obj.cells #[.int .i64 a,.int .i64 r,.slice pa pn pc,.int .i64 m,.slice ta tn tc] 37)):=GrV.of_below hb0;obtain ⟨c0,c1,c2,c3,c4⟩:=hP.cells;have hs:∀ W,(w.alloc (Obj.cells #[.int .i64 a,.int .i64 r,.slice pa pn pc,.int .i64 m,.slice ta tn tc] 37)).grownBy W (Value.slice pa pn pc).ownBlock->AxC W w.heap.size a r (.slice pa pn pc) m (.slice ta tn tc):=fun W hg=>hP.kept hg (h0.head.not_block hP (by decide))
 clear h;go_enter Tryz.func35,Tryz.ntmps35;go_wp2_with fail;refine m1.mono ?_;rintro e w3 ⟨rfl,ho3,hg3⟩;have hP3:=hs w3 hg3;have hL3:XS w3 base ((.slice pa pn pc,Ya k ps.length)::(.slice ta tn tc,ts)::R):=h0.grow hg3 (by unfold Yi;rw [YI];exact ho3) (fun g e=>.inl e);have hG3:=hGr.grown hg3 (fun g e=>.inl e);have m3:=m2 w3 hL3.tail.head;rw [n2.out] at m3
 clear m1 m2 hs hGr hP h0 hg3 ho3 c0 c1 c2 c3 c4;obtain ⟨c0,c1,c2,c3,c4⟩:=hP3.cells;go_wp2_with fail;refine m3.mono ?_;rintro e w4 ⟨rfl,ho4,hg4⟩
 have hL4:XS w4 base ((.slice pa pn pc,Ya k ps.length)::(.slice ta tn tc,Ya ((k+ps.length:Nat):Int) ts.length)::R) :=
  ((hL3.perm (List.Perm.swap _ _ _)).grow hg4 (show Yi w4 base _ _ from by unfold Yi;rw [YI];exact ho4) (fun g e=>.inl e)).perm (List.Perm.swap _ _ _)
 have hG4:=hG3.grown hg4 (fun g e=>.inr (.inl e));clear m3 hP3 hL3 hG3 hg4 ho4 c0 c1 c2 c3 c4;go_wp2;go_ret;exact ⟨rfl,hL4,hG4⟩
