import Derived.Test.YtfpopnkhmjkdlaaGreatDoorP21
import Derived.Test.YtfpopnkhmjkdlaaGreatDoorP24
set_option maxRecDepth 20000
set_option maxHeartbeats 16000000
namespace Go.Proofs.YtfpopnkhmjkdlaaGreatDoor
open Go.ChangeShapes Go.WideShapes Go.ChangeAt Go.RowKit
theorem Xgj (cn N base B:Nat) (x0 x1 x2 x3 x4 x5 pv:Value) (ps:List Int) (t:Te) (v:Tv) (vg vo:List Value) (w:World) (h:Scr w 98 base B [x0,x1,x2,x3,x4,x5] t v vg vo) (rt:RtW t cn N) (hp:SlN w pv ps) (hl:ps.length<=1000) (hn:0<=Xa ps 0 1/\Xa ps 0 1<=9999) :
  Calls Tryz.prog 183 #[.pointer (some ⟨B,0,none⟩),pv] w fun e w'=>e=.returned (.tuple #[])/\∃ v' vg' vo',Res w w' 98 base B [x0,x1,x2,x3,x4,x5] v vg vo { t with row:=max (if t.top<=t.row then t.top else 0) (t.row-Xa ps 0 1) } v' vg' vo':=by
 have c10:w.cell? ⟨B,10,none⟩=some (.int .i64 t.row):=h.cell 10;have c17:w.cell? ⟨B,17,none⟩=some (.int .i64 t.top):=h.cell 17;have z10:w.frozen? ⟨B,10,none⟩=false:=h.frozen 10;obtain ⟨r1,r2⟩:=rt.row;obtain ⟨b1,b2,b3⟩:=rt.tb;have hn2:=rt.n1.2;have hco:=fun W hb=>X1 pv ps W (hp.below hb) hl
 obtain ⟨pa,pc,rfl⟩:=hp.shp;obtain ⟨n,en⟩:∃ n,Hid (Xa ps 0 1=n):=⟨_,rfl⟩;simp only [en.out] at hco hn ⊢
 have hd:Below w.heap.size w w.drew.drew:=(bdr w).trans ((bdr w.drew).mono (bdr w).size);have hc1:=hco _ hd;have hw:IntKind.i64.wrap (t.row-n)=t.row-n:=by simp [IntKind.wrap,IntKind.bits,IntKind.signed];omega
 have hput:=fun (q:Int)=>(show Hid (Res w (w.setCell ⟨B,10,none⟩ (.int .i64 q)).drew.drew 98 base B [x0,x1,x2,x3,x4,x5] v vg vo { t with row:=q } v vg vo) from
  Res.below (Res.below (h.put (sCg B [.int .i64 q] 10 w) _ (sCh B 98 [.int .i64 q] 10 w _ h.b) rfl rfl rfl rfl rfl) (bdr _)) (bdr _))
 by_cases hb:t.top<=t.row
 ·rw [if_pos hb]
  obtain ⟨q,e⟩:∃ q,Hid (max t.top (t.row-n)=q):=⟨_,rfl⟩;rw [e.out]
  have hmx:max (t.row-n) t.top=q:=by have:=e.out;omega
  have hR:=hput q;have hb2:decide (t.top<=t.row)=true:=decide_eq_true hb;clear hput h rt hp hco hd hn hn2 b1 b2 b3 r1 r2 hl;go_enter Tryz.func183,Tryz.ntmps183;go_wp2;go_region;go_wp2;refine wp_region_noPanic ?_;refine wp_region_held_drew (S:=(fun _=>True)) (by kernel_rfl) (trivial) (fun Hh=>?_);refine tK 0 ?_;refine tK 1 ?_;refine tK 2 ?_;refine tK 3 ?_;refine tK 4 ?_;refine tK 6 ?_;refine tk 9 ?_;refine rd2 5 7 (fun K hK=>?_) fun K hK=>?_
  ·go_simp
   refine hK.out _ _ (trivial) (fun Hh=>?_);clear hK K;refine rd 7 fun K hK=>?_
   go_simp;refine hc1.mono ?_;rintro e wk ⟨rfl,hw1⟩;subst hw1;go_wp2_with fail;refine hK.out _ _ (trivial) (fun Hh=>?_);clear hK K;refine tK 8 ?_;refine tK 10 ?_;refine tK 11 ?_;refine tK 12 ?_;refine tk 13 ?_;refine rd 14 fun K hK=>?_
   go_simp;refine hK.out _ _ (trivial) (fun Hh=>?_);clear hK K
   (try simp only [Act.put,ZA,ZB,ZC,ZD,ZE,ZF])
   refine dn ?_;go_wp2;refine be ?_;exact ⟨rfl,_,_,_,hR.out⟩
  ·go_simp
   refine hc1.mono ?_;rintro e wk ⟨rfl,hw1⟩;subst hw1;go_wp2_with fail;refine hK.out _ _ (trivial) (fun Hh=>?_);clear hK K;refine rd 5 fun K hK=>?_
   go_simp;refine hK.out _ _ (trivial) (fun Hh=>?_);clear hK K;refine tK 8 ?_;refine tK 10 ?_;refine tK 11 ?_;refine tK 12 ?_;refine tk 13 ?_;refine rd 14 fun K hK=>?_
   go_simp;refine hK.out _ _ (trivial) (fun Hh=>?_);clear hK K
   (try simp only [Act.put,ZA,ZB,ZC,ZD,ZE,ZF])
   refine dn ?_;go_wp2;refine be ?_;exact ⟨rfl,_,_,_,hR.out⟩
 ·rw [if_neg hb]
  obtain ⟨q,e⟩:∃ q,Hid (max 0 (t.row-n)=q):=⟨_,rfl⟩;rw [e.out]
  have hmx:max (t.row-n) 0=q:=by have:=e.out;omega
  have hR:=hput q;have hb2:decide (t.top<=t.row)=false:=decide_eq_false hb;clear hput h rt hp hco hd hn hn2 b1 b2 b3 r1 r2 hl;go_enter Tryz.func183,Tryz.ntmps183;go_wp2;go_region;go_wp2;refine wp_region_noPanic ?_;refine wp_region_held_drew (S:=(fun _=>True)) (by kernel_rfl) (trivial) (fun Hh=>?_);refine tK 0 ?_;refine tK 1 ?_;refine tK 2 ?_;refine tK 3 ?_;refine tK 4 ?_;refine tK 6 ?_;refine tk 9 ?_;refine rd2 5 7 (fun K hK=>?_) fun K hK=>?_
  ·go_simp
   refine hK.out _ _ (trivial) (fun Hh=>?_);clear hK K;refine rd 7 fun K hK=>?_
   go_simp;refine hc1.mono ?_;rintro e wk ⟨rfl,hw1⟩;subst hw1;go_wp2_with fail;refine hK.out _ _ (trivial) (fun Hh=>?_);clear hK K;refine tK 8 ?_;refine tK 10 ?_;refine tK 11 ?_;refine tK 12 ?_;refine tk 13 ?_;refine rd 14 fun K hK=>?_
   go_simp;refine hK.out _ _ (trivial) (fun Hh=>?_);clear hK K
   (try simp only [Act.put,ZA,ZB,ZC,ZD,ZE,ZF])
   refine dn ?_;go_wp2;refine be ?_;exact ⟨rfl,_,_,_,hR.out⟩
  ·go_simp
   refine hc1.mono ?_;rintro e wk ⟨rfl,hw1⟩;subst hw1;go_wp2_with fail;refine hK.out _ _ (trivial) (fun Hh=>?_);clear hK K;refine rd 5 fun K hK=>?_
   go_simp;refine hK.out _ _ (trivial) (fun Hh=>?_);clear hK K;refine tK 8 ?_;refine tK 10 ?_;refine tK 11 ?_;refine tK 12 ?_;refine tk 13 ?_;refine rd 14 fun K hK=>?_
   go_simp;refine hK.out _ _ (trivial) (fun Hh=>?_);clear hK K
   (try simp only [Act.put,ZA,ZB,ZC,ZD,ZE,ZF])
   refine dn ?_;go_wp2;refine be ?_;exact ⟨rfl,_,_,_,hR.out⟩
theorem Xda (cn N base B:Nat) (x0 x1 x2 x3 x4 x5 pv:Value) (ps:List Int) (t:Te) (v:Tv) (vg vo:List Value) (w:World) (h:Scr w 98 base B [x0,x1,x2,x3,x4,x5] t v vg vo) (rt:RtW t cn N) (hp:SlN w pv ps) (hl:ps.length<=1000) (hn:0<=Xa ps 0 1/\Xa ps 0 1<=9999) :
  Calls Tryz.prog 184 #[.pointer (some ⟨B,0,none⟩),pv] w fun e w'=>e=.returned (.tuple #[])/\∃ v' vg' vo',Res w w' 98 base B [x0,x1,x2,x3,x4,x5] v vg vo { t with row:=min (if t.row<=t.bot then t.bot else (t.g.length:Int)-1) (t.row+Xa ps 0 1) } v' vg' vo':=by
 have c10:w.cell? ⟨B,10,none⟩=some (.int .i64 t.row):=h.cell 10;have c17:w.cell? ⟨B,18,none⟩=some (.int .i64 t.bot):=h.cell 18;have z10:w.frozen? ⟨B,10,none⟩=false:=h.frozen 10;obtain ⟨r1,r2⟩:=rt.row;obtain ⟨b1,b2,b3⟩:=rt.tb;have hn2:=rt.n1.2
 obtain ⟨ga,gc,hvg⟩:∃ a c,v.g=.slice a N c:=by
  obtain ⟨a,c,e⟩:=sGs (SlG.of_own h.o.1.g);rw [rt.n] at e
  exact ⟨a,c,e⟩
 have hla:=KN B ga N gc w (by rw [h.cell 7];show some v.g=_;rw [hvg]) (by omega);clear hvg;have hco:=fun W hb=>X1 pv ps W (hp.below hb) hl
 obtain ⟨pa,pc,rfl⟩:=hp.shp;obtain ⟨n,en⟩:∃ n,Hid (Xa ps 0 1=n):=⟨_,rfl⟩;simp only [en.out] at hco hn ⊢
 have hd:Below w.heap.size w w.drew.drew:=(bdr w).trans ((bdr w.drew).mono (bdr w).size);have hc1:=hco _ hd;have hw:IntKind.i64.wrap (t.row+n)=t.row+n:=by simp [IntKind.wrap,IntKind.bits,IntKind.signed];omega
 have hput:=fun (q:Int)=>(show Hid (Res w (w.setCell ⟨B,10,none⟩ (.int .i64 q)).drew.drew 98 base B [x0,x1,x2,x3,x4,x5] v vg vo { t with row:=q } v vg vo) from
  Res.below (Res.below (h.put (sCg B [.int .i64 q] 10 w) _ (sCh B 98 [.int .i64 q] 10 w _ h.b) rfl rfl rfl rfl rfl) (bdr _)) (bdr _))
 by_cases hb:t.row<=t.bot
 ·rw [if_pos hb]
  obtain ⟨q,e⟩:∃ q,Hid (min t.bot (t.row+n)=q):=⟨_,rfl⟩;rw [e.out]
  have hmx:min (t.row+n) t.bot=q:=by have:=e.out;omega
  have hR:=hput q;have hb2:decide (t.row<=t.bot)=true:=decide_eq_true hb;clear hput h rt hp hco hd hn hn2 b1 b2 b3 r1 r2 hl;go_enter Tryz.func184,Tryz.ntmps184;go_wp2_with fail;refine hla.mono ?_;rintro e wk ⟨rfl,hw1⟩;subst hw1;go_wp2;go_region;go_wp2;refine wp_region_noPanic ?_;refine wp_region_held_drew (S:=(fun _=>True)) (by kernel_rfl) (trivial) (fun Hh=>?_);refine tK 0 ?_;refine tK 1 ?_;refine tK 2 ?_;refine tK 3 ?_;refine tK 4 ?_;refine tK 6 ?_;refine tk 9 ?_;refine rd2 5 7 (fun K hK=>?_) fun K hK=>?_
  ·go_simp
   refine hK.out _ _ (trivial) (fun Hh=>?_);clear hK K;refine rd 7 fun K hK=>?_
   go_simp;refine hc1.mono ?_;rintro e wk ⟨rfl,hw1⟩;subst hw1;go_wp2_with fail;refine hK.out _ _ (trivial) (fun Hh=>?_);clear hK K;refine tK 8 ?_;refine tK 10 ?_;refine tK 11 ?_;refine tK 12 ?_;refine tk 13 ?_;refine rd 14 fun K hK=>?_
   go_simp;refine hK.out _ _ (trivial) (fun Hh=>?_);clear hK K
   (try simp only [Act.put,ZA,ZB,ZC,ZD,ZE,ZF])
   refine dn ?_;go_wp2;refine be ?_;exact ⟨rfl,_,_,_,hR.out⟩
  ·go_simp
   refine hc1.mono ?_;rintro e wk ⟨rfl,hw1⟩;subst hw1;go_wp2_with fail;refine hK.out _ _ (trivial) (fun Hh=>?_);clear hK K;refine rd 5 fun K hK=>?_
   go_simp;refine hK.out _ _ (trivial) (fun Hh=>?_);clear hK K;refine tK 8 ?_;refine tK 10 ?_;refine tK 11 ?_;refine tK 12 ?_;refine tk 13 ?_;refine rd 14 fun K hK=>?_
   go_simp;refine hK.out _ _ (trivial) (fun Hh=>?_);clear hK K
   (try simp only [Act.put,ZA,ZB,ZC,ZD,ZE,ZF])
   refine dn ?_;go_wp2;refine be ?_;exact ⟨rfl,_,_,_,hR.out⟩
 ·rw [if_neg hb]
  obtain ⟨q,e⟩:∃ q,Hid (min ((t.g.length:Int)-1) (t.row+n)=q):=⟨_,rfl⟩;rw [e.out]
  have hmx:min (t.row+n) ((N:Int)-1)=q:=by have:=e.out;have:=rt.n;omega
  have hR:=hput q;have hb2:decide (t.row<=t.bot)=false:=decide_eq_false hb;clear hput h rt hp hco hd hn hn2 b1 b2 b3 r1 r2 hl;go_enter Tryz.func184,Tryz.ntmps184;go_wp2_with fail;refine hla.mono ?_;rintro e wk ⟨rfl,hw1⟩;subst hw1;go_wp2;go_region;go_wp2;refine wp_region_noPanic ?_;refine wp_region_held_drew (S:=(fun _=>True)) (by kernel_rfl) (trivial) (fun Hh=>?_);refine tK 0 ?_;refine tK 1 ?_;refine tK 2 ?_;refine tK 3 ?_;refine tK 4 ?_;refine tK 6 ?_;refine tk 9 ?_;refine rd2 5 7 (fun K hK=>?_) fun K hK=>?_
  ·go_simp
   refine hK.out _ _ (trivial) (fun Hh=>?_);clear hK K;refine rd 7 fun K hK=>?_
   go_simp;refine hc1.mono ?_;rintro e wk ⟨rfl,hw1⟩;subst hw1;go_wp2_with fail;refine hK.out _ _ (trivial) (fun Hh=>?_);clear hK K;refine tK 8 ?_;refine tK 10 ?_;refine tK 11 ?_;refine tK 12 ?_;refine tk 13 ?_;refine rd 14 fun K hK=>?_
   go_simp;refine hK.out _ _ (trivial) (fun Hh=>?_);clear hK K
   (try simp only [Act.put,ZA,ZB,ZC,ZD,ZE,ZF])
   refine dn ?_;go_wp2;refine be ?_;exact ⟨rfl,_,_,_,hR.out⟩
  ·go_simp
   refine hc1.mono ?_;rintro e wk ⟨rfl,hw1⟩;subst hw1;go_wp2_with fail;refine hK.out _ _ (trivial) (fun Hh=>?_);clear hK K;refine rd 5 fun K hK=>?_
   go_simp;refine hK.out _ _ (trivial) (fun Hh=>?_);clear hK K;refine tK 8 ?_;refine tK 10 ?_;refine tK 11 ?_;refine tK 12 ?_;refine tk 13 ?_;refine rd 14 fun K hK=>?_
   go_simp;refine hK.out _ _ (trivial) (fun Hh=>?_);clear hK K
   (try simp only [Act.put,ZA,ZB,ZC,ZD,ZE,ZF])
   refine dn ?_;go_wp2;refine be ?_;exact ⟨rfl,_,_,_,hR.out⟩
theorem Scr.row {W0 W1:World} {T:TypeId} {base B g N cap:Nat} {X:List Value} {t:Te} {v:Tv} {vg vo:List Value} (h:Scr W0 T base B X t v vg vo) (hbase:base<=W0.heap.size) (hb:Below W0.heap.size W0 W1) (hvg:v.g=.slice (some ⟨g,0,none⟩) N cap) (hN:t.g.length=N) (i:Nat) (hi:i<N) (r:Value) (xs:List Ce) (hr:Xl W1 W0.heap.size r xs) :
  Res W0 (W1.setCell ⟨g,i,none⟩ r) T base B X v vg vo { t with g:=t.g.set i xs } v (vg.set i r) vo:=by
 have ho:=h.o.1;have hl:=ho.1;rw [hvg] at ho
 have ho1:XF W1 base W0.heap.size (.slice (some ⟨g,0,none⟩) N cap) vg t.g:=ho.below hb;obtain ⟨hv,hg⟩:=ho1.setV hN i hi r xs (hr.low hbase) (fun q e=>(hr.lt q e).1);refine h.rows hbase (vg.set i r) _ (by rw [hvg];exact hv) ?_ (fun k hk c=>?_)
 ·rw [hvg]
  exact (GrP.of_below hb).trans (GrP.of_grown hg (fun g' e=>by cases e;exact .inl rfl))
 ·rcases c with c|⟨j,hj,e⟩
  ·exact .inl c
  ·rw [List.length_set] at hj
   rw [Ja (by omega)] at e
   by_cases ej:j=i
   ·rw [if_pos ej] at e
    have:=(hr.lt k e).1;omega
   ·rw [if_neg ej] at e
    exact .inr ⟨j,hj,e⟩
theorem Xau (cn N base B:Nat) (x0 x1 x2 x3 x4 x5:Value) (t:Te) (v:Tv) (vg vo:List Value) (w:World) (hSp:Xo w) (h:Scr w 98 base B [x0,x1,x2,x3,x4,x5] t v vg vo) (hbase:base<=w.heap.size) (rt:RtW t cn N) (i:Nat) (hi:i<N) (p q:Int) :
  Calls Tryz.prog 236 #[.pointer (some ⟨B,0,none⟩),.int .i64 (i:Int),.int .i64 p,.int .i64 q] w fun e w'=>e=.returned (.tuple #[])/\∃ v' vg' vo',Res w w' 98 base B [x0,x1,x2,x3,x4,x5] v vg vo (Ka t i (X4 (Xb t.g i) p q (Xn t.st))) v' vg' vo':=by
 have hN:=rt.n;have hn2:=rt.n1;have hcl:=rt.c;rcases h.o.1.shape with ⟨_,hs⟩|⟨g,cap,hvg,hbg,hlg,hcap⟩
 ·rw [hs] at hN;simp at hN;omega
 rw [hN] at hvg hcap
 have ho:=h.o.1;have hro:=ho.2.2.1 i (by omega);have hvl:=ho.1;rw [hvg] at ho
 have hci:=ho.cell hN i hi;obtain ⟨ra,rn,rc,hre⟩:=hro.isSl;rw [hre] at hci hro
 have hgx:=rt.gx i hi;have hsl:SlC w (.slice ra rn rc) (Xb t.g i):=SlC.of_own hro;have hlt:=h.lt;have c7:∀ W,Below w.heap.size w W->W.cell? ⟨B,7,none⟩=some (.slice (some ⟨g,0,none⟩) N cap):=fun W hb=>by rw [(h.below hb).cell 7];show some v.g=_;rw [hvg]
 have ci:∀ W,Below w.heap.size w W->W.cell? ⟨g,i,none⟩=some (.slice ra rn rc):=fun W hb=>(hb.cell (p:=⟨g,i,none⟩) hlg).trans hci
 have zi:∀ W,Below w.heap.size w W->W.frozen? ⟨g,i,none⟩=false:=fun W hb=>(ho.below hb).frozen hN i
 have hbk:=fun W (hb:Below w.heap.size w W)=>JA B t.st W ((h.below hb).cell 13) (Nat.lt_of_lt_of_le hlt hb.size)
 have hcd:=fun W (hb:Below w.heap.size w W)=>Js (.slice ra rn rc) (Xb t.g i) p q (Xn t.st) W (hSp.below hb hSp.lt) (hsl.below hb) (by omega)
 obtain ⟨R,hR⟩:∃ R,Hid (X4 (Xb t.g i) p q (Xn t.st)=R):=⟨_,rfl⟩;simp only [hR.out] at hcd ⊢
 have hfin:∀ W r,Below w.heap.size w W->Xl W w.heap.size r R->Res w (W.setCell ⟨g,i,none⟩ r) 98 base B [x0,x1,x2,x3,x4,x5] v vg vo (Ka t i R) v (vg.set i r) vo:=fun W r hb hr=>by
  have:=h.row hbase hb hvg hN i hi r R hr;unfold Ka;rw [Int.toNat_natCast]
  exact this
 have hsc:∀ W r,Below w.heap.size w W->(W.setCell ⟨g,i,none⟩ r).cell? ⟨B,7,none⟩=some (.slice (some ⟨g,0,none⟩) N cap):=fun W r hb=>by
  have hne:g≠B:=fun e=>YA h.o.1 h.b h.n1 h.n2 (.inl (by rw [hvg,<- e];rfl))
  rw [<- c7 W hb]
  exact World.cell?_of_block (w:=W) ((sCc W g i r).block B (Nat.lt_of_lt_of_le hlt hb.size) (fun e=>hne (Option.some.inj e).symm))
 unfold stV at hbk hcd;have hd:=bdr w;have i0:(0:Int)<=(i:Int):=by omega
 have i1:(i:Int)<(N:Int):=by omega
 clear h hbase rt ho hro hre hsl hgx hSp hvg hbg hcap hlt hvl hci hR;go_enter Tryz.func236,Tryz.ntmps236;go_wp2;refine wp_region_noPanic ?_;refine wp_region_held_drew (S:=(fun W=>W.cell? ⟨B,7,none⟩=some (.slice (some ⟨g,0,none⟩) N cap))) (by kernel_rfl) (c7 _ hd) (fun Hh=>?_);have di:=ci _ hd;refine tK 0 ?_;refine tK 1 ?_;refine tK 2 ?_;refine tK 3 ?_;refine tK 4 ?_;refine tK 5 ?_;refine tK 6 ?_;refine tK 7 ?_;refine tK 8 ?_;refine tK 9 ?_;refine tK 10 ?_;refine tK 11 ?_;refine tK 12 ?_;refine tK 13 ?_;refine tK 14 ?_;refine tK 16 ?_;refine tK 17 ?_;refine tk 18 ?_;refine rd2 15 19 (fun K hK=>?_) fun K hK=>?_
 ·go_simp
  refine hK.out _ _ (Hh) (fun Hh=>?_);clear hK K;refine rd 19 fun K hK=>?_
  go_simp;refine (hbk _ hd).mono ?_;rintro e wk ⟨rfl,hb⟩;replace hd:=hd.trans (hb.mono hd.size);have di:=ci _ hd;unfold Xn;go_wp2_with fail;refine hK.out _ _ (c7 _ hd) (fun Hh=>?_);clear hK K;refine rd 20 fun K hK=>?_
  go_simp;refine (hcd _ hd).mono ?_;rintro e w2 ⟨u,rfl,hu,hb⟩;have hu2:=hu.low hd.size;replace hd:=hd.trans (hb.mono hd.size);obtain ⟨ua,un,uc,hue⟩:=hu2.isSl;subst hue;have di:=ci _ hd;have zj:=zi _ hd;go_wp2_with fail;refine hK.out _ _ (c7 _ hd) (fun Hh=>?_);clear hK K;refine tk 21 ?_;refine rd 22 fun K hK=>?_
  go_simp;refine hK.out _ _ (hsc _ _ hd) (fun Hh=>?_);clear hK K
  (try simp only [Act.put,ZA,ZB,ZC,ZD,ZE,ZF])
  refine dn ?_;go_wp2;refine be ?_;exact ⟨rfl,_,_,_,hfin _ _ hd hu2⟩
 ·go_simp
  refine (hbk _ hd).mono ?_;rintro e wk ⟨rfl,hb⟩;replace hd:=hd.trans (hb.mono hd.size);have di:=ci _ hd;unfold Xn;go_wp2_with fail;refine hK.out _ _ (c7 _ hd) (fun Hh=>?_);clear hK K;refine rd 15 fun K hK=>?_
  go_simp;refine hK.out _ _ (Hh) (fun Hh=>?_);clear hK K;refine rd 20 fun K hK=>?_
  go_simp;refine (hcd _ hd).mono ?_;rintro e w2 ⟨u,rfl,hu,hb⟩;have hu2:=hu.low hd.size;replace hd:=hd.trans (hb.mono hd.size);obtain ⟨ua,un,uc,hue⟩:=hu2.isSl;subst hue;have di:=ci _ hd;have zj:=zi _ hd;go_wp2_with fail;refine hK.out _ _ (c7 _ hd) (fun Hh=>?_);clear hK K;refine tk 21 ?_;refine rd 22 fun K hK=>?_
  go_simp;refine hK.out _ _ (hsc _ _ hd) (fun Hh=>?_);clear hK K
  (try simp only [Act.put,ZA,ZB,ZC,ZD,ZE,ZF])
  refine dn ?_;go_wp2;refine be ?_;exact ⟨rfl,_,_,_,hfin _ _ hd hu2⟩
theorem QU:(Tryz.prog.info? 37).map (·.size)=some 5:=by kernel_rfl
theorem XaM (a:Ac) (pv tv:Value) (w:World) (hp:SlI w pv a.params) (ht:SlI w tv a.text) (hpl:a.params.length<=1073741824) (htl:a.text.length<=1073741824) :
  Calls Tryz.prog 31 #[.agg (acA a.kind a.rune pv a.mark tv)] w fun e w'=>∃ pv' tv',e=.returned (.agg (acA a.kind a.rune pv' a.mark tv'))/\XS w' w.heap.size [(pv',a.params),(tv',a.text)]/\Below w.heap.size w w':=by
 obtain ⟨k,r,ps,m,ts⟩:=a;simp only at *;obtain ⟨pa,pc,hpv⟩:=hp.shp;obtain ⟨ta,tc,htv⟩:=ht.shp;subst hpv;subst htv;have cP:=fun W h=>JV (.slice pa ps.length pc) ps W h hpl
 have cT:=fun W h=>JV (.slice ta ts.length tc) ts W h htl
 have b0:=Xd w (Obj.cells #[.int .i64 k,.int .i64 r,.slice pa ps.length pc,.int .i64 m,.slice ta ts.length tc] 66);have hX0:=Xj.new w 66 [.int .i64 k,.int .i64 r,.slice pa ps.length pc,.int .i64 m,.slice ta ts.length tc];obtain ⟨w1,hw1⟩:∃ w1,w1=w.alloc (Obj.cells #[.int .i64 k,.int .i64 r,.slice pa ps.length pc,.int .i64 m,.slice ta ts.length tc] 66):=⟨_,rfl⟩;have zs1:w1.heap.size=w.heap.size+1:=by rw [hw1];simp
 replace hX0:Xj w1 w.heap.size 66 [.int .i64 k,.int .i64 r,.slice pa ps.length pc,.int .i64 m,.slice ta ts.length tc]:=by rw [hw1];exact hX0
 rw [<- hw1] at b0
 obtain ⟨w2,hw2⟩:∃ w2,w2=(w1.alloc (Obj.cells #[.int .i64 0,.int .i64 0,.slice none 0 0,.int .i64 0,.slice none 0 0] 37)).alloc (Obj.cells #[.int .i64 0,.int .i64 0,.slice none 0 0,.int .i64 0,.slice none 0 0] 37):=⟨_,rfl⟩;have b1:=Xd w1 (Obj.cells #[.int .i64 0,.int .i64 0,.slice none 0 0,.int .i64 0,.slice none 0 0] 37);have b2:=Xd (w1.alloc (Obj.cells #[.int .i64 0,.int .i64 0,.slice none 0 0,.int .i64 0,.slice none 0 0] 37)) (Obj.cells #[.int .i64 0,.int .i64 0,.slice none 0 0,.int .i64 0,.slice none 0 0] 37);have hR:=Xj.below (Xj.new w1 37 [.int .i64 0,.int .i64 0,.slice none 0 0,.int .i64 0,.slice none 0 0]) b2;have hB:=Xj.new (w1.alloc (Obj.cells #[.int .i64 0,.int .i64 0,.slice none 0 0,.int .i64 0,.slice none 0 0] 37)) 37 [.int .i64 0,.int .i64 0,.slice none 0 0,.int .i64 0,.slice none 0 0];have bb:=b1.trans (b2.mono b1.size);have zs2:w2.heap.size=w.heap.size+3:=by rw [hw2];simp;omega
 replace hR:Xj w2 (w.heap.size+1) 37 [.int .i64 0,.int .i64 0,.slice none 0 0,.int .i64 0,.slice none 0 0]:=by rw [hw2,<- zs1];exact hR
 replace hB:Xj w2 (w.heap.size+2) 37 [.int .i64 0,.int .i64 0,.slice none 0 0,.int .i64 0,.slice none 0 0]:=by rw [hw2,show w.heap.size+2=(w1.alloc (Obj.cells #[.int .i64 0,.int .i64 0,.slice none 0 0,.int .i64 0,.slice none 0 0] 37)).heap.size by simp;omega];exact hB
 rw [<- hw2] at bb
 have hX:=Xj.below hX0 bb;have kb:=b0.trans (bb.mono b0.size);rw [hw1] at hw2
 replace hw2:=(show Hid _ from hw2);clear b0 b1 b2 bb hX0 hw1 zs1;unfold acA at *;go_enter Tryz.func31,Tryz.ntmps31;refine wp_seq_k (fun K hK=>?_);have hH:=(show Hid _ from hK);clear hK;go_wp2;refine hH.out _ _ ?_;clear hH;refine wp_seq_k (fun K hK=>?_);have hH:=(show Hid _ from hK);clear hK;go_wp2;refine hH.out _ _ ?_;rw [<- hw2.out,show w.heap.size+1+1=w.heap.size+2 from rfl]
 clear hH hw2;have c0:w2.cell? ⟨w.heap.size,0,none⟩=some (.int .i64 k):=cAl hX 0
 go_wp2_with (first
  | (refine XD (by rfl) 2 _ _ (by rfl) Xch hB (by rfl) (by rfl) (by rfl) (by rfl) (by rfl) ?_;intro W1 hg1 hB1 hz1;clear c0;have hX1:=Xj.kept hX hg1 (fun e=>by have:=Option.some.inj e;omega);have c1:W1.cell? ⟨w.heap.size,1,none⟩=some (.int .i64 r):=cAl hX1 1)
  | (refine XD (by rfl) 2 _ _ (by rfl) Xch hB1 (by rfl) (by rfl) (by rfl) (by rfl) (by rfl) ?_;intro W2 hg2 hB2 hz2;clear c1;have hX2:=Xj.kept hX1 hg2 (fun e=>by have:=Option.some.inj e;omega);have c2:W2.cell? ⟨w.heap.size,2,none⟩=some (.slice pa ps.length pc):=cAl hX2 2))
 have kb2:=(kb.grown hg1 kb.size (fun g e=>by cases e;omega)).grown hg2 (by omega) (fun g e=>by cases e;omega);have hR2:=Xj.kept (Xj.kept hR hg1 (fun e=>by have:=Option.some.inj e;omega)) hg2 (fun e=>by have:=Option.some.inj e;omega);clear hX hX1 hB hB1 hR kb hg1 hg2 c2;refine (cP W2 (hp.below kb2)).mono ?_;rintro e w4 ⟨u,rfl,hou,hb⟩;replace hou:Yi w4 W2.heap.size u ps:=hou;have kb4:=kb2.trans (hb.mono kb2.size);have hX4:=Xj.below hX2 hb;have hR4:=Xj.below hR2 hb;have hB4:=Xj.below hB2 hb;have z4:=hb.size;obtain ⟨ua,un,uc,hu⟩:=hou.shape;subst hu;clear hb kb2 hX2 hR2 hB2 cP;have c3:w4.cell? ⟨w.heap.size,3,none⟩=some (.int .i64 m):=cAl hX4 3
 go_wp2_with (first
  | (refine XD (by rfl) 29 _ _ (by rfl) QS hB4 (by rfl) (by rfl) (by rfl) (by rfl) (by rfl) ?_;intro W5 hg5 hB5 hz5;clear c3;have hX5:=Xj.kept hX4 hg5 (fun e=>by have:=Option.some.inj e;omega);have c3:W5.cell? ⟨w.heap.size,3,none⟩=some (.int .i64 m):=cAl hX5 3)
  | (refine XD (by rfl) 2 _ _ (by rfl) Xch hB5 (by rfl) (by rfl) (by rfl) (by rfl) (by rfl) ?_;intro W6 hg6 hB6 hz6;clear c3;have hX6:=Xj.kept hX5 hg6 (fun e=>by have:=Option.some.inj e;omega);have c4:W6.cell? ⟨w.heap.size,4,none⟩=some (.slice ta ts.length tc):=cAl hX6 4))
 have gg:=Xf hg5 hg6;have kb6:=kb4.grown gg kb4.size (fun g e=>by cases e;omega);have hR6:=Xj.kept hR4 gg (fun e=>by have:=Option.some.inj e;omega);have hou6:=hou.kept gg (.inr (fun e=>by have:=(hou.lt _ e).1;omega));clear hX4 hX5 hB4 hB5 hR4 hg5 hg6 c4 gg;refine (cT W6 (ht.below kb6)).mono ?_;rintro e w7 ⟨t,rfl,hot,hb⟩;replace hot:Yi w7 W6.heap.size t ts:=hot;obtain ⟨sa,sn,sc,hu⟩:=hot.shape;subst hu;have kb7:=kb6.trans (hb.mono kb6.size);have hR7:=Xj.below hR6 hb;have hB7:=Xj.below hB6 hb
 have hL7:XS w7 w.heap.size [(.slice ua un uc,ps),(.slice sa sn sc,ts)] :=
  ((show XS W6 w.heap.size [(.slice ua un uc,ps)] from ⟨fun p hp=>by rw [List.mem_singleton] at hp;subst hp;exact hou6.low (by omega),List.pairwise_singleton _ _⟩).new hb (hot.low (by omega)) (fun g e=>(hot.lt g e).1)).perm (List.Perm.swap _ _ _)
 have hne:∀ p∈[((.slice ua un uc:Value),ps),(.slice sa sn sc,ts)],∀ k,p.1.ownBlock=some k->w.heap.size+3<=k:=fun p hp k e=>by
  simp only [List.mem_cons,List.mem_nil_iff,or_false] at hp;rcases hp with rfl|rfl
  ·have:=(hou.lt k e).1;omega
  ·have:=(hot.lt k e).1;omega
 have z7:=hb.size;clear hb kb6 hX6 hB6 hR6 cT hou6
 go_wp2_with (first
  | (refine XD (by rfl) 29 _ _ (by rfl) QS hB7 (by rfl) (by rfl) (by rfl) (by rfl) (by rfl) ?_;intro W8 hg8 hB8 hz8;have hO8:=(show Xj W8 (w.heap.size+2) 37 [.int .i64 k,.int .i64 r,.slice ua un uc,.int .i64 m,.slice sa sn sc] from hB8);have hR8:=Xj.kept hR7 hg8 (fun e=>by have:=Option.some.inj e;omega))
  | (refine KX (cs:=#[.int .i64 k,.int .i64 r,.slice ua un uc,.int .i64 m,.slice sa sn sc]) (by rfl) 37 _ (by rfl) Tryz.underlying37 rfl QU hO8 (by rfl) ?_)
  | (refine Yh (cs:=#[.int .i64 k,.int .i64 r,.slice ua un uc,.int .i64 m,.slice sa sn sc]) (by rfl) 37 _ _ (by rfl) QU (by rfl) (by rfl) hR8 (by rfl) (by rfl) ?_;intro w9 hg9 hR9 hz9))
 have kb9:=(kb7.grown hg8 kb7.size (fun g e=>by cases e;omega)).grown hg9 (by omega) (fun g e=>by cases e;omega);have hL9:=(hL7.kept hg8 (fun p hp=>.inr fun e=>by have:=hne p hp _ e;omega)).kept hg9 (fun p hp=>.inr fun e=>by have:=hne p hp _ e;omega);exact bodyPost_ret (v:=.agg #[.int .i64 k,.int .i64 r,.slice ua un uc,.int .i64 m,.slice sa sn sc]) (results_cell_row Tryz.results31 _ _ _ _ _ _ _ rfl hR9 Tryz.underlying37 rfl QU) rfl ⟨_,_,rfl,hL9,kb9⟩
