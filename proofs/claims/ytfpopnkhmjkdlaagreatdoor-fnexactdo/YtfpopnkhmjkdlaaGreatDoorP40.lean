import Derived.Test.YtfpopnkhmjkdlaaGreatDoorP39
set_option maxRecDepth 20000
set_option maxHeartbeats 16000000
namespace Go.Proofs.YtfpopnkhmjkdlaaGreatDoor
open Go.ChangeShapes Go.WideShapes Go.ChangeAt Go.RowKit
theorem XeZ (cn N base B:Nat) (pv:Value) (ps:List Int) (t:Te) (v:Tv) (vg vo:List Value) (w:World) (h:Scr w 35 base B [] t v vg vo) (hbase:base<=w.heap.size) (rt:RtW t cn N) (hp:SlN w pv ps) (hl:ps.length<=1000) (hap:ApF w B v vg vo pv) (hb:∀ x∈ps,0<=x/\x<=9999) :
  Calls Tryz.prog 144 #[.pointer (some ⟨B,0,none⟩),.int .i64 76,pv] w fun e w'=>e=.returned (.tuple #[])/\∃ v' vg' vo',Res w w' 35 base B [] v vg vo (Xi t 76 ps) v' vg' vo':=by
 have hpn:Calls Tryz.prog 211 #[pv,.int .i64 0,.int .i64 1] w (fun e w'=>e=.returned (.int .i64 (Xa ps 0 1))/\w'=w):=lPa pv ps 0 1 w hp hl;have hph:Calls Tryz.prog 211 #[pv,.int .i64 0,.int .i64 0] w (fun e w'=>e=.returned (.int .i64 (Xa ps 0 0))/\w'=w):=lPa pv ps 0 0 w hp hl;have hnb:=XW hb 0 1 (by omega);have hcc:=rt.c;have c0:w.cell? ⟨B,0,none⟩=some (.int .i64 t.gc):=h.cell 0;have c4:w.cell? ⟨B,4,none⟩=some (.int .i64 t.row):=h.cell 4;have c5:w.cell? ⟨B,5,none⟩=some (.int .i64 t.col):=h.cell 5;have c13:w.cell? ⟨B,13,none⟩=some (.bool t.full):=h.cell 13;have z13:w.frozen? ⟨B,13,none⟩=false:=h.frozen 13;have h1:Res w (w.setCell ⟨B,13,none⟩ (.bool false)) 35 base B [] v vg vo { t with full:=false } v vg vo:=h.put (sCg B [.bool false] 13 w) _ (sCh B 35 [.bool false] 13 w _ h.b) rfl rfl rfl rfl rfl;have hb1:=Nat.le_trans hbase h1.g.size;have hp1:=(hp.res hap h1).1;obtain ⟨W1,hW1⟩:∃ W1,Hid (W1=w.setCell ⟨B,13,none⟩ (.bool false)):=⟨_,rfl⟩;rw [<- hW1.out] at h1 hp1 hb1
 obtain ⟨b1,b2,b3⟩:=rt.tb;obtain ⟨r1,r2⟩:=rt.row;have hn2:=rt.n1.2;have hlt:=h1.s.lt;have hN:=rt.n;have cf:∀ W,Below W1.heap.size W1 W->W.cell? ⟨B,4,none⟩=some (.int .i64 t.row)/\W.cell? ⟨B,12,none⟩=some (.int .i64 t.bot):=fun W hb=>⟨(h1.s.below hb).cell 4,(h1.s.below hb).cell 12⟩
 have f4:W1.cell? ⟨B,4,none⟩=some (.int .i64 t.row):=h1.s.cell 4;have f11:W1.cell? ⟨B,11,none⟩=some (.int .i64 t.top):=h1.s.cell 11;have f12:W1.cell? ⟨B,12,none⟩=some (.int .i64 t.bot):=h1.s.cell 12;obtain ⟨nn,hnn⟩:∃ nn,Hid (-(Xa ps 0 1)=nn):=⟨_,rfl⟩;have hw:IntKind.i64.wrap (-(Xa ps 0 1))=nn:=by rw [<- hnn.out];simp [IntKind.wrap,IntKind.bits,IntKind.signed];omega
 have hbk:=fun W (hbW:Below W1.heap.size W1 W)=>YX B t.st W ((h1.s.below hbW).cell 7) (Nat.lt_of_lt_of_le hlt hbW.size)
 by_cases hin:t.top<=t.row/\t.row<=t.bot
 ·have hmv:=fun W (hbW:Below W1.heap.size W1 W)=>Kr cn N base B { t with full:=false } v vg vo W (h1.s.below hbW) (Nat.le_trans hb1 hbW.size) (rt.full false) t.row.toNat t.bot.toNat (nn) (by omega) (by omega) (by have:=hnn.out;omega)
  rw [show ((t.row.toNat:Nat):Int)=t.row by omega,show ((t.bot.toNat:Nat):Int)=t.bot by omega] at hmv
  unfold stV at hmv hbk;have hin2:=fun W=>XQ t.row t.top t.bot W
  simp only [decide_eq_true hin] at hin2;have hV:Xi t 76 ps={ XH { t with full:=false } t.row t.bot (nn) with col:=0 }:=by rw [<- hnn.out];simp [Xi,hin]
  rw [hV]
  clear hV hin;replace cf:=(show Hid _ from cf);replace hmv:=(show Hid _ from hmv);replace hbk:=(show Hid _ from hbk);replace h1:=(show Hid _ from h1);clear h rt hbase hb1 hp1 hp hap hb hcc hn2 hN r1 r2 b1 b2 b3;generalize Xa ps 0 1=n at *;generalize Xa ps 0 0=how at *;go_enter Tryz.func144,Tryz.ntmps144;go_wp2_with fail;refine hpn.mono ?_;rintro e wk ⟨rfl,hk⟩;subst hk;clear hpn;go_wp2_with fail;refine hph.mono ?_;rintro e wk ⟨rfl,hk⟩;subst hk;clear hph;go_wp2;rw [<- hW1.out]
  go_quiet (exact Calls.quiet_of_same (hin2 _));go_wp2;have hd:Below W1.heap.size W1 (W1.drewN (nq+1)):=⟨rfl,rfl,rfl,Nat.le_refl _,fun _ _=>rfl⟩;refine wp_region_noPanic ?_;refine wp_region_held_drew (S:=(fun W=>W.cell? ⟨B,4,none⟩=some (.int .i64 t.row)/\W.cell? ⟨B,12,none⟩=some (.int .i64 t.bot))) (by kernel_rfl) (cf.out _ hd) (fun Hh=>?_);refine tK 0 ?_;refine tK 1 ?_;refine tK 2 ?_;refine tK 3 ?_;refine tK 4 ?_;refine tK 5 ?_;refine tK 6 ?_;refine tK 7 ?_;refine tK 8 ?_;refine tK 9 ?_;refine tK 10 ?_;refine tK 11 ?_;refine tk 12 ?_;refine rd 13 fun K hK=>?_
  go_simp;refine (hbk.out _ hd).mono ?_;rintro e wk ⟨rfl,hb⟩;replace hd:=hd.trans (hb.mono hd.size);unfold Xn;go_wp2_with fail;refine hK.out _ _ (cf.out _ hd) (fun Hh=>?_);clear hK K;refine rd 14 fun K hK=>?_
  go_simp;refine (hmv.out _ hd).mono ?_;rintro e w2 ⟨rfl,vg2,hR⟩;go_wp2_with fail;refine hK.out _ _ (⟨hR.s.cell 4,hR.s.cell 12⟩) (fun Hh=>?_);clear hK K
  (try simp only [Act.put,ZA,ZB,ZC,ZD,ZE,ZF])
  refine dn ?_;have x5:w2.cell? ⟨B,5,none⟩=some (.int .i64 t.col):=hR.s.cell 5;have y5:w2.frozen? ⟨B,5,none⟩=false:=hR.s.frozen 5;have h3:=hR.s.put (sCg B [.int .i64 0] 5 w2) { XH { t with full:=false } t.row t.bot (nn) with col:=0 } (sCh B 35 [.int .i64 0] 5 w2 _ hR.s.b) rfl rfl rfl rfl rfl;have hF:=(show Hid _ from ((h1.out.below hd).trans hR).trans h3);clear hR h1 Hh cf hd hmv hbk h3;go_wp2;refine be ?_;exact ⟨rfl,_,_,_,hF.out⟩
 ·have hin2:=fun W=>XQ t.row t.top t.bot W
  simp only [decide_eq_false hin] at hin2;have hV:Xi t 76 ps={ t with full:=false }:=by simp [Xi,hin]
  rw [hV]
  clear hV hin hbk cf;replace h1:=(show Hid _ from h1);clear h rt hbase hb1 hp1 hp hap hb hcc hn2 hN r1 r2 b1 b2 b3;generalize Xa ps 0 1=n at *;generalize Xa ps 0 0=how at *;go_enter Tryz.func144,Tryz.ntmps144;go_wp2_with fail;refine hpn.mono ?_;rintro e wk ⟨rfl,hk⟩;subst hk;clear hpn;go_wp2_with fail;refine hph.mono ?_;rintro e wk ⟨rfl,hk⟩;subst hk;clear hph;go_wp2;rw [<- hW1.out]
  go_quiet (exact Calls.quiet_of_same (hin2 _));go_wp2;refine be ?_;exact ⟨rfl,_,_,_,h1.out.below ⟨rfl,rfl,rfl,Nat.le_refl _,fun _ _=>rfl⟩⟩
theorem XeQ (cn N base B:Nat) (pv:Value) (ps:List Int) (t:Te) (v:Tv) (vg vo:List Value) (w:World) (h:Scr w 35 base B [] t v vg vo) (hbase:base<=w.heap.size) (rt:RtW t cn N) (hp:SlN w pv ps) (hl:ps.length<=1000) (hap:ApF w B v vg vo pv) (hb:∀ x∈ps,0<=x/\x<=9999) :
  Calls Tryz.prog 144 #[.pointer (some ⟨B,0,none⟩),.int .i64 64,pv] w fun e w'=>e=.returned (.tuple #[])/\∃ v' vg' vo',Res w w' 35 base B [] v vg vo (Xi t 64 ps) v' vg' vo':=by
 have hpn:Calls Tryz.prog 211 #[pv,.int .i64 0,.int .i64 1] w (fun e w'=>e=.returned (.int .i64 (Xa ps 0 1))/\w'=w):=lPa pv ps 0 1 w hp hl;have hph:Calls Tryz.prog 211 #[pv,.int .i64 0,.int .i64 0] w (fun e w'=>e=.returned (.int .i64 (Xa ps 0 0))/\w'=w):=lPa pv ps 0 0 w hp hl;have hnb:=XW hb 0 1 (by omega);have hcc:=rt.c;have c0:w.cell? ⟨B,0,none⟩=some (.int .i64 t.gc):=h.cell 0;have c4:w.cell? ⟨B,4,none⟩=some (.int .i64 t.row):=h.cell 4;have c5:w.cell? ⟨B,5,none⟩=some (.int .i64 t.col):=h.cell 5;have c13:w.cell? ⟨B,13,none⟩=some (.bool t.full):=h.cell 13;have z13:w.frozen? ⟨B,13,none⟩=false:=h.frozen 13;have h1:Res w (w.setCell ⟨B,13,none⟩ (.bool false)) 35 base B [] v vg vo { t with full:=false } v vg vo:=h.put (sCg B [.bool false] 13 w) _ (sCh B 35 [.bool false] 13 w _ h.b) rfl rfl rfl rfl rfl;have hb1:=Nat.le_trans hbase h1.g.size;have hp1:=(hp.res hap h1).1;obtain ⟨W1,hW1⟩:∃ W1,Hid (W1=w.setCell ⟨B,13,none⟩ (.bool false)):=⟨_,rfl⟩;rw [<- hW1.out] at h1 hp1 hb1
 obtain ⟨b1,b2,b3⟩:=rt.tb;obtain ⟨r1,r2⟩:=rt.row;have hn2:=rt.n1.2;have hlt:=h1.s.lt;have hN:=rt.n;have rt0:=rt.full false;obtain ⟨i,hie⟩:∃ i:Nat,t.row=(i:Int):=⟨t.row.toNat,by omega⟩;obtain ⟨a,hae⟩:∃ a:Nat,t.col=(a:Int):=⟨t.col.toNat,by have:=rt.col;omega⟩;have hgc:=rt.gc;have hcol:=rt.col;have hi:i<N:=by omega
 obtain ⟨d,hdd⟩:∃ d,Hid (t.gc-(a:Int)=d):=⟨_,rfl⟩;have ew:IntKind.i64.wrap (t.gc-(a:Int))=d:=by rw [<- hdd.out];simp [IntKind.wrap,IntKind.bits,IntKind.signed];omega
 obtain ⟨b,hbe⟩:∃ b:Nat,Hid (min (Xa ps 0 1) d=(b:Int)):=⟨(min (Xa ps 0 1) d).toNat,by show _=_;have:=hdd.out;omega⟩;have hmn:∀ W,Calls Tryz.prog 158 #[.int .i64 (Xa ps 0 1),.int .i64 d] W (fun e w'=>e=.returned (.int .i64 (b:Int))/\w'=W):=fun W=>by rw [<- hbe.out];exact Zw (Xa ps 0 1) d W
 have hV:Xi t 64 ps=Ka { t with full:=false } (i:Int) (KP (Xb t.g i) a b (Xn t.st)):=by
  have e1:(min (Xa ps 0 1) (t.gc-t.col)).toNat=b:=by rw [hae,hdd.out,hbe.out];rfl
  have e2:t.row.toNat=i:=by rw [hie];rfl
  have e3:t.col.toNat=a:=by rw [hae];rfl
  rw [<- hie,<- e1,<- e2,<- e3]
  simp [Xi]
 rw [hV]
 clear hV;rcases h1.s.o.1.shape with ⟨_,hs⟩|⟨g,cap,hvg,hbg,hlg,hcap⟩
 ·rw [hs] at hN;simp at hN;omega
 have hN':({ t with full:=false }:Te).g.length=N:=hN;rw [hN'] at hvg hcap
 have ho:=h1.s.o.1;have hro:=ho.2.2.1 i (by rw [hN'];exact hi);have hvl:=ho.1;rw [hvg] at ho
 have hci:=ho.cell hN' i hi;obtain ⟨ra,rn,rc,hre⟩:=hro.isSl;rw [hre] at hci hro
 have hgx:=rt.gx i hi;have hsl:SlC W1 (.slice ra rn rc) (Xb t.g i):=SlC.of_own hro;have cf:∀ W,Below W1.heap.size W1 W->W.cell? ⟨B,1,none⟩=some (.slice (some ⟨g,0,none⟩) N cap)/\W.cell? ⟨B,4,none⟩=some (.int .i64 (i:Int))/\W.cell? ⟨B,5,none⟩=some (.int .i64 (a:Int)):=fun W hb=>⟨by rw [(h1.s.below hb).cell 1];show some v.g=_;rw [hvg],by rw [(h1.s.below hb).cell 4,<- hie];rfl,by rw [(h1.s.below hb).cell 5,<- hae];rfl⟩
 have ci:∀ W,Below W1.heap.size W1 W->W.cell? ⟨g,i,none⟩=some (.slice ra rn rc):=fun W hb=>(hb.cell (p:=⟨g,i,none⟩) hlg).trans hci
 have zi:∀ W,Below W1.heap.size W1 W->W.frozen? ⟨g,i,none⟩=false:=fun W hb=>(ho.below hb).frozen hN' i
 have hbk:=fun W (hb:Below W1.heap.size W1 W)=>YX B t.st W ((h1.s.below hb).cell 7) (Nat.lt_of_lt_of_le hlt hb.size)
 have hcd:=fun W (hb:Below W1.heap.size W1 W)=>XbB (.slice ra rn rc) (Xb t.g i) a b (Xn t.st) W (hsl.below hb) (by have:=hdd.out;omega) (by have:=hdd.out;have:=hbe.out;omega) (by omega)
 obtain ⟨R,hR⟩:∃ R,Hid (KP (Xb t.g i) a b (Xn t.st)=R):=⟨_,rfl⟩;simp only [hR.out] at hcd ⊢
 have hfin:∀ W r,Below W1.heap.size W1 W->Xl W W1.heap.size r R->Res W1 (W.setCell ⟨g,i,none⟩ r) 35 base B [] v vg vo (Ka { t with full:=false } i R) v (vg.set i r) vo:=fun W r hb hr=>by
  have:=h1.s.row hb1 hb hvg hN' i hi r R hr;unfold Ka;rw [Int.toNat_natCast]
  exact this
 have hsc:∀ W r,Below W1.heap.size W1 W->(W.setCell ⟨g,i,none⟩ r).cell? ⟨B,1,none⟩=some (.slice (some ⟨g,0,none⟩) N cap)/\(W.setCell ⟨g,i,none⟩ r).cell? ⟨B,4,none⟩=some (.int .i64 (i:Int))/\(W.setCell ⟨g,i,none⟩ r).cell? ⟨B,5,none⟩=some (.int .i64 (a:Int)):=fun W r hb=>by
  have hne:g≠B:=fun e=>YA h1.s.o.1 h1.s.b h1.s.n1 h1.s.n2 (.inl (by rw [hvg,<- e];rfl))
  have hk:∀ k,(W.setCell ⟨g,i,none⟩ r).cell? ⟨B,k,none⟩=W.cell? ⟨B,k,none⟩:=fun k=>World.cell?_of_block (w:=W) (a:=⟨B,k,none⟩) ((sCc W g i r).block B (Nat.lt_of_lt_of_le hlt hb.size) (fun e=>hne (Option.some.inj e).symm))
  rw [hk,hk,hk]
  exact cf W hb
 unfold stV at hbk hcd;have hd:Below W1.heap.size W1 W1.drew:=bdr W1;have di:=ci _ hd;have i0:(0:Int)<=(i:Int):=by omega
 have i1:(i:Int)<(N:Int):=by omega
 replace h1:=(show Hid _ from h1);clear h rt hbase hb1 hp1 hp hap hb hcc hn2 hN hN' r1 r2 b1 b2 b3 ho hro hre hsl hgx hvg hbg hcap hlt hvl hci hR hgc hcol rt0 hie hae hdd hbe;generalize Xa ps 0 1=n at *;generalize Xa ps 0 0=how at *;go_enter Tryz.func144,Tryz.ntmps144;go_wp2_with fail;refine hpn.mono ?_;rintro e wk ⟨rfl,hk⟩;subst hk;clear hpn;go_wp2_with fail;refine hph.mono ?_;rintro e wk ⟨rfl,hk⟩;subst hk;clear hph;go_wp2;rw [<- hW1.out]
 refine wp_region_noPanic ?_;refine wp_region_held_drew (S:=(fun W=>W.cell? ⟨B,1,none⟩=some (.slice (some ⟨g,0,none⟩) N cap)/\W.cell? ⟨B,4,none⟩=some (.int .i64 (i:Int))/\W.cell? ⟨B,5,none⟩=some (.int .i64 (a:Int)))) (by kernel_rfl) (cf _ hd) (fun Hh=>?_);refine tK 0 ?_;refine tK 1 ?_;refine tK 2 ?_;refine tK 3 ?_;refine tK 4 ?_;refine tK 5 ?_;refine tK 6 ?_;refine tK 7 ?_;refine tK 8 ?_;refine tK 9 ?_;refine tK 10 ?_;refine tK 11 ?_;refine tK 12 ?_;refine tK 13 ?_;refine tK 14 ?_;refine tK 15 ?_;refine tK 16 ?_;refine tK 17 ?_;refine tK 18 ?_;refine tK 20 ?_;refine tK 21 ?_;refine tK 22 ?_;refine tK 23 ?_;refine tK 24 ?_;refine tK 25 ?_;refine tK 26 ?_;refine tK 27 ?_;refine tK 28 ?_;refine tK 29 ?_;refine tK 30 ?_;refine tk 32 ?_;refine rd2 19 31 (fun K hK=>?_) fun K hK=>?_
 ·go_simp
  refine hK.out _ _ (Hh) (fun Hh=>?_);clear hK K;refine rdo 31 fun K hK=>?_
  go_simp;refine (hmn _).mono ?_;rintro e wk ⟨rfl,hk⟩;subst hk;go_wp2_with fail;refine hK.out _ _ (cf _ hd) (fun Hh=>?_);clear hK K;refine rdo 33 fun K hK=>?_
  go_simp;refine (hbk _ hd).mono ?_;rintro e wk ⟨rfl,hb⟩;replace hd:=hd.trans (hb.mono hd.size);have di:=ci _ hd;unfold Xn;go_wp2_with fail;refine hK.out _ _ (cf _ hd) (fun Hh=>?_);clear hK K;refine rdo 34 fun K hK=>?_
  go_simp;refine (hcd _ hd).mono ?_;rintro e w2 ⟨u,rfl,hu,hb⟩;have hu2:=hu.low hd.size;replace hd:=hd.trans (hb.mono hd.size);obtain ⟨ua,un,uc,hue⟩:=hu2.isSl;subst hue;have di:=ci _ hd;have zj:=zi _ hd;go_wp2_with fail;refine hK.out _ _ (cf _ hd) (fun Hh=>?_);clear hK K;refine tk 35 ?_;refine rdo 36 fun K hK=>?_
  go_simp;refine hK.out _ _ (hsc _ _ hd) (fun Hh=>?_);clear hK K
  (try simp only [Act.put,ZA,ZB,ZC,ZD,ZE,ZF])
  refine dn ?_;have hF:=(show Hid _ from h1.out.trans (hfin _ _ hd hu2));clear hfin hcd hbk hmn h1 cf hsc;go_wp2;refine be ?_;exact ⟨rfl,_,_,_,hF.out⟩
 ·go_simp
  refine (hmn _).mono ?_;rintro e wk ⟨rfl,hk⟩;subst hk;go_wp2_with fail;refine hK.out _ _ (cf _ hd) (fun Hh=>?_);clear hK K;refine rd2 19 33 (fun K hK=>?_) fun K hK=>?_
  ·go_simp
   refine hK.out _ _ (Hh) (fun Hh=>?_);clear hK K;refine rdo 33 fun K hK=>?_
   go_simp;refine (hbk _ hd).mono ?_;rintro e wk ⟨rfl,hb⟩;replace hd:=hd.trans (hb.mono hd.size);have di:=ci _ hd;unfold Xn;go_wp2_with fail;refine hK.out _ _ (cf _ hd) (fun Hh=>?_);clear hK K;refine rdo 34 fun K hK=>?_
   go_simp;refine (hcd _ hd).mono ?_;rintro e w2 ⟨u,rfl,hu,hb⟩;have hu2:=hu.low hd.size;replace hd:=hd.trans (hb.mono hd.size);obtain ⟨ua,un,uc,hue⟩:=hu2.isSl;subst hue;have di:=ci _ hd;have zj:=zi _ hd;go_wp2_with fail;refine hK.out _ _ (cf _ hd) (fun Hh=>?_);clear hK K;refine tk 35 ?_;refine rdo 36 fun K hK=>?_
   go_simp;refine hK.out _ _ (hsc _ _ hd) (fun Hh=>?_);clear hK K
   (try simp only [Act.put,ZA,ZB,ZC,ZD,ZE,ZF])
   refine dn ?_;have hF:=(show Hid _ from h1.out.trans (hfin _ _ hd hu2));clear hfin hcd hbk hmn h1 cf hsc;go_wp2;refine be ?_;exact ⟨rfl,_,_,_,hF.out⟩
  ·go_simp
   refine (hbk _ hd).mono ?_;rintro e wk ⟨rfl,hb⟩;replace hd:=hd.trans (hb.mono hd.size);have di:=ci _ hd;unfold Xn;go_wp2_with fail;refine hK.out _ _ (cf _ hd) (fun Hh=>?_);clear hK K;refine rdo 19 fun K hK=>?_
   go_simp;refine hK.out _ _ (Hh) (fun Hh=>?_);clear hK K;refine rdo 34 fun K hK=>?_
   go_simp;refine (hcd _ hd).mono ?_;rintro e w2 ⟨u,rfl,hu,hb⟩;have hu2:=hu.low hd.size;replace hd:=hd.trans (hb.mono hd.size);obtain ⟨ua,un,uc,hue⟩:=hu2.isSl;subst hue;have di:=ci _ hd;have zj:=zi _ hd;go_wp2_with fail;refine hK.out _ _ (cf _ hd) (fun Hh=>?_);clear hK K;refine tk 35 ?_;refine rdo 36 fun K hK=>?_
   go_simp;refine hK.out _ _ (hsc _ _ hd) (fun Hh=>?_);clear hK K
   (try simp only [Act.put,ZA,ZB,ZC,ZD,ZE,ZF])
   refine dn ?_;have hF:=(show Hid _ from h1.out.trans (hfin _ _ hd hu2));clear hfin hcd hbk hmn h1 cf hsc;go_wp2;refine be ?_;exact ⟨rfl,_,_,_,hF.out⟩
theorem Xe4 (cn N base B:Nat) (pv:Value) (ps:List Int) (t:Te) (v:Tv) (vg vo:List Value) (w:World) (h:Scr w 35 base B [] t v vg vo) (hbase:base<=w.heap.size) (rt:RtW t cn N) (hp:SlN w pv ps) (hl:ps.length<=1000) (hap:ApF w B v vg vo pv) (hb:∀ x∈ps,0<=x/\x<=9999) :
  Calls Tryz.prog 144 #[.pointer (some ⟨B,0,none⟩),.int .i64 88,pv] w fun e w'=>e=.returned (.tuple #[])/\∃ v' vg' vo',Res w w' 35 base B [] v vg vo (Xi t 88 ps) v' vg' vo':=by
 have hpn:Calls Tryz.prog 211 #[pv,.int .i64 0,.int .i64 1] w (fun e w'=>e=.returned (.int .i64 (Xa ps 0 1))/\w'=w):=lPa pv ps 0 1 w hp hl;have hph:Calls Tryz.prog 211 #[pv,.int .i64 0,.int .i64 0] w (fun e w'=>e=.returned (.int .i64 (Xa ps 0 0))/\w'=w):=lPa pv ps 0 0 w hp hl;have hnb:=XW hb 0 1 (by omega);have hcc:=rt.c;have c0:w.cell? ⟨B,0,none⟩=some (.int .i64 t.gc):=h.cell 0;have c4:w.cell? ⟨B,4,none⟩=some (.int .i64 t.row):=h.cell 4;have c5:w.cell? ⟨B,5,none⟩=some (.int .i64 t.col):=h.cell 5;have c13:w.cell? ⟨B,13,none⟩=some (.bool t.full):=h.cell 13;have z13:w.frozen? ⟨B,13,none⟩=false:=h.frozen 13;have h1:Res w (w.setCell ⟨B,13,none⟩ (.bool false)) 35 base B [] v vg vo { t with full:=false } v vg vo:=h.put (sCg B [.bool false] 13 w) _ (sCh B 35 [.bool false] 13 w _ h.b) rfl rfl rfl rfl rfl;have hb1:=Nat.le_trans hbase h1.g.size;have hp1:=(hp.res hap h1).1;have hw:IntKind.i64.wrap (t.col+Xa ps 0 1)=t.col+Xa ps 0 1:=by have:=rt.col;simp [IntKind.wrap,IntKind.bits,IntKind.signed];omega
 have hd:=bdr (w.setCell ⟨B,13,none⟩ (.bool false));have hcl:=Ys cn N base B { t with full:=false } v vg vo _ (h1.s.below hd) (Nat.le_trans hb1 hd.size) (rt.full false) t.row t.col (min t.gc (t.col+Xa ps 0 1)) rt.row (by have:=rt.col;have:=rt.gc;omega);have hmn:=fun W=>Zw t.gc (t.col+Xa ps 0 1) W
 have cf:∀ W,Below (w.setCell ⟨B,13,none⟩ (.bool false)).heap.size (w.setCell ⟨B,13,none⟩ (.bool false)) W->W.cell? ⟨B,4,none⟩=some (.int .i64 t.row)/\W.cell? ⟨B,5,none⟩=some (.int .i64 t.col):=fun W hb=>⟨(h1.s.below hb).cell 4,(h1.s.below hb).cell 5⟩
 obtain ⟨q,hq⟩:∃ q,Hid (q=min t.gc (t.col+Xa ps 0 1)):=⟨_,rfl⟩;have hV:Xi t 88 ps=X3 { t with full:=false } t.row t.col (min t.gc (t.col+Xa ps 0 1)):=rfl;rw [hV]
 clear hV;rw [<- hq.out] at hcl ⊢
 replace h1:=(show Hid _ from h1);clear h rt hbase hb1 hp1 hp hap hb;generalize Xa ps 0 1=n at *;generalize Xa ps 0 0=how at *;go_enter Tryz.func144,Tryz.ntmps144;go_wp2_with fail;refine hpn.mono ?_;rintro e wk ⟨rfl,hk⟩;subst hk;clear hpn;go_wp2_with fail;refine hph.mono ?_;rintro e wk ⟨rfl,hk⟩;subst hk;clear hph;go_wp2;obtain ⟨f4,f5⟩:=cf _ hd;refine wp_region_noPanic ?_;refine wp_region_held_drew (S:=(fun _=>True)) (by kernel_rfl) (trivial) (fun Hh=>?_);refine tK 0 ?_;refine tK 1 ?_;refine tK 2 ?_;refine tK 3 ?_;refine tK 5 ?_;refine tK 6 ?_;refine tK 7 ?_;refine tK 9 ?_;refine tK 10 ?_;refine tK 11 ?_;refine tK 12 ?_;refine tk 14 ?_;simp only [Act.put,ZA,ZB,ZC,ZD,ZE,ZF];refine wpAnyH_ready (rs:=[4,8,13]) (by kernel_rfl) (by simp) (AllReadyH.cons rfl (fun K hK=>?_) (AllReadyH.cons rfl (fun K hK=>?_) (AllReadyH.cons rfl (fun K hK=>?_) AllReadyH.nil)))
 ·go_simp
  refine hK.out _ _ (Hh) (fun Hh=>?_);clear hK K;refine rd2 8 13 (fun K hK=>?_) fun K hK=>?_
  ·go_simp
   refine hK.out _ _ (Hh) (fun Hh=>?_);clear hK K;refine rd 13 fun K hK=>?_
   go_simp;refine hK.out _ _ (Hh) (fun Hh=>?_);clear hK K;refine tk 15 ?_;refine rd 16 fun K hK=>?_
   go_simp;refine (hmn _).mono ?_;rintro e wk ⟨rfl,hk⟩;subst hk;rw [<- hq.out]
   go_wp2_with fail;refine hK.out _ _ (trivial) (fun Hh=>?_);clear hK K;refine rd 17 fun K hK=>?_
   go_simp;refine hcl.mono ?_;rintro e w2 ⟨rfl,v2,g2,o2,hR⟩;go_wp2_with fail;refine hK.out _ _ (trivial) (fun Hh=>?_);clear hK K
   (try simp only [Act.put,ZA,ZB,ZC,ZD,ZE,ZF])
   refine dn ?_;have hF:=(show Hid _ from (h1.out.below hd).trans hR);clear hcl hR h1 Hh cf hd hmn;go_wp2;refine be ?_;exact ⟨rfl,_,_,_,hF.out⟩
  ·go_simp
   refine hK.out _ _ (Hh) (fun Hh=>?_);clear hK K;refine tk 15 ?_;refine rd2 8 16 (fun K hK=>?_) fun K hK=>?_
   ·go_simp
    refine hK.out _ _ (Hh) (fun Hh=>?_);clear hK K;refine rd 16 fun K hK=>?_
    go_simp;refine (hmn _).mono ?_;rintro e wk ⟨rfl,hk⟩;subst hk;rw [<- hq.out]
    go_wp2_with fail;refine hK.out _ _ (trivial) (fun Hh=>?_);clear hK K;refine rd 17 fun K hK=>?_
    go_simp;refine hcl.mono ?_;rintro e w2 ⟨rfl,v2,g2,o2,hR⟩;go_wp2_with fail;refine hK.out _ _ (trivial) (fun Hh=>?_);clear hK K
    (try simp only [Act.put,ZA,ZB,ZC,ZD,ZE,ZF])
    refine dn ?_;have hF:=(show Hid _ from (h1.out.below hd).trans hR);clear hcl hR h1 Hh cf hd hmn;go_wp2;refine be ?_;exact ⟨rfl,_,_,_,hF.out⟩
   ·go_simp
    refine (hmn _).mono ?_;rintro e wk ⟨rfl,hk⟩;subst hk;rw [<- hq.out]
    go_wp2_with fail;refine hK.out _ _ (trivial) (fun Hh=>?_);clear hK K;refine rd 8 fun K hK=>?_
    go_simp;refine hK.out _ _ (Hh) (fun Hh=>?_);clear hK K;refine rd 17 fun K hK=>?_
    go_simp;refine hcl.mono ?_;rintro e w2 ⟨rfl,v2,g2,o2,hR⟩;go_wp2_with fail;refine hK.out _ _ (trivial) (fun Hh=>?_);clear hK K
    (try simp only [Act.put,ZA,ZB,ZC,ZD,ZE,ZF])
    refine dn ?_;have hF:=(show Hid _ from (h1.out.below hd).trans hR);clear hcl hR h1 Hh cf hd hmn;go_wp2;refine be ?_;exact ⟨rfl,_,_,_,hF.out⟩
 ·go_simp
  refine hK.out _ _ (Hh) (fun Hh=>?_);clear hK K;refine rd2 4 13 (fun K hK=>?_) fun K hK=>?_
  ·go_simp
   refine hK.out _ _ (Hh) (fun Hh=>?_);clear hK K;refine rd 13 fun K hK=>?_
   go_simp;refine hK.out _ _ (Hh) (fun Hh=>?_);clear hK K;refine tk 15 ?_;refine rd 16 fun K hK=>?_
   go_simp;refine (hmn _).mono ?_;rintro e wk ⟨rfl,hk⟩;subst hk;rw [<- hq.out]
   go_wp2_with fail;refine hK.out _ _ (trivial) (fun Hh=>?_);clear hK K;refine rd 17 fun K hK=>?_
   go_simp;refine hcl.mono ?_;rintro e w2 ⟨rfl,v2,g2,o2,hR⟩;go_wp2_with fail;refine hK.out _ _ (trivial) (fun Hh=>?_);clear hK K
   (try simp only [Act.put,ZA,ZB,ZC,ZD,ZE,ZF])
   refine dn ?_;have hF:=(show Hid _ from (h1.out.below hd).trans hR);clear hcl hR h1 Hh cf hd hmn;go_wp2;refine be ?_;exact ⟨rfl,_,_,_,hF.out⟩
  ·go_simp
   refine hK.out _ _ (Hh) (fun Hh=>?_);clear hK K;refine tk 15 ?_;refine rd2 4 16 (fun K hK=>?_) fun K hK=>?_
   ·go_simp
    refine hK.out _ _ (Hh) (fun Hh=>?_);clear hK K;refine rd 16 fun K hK=>?_
    go_simp;refine (hmn _).mono ?_;rintro e wk ⟨rfl,hk⟩;subst hk;rw [<- hq.out]
    go_wp2_with fail;refine hK.out _ _ (trivial) (fun Hh=>?_);clear hK K;refine rd 17 fun K hK=>?_
    go_simp;refine hcl.mono ?_;rintro e w2 ⟨rfl,v2,g2,o2,hR⟩;go_wp2_with fail;refine hK.out _ _ (trivial) (fun Hh=>?_);clear hK K
    (try simp only [Act.put,ZA,ZB,ZC,ZD,ZE,ZF])
    refine dn ?_;have hF:=(show Hid _ from (h1.out.below hd).trans hR);clear hcl hR h1 Hh cf hd hmn;go_wp2;refine be ?_;exact ⟨rfl,_,_,_,hF.out⟩
   ·go_simp
    refine (hmn _).mono ?_;rintro e wk ⟨rfl,hk⟩;subst hk;rw [<- hq.out]
    go_wp2_with fail;refine hK.out _ _ (trivial) (fun Hh=>?_);clear hK K;refine rd 4 fun K hK=>?_
    go_simp;refine hK.out _ _ (Hh) (fun Hh=>?_);clear hK K;refine rd 17 fun K hK=>?_
    go_simp;refine hcl.mono ?_;rintro e w2 ⟨rfl,v2,g2,o2,hR⟩;go_wp2_with fail;refine hK.out _ _ (trivial) (fun Hh=>?_);clear hK K
    (try simp only [Act.put,ZA,ZB,ZC,ZD,ZE,ZF])
    refine dn ?_;have hF:=(show Hid _ from (h1.out.below hd).trans hR);clear hcl hR h1 Hh cf hd hmn;go_wp2;refine be ?_;exact ⟨rfl,_,_,_,hF.out⟩
 ·go_simp
  refine hK.out _ _ (Hh) (fun Hh=>?_);clear hK K;refine tk 15 ?_;simp only [Act.put,ZA,ZB,ZC,ZD,ZE,ZF];refine wpAnyH_ready (rs:=[4,8,16]) (by kernel_rfl) (by simp) (AllReadyH.cons rfl (fun K hK=>?_) (AllReadyH.cons rfl (fun K hK=>?_) (AllReadyH.cons rfl (fun K hK=>?_) AllReadyH.nil)))
  ·go_simp
   refine hK.out _ _ (Hh) (fun Hh=>?_);clear hK K;refine rd2 8 16 (fun K hK=>?_) fun K hK=>?_
   ·go_simp
    refine hK.out _ _ (Hh) (fun Hh=>?_);clear hK K;refine rd 16 fun K hK=>?_
    go_simp;refine (hmn _).mono ?_;rintro e wk ⟨rfl,hk⟩;subst hk;rw [<- hq.out]
    go_wp2_with fail;refine hK.out _ _ (trivial) (fun Hh=>?_);clear hK K;refine rd 17 fun K hK=>?_
    go_simp;refine hcl.mono ?_;rintro e w2 ⟨rfl,v2,g2,o2,hR⟩;go_wp2_with fail;refine hK.out _ _ (trivial) (fun Hh=>?_);clear hK K
    (try simp only [Act.put,ZA,ZB,ZC,ZD,ZE,ZF])
    refine dn ?_;have hF:=(show Hid _ from (h1.out.below hd).trans hR);clear hcl hR h1 Hh cf hd hmn;go_wp2;refine be ?_;exact ⟨rfl,_,_,_,hF.out⟩
   ·go_simp
    refine (hmn _).mono ?_;rintro e wk ⟨rfl,hk⟩;subst hk;rw [<- hq.out]
    go_wp2_with fail;refine hK.out _ _ (trivial) (fun Hh=>?_);clear hK K;refine rd 8 fun K hK=>?_
    go_simp;refine hK.out _ _ (Hh) (fun Hh=>?_);clear hK K;refine rd 17 fun K hK=>?_
    go_simp;refine hcl.mono ?_;rintro e w2 ⟨rfl,v2,g2,o2,hR⟩;go_wp2_with fail;refine hK.out _ _ (trivial) (fun Hh=>?_);clear hK K
    (try simp only [Act.put,ZA,ZB,ZC,ZD,ZE,ZF])
    refine dn ?_;have hF:=(show Hid _ from (h1.out.below hd).trans hR);clear hcl hR h1 Hh cf hd hmn;go_wp2;refine be ?_;exact ⟨rfl,_,_,_,hF.out⟩
  ·go_simp
   refine hK.out _ _ (Hh) (fun Hh=>?_);clear hK K;refine rd2 4 16 (fun K hK=>?_) fun K hK=>?_
   ·go_simp
    refine hK.out _ _ (Hh) (fun Hh=>?_);clear hK K;refine rd 16 fun K hK=>?_
    go_simp;refine (hmn _).mono ?_;rintro e wk ⟨rfl,hk⟩;subst hk;rw [<- hq.out]
    go_wp2_with fail;refine hK.out _ _ (trivial) (fun Hh=>?_);clear hK K;refine rd 17 fun K hK=>?_
    go_simp;refine hcl.mono ?_;rintro e w2 ⟨rfl,v2,g2,o2,hR⟩;go_wp2_with fail;refine hK.out _ _ (trivial) (fun Hh=>?_);clear hK K
    (try simp only [Act.put,ZA,ZB,ZC,ZD,ZE,ZF])
    refine dn ?_;have hF:=(show Hid _ from (h1.out.below hd).trans hR);clear hcl hR h1 Hh cf hd hmn;go_wp2;refine be ?_;exact ⟨rfl,_,_,_,hF.out⟩
   ·go_simp
    refine (hmn _).mono ?_;rintro e wk ⟨rfl,hk⟩;subst hk;rw [<- hq.out]
    go_wp2_with fail;refine hK.out _ _ (trivial) (fun Hh=>?_);clear hK K;refine rd 4 fun K hK=>?_
    go_simp;refine hK.out _ _ (Hh) (fun Hh=>?_);clear hK K;refine rd 17 fun K hK=>?_
    go_simp;refine hcl.mono ?_;rintro e w2 ⟨rfl,v2,g2,o2,hR⟩;go_wp2_with fail;refine hK.out _ _ (trivial) (fun Hh=>?_);clear hK K
    (try simp only [Act.put,ZA,ZB,ZC,ZD,ZE,ZF])
    refine dn ?_;have hF:=(show Hid _ from (h1.out.below hd).trans hR);clear hcl hR h1 Hh cf hd hmn;go_wp2;refine be ?_;exact ⟨rfl,_,_,_,hF.out⟩
  ·go_simp
   refine (hmn _).mono ?_;rintro e wk ⟨rfl,hk⟩;subst hk;rw [<- hq.out]
   go_wp2_with fail;refine hK.out _ _ (trivial) (fun Hh=>?_);clear hK K;refine rd2 4 8 (fun K hK=>?_) fun K hK=>?_
   ·go_simp
    refine hK.out _ _ (Hh) (fun Hh=>?_);clear hK K;refine rd 8 fun K hK=>?_
    go_simp;refine hK.out _ _ (Hh) (fun Hh=>?_);clear hK K;refine rd 17 fun K hK=>?_
    go_simp;refine hcl.mono ?_;rintro e w2 ⟨rfl,v2,g2,o2,hR⟩;go_wp2_with fail;refine hK.out _ _ (trivial) (fun Hh=>?_);clear hK K
    (try simp only [Act.put,ZA,ZB,ZC,ZD,ZE,ZF])
    refine dn ?_;have hF:=(show Hid _ from (h1.out.below hd).trans hR);clear hcl hR h1 Hh cf hd hmn;go_wp2;refine be ?_;exact ⟨rfl,_,_,_,hF.out⟩
   ·go_simp
    refine hK.out _ _ (Hh) (fun Hh=>?_);clear hK K;refine rd 4 fun K hK=>?_
    go_simp;refine hK.out _ _ (Hh) (fun Hh=>?_);clear hK K;refine rd 17 fun K hK=>?_
    go_simp;refine hcl.mono ?_;rintro e w2 ⟨rfl,v2,g2,o2,hR⟩;go_wp2_with fail;refine hK.out _ _ (trivial) (fun Hh=>?_);clear hK K
    (try simp only [Act.put,ZA,ZB,ZC,ZD,ZE,ZF])
    refine dn ?_;have hF:=(show Hid _ from (h1.out.below hd).trans hR);clear hcl hR h1 Hh cf hd hmn;go_wp2;refine be ?_;exact ⟨rfl,_,_,_,hF.out⟩
