/- Parts of the proof. -/
import Derived.Test.YtgcnmjjlmcnllaaGreatDoorP13
namespace Go.Proofs.YtgcnmjjlmcnllaaGreatDoor
set_option maxRecDepth 20000
set_option maxHeartbeats 16000000
open Go.ChangeShapes Go.WideShapes Go.ChangeAt Go.RowKit
theorem l7Sign_77 (cn N base B:Nat) (pv:Value) (ps:List Int) (t:Te) (v:Tv) (vg vo:List Value) (w:World) (h:Scr w 35 base B [] t v vg vo) (hbase:base<=w.heap.size) (rt:RtW t cn N) (hp:SlN w pv ps) (hl:ps.length<=1000) (hap:ApF w B v vg vo pv) (hb:∀ x∈ps,0<=x/\x<=9999) :
  Calls Tryz.prog 144 #[.pointer (some ⟨B,0,none⟩),.int .i64 77,pv] w fun e w'=>e=.returned (.tuple #[])/\∃ v' vg' vo',Res w w' 35 base B [] v vg vo (listT t 77 ps) v' vg' vo':=by
 have hpn:Calls Tryz.prog 211 #[pv,.int .i64 0,.int .i64 1] w (fun e w'=>e=.returned (.int .i64 (parN ps 0 1))/\w'=w):=l7Param_any pv ps 0 1 w hp hl;have hph:Calls Tryz.prog 211 #[pv,.int .i64 0,.int .i64 0] w (fun e w'=>e=.returned (.int .i64 (parN ps 0 0))/\w'=w):=l7Param_any pv ps 0 0 w hp hl;have hnb:=parN_bd hb 0 1 (by omega);have hcc:=rt.c;have c0:w.cell? ⟨B,0,none⟩=some (.int .i64 t.gc):=h.cell 0;have c4:w.cell? ⟨B,4,none⟩=some (.int .i64 t.row):=h.cell 4;have c5:w.cell? ⟨B,5,none⟩=some (.int .i64 t.col):=h.cell 5;have c13:w.cell? ⟨B,13,none⟩=some (.bool t.full):=h.cell 13;have z13:w.frozen? ⟨B,13,none⟩=false:=h.frozen 13;have h1:Res w (w.setCell ⟨B,13,none⟩ (.bool false)) 35 base B [] v vg vo { t with full:=false } v vg vo:=h.put (sCg B [.bool false] 13 w) _ (sCh B 35 [.bool false] 13 w _ h.b) rfl rfl rfl rfl rfl;have hb1:=Nat.le_trans hbase h1.g.size;have hp1:=(hp.res hap h1).1;obtain ⟨W1,hW1⟩:∃ W1,Hid (W1=w.setCell ⟨B,13,none⟩ (.bool false)):=⟨_,rfl⟩;rw [<- hW1.out] at h1 hp1 hb1
 obtain ⟨b1,b2,b3⟩:=rt.tb;obtain ⟨r1,r2⟩:=rt.row;have hn2:=rt.n1.2;have hlt:=h1.s.lt;have hN:=rt.n;have cf:∀ W,Below W1.heap.size W1 W->W.cell? ⟨B,4,none⟩=some (.int .i64 t.row)/\W.cell? ⟨B,12,none⟩=some (.int .i64 t.bot):=fun W hb=>⟨(h1.s.below hb).cell 4,(h1.s.below hb).cell 12⟩
 have f4:W1.cell? ⟨B,4,none⟩=some (.int .i64 t.row):=h1.s.cell 4;have f11:W1.cell? ⟨B,11,none⟩=some (.int .i64 t.top):=h1.s.cell 11;have f12:W1.cell? ⟨B,12,none⟩=some (.int .i64 t.bot):=h1.s.cell 12;have hbk:=fun W (hbW:Below W1.heap.size W1 W)=>l7Back_any B t.st W ((h1.s.below hbW).cell 7) (Nat.lt_of_lt_of_le hlt hbW.size)
 by_cases hin:t.top<=t.row/\t.row<=t.bot
 ·have hmv:=fun W (hbW:Below W1.heap.size W1 W)=>moveS_any cn N base B { t with full:=false } v vg vo W (h1.s.below hbW) (Nat.le_trans hb1 hbW.size) (rt.full false) t.row.toNat t.bot.toNat (parN ps 0 1) (by omega) (by omega) (by  omega)
  rw [show ((t.row.toNat:Nat):Int)=t.row by omega,show ((t.bot.toNat:Nat):Int)=t.bot by omega] at hmv
  unfold stV at hmv hbk;have hin2:=fun W=>l1In_any t.row t.top t.bot W
  simp only [decide_eq_true hin] at hin2;have hV:listT t 77 ps={ moveT { t with full:=false } t.row t.bot (parN ps 0 1) with col:=0 }:=by  simp [listT,hin]
  rw [hV]
  clear hV hin;replace cf:=(show Hid _ from cf);replace hmv:=(show Hid _ from hmv);replace hbk:=(show Hid _ from hbk);replace h1:=(show Hid _ from h1);clear h rt hbase hb1 hp1 hp hap hb hcc hn2 hN r1 r2 b1 b2 b3;generalize parN ps 0 1=n at *;generalize parN ps 0 0=how at *;go_enter Tryz.func144,Tryz.ntmps144;go_wp2_with fail;refine hpn.mono ?_;rintro e wk ⟨rfl,hk⟩;subst hk;clear hpn;go_wp2_with fail;refine hph.mono ?_;rintro e wk ⟨rfl,hk⟩;subst hk;clear hph;go_wp2;rw [<- hW1.out]
  go_quiet (exact Calls.quiet_of_same (hin2 _));go_wp2;have hd:Below W1.heap.size W1 (W1.drewN (nq+1)):=⟨rfl,rfl,rfl,Nat.le_refl _,fun _ _=>rfl⟩;refine wp_region_noPanic ?_;refine wp_region_held_drew (S:=(fun W=>W.cell? ⟨B,4,none⟩=some (.int .i64 t.row)/\W.cell? ⟨B,12,none⟩=some (.int .i64 t.bot))) (by kernel_rfl) (cf.out _ hd) (fun hHeld=>?_);refine tk 0 ?_;refine tk 1 ?_;refine tk 2 ?_;refine tk 3 ?_;refine tk 4 ?_;refine tk 5 ?_;refine tk 6 ?_;refine tk 7 ?_;refine tk 8 ?_;refine tk 9 ?_;refine tk 10 ?_;refine tk 11 ?_;refine tk 12 ?_;refine rd 13 fun K hK=>?_
  go_simp;refine (hbk.out _ hd).mono ?_;rintro e wk ⟨rfl,hb⟩;replace hd:=hd.trans (hb.mono hd.size);unfold backS;go_wp2_with fail;refine hK.out _ _ (cf.out _ hd) (fun hHeld=>?_);clear hK K;refine rd 14 fun K hK=>?_
  go_simp;refine (hmv.out _ hd).mono ?_;rintro e w2 ⟨rfl,vg2,hR⟩;go_wp2_with fail;refine hK.out _ _ (⟨hR.s.cell 4,hR.s.cell 12⟩) (fun hHeld=>?_);clear hK K
  (try simp only [Act.put,ZA,ZB,ZC,ZD,ZE,ZF])
  refine dn ?_;have x5:w2.cell? ⟨B,5,none⟩=some (.int .i64 t.col):=hR.s.cell 5;have y5:w2.frozen? ⟨B,5,none⟩=false:=hR.s.frozen 5;have h3:=hR.s.put (sCg B [.int .i64 0] 5 w2) { moveT { t with full:=false } t.row t.bot (n) with col:=0 } (sCh B 35 [.int .i64 0] 5 w2 _ hR.s.b) rfl rfl rfl rfl rfl;have hF:=(show Hid _ from ((h1.out.below hd).trans hR).trans h3);clear hR h1 hHeld cf hd hmv hbk h3;go_wp2;refine be ?_;exact ⟨rfl,_,_,_,hF.out⟩
 ·have hin2:=fun W=>l1In_any t.row t.top t.bot W
  simp only [decide_eq_false hin] at hin2;have hV:listT t 77 ps={ t with full:=false }:=by simp [listT,hin]
  rw [hV]
  clear hV hin hbk cf;replace h1:=(show Hid _ from h1);clear h rt hbase hb1 hp1 hp hap hb hcc hn2 hN r1 r2 b1 b2 b3;generalize parN ps 0 1=n at *;generalize parN ps 0 0=how at *;go_enter Tryz.func144,Tryz.ntmps144;go_wp2_with fail;refine hpn.mono ?_;rintro e wk ⟨rfl,hk⟩;subst hk;clear hpn;go_wp2_with fail;refine hph.mono ?_;rintro e wk ⟨rfl,hk⟩;subst hk;clear hph;go_wp2;rw [<- hW1.out]
  go_quiet (exact Calls.quiet_of_same (hin2 _));go_wp2;refine be ?_;exact ⟨rfl,_,_,_,h1.out.below ⟨rfl,rfl,rfl,Nat.le_refl _,fun _ _=>rfl⟩⟩
theorem l7Sign_64 (cn N base B:Nat) (pv:Value) (ps:List Int) (t:Te) (v:Tv) (vg vo:List Value) (w:World) (h:Scr w 35 base B [] t v vg vo) (hbase:base<=w.heap.size) (rt:RtW t cn N) (hp:SlN w pv ps) (hl:ps.length<=1000) (hap:ApF w B v vg vo pv) (hb:∀ x∈ps,0<=x/\x<=9999) :
  Calls Tryz.prog 144 #[.pointer (some ⟨B,0,none⟩),.int .i64 64,pv] w fun e w'=>e=.returned (.tuple #[])/\∃ v' vg' vo',Res w w' 35 base B [] v vg vo (listT t 64 ps) v' vg' vo':=by
 have hpn:Calls Tryz.prog 211 #[pv,.int .i64 0,.int .i64 1] w (fun e w'=>e=.returned (.int .i64 (parN ps 0 1))/\w'=w):=l7Param_any pv ps 0 1 w hp hl;have hph:Calls Tryz.prog 211 #[pv,.int .i64 0,.int .i64 0] w (fun e w'=>e=.returned (.int .i64 (parN ps 0 0))/\w'=w):=l7Param_any pv ps 0 0 w hp hl;have hnb:=parN_bd hb 0 1 (by omega);have hcc:=rt.c;have c0:w.cell? ⟨B,0,none⟩=some (.int .i64 t.gc):=h.cell 0;have c4:w.cell? ⟨B,4,none⟩=some (.int .i64 t.row):=h.cell 4;have c5:w.cell? ⟨B,5,none⟩=some (.int .i64 t.col):=h.cell 5;have c13:w.cell? ⟨B,13,none⟩=some (.bool t.full):=h.cell 13;have z13:w.frozen? ⟨B,13,none⟩=false:=h.frozen 13;have h1:Res w (w.setCell ⟨B,13,none⟩ (.bool false)) 35 base B [] v vg vo { t with full:=false } v vg vo:=h.put (sCg B [.bool false] 13 w) _ (sCh B 35 [.bool false] 13 w _ h.b) rfl rfl rfl rfl rfl;have hb1:=Nat.le_trans hbase h1.g.size;have hp1:=(hp.res hap h1).1;obtain ⟨W1,hW1⟩:∃ W1,Hid (W1=w.setCell ⟨B,13,none⟩ (.bool false)):=⟨_,rfl⟩;rw [<- hW1.out] at h1 hp1 hb1
 obtain ⟨b1,b2,b3⟩:=rt.tb;obtain ⟨r1,r2⟩:=rt.row;have hn2:=rt.n1.2;have hlt:=h1.s.lt;have hN:=rt.n;have rt0:=rt.full false;obtain ⟨i,hie⟩:∃ i:Nat,t.row=(i:Int):=⟨t.row.toNat,by omega⟩;obtain ⟨a,hae⟩:∃ a:Nat,t.col=(a:Int):=⟨t.col.toNat,by have:=rt.col;omega⟩;have hgc:=rt.gc;have hcol:=rt.col;have hi:i<N:=by omega
 obtain ⟨d,hdd⟩:∃ d,Hid (t.gc-(a:Int)=d):=⟨_,rfl⟩;have ew:IntKind.i64.wrap (t.gc-(a:Int))=d:=by rw [<- hdd.out];simp [IntKind.wrap,IntKind.bits,IntKind.signed];omega
 obtain ⟨b,hbe⟩:∃ b:Nat,Hid (min (parN ps 0 1) d=(b:Int)):=⟨(min (parN ps 0 1) d).toNat,by show _=_;have:=hdd.out;omega⟩;have hmn:∀ W,Calls Tryz.prog 158 #[.int .i64 (parN ps 0 1),.int .i64 d] W (fun e w'=>e=.returned (.int .i64 (b:Int))/\w'=W):=fun W=>by rw [<- hbe.out];exact l1Min_any (parN ps 0 1) d W
 have hV:listT t 64 ps=rowT { t with full:=false } (i:Int) (pushL (rowX t.g i) a b (backS t.st)):=by
  have e1:(min (parN ps 0 1) (t.gc-t.col)).toNat=b:=by rw [hae,hdd.out,hbe.out];rfl
  have e2:t.row.toNat=i:=by rw [hie];rfl
  have e3:t.col.toNat=a:=by rw [hae];rfl
  rw [<- hie,<- e1,<- e2,<- e3]
  simp [listT]
 rw [hV]
 clear hV;rcases h1.s.o.1.shape with ⟨_,hs⟩|⟨g,cap,hvg,hbg,hlg,hcap⟩
 ·rw [hs] at hN;simp at hN;omega
 have hN':({ t with full:=false }:Te).g.length=N:=hN;rw [hN'] at hvg hcap
 have ho:=h1.s.o.1;have hro:=ho.2.2.1 i (by rw [hN'];exact hi);have hvl:=ho.1;rw [hvg] at ho
 have hci:=ho.cell hN' i hi;obtain ⟨ra,rn,rc,hre⟩:=hro.isSl;rw [hre] at hci hro
 have hgx:=rt.gx i hi;have hsl:SlC W1 (.slice ra rn rc) (rowX t.g i):=SlC.of_own hro;have cf:∀ W,Below W1.heap.size W1 W->W.cell? ⟨B,1,none⟩=some (.slice (some ⟨g,0,none⟩) N cap)/\W.cell? ⟨B,4,none⟩=some (.int .i64 (i:Int))/\W.cell? ⟨B,5,none⟩=some (.int .i64 (a:Int)):=fun W hb=>⟨by rw [(h1.s.below hb).cell 1];show some v.g=_;rw [hvg],by rw [(h1.s.below hb).cell 4,<- hie];rfl,by rw [(h1.s.below hb).cell 5,<- hae];rfl⟩
 have ci:∀ W,Below W1.heap.size W1 W->W.cell? ⟨g,i,none⟩=some (.slice ra rn rc):=fun W hb=>(hb.cell (p:=⟨g,i,none⟩) hlg).trans hci
 have zi:∀ W,Below W1.heap.size W1 W->W.frozen? ⟨g,i,none⟩=false:=fun W hb=>(ho.below hb).frozen hN' i
 have hbk:=fun W (hb:Below W1.heap.size W1 W)=>l7Back_any B t.st W ((h1.s.below hb).cell 7) (Nat.lt_of_lt_of_le hlt hb.size)
 have hcd:=fun W (hb:Below W1.heap.size W1 W)=>l4Pushed_any (.slice ra rn rc) (rowX t.g i) a b (backS t.st) W (hsl.below hb) (by have:=hdd.out;omega) (by have:=hdd.out;have:=hbe.out;omega) (by omega)
 obtain ⟨R,hR⟩:∃ R,Hid (pushL (rowX t.g i) a b (backS t.st)=R):=⟨_,rfl⟩;simp only [hR.out] at hcd ⊢
 have hfin:∀ W r,Below W1.heap.size W1 W->OwnC W W1.heap.size r R->Res W1 (W.setCell ⟨g,i,none⟩ r) 35 base B [] v vg vo (rowT { t with full:=false } i R) v (vg.set i r) vo:=fun W r hb hr=>by
  have:=h1.s.row hb1 hb hvg hN' i hi r R hr;unfold rowT;rw [Int.toNat_natCast]
  exact this
 have hsc:∀ W r,Below W1.heap.size W1 W->(W.setCell ⟨g,i,none⟩ r).cell? ⟨B,1,none⟩=some (.slice (some ⟨g,0,none⟩) N cap)/\(W.setCell ⟨g,i,none⟩ r).cell? ⟨B,4,none⟩=some (.int .i64 (i:Int))/\(W.setCell ⟨g,i,none⟩ r).cell? ⟨B,5,none⟩=some (.int .i64 (a:Int)):=fun W r hb=>by
  have hne:g≠B:=fun e=>grS_not h1.s.o.1 h1.s.b h1.s.n1 h1.s.n2 (.inl (by rw [hvg,<- e];rfl))
  have hk:∀ k,(W.setCell ⟨g,i,none⟩ r).cell? ⟨B,k,none⟩=W.cell? ⟨B,k,none⟩:=fun k=>World.cell?_of_block (w:=W) (a:=⟨B,k,none⟩) ((setCell_gr W g i r).block B (Nat.lt_of_lt_of_le hlt hb.size) (fun e=>hne (Option.some.inj e).symm))
  rw [hk,hk,hk]
  exact cf W hb
 unfold stV at hbk hcd;have hd:Below W1.heap.size W1 W1.drew:=bdr W1;have di:=ci _ hd;have i0:(0:Int)<=(i:Int):=by omega
 have i1:(i:Int)<(N:Int):=by omega
 replace h1:=(show Hid _ from h1);clear h rt hbase hb1 hp1 hp hap hb hcc hn2 hN hN' r1 r2 b1 b2 b3 ho hro hre hsl hgx hvg hbg hcap hlt hvl hci hR hgc hcol rt0 hie hae hdd hbe;generalize parN ps 0 1=n at *;generalize parN ps 0 0=how at *;go_enter Tryz.func144,Tryz.ntmps144;go_wp2_with fail;refine hpn.mono ?_;rintro e wk ⟨rfl,hk⟩;subst hk;clear hpn;go_wp2_with fail;refine hph.mono ?_;rintro e wk ⟨rfl,hk⟩;subst hk;clear hph;go_wp2;rw [<- hW1.out]
 refine wp_region_noPanic ?_;refine wp_region_held_drew (S:=(fun W=>W.cell? ⟨B,1,none⟩=some (.slice (some ⟨g,0,none⟩) N cap)/\W.cell? ⟨B,4,none⟩=some (.int .i64 (i:Int))/\W.cell? ⟨B,5,none⟩=some (.int .i64 (a:Int)))) (by kernel_rfl) (cf _ hd) (fun hHeld=>?_);refine tk 0 ?_;refine tk 1 ?_;refine tk 2 ?_;refine tk 3 ?_;refine tk 4 ?_;refine tk 5 ?_;refine tk 6 ?_;refine tk 7 ?_;refine tk 8 ?_;refine tk 9 ?_;refine tk 10 ?_;refine tk 11 ?_;refine tk 12 ?_;refine tk 13 ?_;refine tk 14 ?_;refine tk 15 ?_;refine tk 16 ?_;refine tk 17 ?_;refine tk 18 ?_;refine tk 20 ?_;refine tk 21 ?_;refine tk 22 ?_;refine tk 23 ?_;refine tk 24 ?_;refine tk 25 ?_;refine tk 26 ?_;refine tk 27 ?_;refine tk 28 ?_;refine tk 29 ?_;refine tk 30 ?_;refine tk 32 ?_;refine rd2 19 31 (fun K hK=>?_) fun K hK=>?_
 ·go_simp
  refine hK.out _ _ (hHeld) (fun hHeld=>?_);clear hK K;refine rdo 31 fun K hK=>?_
  go_simp;refine (hmn _).mono ?_;rintro e wk ⟨rfl,hk⟩;subst hk;go_wp2_with fail;refine hK.out _ _ (cf _ hd) (fun hHeld=>?_);clear hK K;refine rdo 33 fun K hK=>?_
  go_simp;refine (hbk _ hd).mono ?_;rintro e wk ⟨rfl,hb⟩;replace hd:=hd.trans (hb.mono hd.size);have di:=ci _ hd;unfold backS;go_wp2_with fail;refine hK.out _ _ (cf _ hd) (fun hHeld=>?_);clear hK K;refine rdo 34 fun K hK=>?_
  go_simp;refine (hcd _ hd).mono ?_;rintro e w2 ⟨u,rfl,hu,hb⟩;have hu2:=hu.low hd.size;replace hd:=hd.trans (hb.mono hd.size);obtain ⟨ua,un,uc,hue⟩:=hu2.isSl;subst hue;have di:=ci _ hd;have zj:=zi _ hd;go_wp2_with fail;refine hK.out _ _ (cf _ hd) (fun hHeld=>?_);clear hK K;refine tk 35 ?_;refine rdo 36 fun K hK=>?_
  go_simp;refine hK.out _ _ (hsc _ _ hd) (fun hHeld=>?_);clear hK K
  (try simp only [Act.put,ZA,ZB,ZC,ZD,ZE,ZF])
  refine dn ?_;have hF:=(show Hid _ from h1.out.trans (hfin _ _ hd hu2));clear hfin hcd hbk hmn h1 cf hsc;go_wp2;refine be ?_;exact ⟨rfl,_,_,_,hF.out⟩
 ·go_simp
  refine (hmn _).mono ?_;rintro e wk ⟨rfl,hk⟩;subst hk;go_wp2_with fail;refine hK.out _ _ (cf _ hd) (fun hHeld=>?_);clear hK K;refine rd2 19 33 (fun K hK=>?_) fun K hK=>?_
  ·go_simp
   refine hK.out _ _ (hHeld) (fun hHeld=>?_);clear hK K;refine rdo 33 fun K hK=>?_
   go_simp;refine (hbk _ hd).mono ?_;rintro e wk ⟨rfl,hb⟩;replace hd:=hd.trans (hb.mono hd.size);have di:=ci _ hd;unfold backS;go_wp2_with fail;refine hK.out _ _ (cf _ hd) (fun hHeld=>?_);clear hK K;refine rdo 34 fun K hK=>?_
   go_simp;refine (hcd _ hd).mono ?_;rintro e w2 ⟨u,rfl,hu,hb⟩;have hu2:=hu.low hd.size;replace hd:=hd.trans (hb.mono hd.size);obtain ⟨ua,un,uc,hue⟩:=hu2.isSl;subst hue;have di:=ci _ hd;have zj:=zi _ hd;go_wp2_with fail;refine hK.out _ _ (cf _ hd) (fun hHeld=>?_);clear hK K;refine tk 35 ?_;refine rdo 36 fun K hK=>?_
   go_simp;refine hK.out _ _ (hsc _ _ hd) (fun hHeld=>?_);clear hK K
   (try simp only [Act.put,ZA,ZB,ZC,ZD,ZE,ZF])
   refine dn ?_;have hF:=(show Hid _ from h1.out.trans (hfin _ _ hd hu2));clear hfin hcd hbk hmn h1 cf hsc;go_wp2;refine be ?_;exact ⟨rfl,_,_,_,hF.out⟩
  ·go_simp
   refine (hbk _ hd).mono ?_;rintro e wk ⟨rfl,hb⟩;replace hd:=hd.trans (hb.mono hd.size);have di:=ci _ hd;unfold backS;go_wp2_with fail;refine hK.out _ _ (cf _ hd) (fun hHeld=>?_);clear hK K;refine rdo 19 fun K hK=>?_
   go_simp;refine hK.out _ _ (hHeld) (fun hHeld=>?_);clear hK K;refine rdo 34 fun K hK=>?_
   go_simp;refine (hcd _ hd).mono ?_;rintro e w2 ⟨u,rfl,hu,hb⟩;have hu2:=hu.low hd.size;replace hd:=hd.trans (hb.mono hd.size);obtain ⟨ua,un,uc,hue⟩:=hu2.isSl;subst hue;have di:=ci _ hd;have zj:=zi _ hd;go_wp2_with fail;refine hK.out _ _ (cf _ hd) (fun hHeld=>?_);clear hK K;refine tk 35 ?_;refine rdo 36 fun K hK=>?_
   go_simp;refine hK.out _ _ (hsc _ _ hd) (fun hHeld=>?_);clear hK K
   (try simp only [Act.put,ZA,ZB,ZC,ZD,ZE,ZF])
   refine dn ?_;have hF:=(show Hid _ from h1.out.trans (hfin _ _ hd hu2));clear hfin hcd hbk hmn h1 cf hsc;go_wp2;refine be ?_;exact ⟨rfl,_,_,_,hF.out⟩
theorem l7Sign_80 (cn N base B:Nat) (pv:Value) (ps:List Int) (t:Te) (v:Tv) (vg vo:List Value) (w:World) (h:Scr w 35 base B [] t v vg vo) (hbase:base<=w.heap.size) (rt:RtW t cn N) (hp:SlN w pv ps) (hl:ps.length<=1000) (hap:ApF w B v vg vo pv) (hb:∀ x∈ps,0<=x/\x<=9999) :
  Calls Tryz.prog 144 #[.pointer (some ⟨B,0,none⟩),.int .i64 80,pv] w fun e w'=>e=.returned (.tuple #[])/\∃ v' vg' vo',Res w w' 35 base B [] v vg vo (listT t 80 ps) v' vg' vo':=by
 have hpn:Calls Tryz.prog 211 #[pv,.int .i64 0,.int .i64 1] w (fun e w'=>e=.returned (.int .i64 (parN ps 0 1))/\w'=w):=l7Param_any pv ps 0 1 w hp hl;have hph:Calls Tryz.prog 211 #[pv,.int .i64 0,.int .i64 0] w (fun e w'=>e=.returned (.int .i64 (parN ps 0 0))/\w'=w):=l7Param_any pv ps 0 0 w hp hl;have hnb:=parN_bd hb 0 1 (by omega);have hcc:=rt.c;have c0:w.cell? ⟨B,0,none⟩=some (.int .i64 t.gc):=h.cell 0;have c4:w.cell? ⟨B,4,none⟩=some (.int .i64 t.row):=h.cell 4;have c5:w.cell? ⟨B,5,none⟩=some (.int .i64 t.col):=h.cell 5;have c13:w.cell? ⟨B,13,none⟩=some (.bool t.full):=h.cell 13;have z13:w.frozen? ⟨B,13,none⟩=false:=h.frozen 13;have h1:Res w (w.setCell ⟨B,13,none⟩ (.bool false)) 35 base B [] v vg vo { t with full:=false } v vg vo:=h.put (sCg B [.bool false] 13 w) _ (sCh B 35 [.bool false] 13 w _ h.b) rfl rfl rfl rfl rfl;have hb1:=Nat.le_trans hbase h1.g.size;have hp1:=(hp.res hap h1).1;obtain ⟨W1,hW1⟩:∃ W1,Hid (W1=w.setCell ⟨B,13,none⟩ (.bool false)):=⟨_,rfl⟩;rw [<- hW1.out] at h1 hp1 hb1
 obtain ⟨b1,b2,b3⟩:=rt.tb;obtain ⟨r1,r2⟩:=rt.row;have hn2:=rt.n1.2;have hlt:=h1.s.lt;have hN:=rt.n;have rt0:=rt.full false;obtain ⟨i,hie⟩:∃ i:Nat,t.row=(i:Int):=⟨t.row.toNat,by omega⟩;obtain ⟨a,hae⟩:∃ a:Nat,t.col=(a:Int):=⟨t.col.toNat,by have:=rt.col;omega⟩;have hgc:=rt.gc;have hcol:=rt.col;have hi:i<N:=by omega
 obtain ⟨d,hdd⟩:∃ d,Hid (t.gc-(a:Int)=d):=⟨_,rfl⟩;have ew:IntKind.i64.wrap (t.gc-(a:Int))=d:=by rw [<- hdd.out];simp [IntKind.wrap,IntKind.bits,IntKind.signed];omega
 obtain ⟨b,hbe⟩:∃ b:Nat,Hid (min (parN ps 0 1) d=(b:Int)):=⟨(min (parN ps 0 1) d).toNat,by show _=_;have:=hdd.out;omega⟩;have hmn:∀ W,Calls Tryz.prog 158 #[.int .i64 (parN ps 0 1),.int .i64 d] W (fun e w'=>e=.returned (.int .i64 (b:Int))/\w'=W):=fun W=>by rw [<- hbe.out];exact l1Min_any (parN ps 0 1) d W
 have hV:listT t 80 ps=rowT { t with full:=false } (i:Int) (pullL (rowX t.g i) a b (backS t.st)):=by
  have e1:(min (parN ps 0 1) (t.gc-t.col)).toNat=b:=by rw [hae,hdd.out,hbe.out];rfl
  have e2:t.row.toNat=i:=by rw [hie];rfl
  have e3:t.col.toNat=a:=by rw [hae];rfl
  rw [<- hie,<- e1,<- e2,<- e3]
  simp [listT]
 rw [hV]
 clear hV;rcases h1.s.o.1.shape with ⟨_,hs⟩|⟨g,cap,hvg,hbg,hlg,hcap⟩
 ·rw [hs] at hN;simp at hN;omega
 have hN':({ t with full:=false }:Te).g.length=N:=hN;rw [hN'] at hvg hcap
 have ho:=h1.s.o.1;have hro:=ho.2.2.1 i (by rw [hN'];exact hi);have hvl:=ho.1;rw [hvg] at ho
 have hci:=ho.cell hN' i hi;obtain ⟨ra,rn,rc,hre⟩:=hro.isSl;rw [hre] at hci hro
 have hgx:=rt.gx i hi;have hsl:SlC W1 (.slice ra rn rc) (rowX t.g i):=SlC.of_own hro;have cf:∀ W,Below W1.heap.size W1 W->W.cell? ⟨B,1,none⟩=some (.slice (some ⟨g,0,none⟩) N cap)/\W.cell? ⟨B,4,none⟩=some (.int .i64 (i:Int))/\W.cell? ⟨B,5,none⟩=some (.int .i64 (a:Int)):=fun W hb=>⟨by rw [(h1.s.below hb).cell 1];show some v.g=_;rw [hvg],by rw [(h1.s.below hb).cell 4,<- hie];rfl,by rw [(h1.s.below hb).cell 5,<- hae];rfl⟩
 have ci:∀ W,Below W1.heap.size W1 W->W.cell? ⟨g,i,none⟩=some (.slice ra rn rc):=fun W hb=>(hb.cell (p:=⟨g,i,none⟩) hlg).trans hci
 have zi:∀ W,Below W1.heap.size W1 W->W.frozen? ⟨g,i,none⟩=false:=fun W hb=>(ho.below hb).frozen hN' i
 have hbk:=fun W (hb:Below W1.heap.size W1 W)=>l7Back_any B t.st W ((h1.s.below hb).cell 7) (Nat.lt_of_lt_of_le hlt hb.size)
 have hcd:=fun W (hb:Below W1.heap.size W1 W)=>l4Pulled_any (.slice ra rn rc) (rowX t.g i) a b (backS t.st) W (hsl.below hb) (by have:=hdd.out;omega) (by have:=hdd.out;have:=hbe.out;omega) (by omega)
 obtain ⟨R,hR⟩:∃ R,Hid (pullL (rowX t.g i) a b (backS t.st)=R):=⟨_,rfl⟩;simp only [hR.out] at hcd ⊢
 have hfin:∀ W r,Below W1.heap.size W1 W->OwnC W W1.heap.size r R->Res W1 (W.setCell ⟨g,i,none⟩ r) 35 base B [] v vg vo (rowT { t with full:=false } i R) v (vg.set i r) vo:=fun W r hb hr=>by
  have:=h1.s.row hb1 hb hvg hN' i hi r R hr;unfold rowT;rw [Int.toNat_natCast]
  exact this
 have hsc:∀ W r,Below W1.heap.size W1 W->(W.setCell ⟨g,i,none⟩ r).cell? ⟨B,1,none⟩=some (.slice (some ⟨g,0,none⟩) N cap)/\(W.setCell ⟨g,i,none⟩ r).cell? ⟨B,4,none⟩=some (.int .i64 (i:Int))/\(W.setCell ⟨g,i,none⟩ r).cell? ⟨B,5,none⟩=some (.int .i64 (a:Int)):=fun W r hb=>by
  have hne:g≠B:=fun e=>grS_not h1.s.o.1 h1.s.b h1.s.n1 h1.s.n2 (.inl (by rw [hvg,<- e];rfl))
  have hk:∀ k,(W.setCell ⟨g,i,none⟩ r).cell? ⟨B,k,none⟩=W.cell? ⟨B,k,none⟩:=fun k=>World.cell?_of_block (w:=W) (a:=⟨B,k,none⟩) ((setCell_gr W g i r).block B (Nat.lt_of_lt_of_le hlt hb.size) (fun e=>hne (Option.some.inj e).symm))
  rw [hk,hk,hk]
  exact cf W hb
 unfold stV at hbk hcd;have hd:Below W1.heap.size W1 W1.drew:=bdr W1;have di:=ci _ hd;have i0:(0:Int)<=(i:Int):=by omega
 have i1:(i:Int)<(N:Int):=by omega
 replace h1:=(show Hid _ from h1);clear h rt hbase hb1 hp1 hp hap hb hcc hn2 hN hN' r1 r2 b1 b2 b3 ho hro hre hsl hgx hvg hbg hcap hlt hvl hci hR hgc hcol rt0 hie hae hdd hbe;generalize parN ps 0 1=n at *;generalize parN ps 0 0=how at *;go_enter Tryz.func144,Tryz.ntmps144;go_wp2_with fail;refine hpn.mono ?_;rintro e wk ⟨rfl,hk⟩;subst hk;clear hpn;go_wp2_with fail;refine hph.mono ?_;rintro e wk ⟨rfl,hk⟩;subst hk;clear hph;go_wp2;rw [<- hW1.out]
 refine wp_region_noPanic ?_;refine wp_region_held_drew (S:=(fun W=>W.cell? ⟨B,1,none⟩=some (.slice (some ⟨g,0,none⟩) N cap)/\W.cell? ⟨B,4,none⟩=some (.int .i64 (i:Int))/\W.cell? ⟨B,5,none⟩=some (.int .i64 (a:Int)))) (by kernel_rfl) (cf _ hd) (fun hHeld=>?_);refine tk 0 ?_;refine tk 1 ?_;refine tk 2 ?_;refine tk 3 ?_;refine tk 4 ?_;refine tk 5 ?_;refine tk 6 ?_;refine tk 7 ?_;refine tk 8 ?_;refine tk 9 ?_;refine tk 10 ?_;refine tk 11 ?_;refine tk 12 ?_;refine tk 13 ?_;refine tk 14 ?_;refine tk 15 ?_;refine tk 16 ?_;refine tk 17 ?_;refine tk 18 ?_;refine tk 20 ?_;refine tk 21 ?_;refine tk 22 ?_;refine tk 23 ?_;refine tk 24 ?_;refine tk 25 ?_;refine tk 26 ?_;refine tk 27 ?_;refine tk 28 ?_;refine tk 29 ?_;refine tk 30 ?_;refine tk 32 ?_;refine rd2 19 31 (fun K hK=>?_) fun K hK=>?_
 ·go_simp
  refine hK.out _ _ (hHeld) (fun hHeld=>?_);clear hK K;refine rdo 31 fun K hK=>?_
  go_simp;refine (hmn _).mono ?_;rintro e wk ⟨rfl,hk⟩;subst hk;go_wp2_with fail;refine hK.out _ _ (cf _ hd) (fun hHeld=>?_);clear hK K;refine rdo 33 fun K hK=>?_
  go_simp;refine (hbk _ hd).mono ?_;rintro e wk ⟨rfl,hb⟩;replace hd:=hd.trans (hb.mono hd.size);have di:=ci _ hd;unfold backS;go_wp2_with fail;refine hK.out _ _ (cf _ hd) (fun hHeld=>?_);clear hK K;refine rdo 34 fun K hK=>?_
  go_simp;refine (hcd _ hd).mono ?_;rintro e w2 ⟨u,rfl,hu,hb⟩;have hu2:=hu.low hd.size;replace hd:=hd.trans (hb.mono hd.size);obtain ⟨ua,un,uc,hue⟩:=hu2.isSl;subst hue;have di:=ci _ hd;have zj:=zi _ hd;go_wp2_with fail;refine hK.out _ _ (cf _ hd) (fun hHeld=>?_);clear hK K;refine tk 35 ?_;refine rdo 36 fun K hK=>?_
  go_simp;refine hK.out _ _ (hsc _ _ hd) (fun hHeld=>?_);clear hK K
  (try simp only [Act.put,ZA,ZB,ZC,ZD,ZE,ZF])
  refine dn ?_;have hF:=(show Hid _ from h1.out.trans (hfin _ _ hd hu2));clear hfin hcd hbk hmn h1 cf hsc;go_wp2;refine be ?_;exact ⟨rfl,_,_,_,hF.out⟩
 ·go_simp
  refine (hmn _).mono ?_;rintro e wk ⟨rfl,hk⟩;subst hk;go_wp2_with fail;refine hK.out _ _ (cf _ hd) (fun hHeld=>?_);clear hK K;refine rd2 19 33 (fun K hK=>?_) fun K hK=>?_
  ·go_simp
   refine hK.out _ _ (hHeld) (fun hHeld=>?_);clear hK K;refine rdo 33 fun K hK=>?_
   go_simp;refine (hbk _ hd).mono ?_;rintro e wk ⟨rfl,hb⟩;replace hd:=hd.trans (hb.mono hd.size);have di:=ci _ hd;unfold backS;go_wp2_with fail;refine hK.out _ _ (cf _ hd) (fun hHeld=>?_);clear hK K;refine rdo 34 fun K hK=>?_
   go_simp;refine (hcd _ hd).mono ?_;rintro e w2 ⟨u,rfl,hu,hb⟩;have hu2:=hu.low hd.size;replace hd:=hd.trans (hb.mono hd.size);obtain ⟨ua,un,uc,hue⟩:=hu2.isSl;subst hue;have di:=ci _ hd;have zj:=zi _ hd;go_wp2_with fail;refine hK.out _ _ (cf _ hd) (fun hHeld=>?_);clear hK K;refine tk 35 ?_;refine rdo 36 fun K hK=>?_
   go_simp;refine hK.out _ _ (hsc _ _ hd) (fun hHeld=>?_);clear hK K
   (try simp only [Act.put,ZA,ZB,ZC,ZD,ZE,ZF])
   refine dn ?_;have hF:=(show Hid _ from h1.out.trans (hfin _ _ hd hu2));clear hfin hcd hbk hmn h1 cf hsc;go_wp2;refine be ?_;exact ⟨rfl,_,_,_,hF.out⟩
  ·go_simp
   refine (hbk _ hd).mono ?_;rintro e wk ⟨rfl,hb⟩;replace hd:=hd.trans (hb.mono hd.size);have di:=ci _ hd;unfold backS;go_wp2_with fail;refine hK.out _ _ (cf _ hd) (fun hHeld=>?_);clear hK K;refine rdo 19 fun K hK=>?_
   go_simp;refine hK.out _ _ (hHeld) (fun hHeld=>?_);clear hK K;refine rdo 34 fun K hK=>?_
   go_simp;refine (hcd _ hd).mono ?_;rintro e w2 ⟨u,rfl,hu,hb⟩;have hu2:=hu.low hd.size;replace hd:=hd.trans (hb.mono hd.size);obtain ⟨ua,un,uc,hue⟩:=hu2.isSl;subst hue;have di:=ci _ hd;have zj:=zi _ hd;go_wp2_with fail;refine hK.out _ _ (cf _ hd) (fun hHeld=>?_);clear hK K;refine tk 35 ?_;refine rdo 36 fun K hK=>?_
   go_simp;refine hK.out _ _ (hsc _ _ hd) (fun hHeld=>?_);clear hK K
   (try simp only [Act.put,ZA,ZB,ZC,ZD,ZE,ZF])
   refine dn ?_;have hF:=(show Hid _ from h1.out.trans (hfin _ _ hd hu2));clear hfin hcd hbk hmn h1 cf hsc;go_wp2;refine be ?_;exact ⟨rfl,_,_,_,hF.out⟩
theorem l7Sign_88 (cn N base B:Nat) (pv:Value) (ps:List Int) (t:Te) (v:Tv) (vg vo:List Value) (w:World) (h:Scr w 35 base B [] t v vg vo) (hbase:base<=w.heap.size) (rt:RtW t cn N) (hp:SlN w pv ps) (hl:ps.length<=1000) (hap:ApF w B v vg vo pv) (hb:∀ x∈ps,0<=x/\x<=9999) :
  Calls Tryz.prog 144 #[.pointer (some ⟨B,0,none⟩),.int .i64 88,pv] w fun e w'=>e=.returned (.tuple #[])/\∃ v' vg' vo',Res w w' 35 base B [] v vg vo (listT t 88 ps) v' vg' vo':=by
 have hpn:Calls Tryz.prog 211 #[pv,.int .i64 0,.int .i64 1] w (fun e w'=>e=.returned (.int .i64 (parN ps 0 1))/\w'=w):=l7Param_any pv ps 0 1 w hp hl;have hph:Calls Tryz.prog 211 #[pv,.int .i64 0,.int .i64 0] w (fun e w'=>e=.returned (.int .i64 (parN ps 0 0))/\w'=w):=l7Param_any pv ps 0 0 w hp hl;have hnb:=parN_bd hb 0 1 (by omega);have hcc:=rt.c;have c0:w.cell? ⟨B,0,none⟩=some (.int .i64 t.gc):=h.cell 0;have c4:w.cell? ⟨B,4,none⟩=some (.int .i64 t.row):=h.cell 4;have c5:w.cell? ⟨B,5,none⟩=some (.int .i64 t.col):=h.cell 5;have c13:w.cell? ⟨B,13,none⟩=some (.bool t.full):=h.cell 13;have z13:w.frozen? ⟨B,13,none⟩=false:=h.frozen 13;have h1:Res w (w.setCell ⟨B,13,none⟩ (.bool false)) 35 base B [] v vg vo { t with full:=false } v vg vo:=h.put (sCg B [.bool false] 13 w) _ (sCh B 35 [.bool false] 13 w _ h.b) rfl rfl rfl rfl rfl;have hb1:=Nat.le_trans hbase h1.g.size;have hp1:=(hp.res hap h1).1;have hw:IntKind.i64.wrap (t.col+parN ps 0 1)=t.col+parN ps 0 1:=by have:=rt.col;simp [IntKind.wrap,IntKind.bits,IntKind.signed];omega
 have hd:=bdr (w.setCell ⟨B,13,none⟩ (.bool false));have hcl:=l7Clear_any cn N base B { t with full:=false } v vg vo _ (h1.s.below hd) (Nat.le_trans hb1 hd.size) (rt.full false) t.row t.col (min t.gc (t.col+parN ps 0 1)) rt.row (by have:=rt.col;have:=rt.gc;omega);have hmn:=fun W=>l1Min_any t.gc (t.col+parN ps 0 1) W
 have cf:∀ W,Below (w.setCell ⟨B,13,none⟩ (.bool false)).heap.size (w.setCell ⟨B,13,none⟩ (.bool false)) W->W.cell? ⟨B,4,none⟩=some (.int .i64 t.row)/\W.cell? ⟨B,5,none⟩=some (.int .i64 t.col):=fun W hb=>⟨(h1.s.below hb).cell 4,(h1.s.below hb).cell 5⟩
 obtain ⟨q,hq⟩:∃ q,Hid (q=min t.gc (t.col+parN ps 0 1)):=⟨_,rfl⟩;have hV:listT t 88 ps=clearT { t with full:=false } t.row t.col (min t.gc (t.col+parN ps 0 1)):=rfl;rw [hV]
 clear hV;rw [<- hq.out] at hcl ⊢
 replace h1:=(show Hid _ from h1);clear h rt hbase hb1 hp1 hp hap hb;generalize parN ps 0 1=n at *;generalize parN ps 0 0=how at *;go_enter Tryz.func144,Tryz.ntmps144;go_wp2_with fail;refine hpn.mono ?_;rintro e wk ⟨rfl,hk⟩;subst hk;clear hpn;go_wp2_with fail;refine hph.mono ?_;rintro e wk ⟨rfl,hk⟩;subst hk;clear hph;go_wp2;obtain ⟨f4,f5⟩:=cf _ hd;refine wp_region_noPanic ?_;refine wp_region_held_drew (S:=(fun _=>True)) (by kernel_rfl) (trivial) (fun hHeld=>?_);refine tk 0 ?_;refine tk 1 ?_;refine tk 2 ?_;refine tk 3 ?_;refine tk 5 ?_;refine tk 6 ?_;refine tk 7 ?_;refine tk 9 ?_;refine tk 10 ?_;refine tk 11 ?_;refine tk 12 ?_;refine tk 14 ?_;simp only [Act.put,ZA,ZB,ZC,ZD,ZE,ZF];refine wpAnyH_ready (rs:=[4,8,13]) (by kernel_rfl) (by simp) (AllReadyH.cons rfl (fun K hK=>?_) (AllReadyH.cons rfl (fun K hK=>?_) (AllReadyH.cons rfl (fun K hK=>?_) AllReadyH.nil)))
 ·go_simp
  refine hK.out _ _ (hHeld) (fun hHeld=>?_);clear hK K;refine rd2 8 13 (fun K hK=>?_) fun K hK=>?_
  ·go_simp
   refine hK.out _ _ (hHeld) (fun hHeld=>?_);clear hK K;refine rd 13 fun K hK=>?_
   go_simp;refine hK.out _ _ (hHeld) (fun hHeld=>?_);clear hK K;refine tk 15 ?_;refine rd 16 fun K hK=>?_
   go_simp;refine (hmn _).mono ?_;rintro e wk ⟨rfl,hk⟩;subst hk;rw [<- hq.out]
   go_wp2_with fail;refine hK.out _ _ (trivial) (fun hHeld=>?_);clear hK K;refine rd 17 fun K hK=>?_
   go_simp;refine hcl.mono ?_;rintro e w2 ⟨rfl,v2,g2,o2,hR⟩;go_wp2_with fail;refine hK.out _ _ (trivial) (fun hHeld=>?_);clear hK K
   (try simp only [Act.put,ZA,ZB,ZC,ZD,ZE,ZF])
   refine dn ?_;have hF:=(show Hid _ from (h1.out.below hd).trans hR);clear hcl hR h1 hHeld cf hd hmn;go_wp2;refine be ?_;exact ⟨rfl,_,_,_,hF.out⟩
  ·go_simp
   refine hK.out _ _ (hHeld) (fun hHeld=>?_);clear hK K;refine tk 15 ?_;refine rd2 8 16 (fun K hK=>?_) fun K hK=>?_
   ·go_simp
    refine hK.out _ _ (hHeld) (fun hHeld=>?_);clear hK K;refine rd 16 fun K hK=>?_
    go_simp;refine (hmn _).mono ?_;rintro e wk ⟨rfl,hk⟩;subst hk;rw [<- hq.out]
    go_wp2_with fail;refine hK.out _ _ (trivial) (fun hHeld=>?_);clear hK K;refine rd 17 fun K hK=>?_
    go_simp;refine hcl.mono ?_;rintro e w2 ⟨rfl,v2,g2,o2,hR⟩;go_wp2_with fail;refine hK.out _ _ (trivial) (fun hHeld=>?_);clear hK K
    (try simp only [Act.put,ZA,ZB,ZC,ZD,ZE,ZF])
    refine dn ?_;have hF:=(show Hid _ from (h1.out.below hd).trans hR);clear hcl hR h1 hHeld cf hd hmn;go_wp2;refine be ?_;exact ⟨rfl,_,_,_,hF.out⟩
   ·go_simp
    refine (hmn _).mono ?_;rintro e wk ⟨rfl,hk⟩;subst hk;rw [<- hq.out]
    go_wp2_with fail;refine hK.out _ _ (trivial) (fun hHeld=>?_);clear hK K;refine rd 8 fun K hK=>?_
    go_simp;refine hK.out _ _ (hHeld) (fun hHeld=>?_);clear hK K;refine rd 17 fun K hK=>?_
    go_simp;refine hcl.mono ?_;rintro e w2 ⟨rfl,v2,g2,o2,hR⟩;go_wp2_with fail;refine hK.out _ _ (trivial) (fun hHeld=>?_);clear hK K
    (try simp only [Act.put,ZA,ZB,ZC,ZD,ZE,ZF])
    refine dn ?_;have hF:=(show Hid _ from (h1.out.below hd).trans hR);clear hcl hR h1 hHeld cf hd hmn;go_wp2;refine be ?_;exact ⟨rfl,_,_,_,hF.out⟩
 ·go_simp
  refine hK.out _ _ (hHeld) (fun hHeld=>?_);clear hK K;refine rd2 4 13 (fun K hK=>?_) fun K hK=>?_
  ·go_simp
   refine hK.out _ _ (hHeld) (fun hHeld=>?_);clear hK K;refine rd 13 fun K hK=>?_
   go_simp;refine hK.out _ _ (hHeld) (fun hHeld=>?_);clear hK K;refine tk 15 ?_;refine rd 16 fun K hK=>?_
   go_simp;refine (hmn _).mono ?_;rintro e wk ⟨rfl,hk⟩;subst hk;rw [<- hq.out]
   go_wp2_with fail;refine hK.out _ _ (trivial) (fun hHeld=>?_);clear hK K;refine rd 17 fun K hK=>?_
   go_simp;refine hcl.mono ?_;rintro e w2 ⟨rfl,v2,g2,o2,hR⟩;go_wp2_with fail;refine hK.out _ _ (trivial) (fun hHeld=>?_);clear hK K
   (try simp only [Act.put,ZA,ZB,ZC,ZD,ZE,ZF])
   refine dn ?_;have hF:=(show Hid _ from (h1.out.below hd).trans hR);clear hcl hR h1 hHeld cf hd hmn;go_wp2;refine be ?_;exact ⟨rfl,_,_,_,hF.out⟩
  ·go_simp
   refine hK.out _ _ (hHeld) (fun hHeld=>?_);clear hK K;refine tk 15 ?_;refine rd2 4 16 (fun K hK=>?_) fun K hK=>?_
   ·go_simp
    refine hK.out _ _ (hHeld) (fun hHeld=>?_);clear hK K;refine rd 16 fun K hK=>?_
    go_simp;refine (hmn _).mono ?_;rintro e wk ⟨rfl,hk⟩;subst hk;rw [<- hq.out]
    go_wp2_with fail;refine hK.out _ _ (trivial) (fun hHeld=>?_);clear hK K;refine rd 17 fun K hK=>?_
    go_simp;refine hcl.mono ?_;rintro e w2 ⟨rfl,v2,g2,o2,hR⟩;go_wp2_with fail;refine hK.out _ _ (trivial) (fun hHeld=>?_);clear hK K
    (try simp only [Act.put,ZA,ZB,ZC,ZD,ZE,ZF])
    refine dn ?_;have hF:=(show Hid _ from (h1.out.below hd).trans hR);clear hcl hR h1 hHeld cf hd hmn;go_wp2;refine be ?_;exact ⟨rfl,_,_,_,hF.out⟩
   ·go_simp
    refine (hmn _).mono ?_;rintro e wk ⟨rfl,hk⟩;subst hk;rw [<- hq.out]
    go_wp2_with fail;refine hK.out _ _ (trivial) (fun hHeld=>?_);clear hK K;refine rd 4 fun K hK=>?_
    go_simp;refine hK.out _ _ (hHeld) (fun hHeld=>?_);clear hK K;refine rd 17 fun K hK=>?_
    go_simp;refine hcl.mono ?_;rintro e w2 ⟨rfl,v2,g2,o2,hR⟩;go_wp2_with fail;refine hK.out _ _ (trivial) (fun hHeld=>?_);clear hK K
    (try simp only [Act.put,ZA,ZB,ZC,ZD,ZE,ZF])
    refine dn ?_;have hF:=(show Hid _ from (h1.out.below hd).trans hR);clear hcl hR h1 hHeld cf hd hmn;go_wp2;refine be ?_;exact ⟨rfl,_,_,_,hF.out⟩
 ·go_simp
  refine hK.out _ _ (hHeld) (fun hHeld=>?_);clear hK K;refine tk 15 ?_;simp only [Act.put,ZA,ZB,ZC,ZD,ZE,ZF];refine wpAnyH_ready (rs:=[4,8,16]) (by kernel_rfl) (by simp) (AllReadyH.cons rfl (fun K hK=>?_) (AllReadyH.cons rfl (fun K hK=>?_) (AllReadyH.cons rfl (fun K hK=>?_) AllReadyH.nil)))
  ·go_simp
   refine hK.out _ _ (hHeld) (fun hHeld=>?_);clear hK K;refine rd2 8 16 (fun K hK=>?_) fun K hK=>?_
   ·go_simp
    refine hK.out _ _ (hHeld) (fun hHeld=>?_);clear hK K;refine rd 16 fun K hK=>?_
    go_simp;refine (hmn _).mono ?_;rintro e wk ⟨rfl,hk⟩;subst hk;rw [<- hq.out]
    go_wp2_with fail;refine hK.out _ _ (trivial) (fun hHeld=>?_);clear hK K;refine rd 17 fun K hK=>?_
    go_simp;refine hcl.mono ?_;rintro e w2 ⟨rfl,v2,g2,o2,hR⟩;go_wp2_with fail;refine hK.out _ _ (trivial) (fun hHeld=>?_);clear hK K
    (try simp only [Act.put,ZA,ZB,ZC,ZD,ZE,ZF])
    refine dn ?_;have hF:=(show Hid _ from (h1.out.below hd).trans hR);clear hcl hR h1 hHeld cf hd hmn;go_wp2;refine be ?_;exact ⟨rfl,_,_,_,hF.out⟩
   ·go_simp
    refine (hmn _).mono ?_;rintro e wk ⟨rfl,hk⟩;subst hk;rw [<- hq.out]
    go_wp2_with fail;refine hK.out _ _ (trivial) (fun hHeld=>?_);clear hK K;refine rd 8 fun K hK=>?_
    go_simp;refine hK.out _ _ (hHeld) (fun hHeld=>?_);clear hK K;refine rd 17 fun K hK=>?_
    go_simp;refine hcl.mono ?_;rintro e w2 ⟨rfl,v2,g2,o2,hR⟩;go_wp2_with fail;refine hK.out _ _ (trivial) (fun hHeld=>?_);clear hK K
    (try simp only [Act.put,ZA,ZB,ZC,ZD,ZE,ZF])
    refine dn ?_;have hF:=(show Hid _ from (h1.out.below hd).trans hR);clear hcl hR h1 hHeld cf hd hmn;go_wp2;refine be ?_;exact ⟨rfl,_,_,_,hF.out⟩
  ·go_simp
   refine hK.out _ _ (hHeld) (fun hHeld=>?_);clear hK K;refine rd2 4 16 (fun K hK=>?_) fun K hK=>?_
   ·go_simp
    refine hK.out _ _ (hHeld) (fun hHeld=>?_);clear hK K;refine rd 16 fun K hK=>?_
    go_simp;refine (hmn _).mono ?_;rintro e wk ⟨rfl,hk⟩;subst hk;rw [<- hq.out]
    go_wp2_with fail;refine hK.out _ _ (trivial) (fun hHeld=>?_);clear hK K;refine rd 17 fun K hK=>?_
    go_simp;refine hcl.mono ?_;rintro e w2 ⟨rfl,v2,g2,o2,hR⟩;go_wp2_with fail;refine hK.out _ _ (trivial) (fun hHeld=>?_);clear hK K
    (try simp only [Act.put,ZA,ZB,ZC,ZD,ZE,ZF])
    refine dn ?_;have hF:=(show Hid _ from (h1.out.below hd).trans hR);clear hcl hR h1 hHeld cf hd hmn;go_wp2;refine be ?_;exact ⟨rfl,_,_,_,hF.out⟩
   ·go_simp
    refine (hmn _).mono ?_;rintro e wk ⟨rfl,hk⟩;subst hk;rw [<- hq.out]
    go_wp2_with fail;refine hK.out _ _ (trivial) (fun hHeld=>?_);clear hK K;refine rd 4 fun K hK=>?_
    go_simp;refine hK.out _ _ (hHeld) (fun hHeld=>?_);clear hK K;refine rd 17 fun K hK=>?_
    go_simp;refine hcl.mono ?_;rintro e w2 ⟨rfl,v2,g2,o2,hR⟩;go_wp2_with fail;refine hK.out _ _ (trivial) (fun hHeld=>?_);clear hK K
    (try simp only [Act.put,ZA,ZB,ZC,ZD,ZE,ZF])
    refine dn ?_;have hF:=(show Hid _ from (h1.out.below hd).trans hR);clear hcl hR h1 hHeld cf hd hmn;go_wp2;refine be ?_;exact ⟨rfl,_,_,_,hF.out⟩
  ·go_simp
   refine (hmn _).mono ?_;rintro e wk ⟨rfl,hk⟩;subst hk;rw [<- hq.out]
   go_wp2_with fail;refine hK.out _ _ (trivial) (fun hHeld=>?_);clear hK K;refine rd2 4 8 (fun K hK=>?_) fun K hK=>?_
   ·go_simp
    refine hK.out _ _ (hHeld) (fun hHeld=>?_);clear hK K;refine rd 8 fun K hK=>?_
    go_simp;refine hK.out _ _ (hHeld) (fun hHeld=>?_);clear hK K;refine rd 17 fun K hK=>?_
    go_simp;refine hcl.mono ?_;rintro e w2 ⟨rfl,v2,g2,o2,hR⟩;go_wp2_with fail;refine hK.out _ _ (trivial) (fun hHeld=>?_);clear hK K
    (try simp only [Act.put,ZA,ZB,ZC,ZD,ZE,ZF])
    refine dn ?_;have hF:=(show Hid _ from (h1.out.below hd).trans hR);clear hcl hR h1 hHeld cf hd hmn;go_wp2;refine be ?_;exact ⟨rfl,_,_,_,hF.out⟩
   ·go_simp
    refine hK.out _ _ (hHeld) (fun hHeld=>?_);clear hK K;refine rd 4 fun K hK=>?_
    go_simp;refine hK.out _ _ (hHeld) (fun hHeld=>?_);clear hK K;refine rd 17 fun K hK=>?_
    go_simp;refine hcl.mono ?_;rintro e w2 ⟨rfl,v2,g2,o2,hR⟩;go_wp2_with fail;refine hK.out _ _ (trivial) (fun hHeld=>?_);clear hK K
    (try simp only [Act.put,ZA,ZB,ZC,ZD,ZE,ZF])
    refine dn ?_;have hF:=(show Hid _ from (h1.out.below hd).trans hR);clear hcl hR h1 hHeld cf hd hmn;go_wp2;refine be ?_;exact ⟨rfl,_,_,_,hF.out⟩
theorem l7Sign_83 (cn N base B:Nat) (pv:Value) (ps:List Int) (t:Te) (v:Tv) (vg vo:List Value) (w:World) (h:Scr w 35 base B [] t v vg vo) (hbase:base<=w.heap.size) (rt:RtW t cn N) (hp:SlN w pv ps) (hl:ps.length<=1000) (hap:ApF w B v vg vo pv) (hb:∀ x∈ps,0<=x/\x<=9999) :
  Calls Tryz.prog 144 #[.pointer (some ⟨B,0,none⟩),.int .i64 83,pv] w fun e w'=>e=.returned (.tuple #[])/\∃ v' vg' vo',Res w w' 35 base B [] v vg vo (listT t 83 ps) v' vg' vo':=by
 have hpn:Calls Tryz.prog 211 #[pv,.int .i64 0,.int .i64 1] w (fun e w'=>e=.returned (.int .i64 (parN ps 0 1))/\w'=w):=l7Param_any pv ps 0 1 w hp hl;have hph:Calls Tryz.prog 211 #[pv,.int .i64 0,.int .i64 0] w (fun e w'=>e=.returned (.int .i64 (parN ps 0 0))/\w'=w):=l7Param_any pv ps 0 0 w hp hl;have hnb:=parN_bd hb 0 1 (by omega);have hcc:=rt.c;have c0:w.cell? ⟨B,0,none⟩=some (.int .i64 t.gc):=h.cell 0;have c4:w.cell? ⟨B,4,none⟩=some (.int .i64 t.row):=h.cell 4;have c5:w.cell? ⟨B,5,none⟩=some (.int .i64 t.col):=h.cell 5;have c13:w.cell? ⟨B,13,none⟩=some (.bool t.full):=h.cell 13;have z13:w.frozen? ⟨B,13,none⟩=false:=h.frozen 13;have h1:Res w (w.setCell ⟨B,13,none⟩ (.bool false)) 35 base B [] v vg vo { t with full:=false } v vg vo:=h.put (sCg B [.bool false] 13 w) _ (sCh B 35 [.bool false] 13 w _ h.b) rfl rfl rfl rfl rfl;have hb1:=Nat.le_trans hbase h1.g.size;have hp1:=(hp.res hap h1).1;obtain ⟨W1,hW1⟩:∃ W1,Hid (W1=w.setCell ⟨B,13,none⟩ (.bool false)):=⟨_,rfl⟩;rw [<- hW1.out] at h1 hp1 hb1
 obtain ⟨b1,b2,b3⟩:=rt.tb;obtain ⟨r1,r2⟩:=rt.row;have hn2:=rt.n1.2;have hlt:=h1.s.lt;have hN:=rt.n;have cf:∀ W,Below W1.heap.size W1 W->W.cell? ⟨B,11,none⟩=some (.int .i64 t.top)/\W.cell? ⟨B,12,none⟩=some (.int .i64 t.bot):=fun W hb=>⟨(h1.s.below hb).cell 11,(h1.s.below hb).cell 12⟩
 have hmv:=fun W (hbW:Below W1.heap.size W1 W)=>moveS_any cn N base B { t with full:=false } v vg vo W (h1.s.below hbW) (Nat.le_trans hb1 hbW.size) (rt.full false) t.top.toNat t.bot.toNat (parN ps 0 1) (by omega) (by omega) (by  omega)
 rw [show ((t.top.toNat:Nat):Int)=t.top by omega,show ((t.bot.toNat:Nat):Int)=t.bot by omega] at hmv
 have hbk:=fun W (hbW:Below W1.heap.size W1 W)=>l7Back_any B t.st W ((h1.s.below hbW).cell 7) (Nat.lt_of_lt_of_le hlt hbW.size)
 unfold stV at hmv hbk;have hV:listT t 83 ps=moveT { t with full:=false } t.top t.bot (parN ps 0 1):=by  simp [listT]
 rw [hV]
 clear hV;replace h1:=(show Hid _ from h1);clear h rt hbase hb1 hp1 hp hap hb hcc hn2 hN r1 r2 b1 b2 b3;generalize parN ps 0 1=n at *;generalize parN ps 0 0=how at *;go_enter Tryz.func144,Tryz.ntmps144;go_wp2_with fail;refine hpn.mono ?_;rintro e wk ⟨rfl,hk⟩;subst hk;clear hpn;go_wp2_with fail;refine hph.mono ?_;rintro e wk ⟨rfl,hk⟩;subst hk;clear hph;go_wp2;rw [<- hW1.out]
 have hd:Below W1.heap.size W1 W1.drew:=bdr W1;refine wp_region_noPanic ?_;refine wp_region_held_drew (S:=(fun W=>W.cell? ⟨B,11,none⟩=some (.int .i64 t.top)/\W.cell? ⟨B,12,none⟩=some (.int .i64 t.bot))) (by kernel_rfl) (cf _ hd) (fun hHeld=>?_);refine tk 0 ?_;refine tk 1 ?_;refine tk 2 ?_;refine tk 3 ?_;refine tk 4 ?_;refine tk 5 ?_;refine tk 6 ?_;refine tk 7 ?_;refine tk 8 ?_;refine tk 9 ?_;refine tk 10 ?_;refine tk 11 ?_;refine tk 12 ?_;refine rd 13 fun K hK=>?_
 go_simp;refine (hbk _ hd).mono ?_;rintro e wk ⟨rfl,hb⟩;replace hd:=hd.trans (hb.mono hd.size);unfold backS;go_wp2_with fail;refine hK.out _ _ (cf _ hd) (fun hHeld=>?_);clear hK K;refine rd 14 fun K hK=>?_
 go_simp;refine (hmv _ hd).mono ?_;rintro e w2 ⟨rfl,vg2,hR⟩;go_wp2_with fail;refine hK.out _ _ (⟨hR.s.cell 11,hR.s.cell 12⟩) (fun hHeld=>?_);clear hK K
 (try simp only [Act.put,ZA,ZB,ZC,ZD,ZE,ZF])
 refine dn ?_;have hF:=(show Hid _ from (h1.out.below hd).trans hR);clear hR h1 hHeld cf hd hmv hbk;go_wp2;refine be ?_;exact ⟨rfl,_,_,_,hF.out⟩
theorem l7Sign_84 (cn N base B:Nat) (pv:Value) (ps:List Int) (t:Te) (v:Tv) (vg vo:List Value) (w:World) (h:Scr w 35 base B [] t v vg vo) (hbase:base<=w.heap.size) (rt:RtW t cn N) (hp:SlN w pv ps) (hl:ps.length<=1000) (hap:ApF w B v vg vo pv) (hb:∀ x∈ps,0<=x/\x<=9999) :
  Calls Tryz.prog 144 #[.pointer (some ⟨B,0,none⟩),.int .i64 84,pv] w fun e w'=>e=.returned (.tuple #[])/\∃ v' vg' vo',Res w w' 35 base B [] v vg vo (listT t 84 ps) v' vg' vo':=by
 have hpn:Calls Tryz.prog 211 #[pv,.int .i64 0,.int .i64 1] w (fun e w'=>e=.returned (.int .i64 (parN ps 0 1))/\w'=w):=l7Param_any pv ps 0 1 w hp hl;have hph:Calls Tryz.prog 211 #[pv,.int .i64 0,.int .i64 0] w (fun e w'=>e=.returned (.int .i64 (parN ps 0 0))/\w'=w):=l7Param_any pv ps 0 0 w hp hl;have hnb:=parN_bd hb 0 1 (by omega);have hcc:=rt.c;have c0:w.cell? ⟨B,0,none⟩=some (.int .i64 t.gc):=h.cell 0;have c4:w.cell? ⟨B,4,none⟩=some (.int .i64 t.row):=h.cell 4;have c5:w.cell? ⟨B,5,none⟩=some (.int .i64 t.col):=h.cell 5;have c13:w.cell? ⟨B,13,none⟩=some (.bool t.full):=h.cell 13;have z13:w.frozen? ⟨B,13,none⟩=false:=h.frozen 13;have h1:Res w (w.setCell ⟨B,13,none⟩ (.bool false)) 35 base B [] v vg vo { t with full:=false } v vg vo:=h.put (sCg B [.bool false] 13 w) _ (sCh B 35 [.bool false] 13 w _ h.b) rfl rfl rfl rfl rfl;have hb1:=Nat.le_trans hbase h1.g.size;have hp1:=(hp.res hap h1).1;obtain ⟨W1,hW1⟩:∃ W1,Hid (W1=w.setCell ⟨B,13,none⟩ (.bool false)):=⟨_,rfl⟩;rw [<- hW1.out] at h1 hp1 hb1
 obtain ⟨b1,b2,b3⟩:=rt.tb;obtain ⟨r1,r2⟩:=rt.row;have hn2:=rt.n1.2;have hlt:=h1.s.lt;have hN:=rt.n;have cf:∀ W,Below W1.heap.size W1 W->W.cell? ⟨B,11,none⟩=some (.int .i64 t.top)/\W.cell? ⟨B,12,none⟩=some (.int .i64 t.bot):=fun W hb=>⟨(h1.s.below hb).cell 11,(h1.s.below hb).cell 12⟩
 obtain ⟨nn,hnn⟩:∃ nn,Hid (-(parN ps 0 1)=nn):=⟨_,rfl⟩;have hw:IntKind.i64.wrap (-(parN ps 0 1))=nn:=by rw [<- hnn.out];simp [IntKind.wrap,IntKind.bits,IntKind.signed];omega
 have hmv:=fun W (hbW:Below W1.heap.size W1 W)=>moveS_any cn N base B { t with full:=false } v vg vo W (h1.s.below hbW) (Nat.le_trans hb1 hbW.size) (rt.full false) t.top.toNat t.bot.toNat (nn) (by omega) (by omega) (by have:=hnn.out;omega)
 rw [show ((t.top.toNat:Nat):Int)=t.top by omega,show ((t.bot.toNat:Nat):Int)=t.bot by omega] at hmv
 have hbk:=fun W (hbW:Below W1.heap.size W1 W)=>l7Back_any B t.st W ((h1.s.below hbW).cell 7) (Nat.lt_of_lt_of_le hlt hbW.size)
 unfold stV at hmv hbk;have hV:listT t 84 ps=moveT { t with full:=false } t.top t.bot (nn):=by rw [<- hnn.out];simp [listT]
 rw [hV]
 clear hV;replace h1:=(show Hid _ from h1);clear h rt hbase hb1 hp1 hp hap hb hcc hn2 hN r1 r2 b1 b2 b3;generalize parN ps 0 1=n at *;generalize parN ps 0 0=how at *;go_enter Tryz.func144,Tryz.ntmps144;go_wp2_with fail;refine hpn.mono ?_;rintro e wk ⟨rfl,hk⟩;subst hk;clear hpn;go_wp2_with fail;refine hph.mono ?_;rintro e wk ⟨rfl,hk⟩;subst hk;clear hph;go_wp2;rw [<- hW1.out]
 have hd:Below W1.heap.size W1 W1.drew:=bdr W1;refine wp_region_noPanic ?_;refine wp_region_held_drew (S:=(fun W=>W.cell? ⟨B,11,none⟩=some (.int .i64 t.top)/\W.cell? ⟨B,12,none⟩=some (.int .i64 t.bot))) (by kernel_rfl) (cf _ hd) (fun hHeld=>?_);refine tk 0 ?_;refine tk 1 ?_;refine tk 2 ?_;refine tk 3 ?_;refine tk 4 ?_;refine tk 5 ?_;refine tk 6 ?_;refine tk 7 ?_;refine tk 8 ?_;refine tk 9 ?_;refine tk 10 ?_;refine tk 11 ?_;refine tk 12 ?_;refine tk 13 ?_;refine rd 14 fun K hK=>?_
 go_simp;refine (hbk _ hd).mono ?_;rintro e wk ⟨rfl,hb⟩;replace hd:=hd.trans (hb.mono hd.size);unfold backS;go_wp2_with fail;refine hK.out _ _ (cf _ hd) (fun hHeld=>?_);clear hK K;refine rd 15 fun K hK=>?_
 go_simp;refine (hmv _ hd).mono ?_;rintro e w2 ⟨rfl,vg2,hR⟩;go_wp2_with fail;refine hK.out _ _ (⟨hR.s.cell 11,hR.s.cell 12⟩) (fun hHeld=>?_);clear hK K
 (try simp only [Act.put,ZA,ZB,ZC,ZD,ZE,ZF])
 refine dn ?_;have hF:=(show Hid _ from (h1.out.below hd).trans hR);clear hR h1 hHeld cf hd hmv hbk;go_wp2;refine be ?_;exact ⟨rfl,_,_,_,hF.out⟩
theorem inf_style5:(Tryz.prog.info? 28).map (·.size)=some 5:=by kernel_rfl

theorem l7Sign_109 (cn N base B:Nat) (pv:Value) (ps:List Int) (t:Te) (v:Tv) (vg vo:List Value) (w:World) (h:Scr w 35 base B [] t v vg vo) (hbase:base<=w.heap.size) (rt:RtW t cn N) (hp:SlN w pv ps) (hl:ps.length<=1000) (hap:ApF w B v vg vo pv) (hb:∀ x∈ps,0<=x/\x<=9999) :
  Calls Tryz.prog 144 #[.pointer (some ⟨B,0,none⟩),.int .i64 109,pv] w fun e w'=>e=.returned (.tuple #[])/\∃ v' vg' vo',Res w w' 35 base B [] v vg vo (listT t 109 ps) v' vg' vo':=by
 have hpn:Calls Tryz.prog 211 #[pv,.int .i64 0,.int .i64 1] w (fun e w'=>e=.returned (.int .i64 (parN ps 0 1))/\w'=w):=l7Param_any pv ps 0 1 w hp hl;have hph:Calls Tryz.prog 211 #[pv,.int .i64 0,.int .i64 0] w (fun e w'=>e=.returned (.int .i64 (parN ps 0 0))/\w'=w):=l7Param_any pv ps 0 0 w hp hl;have hnb:=parN_bd hb 0 1 (by omega);have hcc:=rt.c;have c0:w.cell? ⟨B,0,none⟩=some (.int .i64 t.gc):=h.cell 0;have c4:w.cell? ⟨B,4,none⟩=some (.int .i64 t.row):=h.cell 4;have c5:w.cell? ⟨B,5,none⟩=some (.int .i64 t.col):=h.cell 5;have c13:w.cell? ⟨B,13,none⟩=some (.bool t.full):=h.cell 13;have z13:w.frozen? ⟨B,13,none⟩=false:=h.frozen 13;have h1:Res w (w.setCell ⟨B,13,none⟩ (.bool false)) 35 base B [] v vg vo { t with full:=false } v vg vo:=h.put (sCg B [.bool false] 13 w) _ (sCh B 35 [.bool false] 13 w _ h.b) rfl rfl rfl rfl rfl;have hb1:=Nat.le_trans hbase h1.g.size;have hp1:=(hp.res hap h1).1;obtain ⟨W1,hW1⟩:∃ W1,Hid (W1=w.setCell ⟨B,13,none⟩ (.bool false)):=⟨_,rfl⟩;rw [<- hW1.out] at h1 hp1 hb1
 obtain ⟨b1,b2,b3⟩:=rt.tb;obtain ⟨r1,r2⟩:=rt.row;have hn2:=rt.n1.2;have hlt:=h1.s.lt;have hN:=rt.n;obtain ⟨W2,hW2⟩:∃ W2,Hid (W2=W1.setCell ⟨B,13,none⟩ (.bool t.full)):=⟨_,rfl⟩;have h2:=h1.trans (h1.s.put (sCg B [.bool t.full] 13 W1) t (sCh B 35 [.bool t.full] 13 W1 _ h1.s.b) rfl rfl rfl rfl rfl);have y13:W1.cell? ⟨B,13,none⟩=some (.bool false):=h1.s.cell 13;have z13':W1.frozen? ⟨B,13,none⟩=false:=h1.s.frozen 13;have hW2':Res w W2 35 base B [] v vg vo t v vg vo:=by rw [hW2.out];exact h2
 clear h2;have y6:w.cell? ⟨B,6,none⟩=some (.int .i64 t.st.fore):=h.cell 6;have y7:w.cell? ⟨B,7,none⟩=some (.int .i64 t.st.back):=h.cell 7;have y8:w.cell? ⟨B,8,none⟩=some (.bool t.st.bold):=h.cell 8;have y9:w.cell? ⟨B,9,none⟩=some (.bool t.st.under):=h.cell 9;have y10:w.cell? ⟨B,10,none⟩=some (.bool t.st.turned):=h.cell 10;have hst:=l3Styled_all t.st pv ps W2 ((hp.res hap hW2').1.l.sl) (by omega);have hV:listT t 109 ps={ t with st:=stylN t.st ps }:=by simp [listT]
 rw [hV]
 clear hV;generalize stylN t.st ps=s2 at *;unfold stV at hst;replace hW2':=(show Hid _ from hW2')

 clear h h1 rt hbase hb1 hp1 hp hap hb hcc hn2 hN r1 r2 b1 b2 b3;generalize parN ps 0 1=n at *;generalize parN ps 0 0=how at *;go_enter Tryz.func144,Tryz.ntmps144;go_wp2_with fail;refine hpn.mono ?_;rintro e wk ⟨rfl,hk⟩;subst hk;clear hpn;go_wp2_with fail;refine hph.mono ?_;rintro e wk ⟨rfl,hk⟩;subst hk;clear hph;go_wp2_with fail;rw [<- hW1.out,<- hW2.out]
 refine hst.mono ?_;rintro e w3 ⟨rfl,hb3⟩;have k3:=hW2'.out.below hb3;have hblk:BlkC w3 B 35 ([]++(teCs t v).toList):=k3.s.b;have hfin:∀ w4,w3.grownBy w4 (some B)->BlkC w4 B 35 (setV ([]++(teCs t v).toList) 6 [.int .i64 s2.fore,.int .i64 s2.back,.bool s2.bold,.bool s2.under,.bool s2.turned])->Res wk w4 35 base B [] v vg vo { t with st:=s2 } v vg vo:=fun w4 hg hb=>k3.trans (k3.s.put hg { t with st:=s2 } hb rfl rfl rfl rfl rfl)
 replace hfin:=(show Hid _ from hfin);clear k3 hst hW2';go_wp2_with (refine store_at (B:=B) (k:=6) (n:=5) (cs:=[]++(teCs t v).toList) (v:=.agg #[.int .i64 s2.fore,.int .i64 s2.back,.bool s2.bold,.bool s2.under,.bool s2.turned]) (by rfl) 28 _ _ (by rfl) inf_style5 hblk (by rfl) (by rfl) (by rfl) (by rfl) (by rfl) ?_;intro w4 hg4 hb4 hz4);refine be ?_;exact ⟨rfl,_,_,_,hfin.out _ hg4 hb4⟩
theorem l7Sign_114 (cn N base B:Nat) (pv:Value) (ps:List Int) (t:Te) (v:Tv) (vg vo:List Value) (w:World) (h:Scr w 35 base B [] t v vg vo) (hbase:base<=w.heap.size) (rt:RtW t cn N) (hp:SlN w pv ps) (hl:ps.length<=1000) (hap:ApF w B v vg vo pv) (hb:∀ x∈ps,0<=x/\x<=9999) :
  Calls Tryz.prog 144 #[.pointer (some ⟨B,0,none⟩),.int .i64 114,pv] w fun e w'=>e=.returned (.tuple #[])/\∃ v' vg' vo',Res w w' 35 base B [] v vg vo (listT t 114 ps) v' vg' vo':=by
 have hpn:Calls Tryz.prog 211 #[pv,.int .i64 0,.int .i64 1] w (fun e w'=>e=.returned (.int .i64 (parN ps 0 1))/\w'=w):=l7Param_any pv ps 0 1 w hp hl;have hph:Calls Tryz.prog 211 #[pv,.int .i64 0,.int .i64 0] w (fun e w'=>e=.returned (.int .i64 (parN ps 0 0))/\w'=w):=l7Param_any pv ps 0 0 w hp hl;have hnb:=parN_bd hb 0 1 (by omega);have hcc:=rt.c;have c0:w.cell? ⟨B,0,none⟩=some (.int .i64 t.gc):=h.cell 0;have c4:w.cell? ⟨B,4,none⟩=some (.int .i64 t.row):=h.cell 4;have c5:w.cell? ⟨B,5,none⟩=some (.int .i64 t.col):=h.cell 5;have c13:w.cell? ⟨B,13,none⟩=some (.bool t.full):=h.cell 13;have z13:w.frozen? ⟨B,13,none⟩=false:=h.frozen 13;have h1:Res w (w.setCell ⟨B,13,none⟩ (.bool false)) 35 base B [] v vg vo { t with full:=false } v vg vo:=h.put (sCg B [.bool false] 13 w) _ (sCh B 35 [.bool false] 13 w _ h.b) rfl rfl rfl rfl rfl;have hb1:=Nat.le_trans hbase h1.g.size;have hp1:=(hp.res hap h1).1;obtain ⟨W1,hW1⟩:∃ W1,Hid (W1=w.setCell ⟨B,13,none⟩ (.bool false)):=⟨_,rfl⟩;rw [<- hW1.out] at h1 hp1 hb1
 obtain ⟨b1,b2,b3⟩:=rt.tb;obtain ⟨r1,r2⟩:=rt.row;have hn2:=rt.n1.2;have hlt:=h1.s.lt;have hN:=rt.n;rcases h1.s.o.1.shape with ⟨_,hs⟩|⟨gb,gcap,hvg,_,_,_⟩
 ·rw [hs] at hN;simp at hN;omega
 have f1:W1.cell? ⟨B,1,none⟩=some (.slice (some ⟨gb,0,none⟩) t.g.length gcap):=by rw [h1.s.cell 1];show some v.g=_;rw [hvg]
 have hla:Calls Tryz.prog 212 #[.pointer (some ⟨B,0,none⟩)] W1 (fun e w'=>e=.returned (.int .i64 ((t.g.length:Int)-1))/\w'=W1):=l7Last_any B _ _ _ W1 f1 (by omega);have hp2:Calls Tryz.prog 211 #[pv,.int .i64 1,.int .i64 (t.g.length:Int)] W1 (fun e w'=>e=.returned (.int .i64 (parN ps 1 (t.g.length:Int)))/\w'=W1):=l7Param_any pv ps 1 (t.g.length:Int) W1 hp1 hl;have hmb:=parN_bd hb 1 (t.g.length:Int) (by omega);obtain ⟨lv,hlv⟩:∃ lv,Hid ((t.g.length:Int)-1=lv):=⟨_,rfl⟩;have hlv2:=hlv.out;have e1:IntKind.i64.wrap (lv+1)=(t.g.length:Int):=by simp [IntKind.wrap,IntKind.bits,IntKind.signed];omega
 obtain ⟨n1,hn1⟩:∃ n1,Hid (parN ps 0 1-1=n1):=⟨_,rfl⟩;have e2:IntKind.i64.wrap (parN ps 0 1-1)=n1:=by rw [<- hn1.out];simp [IntKind.wrap,IntKind.bits,IntKind.signed];omega
 obtain ⟨q,hq⟩:∃ q,Hid (parN ps 1 (t.g.length:Int)=q):=⟨_,rfl⟩;rw [hq.out] at hp2 hmb
 obtain ⟨bq,hbq⟩:∃ bq,Hid (q-1=bq):=⟨_,rfl⟩;have e3:IntKind.i64.wrap (q-1)=bq:=by rw [<- hbq.out];simp [IntKind.wrap,IntKind.bits,IntKind.signed];omega
 rw [hlv.out] at hla
 have z11:W1.frozen? ⟨B,11,none⟩=false:=h1.s.frozen 11;have z12:W1.frozen? ⟨B,12,none⟩=false:=h1.s.frozen 12;have z4:W1.frozen? ⟨B,4,none⟩=false:=h1.s.frozen 4;have z5:W1.frozen? ⟨B,5,none⟩=false:=h1.s.frozen 5;have y11:W1.cell? ⟨B,11,none⟩=some (.int .i64 t.top):=h1.s.cell 11;have y12:W1.cell? ⟨B,12,none⟩=some (.int .i64 t.bot):=h1.s.cell 12;have y4:W1.cell? ⟨B,4,none⟩=some (.int .i64 t.row):=h1.s.cell 4;have y5:W1.cell? ⟨B,5,none⟩=some (.int .i64 t.col):=h1.s.cell 5;have g1:=h1.trans (h1.s.put (sCg B [.int .i64 n1] 11 W1) { t with full:=false,top:=n1 } (sCh B 35 [.int .i64 n1] 11 W1 _ h1.s.b) rfl rfl rfl rfl rfl);have g2:=g1.trans (g1.s.put (sCg B [.int .i64 bq] 12 _) { t with full:=false,top:=n1,bot:=bq } (sCh B 35 [.int .i64 bq] 12 _ _ g1.s.b) rfl rfl rfl rfl rfl);have g3:=g2.trans (g2.s.put (sCg B [.int .i64 0] 4 _) { t with full:=false,top:=n1,bot:=bq,row:=0 } (sCh B 35 [.int .i64 0] 4 _ _ g2.s.b) rfl rfl rfl rfl rfl);have g4:=g3.trans (g3.s.put (sCg B [.int .i64 0] 5 _) { t with full:=false,top:=n1,bot:=bq,row:=0,col:=0 } (sCh B 35 [.int .i64 0] 5 _ _ g3.s.b) rfl rfl rfl rfl rfl);replace g4:=(show Hid _ from g4);clear g1 g2 g3 f1
 by_cases k1:n1<bq
 ·by_cases k2:bq<=lv
  ·have hV:listT t 114 ps={ t with full:=false,top:=n1,bot:=bq,row:=0,col:=0 }:=by
    have k3:parN ps 0 1-1<parN ps 1 (t.g.length:Int)-1/\parN ps 1 (t.g.length:Int)-1<=(t.g.length:Int)-1:=by rw [hn1.out,hq.out,hbq.out,hlv.out];exact ⟨k1,k2⟩
    rw [<- hn1.out,<- hbq.out,<- hq.out]
    simp only [listT];rw [if_pos k3]
    rfl
   rw [hV]
   clear hV;replace h1:=(show Hid _ from h1);clear h rt hbase hb1 hp1 hp hap hb hcc hmb hnb hn2 hN hlv2 r1 r2 b1 b2 b3;generalize parN ps 0 1=n at *;generalize (t.g.length:Int)=tl at *;generalize parN ps 0 0=how at *;go_enter Tryz.func144,Tryz.ntmps144;go_wp2_with fail;refine hpn.mono ?_;rintro e wk ⟨rfl,hk⟩;subst hk;clear hpn;go_wp2_with fail;refine hph.mono ?_;rintro e wk ⟨rfl,hk⟩;subst hk;clear hph;go_wp2_with fail;rw [<- hW1.out]
   refine hla.mono ?_;rintro e wk ⟨rfl,hk⟩;subst hk;go_wp2_with fail;refine hp2.mono ?_;rintro e wk ⟨rfl,hk⟩;subst hk;go_wp2_with fail;refine hla.mono ?_;rintro e wk ⟨rfl,hk⟩;subst hk;go_wp2;refine be ?_;exact ⟨rfl,_,_,_,g4.out⟩
  ·have hV:listT t 114 ps={ t with full:=false }:=by
    have k3:¬ (parN ps 0 1-1<parN ps 1 (t.g.length:Int)-1/\parN ps 1 (t.g.length:Int)-1<=(t.g.length:Int)-1):=by rw [hn1.out,hq.out,hbq.out,hlv.out];exact fun h=>k2 h.2
    simp only [listT];rw [if_neg k3]
    rfl
   rw [hV]
   clear hV;replace h1:=(show Hid _ from h1);clear h rt hbase hb1 hp1 hp hap hb hcc hmb hnb hn2 hN hlv2 r1 r2 b1 b2 b3;generalize parN ps 0 1=n at *;generalize (t.g.length:Int)=tl at *;generalize parN ps 0 0=how at *;go_enter Tryz.func144,Tryz.ntmps144;go_wp2_with fail;refine hpn.mono ?_;rintro e wk ⟨rfl,hk⟩;subst hk;clear hpn;go_wp2_with fail;refine hph.mono ?_;rintro e wk ⟨rfl,hk⟩;subst hk;clear hph;go_wp2_with fail;rw [<- hW1.out]
   refine hla.mono ?_;rintro e wk ⟨rfl,hk⟩;subst hk;go_wp2_with fail;refine hp2.mono ?_;rintro e wk ⟨rfl,hk⟩;subst hk;go_wp2_with fail;refine hla.mono ?_;rintro e wk ⟨rfl,hk⟩;subst hk;go_wp2;refine be ?_;exact ⟨rfl,_,_,_,h1.out⟩
 ·have hV:listT t 114 ps={ t with full:=false }:=by
   have k3:¬ (parN ps 0 1-1<parN ps 1 (t.g.length:Int)-1/\parN ps 1 (t.g.length:Int)-1<=(t.g.length:Int)-1):=by rw [hn1.out,hq.out,hbq.out,hlv.out];exact fun h=>k1 h.1
   simp only [listT];rw [if_neg k3]
   rfl
  rw [hV]
  clear hV;replace h1:=(show Hid _ from h1);clear h rt hbase hb1 hp1 hp hap hb hcc hmb hnb hn2 hN hlv2 r1 r2 b1 b2 b3;generalize parN ps 0 1=n at *;generalize (t.g.length:Int)=tl at *;generalize parN ps 0 0=how at *;go_enter Tryz.func144,Tryz.ntmps144;go_wp2_with fail;refine hpn.mono ?_;rintro e wk ⟨rfl,hk⟩;subst hk;clear hpn;go_wp2_with fail;refine hph.mono ?_;rintro e wk ⟨rfl,hk⟩;subst hk;clear hph;go_wp2_with fail;rw [<- hW1.out]
  refine hla.mono ?_;rintro e wk ⟨rfl,hk⟩;subst hk;go_wp2_with fail;refine hp2.mono ?_;rintro e wk ⟨rfl,hk⟩;subst hk;go_wp2;refine be ?_;exact ⟨rfl,_,_,_,h1.out⟩
theorem l7Sign_none (cn N base B:Nat) (pv:Value) (ps:List Int) (t:Te) (v:Tv) (vg vo:List Value) (w:World) (h:Scr w 35 base B [] t v vg vo) (hbase:base<=w.heap.size) (rt:RtW t cn N) (hp:SlN w pv ps) (hl:ps.length<=1000) (hap:ApF w B v vg vo pv) (hb:∀ x∈ps,0<=x/\x<=9999) (r:Int) (n65:r≠65) (n66:r≠66) (n67:r≠67) (n68:r≠68) (n71:r≠71) (n100:r≠100) (n72:r≠72) (n102:r≠102) (n74:r≠74) (n75:r≠75) (n76:r≠76) (n77:r≠77) (n64:r≠64) (n80:r≠80) (n88:r≠88) (n83:r≠83) (n84:r≠84) (n109:r≠109) (n114:r≠114) :
  Calls Tryz.prog 144 #[.pointer (some ⟨B,0,none⟩),.int .i64 r,pv] w fun e w'=>e=.returned (.tuple #[])/\∃ v' vg' vo',Res w w' 35 base B [] v vg vo (listT t r ps) v' vg' vo':=by
 have hpn:Calls Tryz.prog 211 #[pv,.int .i64 0,.int .i64 1] w (fun e w'=>e=.returned (.int .i64 (parN ps 0 1))/\w'=w):=l7Param_any pv ps 0 1 w hp hl;have hph:Calls Tryz.prog 211 #[pv,.int .i64 0,.int .i64 0] w (fun e w'=>e=.returned (.int .i64 (parN ps 0 0))/\w'=w):=l7Param_any pv ps 0 0 w hp hl;have hnb:=parN_bd hb 0 1 (by omega);have hcc:=rt.c;have c0:w.cell? ⟨B,0,none⟩=some (.int .i64 t.gc):=h.cell 0;have c4:w.cell? ⟨B,4,none⟩=some (.int .i64 t.row):=h.cell 4;have c5:w.cell? ⟨B,5,none⟩=some (.int .i64 t.col):=h.cell 5;have c13:w.cell? ⟨B,13,none⟩=some (.bool t.full):=h.cell 13;have z13:w.frozen? ⟨B,13,none⟩=false:=h.frozen 13;have h1:Res w (w.setCell ⟨B,13,none⟩ (.bool false)) 35 base B [] v vg vo { t with full:=false } v vg vo:=h.put (sCg B [.bool false] 13 w) _ (sCh B 35 [.bool false] 13 w _ h.b) rfl rfl rfl rfl rfl;have hb1:=Nat.le_trans hbase h1.g.size;have hp1:=(hp.res hap h1).1
 have hV:listT t r ps=t:=by
  unfold listT;simp only [n65,n66,n67,n68,n71,n100,n72,n102,n74,n75,n76,n77,n64,n80,n88,n83,n84,n109,n114,or_self,if_false]
 rw [hV]
 clear hV hnb hcc hp1 hb1;have h2:=h1.trans (h1.s.put (sCg B [.bool t.full] 13 _) t (sCh B 35 [.bool t.full] 13 _ _ h1.s.b) rfl rfl rfl rfl rfl);clear h1;have h1:=h2;clear h2;have q65:(r==65)=false:=by simp [n65]
 have q66:(r==66)=false:=by simp [n66]
 have q67:(r==67)=false:=by simp [n67]
 have q68:(r==68)=false:=by simp [n68]
 have q71:(r==71)=false:=by simp [n71]
 have q100:(r==100)=false:=by simp [n100]
 have q72:(r==72)=false:=by simp [n72]
 have q102:(r==102)=false:=by simp [n102]
 have q74:(r==74)=false:=by simp [n74]
 have q75:(r==75)=false:=by simp [n75]
 have q76:(r==76)=false:=by simp [n76]
 have q77:(r==77)=false:=by simp [n77]
 have q64:(r==64)=false:=by simp [n64]
 have q80:(r==80)=false:=by simp [n80]
 have q88:(r==88)=false:=by simp [n88]
 have q83:(r==83)=false:=by simp [n83]
 have q84:(r==84)=false:=by simp [n84]
 have q109:(r==109)=false:=by simp [n109]
 have q114:(r==114)=false:=by simp [n114]
 clear n65 n66 n67 n68 n71 n100 n72 n102 n74 n75 n76 n77 n64 n80 n88 n83 n84 n109 n114;replace h1:=(show Hid _ from h1);clear h rt hbase  hp hap hb;generalize parN ps 0 1=n at *;generalize parN ps 0 0=how at *;go_enter Tryz.func144,Tryz.ntmps144;go_wp2_with fail;refine hpn.mono ?_;rintro e wk ⟨rfl,hk⟩;subst hk;clear hpn;go_wp2_with fail;refine hph.mono ?_;rintro e wk ⟨rfl,hk⟩;subst hk;clear hph;go_wp2;refine be ?_;exact ⟨rfl,_,_,_,h1.out⟩
theorem l7Sign_any (cn N base B:Nat) (pv:Value) (ps:List Int) (t:Te) (v:Tv) (vg vo:List Value) (w:World) (h:Scr w 35 base B [] t v vg vo) (hbase:base<=w.heap.size) (rt:RtW t cn N) (hp:SlN w pv ps) (hl:ps.length<=1000) (hap:ApF w B v vg vo pv) (hb:∀ x∈ps,0<=x/\x<=9999) (r:Int) :
  Calls Tryz.prog 144 #[.pointer (some ⟨B,0,none⟩),.int .i64 r,pv] w fun e w'=>e=.returned (.tuple #[])/\∃ v' vg' vo',Res w w' 35 base B [] v vg vo (listT t r ps) v' vg' vo':=by
 by_cases n65:r=65
 ·subst n65;exact l7Sign_65 cn N base B pv ps t v vg vo w h hbase rt hp hl hap hb
 by_cases n66:r=66
 ·subst n66;exact l7Sign_66 cn N base B pv ps t v vg vo w h hbase rt hp hl hap hb
 by_cases n67:r=67
 ·subst n67;exact l7Sign_67 cn N base B pv ps t v vg vo w h hbase rt hp hl hap hb
 by_cases n68:r=68
 ·subst n68;exact l7Sign_68 cn N base B pv ps t v vg vo w h hbase rt hp hl hap hb
 by_cases n71:r=71
 ·subst n71;exact l7Sign_71 cn N base B pv ps t v vg vo w h hbase rt hp hl hap hb
 by_cases n100:r=100
 ·subst n100;exact l7Sign_100 cn N base B pv ps t v vg vo w h hbase rt hp hl hap hb
 by_cases n72:r=72
 ·subst n72;exact l7Sign_72 cn N base B pv ps t v vg vo w h hbase rt hp hl hap hb
 by_cases n102:r=102
 ·subst n102;exact l7Sign_102 cn N base B pv ps t v vg vo w h hbase rt hp hl hap hb
 by_cases n74:r=74
 ·subst n74;exact l7Sign_74 cn N base B pv ps t v vg vo w h hbase rt hp hl hap hb
 by_cases n75:r=75
 ·subst n75;exact l7Sign_75 cn N base B pv ps t v vg vo w h hbase rt hp hl hap hb
 by_cases n76:r=76
 ·subst n76;exact l7Sign_76 cn N base B pv ps t v vg vo w h hbase rt hp hl hap hb
 by_cases n77:r=77
 ·subst n77;exact l7Sign_77 cn N base B pv ps t v vg vo w h hbase rt hp hl hap hb
 by_cases n64:r=64
 ·subst n64;exact l7Sign_64 cn N base B pv ps t v vg vo w h hbase rt hp hl hap hb
 by_cases n80:r=80
 ·subst n80;exact l7Sign_80 cn N base B pv ps t v vg vo w h hbase rt hp hl hap hb
 by_cases n88:r=88
 ·subst n88;exact l7Sign_88 cn N base B pv ps t v vg vo w h hbase rt hp hl hap hb
 by_cases n83:r=83
 ·subst n83;exact l7Sign_83 cn N base B pv ps t v vg vo w h hbase rt hp hl hap hb
 by_cases n84:r=84
 ·subst n84;exact l7Sign_84 cn N base B pv ps t v vg vo w h hbase rt hp hl hap hb
 by_cases n109:r=109
 ·subst n109;exact l7Sign_109 cn N base B pv ps t v vg vo w h hbase rt hp hl hap hb
 by_cases n114:r=114
 ·subst n114;exact l7Sign_114 cn N base B pv ps t v vg vo w h hbase rt hp hl hap hb
 exact l7Sign_none cn N base B pv ps t v vg vo w h hbase rt hp hl hap hb r n65 n66 n67 n68 n71 n100 n72 n102 n74 n75 n76 n77 n64 n80 n88 n83 n84 n109 n114
theorem l7Do_1 (cn N base B:Nat) (pv x:Value) (ps:List Int) (r m:Int) (t:Te) (v:Tv) (vg vo:List Value) (w:World) (h:Scr w 35 base B [] t v vg vo) (hbase:base<=w.heap.size) (rk:RtK t cn N) (hp:SlN w pv ps) (hl:ps.length<=1000) (hap:ApF w B v vg vo pv) (hb:∀ y∈ps,0<=y/\y<=9999) (hxs:∃ a n c,x=.slice a n c) :
  Calls Tryz.prog 62 #[.pointer (some ⟨B,0,none⟩),.agg (acA 1 r pv m x)] w fun e w'=>e=.returned (.tuple #[])/\∃ v' vg' vo',Res w w' 35 base B [] v vg vo (printT t r) v' vg' vo':=by
 obtain ⟨xa,xn,xc,rfl⟩:=hxs;obtain ⟨W,hW⟩:∃ W,Hid (W=w.alloc (Obj.cells #[.int .i64 1,.int .i64 r,pv,.int .i64 m,.slice xa xn xc] 37)):=⟨_,rfl⟩;have hb0:Below w.heap.size w W:=by rw [hW.out];exact bal' _ _
 have hof:=Res.of_below h hb0;have hbw:=Nat.le_trans hbase hb0.size;have hpW:=hp.below hb0;have haW:=hap.mono hb0.size;have rt:=rk.w;have hcl:=l7Print_any cn N base B t v vg vo W hof.s hbw rk r;obtain ⟨pa,pn,pc,rfl⟩:∃ a n c,pv=.slice a n c:=by obtain ⟨a,c,e⟩:=hp.shp;exact ⟨a,_,c,e⟩
 replace hof:=(show Hid _ from hof);clear h hbase rk hp hap hbw hpW haW rt hb0 hb;unfold acA;go_enter Tryz.func62,Tryz.ntmps62;go_wp2_with fail;rw [<- hW.out]
 refine hcl.mono ?_;rintro e w2 ⟨rfl,v2,g2,o2,hR⟩;have hF:=(show Hid _ from hof.out.trans hR);clear hcl hR hof;go_wp2;refine be ?_;exact ⟨rfl,_,_,_,hF.out⟩
theorem l7Do_2 (cn N base B:Nat) (pv x:Value) (ps:List Int) (r m:Int) (t:Te) (v:Tv) (vg vo:List Value) (w:World) (h:Scr w 35 base B [] t v vg vo) (hbase:base<=w.heap.size) (rk:RtK t cn N) (hp:SlN w pv ps) (hl:ps.length<=1000) (hap:ApF w B v vg vo pv) (hb:∀ y∈ps,0<=y/\y<=9999) (hxs:∃ a n c,x=.slice a n c) :
  Calls Tryz.prog 62 #[.pointer (some ⟨B,0,none⟩),.agg (acA 2 r pv m x)] w fun e w'=>e=.returned (.tuple #[])/\∃ v' vg' vo',Res w w' 35 base B [] v vg vo (controlT t r) v' vg' vo':=by
 obtain ⟨xa,xn,xc,rfl⟩:=hxs;obtain ⟨W,hW⟩:∃ W,Hid (W=w.alloc (Obj.cells #[.int .i64 2,.int .i64 r,pv,.int .i64 m,.slice xa xn xc] 37)):=⟨_,rfl⟩;have hb0:Below w.heap.size w W:=by rw [hW.out];exact bal' _ _
 have hof:=Res.of_below h hb0;have hbw:=Nat.le_trans hbase hb0.size;have hpW:=hp.below hb0;have haW:=hap.mono hb0.size;have rt:=rk.w;have hcl:=l7Control_any cn N base B t v vg vo W hof.s hbw rt r;obtain ⟨pa,pn,pc,rfl⟩:∃ a n c,pv=.slice a n c:=by obtain ⟨a,c,e⟩:=hp.shp;exact ⟨a,_,c,e⟩
 replace hof:=(show Hid _ from hof);clear h hbase rk hp hap hbw hpW haW rt hb0 hb;unfold acA;go_enter Tryz.func62,Tryz.ntmps62;go_wp2_with fail;rw [<- hW.out]
 refine hcl.mono ?_;rintro e w2 ⟨rfl,v2,g2,o2,hR⟩;have hF:=(show Hid _ from hof.out.trans hR);clear hcl hR hof;go_wp2;refine be ?_;exact ⟨rfl,_,_,_,hF.out⟩
theorem l7Do_3 (cn N base B:Nat) (pv x:Value) (ps:List Int) (r m:Int) (t:Te) (v:Tv) (vg vo:List Value) (w:World) (h:Scr w 35 base B [] t v vg vo) (hbase:base<=w.heap.size) (rk:RtK t cn N) (hp:SlN w pv ps) (hl:ps.length<=1000) (hap:ApF w B v vg vo pv) (hb:∀ y∈ps,0<=y/\y<=9999) (hxs:∃ a n c,x=.slice a n c) :
  Calls Tryz.prog 62 #[.pointer (some ⟨B,0,none⟩),.agg (acA 3 r pv m x)] w fun e w'=>e=.returned (.tuple #[])/\∃ v' vg' vo',Res w w' 35 base B [] v vg vo (escapeT t r) v' vg' vo':=by
 obtain ⟨xa,xn,xc,rfl⟩:=hxs;obtain ⟨W,hW⟩:∃ W,Hid (W=w.alloc (Obj.cells #[.int .i64 3,.int .i64 r,pv,.int .i64 m,.slice xa xn xc] 37)):=⟨_,rfl⟩;have hb0:Below w.heap.size w W:=by rw [hW.out];exact bal' _ _
 have hof:=Res.of_below h hb0;have hbw:=Nat.le_trans hbase hb0.size;have hpW:=hp.below hb0;have haW:=hap.mono hb0.size;have rt:=rk.w;have hcl:=l7Escape_any cn N base B t v vg vo W hof.s hbw rt r;obtain ⟨pa,pn,pc,rfl⟩:∃ a n c,pv=.slice a n c:=by obtain ⟨a,c,e⟩:=hp.shp;exact ⟨a,_,c,e⟩
 replace hof:=(show Hid _ from hof);clear h hbase rk hp hap hbw hpW haW rt hb0 hb;unfold acA;go_enter Tryz.func62,Tryz.ntmps62;go_wp2_with fail;rw [<- hW.out]
 refine hcl.mono ?_;rintro e w2 ⟨rfl,v2,g2,o2,hR⟩;have hF:=(show Hid _ from hof.out.trans hR);clear hcl hR hof;go_wp2;refine be ?_;exact ⟨rfl,_,_,_,hF.out⟩
theorem l7Do_4s (cn N base B:Nat) (pv x:Value) (ps:List Int) (r m:Int) (t:Te) (v:Tv) (vg vo:List Value) (w:World) (h:Scr w 35 base B [] t v vg vo) (hbase:base<=w.heap.size) (rk:RtK t cn N) (hp:SlN w pv ps) (hl:ps.length<=1000) (hap:ApF w B v vg vo pv) (hb:∀ y∈ps,0<=y/\y<=9999) (hxs:∃ a n c,x=.slice a n c) (hm:m=0) :
  Calls Tryz.prog 62 #[.pointer (some ⟨B,0,none⟩),.agg (acA 4 r pv m x)] w fun e w'=>e=.returned (.tuple #[])/\∃ v' vg' vo',Res w w' 35 base B [] v vg vo (listT t r ps) v' vg' vo':=by
 obtain ⟨xa,xn,xc,rfl⟩:=hxs;obtain ⟨W,hW⟩:∃ W,Hid (W=w.alloc (Obj.cells #[.int .i64 4,.int .i64 r,pv,.int .i64 m,.slice xa xn xc] 37)):=⟨_,rfl⟩;have hb0:Below w.heap.size w W:=by rw [hW.out];exact bal' _ _
 have hof:=Res.of_below h hb0;have hbw:=Nat.le_trans hbase hb0.size;have hpW:=hp.below hb0;have haW:=hap.mono hb0.size;have rt:=rk.w;have hcl:=l7Sign_any cn N base B pv ps t v vg vo W hof.s hbw rt hpW hl haW hb r;obtain ⟨pa,pn,pc,rfl⟩:∃ a n c,pv=.slice a n c:=by obtain ⟨a,c,e⟩:=hp.shp;exact ⟨a,_,c,e⟩
 replace hof:=(show Hid _ from hof);clear h hbase rk hp hap hbw hpW haW rt hb0 hb;subst hm;unfold acA;go_enter Tryz.func62,Tryz.ntmps62;go_wp2_with fail;rw [<- hW.out]
 refine hcl.mono ?_;rintro e w2 ⟨rfl,v2,g2,o2,hR⟩;have hF:=(show Hid _ from hof.out.trans hR);clear hcl hR hof;go_wp2;refine be ?_;exact ⟨rfl,_,_,_,hF.out⟩
theorem l7Do_4h (cn N base B:Nat) (pv x:Value) (ps:List Int) (r m:Int) (t:Te) (v:Tv) (vg vo:List Value) (w:World) (h:Scr w 35 base B [] t v vg vo) (hbase:base<=w.heap.size) (rk:RtK t cn N) (hp:SlN w pv ps) (hl:ps.length<=1000) (hap:ApF w B v vg vo pv) (hb:∀ y∈ps,0<=y/\y<=9999) (hxs:∃ a n c,x=.slice a n c) (hm:¬ m=0) (hr:r=104) :
  Calls Tryz.prog 62 #[.pointer (some ⟨B,0,none⟩),.agg (acA 4 r pv m x)] w fun e w'=>e=.returned (.tuple #[])/\∃ v' vg' vo',Res w w' 35 base B [] v vg vo (ps.foldl (modeT true) t) v' vg' vo':=by
 obtain ⟨xa,xn,xc,rfl⟩:=hxs;obtain ⟨W,hW⟩:∃ W,Hid (W=w.alloc (Obj.cells #[.int .i64 4,.int .i64 r,pv,.int .i64 m,.slice xa xn xc] 37)):=⟨_,rfl⟩;have hb0:Below w.heap.size w W:=by rw [hW.out];exact bal' _ _
 have hof:=Res.of_below h hb0;have hbw:=Nat.le_trans hbase hb0.size;have hpW:=hp.below hb0;have haW:=hap.mono hb0.size;have rt:=rk.w;have hcl:=l7Mode_any cn N base B pv ps true t v vg vo W hof.s hbw rk hpW hl haW;obtain ⟨pa,pn,pc,rfl⟩:∃ a n c,pv=.slice a n c:=by obtain ⟨a,c,e⟩:=hp.shp;exact ⟨a,_,c,e⟩
 replace hof:=(show Hid _ from hof);clear h hbase rk hp hap hbw hpW haW rt hb0 hb;subst hr;have qm:(m==0)=false:=by simp [hm]
 unfold acA;go_enter Tryz.func62,Tryz.ntmps62;go_wp2_with fail;rw [<- hW.out]
 refine hcl.mono ?_;rintro e w2 ⟨rfl,v2,g2,o2,hR⟩;have hF:=(show Hid _ from hof.out.trans hR);clear hcl hR hof;go_wp2;refine be ?_;exact ⟨rfl,_,_,_,hF.out⟩
theorem l7Do_4l (cn N base B:Nat) (pv x:Value) (ps:List Int) (r m:Int) (t:Te) (v:Tv) (vg vo:List Value) (w:World) (h:Scr w 35 base B [] t v vg vo) (hbase:base<=w.heap.size) (rk:RtK t cn N) (hp:SlN w pv ps) (hl:ps.length<=1000) (hap:ApF w B v vg vo pv) (hb:∀ y∈ps,0<=y/\y<=9999) (hxs:∃ a n c,x=.slice a n c) (hm:¬ m=0) (hr:r=108) :
  Calls Tryz.prog 62 #[.pointer (some ⟨B,0,none⟩),.agg (acA 4 r pv m x)] w fun e w'=>e=.returned (.tuple #[])/\∃ v' vg' vo',Res w w' 35 base B [] v vg vo (ps.foldl (modeT false) t) v' vg' vo':=by
 obtain ⟨xa,xn,xc,rfl⟩:=hxs;obtain ⟨W,hW⟩:∃ W,Hid (W=w.alloc (Obj.cells #[.int .i64 4,.int .i64 r,pv,.int .i64 m,.slice xa xn xc] 37)):=⟨_,rfl⟩;have hb0:Below w.heap.size w W:=by rw [hW.out];exact bal' _ _
 have hof:=Res.of_below h hb0;have hbw:=Nat.le_trans hbase hb0.size;have hpW:=hp.below hb0;have haW:=hap.mono hb0.size;have rt:=rk.w;have hcl:=l7Mode_any cn N base B pv ps false t v vg vo W hof.s hbw rk hpW hl haW;obtain ⟨pa,pn,pc,rfl⟩:∃ a n c,pv=.slice a n c:=by obtain ⟨a,c,e⟩:=hp.shp;exact ⟨a,_,c,e⟩
 replace hof:=(show Hid _ from hof);clear h hbase rk hp hap hbw hpW haW rt hb0 hb;subst hr;have qm:(m==0)=false:=by simp [hm]
 unfold acA;go_enter Tryz.func62,Tryz.ntmps62;go_wp2_with fail;rw [<- hW.out]
 refine hcl.mono ?_;rintro e w2 ⟨rfl,v2,g2,o2,hR⟩;have hF:=(show Hid _ from hof.out.trans hR);clear hcl hR hof;go_wp2;refine be ?_;exact ⟨rfl,_,_,_,hF.out⟩
theorem l7Do_4n (cn N base B:Nat) (pv x:Value) (ps:List Int) (r m:Int) (t:Te) (v:Tv) (vg vo:List Value) (w:World) (h:Scr w 35 base B [] t v vg vo) (hbase:base<=w.heap.size) (rk:RtK t cn N) (hp:SlN w pv ps) (hl:ps.length<=1000) (hap:ApF w B v vg vo pv) (hb:∀ y∈ps,0<=y/\y<=9999) (hxs:∃ a n c,x=.slice a n c) (hm:¬ m=0) (h1:¬ r=104) (h2:¬ r=108) :
  Calls Tryz.prog 62 #[.pointer (some ⟨B,0,none⟩),.agg (acA 4 r pv m x)] w fun e w'=>e=.returned (.tuple #[])/\∃ v' vg' vo',Res w w' 35 base B [] v vg vo t v' vg' vo':=by
 obtain ⟨xa,xn,xc,rfl⟩:=hxs;obtain ⟨W,hW⟩:∃ W,Hid (W=w.alloc (Obj.cells #[.int .i64 4,.int .i64 r,pv,.int .i64 m,.slice xa xn xc] 37)):=⟨_,rfl⟩;have hb0:Below w.heap.size w W:=by rw [hW.out];exact bal' _ _
 have hof:=Res.of_below h hb0;have hbw:=Nat.le_trans hbase hb0.size;have hpW:=hp.below hb0;have haW:=hap.mono hb0.size;have rt:=rk.w;obtain ⟨pa,pn,pc,rfl⟩:∃ a n c,pv=.slice a n c:=by obtain ⟨a,c,e⟩:=hp.shp;exact ⟨a,_,c,e⟩
 replace hof:=(show Hid _ from hof);clear h hbase rk hp hap hbw hpW haW rt hb0 hb;have qm:(m==0)=false:=by simp [hm]
 have q1:(r==104)=false:=by simp [h1]
 have q2:(r==108)=false:=by simp [h2]
 unfold acA;go_enter Tryz.func62,Tryz.ntmps62;go_wp2;rw [<- hW.out]
 refine be ?_;exact ⟨rfl,_,_,_,hof.out⟩
theorem l7Do_none (cn N base B:Nat) (pv x:Value) (ps:List Int) (r m:Int) (t:Te) (v:Tv) (vg vo:List Value) (w:World) (h:Scr w 35 base B [] t v vg vo) (hbase:base<=w.heap.size) (rk:RtK t cn N) (hp:SlN w pv ps) (hl:ps.length<=1000) (hap:ApF w B v vg vo pv) (hb:∀ y∈ps,0<=y/\y<=9999) (hxs:∃ a n c,x=.slice a n c) (k:Int) (n1:¬ k=1) (n2:¬ k=2) (n3:¬ k=3) (n4:¬ k=4) (n5:¬ k=5) :
  Calls Tryz.prog 62 #[.pointer (some ⟨B,0,none⟩),.agg (acA k r pv m x)] w fun e w'=>e=.returned (.tuple #[])/\∃ v' vg' vo',Res w w' 35 base B [] v vg vo t v' vg' vo':=by
 obtain ⟨xa,xn,xc,rfl⟩:=hxs;obtain ⟨W,hW⟩:∃ W,Hid (W=w.alloc (Obj.cells #[.int .i64 k,.int .i64 r,pv,.int .i64 m,.slice xa xn xc] 37)):=⟨_,rfl⟩;have hb0:Below w.heap.size w W:=by rw [hW.out];exact bal' _ _
 have hof:=Res.of_below h hb0;have hbw:=Nat.le_trans hbase hb0.size;have hpW:=hp.below hb0;have haW:=hap.mono hb0.size;have rt:=rk.w;obtain ⟨pa,pn,pc,rfl⟩:∃ a n c,pv=.slice a n c:=by obtain ⟨a,c,e⟩:=hp.shp;exact ⟨a,_,c,e⟩
 replace hof:=(show Hid _ from hof);clear h hbase rk hp hap hbw hpW haW rt hb0 hb;have q1:(k==1)=false:=by simp [n1]
 have q2:(k==2)=false:=by simp [n2]
 have q3:(k==3)=false:=by simp [n3]
 have q4:(k==4)=false:=by simp [n4]
 have q5:(k==5)=false:=by simp [n5]
 unfold acA;go_enter Tryz.func62,Tryz.ntmps62;go_wp2;rw [<- hW.out]
 refine be ?_;exact ⟨rfl,_,_,_,hof.out⟩
theorem l7Do_5 (cn N base B:Nat) (pv x:Value) (ps:List Int) (r m:Int) (t:Te) (v:Tv) (vg vo:List Value) (w:World) (h:Scr w 35 base B [] t v vg vo) (hbase:base<=w.heap.size) (rk:RtK t cn N) (hp:SlN w pv ps) (hl:ps.length<=1000) (hap:ApF w B v vg vo pv) (hb:∀ y∈ps,0<=y/\y<=9999) (xs:List Int) (hx:SlN w x xs) (hxl:xs.length<=1000) :
  Calls Tryz.prog 62 #[.pointer (some ⟨B,0,none⟩),.agg (acA 5 r pv m x)] w fun e w'=>e=.returned (.tuple #[])/\∃ v' vg' vo',Res w w' 35 base B [] v vg vo { t with ti:=xs } v' vg' vo':=by
 obtain ⟨W,hW⟩:∃ W,Hid (W=w.alloc (Obj.cells #[.int .i64 5,.int .i64 r,pv,.int .i64 m,x] 37)):=⟨_,rfl⟩;have hb0:Below w.heap.size w W:=by rw [hW.out];exact bal' _ _
 have hof:=Res.of_below h hb0;have hbw:=Nat.le_trans hbase hb0.size;have hpW:=hp.below hb0;have haW:=hap.mono hb0.size;have rt:=rk.w;have hxW:=hx.below hb0;have hxl2:xs.length<=1073741824:=by omega
 obtain ⟨ta,tc,hti⟩:=(SlN.of_own h.o.2.2.2.head).shp;obtain ⟨pa,pn,pc,rfl⟩:∃ a n c,pv=.slice a n c:=by obtain ⟨a,c,e⟩:=hp.shp;exact ⟨a,_,c,e⟩
 replace hof:=(show Hid _ from hof);clear h hbase rk hp hap hpW haW rt hb hx;have hA0:W.cell? ⟨w.heap.size,0,none⟩=some (.int .i64 5):=by rw [hW.out];exact cAl (heap_alloc_new w _) 0
 have hA4:W.cell? ⟨w.heap.size,4,none⟩=some x:=by rw [hW.out];exact cAl (heap_alloc_new w _) 4
 have hbx:w.heap.size<W.heap.size:=by rw [hW.out];simp
 replace hxl2:=(show Hid _ from hxl2);replace hxW:=(show Hid _ from hxW);clear hxl hl;unfold acA;go_enter Tryz.func62,Tryz.ntmps62;refine wp_seq_k (fun K hK=>?_);have hH:=(show Hid _ from hK);clear hK;go_wp2;refine hH.out _ _ ?_;rw [<- hW.out]
 clear hH hW;refine wp_seq_k (fun K hK=>?_);have hH:=(show Hid _ from hK);clear hK;go_wp2;refine hH.out _ _ ?_;clear hH;refine wp_block ?_;refine wp_seq_k (fun K hK=>?_);have hH:=(show Hid _ from hK);clear hK;go_wp2;refine hH.out _ _ ?_;clear hH;refine wp_cond_false (by rfl) ?_;refine wp_seq_k (fun K hK=>?_);have hH:=(show Hid _ from hK);clear hK;go_wp2;refine hH.out _ _ ?_;clear hH;refine wp_cond_false (by rfl) ?_;refine wp_seq_k (fun K hK=>?_);have hH:=(show Hid _ from hK);clear hK;go_wp2;refine hH.out _ _ ?_;clear hH;refine wp_cond_false (by rfl) ?_;refine wp_seq_k (fun K hK=>?_);have hH:=(show Hid _ from hK);clear hK;go_wp2;refine hH.out _ _ ?_;clear hH;refine wp_cond_false (by rfl) ?_;refine wp_seq_k (fun K hK=>?_);have hH:=(show Hid _ from hK);clear hK;go_wp2;refine hH.out _ _ ?_;clear hH;refine wp_cond_true (by rfl) ?_;go_wp2_with (refine copy_g (by rfl) _ _ (by rfl) W.heap.size rfl _ xs (by rfl) hxW.out hxl2.out (by rfl) ?_;intro u w1 hu hb1;obtain ⟨ua,uc,hue⟩:=(SlN.of_own hu).shp;subst hue;have hs1:=hof.out.s.below hb1;have c24:w1.cell? ⟨B,24,none⟩=some (.slice ta t.ti.length tc):=(by rw [hs1.cell 24];show some v.ti=_;rw [hti]);have z24:w1.frozen? ⟨B,24,none⟩=false:=hs1.frozen 24;have hR:=(show Hid (Res w (w1.setCell ⟨B,24,none⟩ (.slice ua xs.length uc)) 35 base B [] v vg vo { t with ti:=xs } ⟨v.g,v.o,.slice ua xs.length uc,v.pp,v.pt⟩ vg vo) from hof.out.trans (hof.out.s.title hbw hb1 _ xs hu (sCg B [.slice ua xs.length uc] 24 w1) (sCh B 35 [.slice ua xs.length uc] 24 w1 _ hs1.b)));clear hof hu hb1 hs1 hbw hti hxW);refine be ?_;exact ⟨rfl,_,_,_,hR.out⟩
theorem l7Do_any (cn N base B:Nat) (pv x:Value) (ps:List Int) (r m:Int) (t:Te) (v:Tv) (vg vo:List Value) (w:World) (h:Scr w 35 base B [] t v vg vo) (hbase:base<=w.heap.size) (rk:RtK t cn N) (hp:SlN w pv ps) (hl:ps.length<=1000) (hap:ApF w B v vg vo pv) (hb:∀ y∈ps,0<=y/\y<=9999) (xs:List Int) (hx:SlN w x xs) (hxl:xs.length<=1000) (k:Int) :
  Calls Tryz.prog 62 #[.pointer (some ⟨B,0,none⟩),.agg (acA k r pv m x)] w fun e w'=>e=.returned (.tuple #[])/\∃ v' vg' vo',Res w w' 35 base B [] v vg vo (doT t ⟨k,r,ps,m,xs⟩) v' vg' vo':=by
 have hxs:∃ a n c,x=.slice a n c:=by obtain ⟨a,c,e⟩:=hx.shp;exact ⟨a,_,c,e⟩
 by_cases n1:k=1
 ·subst n1;exact l7Do_1 cn N base B pv x ps r m t v vg vo w h hbase rk hp hl hap hb hxs
 by_cases n2:k=2
 ·subst n2;exact l7Do_2 cn N base B pv x ps r m t v vg vo w h hbase rk hp hl hap hb hxs
 by_cases n3:k=3
 ·subst n3;exact l7Do_3 cn N base B pv x ps r m t v vg vo w h hbase rk hp hl hap hb hxs
 by_cases n4:k=4
 ·subst n4
  by_cases hm:m=0
  ·have hV:doT t ⟨4,r,ps,m,xs⟩=listT t r ps:=by simp [doT,hm]
   rw [hV];exact l7Do_4s cn N base B pv x ps r m t v vg vo w h hbase rk hp hl hap hb hxs hm
  ·by_cases h1:r=104
   ·have hV:doT t ⟨4,r,ps,m,xs⟩=ps.foldl (modeT true) t:=by simp [doT,hm,h1]
    rw [hV];exact l7Do_4h cn N base B pv x ps r m t v vg vo w h hbase rk hp hl hap hb hxs hm h1
   ·by_cases h2:r=108
    ·have hV:doT t ⟨4,r,ps,m,xs⟩=ps.foldl (modeT false) t:=by simp [doT,hm,h2]
     rw [hV];exact l7Do_4l cn N base B pv x ps r m t v vg vo w h hbase rk hp hl hap hb hxs hm h2
    ·have hV:doT t ⟨4,r,ps,m,xs⟩=t:=by simp [doT,hm,h1,h2]
     rw [hV];exact l7Do_4n cn N base B pv x ps r m t v vg vo w h hbase rk hp hl hap hb hxs hm h1 h2
 by_cases n5:k=5
 ·subst n5;exact l7Do_5 cn N base B pv x ps r m t v vg vo w h hbase rk hp hl hap hb xs hx hxl
 have hV:doT t ⟨k,r,ps,m,xs⟩=t:=by simp [doT,n1,n2,n3,n4,n5]
 rw [hV];exact l7Do_none cn N base B pv x ps r m t v vg vo w h hbase rk hp hl hap hb hxs k n1 n2 n3 n4 n5
theorem specDo_any (t:Te) (v:Tv) (a:Ac) (pv x:Value) (w:World) (h:SlT w t v) (hz:SzT 1048576 t) (hp:SlN w pv a.params) (hx:SlN w x a.text) (hl:a.params.length<=1048576) (ht:a.text.length<=1048576) (hpb:∀ g,pv.ownBlock=some g->g<w.heap.size) :
  Calls Tryz.prog 17 #[.agg (teCs t v),.agg (acA a.kind a.rune pv a.mark x)] w fun e w'=>∃ v' vg vo,e=.returned (.agg (teCs (doR t a) v'))/\OwnS w' w.heap.size (doR t a) v' vg vo/\Below w.heap.size w w':=by
 obtain ⟨Rt,eR⟩:∃ R,Hid (doR t a=R):=⟨_,rfl⟩;rw [eR.out]
 obtain ⟨w3,hw3⟩:∃ w3,w3=((w.alloc (Obj.cells (teCs t v) 35)).alloc (Obj.cells (acA a.kind a.rune pv a.mark x) 37)).alloc (Obj.cells #[.int .i64 0,.slice none 0 0,.int .i64 0,.slice none 0 0,.int .i64 0,.int .i64 0,.int .i64 0,.int .i64 0,.bool false,.bool false,.bool false,.int .i64 0,.int .i64 0,.bool false,.bool false,.bool false,.bool false,.int .i64 0,.int .i64 0,.int .i64 0,.int .i64 0,.bool false,.bool false,.bool false,.slice none 0 0,.int .i64 0,.slice none 0 0,.int .i64 0,.slice none 0 0,.string ⟨#[]⟩] 35):=⟨_,rfl⟩;have b1:=bal' w (Obj.cells (teCs t v) 35);have b2:=bal' (w.alloc (Obj.cells (teCs t v) 35)) (Obj.cells (acA a.kind a.rune pv a.mark x) 37);have b3:=bal' ((w.alloc (Obj.cells (teCs t v) 35)).alloc (Obj.cells (acA a.kind a.rune pv a.mark x) 37)) (Obj.cells #[.int .i64 0,.slice none 0 0,.int .i64 0,.slice none 0 0,.int .i64 0,.int .i64 0,.int .i64 0,.int .i64 0,.bool false,.bool false,.bool false,.int .i64 0,.int .i64 0,.bool false,.bool false,.bool false,.bool false,.int .i64 0,.int .i64 0,.int .i64 0,.int .i64 0,.bool false,.bool false,.bool false,.slice none 0 0,.int .i64 0,.slice none 0 0,.int .i64 0,.slice none 0 0,.string ⟨#[]⟩] 35);have hX:=((TeB.new w 35 t v).below b2).below b3;have hA:=BlkC.below (BlkC.new (w.alloc (Obj.cells (teCs t v) 35)) 37 (acA a.kind a.rune pv a.mark x).toList) b3;have hR:=TB.new ((w.alloc (Obj.cells (teCs t v) 35)).alloc (Obj.cells (acA a.kind a.rune pv a.mark x) 37)) [.int .i64 0,.slice none 0 0,.int .i64 0,.slice none 0 0,.int .i64 0,.int .i64 0,.int .i64 0,.int .i64 0,.bool false,.bool false,.bool false,.int .i64 0,.int .i64 0,.bool false,.bool false,.bool false,.bool false,.int .i64 0,.int .i64 0,.int .i64 0,.int .i64 0,.bool false,.bool false,.bool false,.slice none 0 0,.int .i64 0,.slice none 0 0,.int .i64 0,.slice none 0 0,.string ⟨#[]⟩];have z1:(w.alloc (Obj.cells (teCs t v) 35)).heap.size=w.heap.size+1:=by simp
 have z2:((w.alloc (Obj.cells (teCs t v) 35)).alloc (Obj.cells (acA a.kind a.rune pv a.mark x) 37)).heap.size=w.heap.size+2:=by simp
 have kb:=(b1.trans (b2.mono b1.size)).trans (b3.mono (b1.trans (b2.mono b1.size)).size);rw [z1] at hA
 rw [z2] at hR
 rw [<- hw3] at kb
 replace hX:TeB w3 w.heap.size 35 t v:=by rw [hw3];exact hX
 replace hA:BlkC w3 (w.heap.size+1) 37 [.int .i64 a.kind,.int .i64 a.rune,pv,.int .i64 a.mark,x]:=by rw [hw3];exact hA
 replace hR:TB w3 (w.heap.size+2) [.int .i64 0,.slice none 0 0,.int .i64 0,.slice none 0 0,.int .i64 0,.int .i64 0,.int .i64 0,.int .i64 0,.bool false,.bool false,.bool false,.int .i64 0,.int .i64 0,.bool false,.bool false,.bool false,.bool false,.int .i64 0,.int .i64 0,.int .i64 0,.int .i64 0,.bool false,.bool false,.bool false,.slice none 0 0,.int .i64 0,.slice none 0 0,.int .i64 0,.slice none 0 0,.string ⟨#[]⟩]:=by rw [hw3];exact hR
 replace hw3:=(show Hid _ from hw3);have hT:=specTermOk_any t v w3 (h.below kb) hz;obtain ⟨bT,eT⟩:∃ b,Hid (termOkB t=b):=⟨_,rfl⟩;rw [eT.out] at hT
 unfold teV at hT;unfold acA at hw3 ⊢
 clear b1 b2 b3 z1 z2;go_enter Tryz.func17,Tryz.ntmps17;refine wp_seq_k (fun K hK=>?_);have hH:=(show Hid _ from hK);clear hK;go_wp2;refine hH.out _ _ ?_;rw [<- hw3.out]
 clear hH hw3;go_wp2_with (refine load_te hX (by rfl) _ (by rfl) (by rfl) ?_);refine hT.mono ?_;rintro e w4 ⟨rfl,hb⟩;clear hT;replace kb:=kb.trans (hb.mono kb.size);replace hX:=hX.below hb;replace hA:=hA.below hb;replace hR:=BlkC.below hR hb;clear hb
 cases bT
 case false =>
  obtain rfl:Rt=teZ:=by rw [<- eR.out];unfold doR;rw [if_neg (by rw [eT.out];simp)]
  clear hX hA hp hx;go_wp2_with (refine store_T (cs:=(teCs teZ (tvN (.slice none 0 0) (.slice none 0 0)))) (by rfl) 35 _ _ (by rfl) info_te (by rfl) (by rfl) hR (by rfl) (by rfl) ?_;intro w5 hg hR5 hz5);have hO:=RgT.own (show RgT w5 w.heap.size w.heap.size w.heap.size w.heap.size teZ (tvN (.slice none 0 0) (.slice none 0 0)) from ⟨ownR_none w5 _ (by have:=kb.size;omega),ownR_none w5 _ (by have:=kb.size;omega),(LiOk.nil _ _).nilc.nilc.nilc,Nat.le_refl _,Nat.le_refl _,Nat.le_refl _,by have:=kb.size;omega⟩);obtain ⟨vg,vo,hO⟩:=hO;exact bodyPost_ret (v:=.agg (teCs teZ (tvN (.slice none 0 0) (.slice none 0 0)))) (results_cell_row Tryz.results17 _ _ _ _ _ _ _ rfl hR5 Tryz.underlying35 rfl info_te) rfl ⟨_,vg,vo,rfl,hO,kb.grown hg kb.size (fun g e=>by cases e;omega)⟩
 have hok:=eT.out;have rk:=rtK_of hok;obtain ⟨gc0,_,_,_,_,_,hRt⟩:=termOk_sizes hok;have hsc:=l7Copy_any t v w4 (h.below kb) hRt;go_wp2_with (refine load_te hX (by rfl) _ (by rfl) (by rfl) ?_);refine hsc.mono ?_;rintro e w5 ⟨v5,rfl,hO5,hb⟩;have hz4:w.heap.size+3<=w4.heap.size:=by have:=BlkC.lt hR;omega
 have kb4:=kb;replace kb:=kb.trans (hb.mono kb.size);replace hA:=hA.below hb;replace hR:=BlkC.below hR hb;have hb5:=hb.size;have hone5:=hO5.sl.one;obtain ⟨b1,b2,b3,hOr⟩:=hO5;obtain ⟨vg5,vo5,hO5⟩:=RgT.own hOr;clear hX hsc hb hOr;go_wp2_with (refine store_T (cs:=teCs t v5) (by rfl) 35 _ _ (by rfl) info_te (by rfl) hone5 (heap_alloc_new w5 _) (by rfl) (by rfl) ?_;intro W5 hg5 hSB hz5;refine Classical.byContradiction (fun hcon=>?_);have hcon:=(show Hid _ from hcon));have bA5:=bal' w5 (Obj.cells #[.int .i64 0,.slice none 0 0,.int .i64 0,.slice none 0 0,.int .i64 0,.int .i64 0,.int .i64 0,.int .i64 0,.bool false,.bool false,.bool false,.int .i64 0,.int .i64 0,.bool false,.bool false,.bool false,.bool false,.int .i64 0,.int .i64 0,.int .i64 0,.int .i64 0,.bool false,.bool false,.bool false,.slice none 0 0,.int .i64 0,.slice none 0 0,.int .i64 0,.slice none 0 0,.string ⟨#[]⟩] 35);have hO5:=(hO5.below bA5).grown hg5 (heap_alloc_new w5 _) (by decide) (by decide) (by decide);have hS5:=(show Hid (Scr W5 35 w4.heap.size w5.heap.size [] t v5 vg5 vo5) from ⟨hSB,hO5,by decide,by decide,by decide,hb5⟩);have kb5:=(kb.trans (bA5.mono kb.size)).grown hg5 (Nat.le_trans kb.size bA5.size) (fun g e=>by cases e;exact kb.size);have hA5:=BlkC.kept (hA.below bA5) hg5 (fun e=>by have:=Option.some.inj e;have:=hz4;omega);have hR5:=BlkC.kept (BlkC.below hR bA5) hg5 (fun e=>by have:=Option.some.inj e;have:=hz4;omega);have d0:W5.cell? ⟨w.heap.size+1,0,none⟩=some (.int .i64 a.kind):=cAl hA5 0;have d1:W5.cell? ⟨w.heap.size+1,1,none⟩=some (.int .i64 a.rune):=cAl hA5 1;have d2:W5.cell? ⟨w.heap.size+1,2,none⟩=some pv:=cAl hA5 2;have d3:W5.cell? ⟨w.heap.size+1,3,none⟩=some (.int .i64 a.mark):=cAl hA5 3;have d4:W5.cell? ⟨w.heap.size+1,4,none⟩=some x:=cAl hA5 4;clear hO5 bA5 hg5 hSB hone5 hz5 kb hA hR;refine hcon.out ?_;clear hcon;go_wp2_with fail;have hScr:=hS5.out;have hao:=l7ActionOk_any a.kind a.rune a.mark pv x a.params a.text W5 (hp.below kb5) (hx.below kb5) hl ht;obtain ⟨bA,eA⟩:∃ b,Hid (actB a=b):=⟨_,rfl⟩;rw [show actB ⟨a.kind,a.rune,a.params,a.mark,a.text⟩=bA from eA.out] at hao
 unfold acA at hao;refine hao.mono ?_;rintro e w6 ⟨rfl,hb⟩;clear d0 d1 d2 d3 d4 hao hS5;have kb:=kb5.trans (hb.mono kb5.size);have hA:=BlkC.below hA5 hb;have hR:=BlkC.below hR5 hb;replace hScr:=hScr.below hb;have hlt:=hScr.lt;have hbs6:w4.heap.size<=w6.heap.size:=by omega
 clear hb kb5 hA5 hR5
 cases bA
 case false =>
  obtain rfl:t=Rt:=by
   symm
   rw [<- eR.out];unfold doR;rw [if_pos hok,if_neg (by rw [eA.out];simp)]
  have hTB:=show TeB w6 w5.heap.size 35 t v5 from hScr.b
  have hone:=hScr.o.sl.one;have hO7:=hScr.o;clear hScr eA hp hx hA;go_wp2_with (first|refine load_te hTB (by rfl) _ (by rfl) (by rfl) ?_|(refine store_T (cs:=teCs t v5) (by rfl) 35 _ _ (by rfl) info_te (by rfl) hone hR (by rfl) (by rfl) ?_;intro w9 hg9 hR9 hz9));have hO9:=(hO7.grown hg9 hR (by decide) (by decide) (by decide)).low (show w.heap.size<=w4.heap.size by have:=kb4.size;omega);exact bodyPost_ret (v:=.agg (teCs t _)) (results_cell_row Tryz.results17 _ _ _ _ _ _ _ rfl hR9 Tryz.underlying35 rfl info_te) rfl ⟨_,_,_,rfl,hO9,kb.grown hg9 kb.size (fun g e=>by cases e;omega)⟩
 have hac:=eA.out;obtain rfl:Rt=doT t a:=by rw [<- eR.out];unfold doR;rw [if_pos hok,if_pos hac]
 have hap:ApF w6 w5.heap.size v5 vg5 vo5 pv:=fun g e=>⟨by have:=hpb g e;have:=kb4.size;omega,fun c=>by have:=hScr.ftb c;have:=hpb g e;have:=kb4.size;omega⟩
 unfold actB at hac;simp only [Bool.and_eq_true,decide_eq_true_eq] at hac;obtain ⟨a1,a2,a3,⟨a4,a5⟩,a6⟩:=hac;have hq:=paramsB_all a6;have hdo:=l7Do_any t.gc.toNat t.g.length w4.heap.size w5.heap.size pv x a.params a.rune a.mark t v5 vg5 vo5 w6 hScr hbs6 rk (hp.below kb) (by omega) hap hq a.text (hx.below kb) (by omega) a.kind;have d0:w6.cell? ⟨w.heap.size+1,0,none⟩=some (.int .i64 a.kind):=cAl hA 0;have d1:w6.cell? ⟨w.heap.size+1,1,none⟩=some (.int .i64 a.rune):=cAl hA 1;have d2:w6.cell? ⟨w.heap.size+1,2,none⟩=some pv:=cAl hA 2;have d3:w6.cell? ⟨w.heap.size+1,3,none⟩=some (.int .i64 a.mark):=cAl hA 3;have d4:w6.cell? ⟨w.heap.size+1,4,none⟩=some x:=cAl hA 4;obtain ⟨T2,hT2⟩:∃ T2,doT t a=T2:=⟨_,rfl⟩;rw [show doT t ⟨a.kind,a.rune,a.params,a.mark,a.text⟩=T2 from hT2] at hdo
 unfold acA at hdo;go_wp2_with fail;refine hdo.mono ?_;rintro e w7 ⟨rfl,v7,vg7,vo7,hr7⟩;have hS7:=hr7.s;have hR7:TB w7 (w.heap.size+2) _:=BlkC.grp hR hr7.g (fun c=>by have:=hScr.ftb c;omega);have kb7:=kb.trans ((hScr.bel hbs6 hr7).mono (by have:=kb4.size;omega));have hTB:=show TeB w7 w5.heap.size 35 T2 v7 from hS7.b
 have hone:=hS7.o.sl.one;have hO7:=hS7.o;clear hScr eA hp hx hA hr7 hdo hap hR kb d0 d1 d2 d3 d4 hS7 a1 a2 a3 a4 a5 a6 hq;go_wp2_with (first|refine load_te hTB (by rfl) _ (by rfl) (by rfl) ?_|(refine store_T (cs:=teCs T2 v7) (by rfl) 35 _ _ (by rfl) info_te (by rfl) hone hR7 (by rfl) (by rfl) ?_;intro w9 hg9 hR9 hz9));have hO9:=(hO7.grown hg9 hR7 (by decide) (by decide) (by decide)).low (show w.heap.size<=w4.heap.size by have:=kb4.size;omega);subst hT2;exact bodyPost_ret (v:=.agg (teCs (doT t a) _)) (results_cell_row Tryz.results17 _ _ _ _ _ _ _ rfl hR9 Tryz.underlying35 rfl info_te) rfl ⟨_,_,_,rfl,hO9,kb7.grown hg9 kb7.size (fun g e=>by cases e;omega)⟩
end Go.Proofs.YtgcnmjjlmcnllaaGreatDoor
