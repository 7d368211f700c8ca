/- Parts of the proof. -/
import Derived.Test.YtgcnmjjlmcnllaaGreatDoorP1
import Derived.Test.YtgcnmjjlmcnllaaGreatDoorP4
import Derived.Test.YtgcnmjjlmcnllaaGreatDoorP12
import Derived.Test.YtgcnmjjlmcnllaaGreatDoorP13
import Derived.Test.YtgcnmjjlmcnllaaGreatDoorP18
import Derived.Test.YtgcnmjjlmcnllaaGreatDoorP20
import Derived.Test.YtgcnmjjlmcnllaaGreatDoorP25
import Derived.Test.YtgcnmjjlmcnllaaGreatDoorP26
import Derived.Test.YtgcnmjjlmcnllaaGreatDoorP27
import Derived.Test.YtgcnmjjlmcnllaaGreatDoorP28
import Derived.Test.YtgcnmjjlmcnllaaGreatDoorP29
namespace Go.Proofs.YtgcnmjjlmcnllaaGreatDoor
set_option maxRecDepth 20000
set_option maxHeartbeats 16000000
open Go.ChangeShapes Go.WideShapes Go.ChangeAt Go.RowKit
theorem l7Sign_84 (cn N base B:Nat) (pv:Value) (ps:List Int) (t:Te) (v:Tv) (vg vo:List Value) (w:World) (h:Scr w 35 base B [] t v vg vo) (hbase:base<=w.heap.size) (rt:RtW t cn N) (hp:SlN w pv ps) (hl:ps.length<=1000) (hap:ApF w B v vg vo pv) (hb:∀ x∈ps,0<=x/\x<=9999) :
  Calls Tryz.prog 144 #[.pointer (some ⟨B,0,none⟩),.int .i64 84,pv] w fun e w'=>e=.returned (.tuple #[])/\∃ v' vg' vo',Res w w' 35 base B [] v vg vo (listT t 84 ps) v' vg' vo':=by
 have hpn:Calls Tryz.prog 211 #[pv,.int .i64 0,.int .i64 1] w (fun e w'=>e=.returned (.int .i64 (parN ps 0 1))/\w'=w):=lPa pv ps 0 1 w hp hl;have hph:Calls Tryz.prog 211 #[pv,.int .i64 0,.int .i64 0] w (fun e w'=>e=.returned (.int .i64 (parN ps 0 0))/\w'=w):=lPa pv ps 0 0 w hp hl;have hnb:=parN_bd hb 0 1 (by omega);have hcc:=rt.c;have c0:w.cell? ⟨B,0,none⟩=some (.int .i64 t.gc):=h.cell 0;have c4:w.cell? ⟨B,4,none⟩=some (.int .i64 t.row):=h.cell 4;have c5:w.cell? ⟨B,5,none⟩=some (.int .i64 t.col):=h.cell 5;have c13:w.cell? ⟨B,13,none⟩=some (.bool t.full):=h.cell 13;have z13:w.frozen? ⟨B,13,none⟩=false:=h.frozen 13;have h1:Res w (w.setCell ⟨B,13,none⟩ (.bool false)) 35 base B [] v vg vo { t with full:=false } v vg vo:=h.put (sCg B [.bool false] 13 w) _ (sCh B 35 [.bool false] 13 w _ h.b) rfl rfl rfl rfl rfl;have hb1:=Nat.le_trans hbase h1.g.size;have hp1:=(hp.res hap h1).1;obtain ⟨W1,hW1⟩:∃ W1,Hid (W1=w.setCell ⟨B,13,none⟩ (.bool false)):=⟨_,rfl⟩;rw [<- hW1.out] at h1 hp1 hb1
 obtain ⟨b1,b2,b3⟩:=rt.tb;obtain ⟨r1,r2⟩:=rt.row;have hn2:=rt.n1.2;have hlt:=h1.s.lt;have hN:=rt.n;have cf:∀ W,Below W1.heap.size W1 W->W.cell? ⟨B,11,none⟩=some (.int .i64 t.top)/\W.cell? ⟨B,12,none⟩=some (.int .i64 t.bot):=fun W hb=>⟨(h1.s.below hb).cell 11,(h1.s.below hb).cell 12⟩
 obtain ⟨nn,hnn⟩:∃ nn,Hid (-(parN ps 0 1)=nn):=⟨_,rfl⟩;have hw:IntKind.i64.wrap (-(parN ps 0 1))=nn:=by rw [<- hnn.out];simp [IntKind.wrap,IntKind.bits,IntKind.signed];omega
 have hmv:=fun W (hbW:Below W1.heap.size W1 W)=>moveS_any cn N base B { t with full:=false } v vg vo W (h1.s.below hbW) (Nat.le_trans hb1 hbW.size) (rt.full false) t.top.toNat t.bot.toNat (nn) (by omega) (by omega) (by have:=hnn.out;omega)
 rw [show ((t.top.toNat:Nat):Int)=t.top by omega,show ((t.bot.toNat:Nat):Int)=t.bot by omega] at hmv
 have hbk:=fun W (hbW:Below W1.heap.size W1 W)=>l7Back_any B t.st W ((h1.s.below hbW).cell 7) (Nat.lt_of_lt_of_le hlt hbW.size)
 unfold stV at hmv hbk;have hV:listT t 84 ps=moveT { t with full:=false } t.top t.bot (nn):=by rw [<- hnn.out];simp [listT]
 rw [hV]
 clear hV;replace h1:=(show Hid _ from h1);clear h rt hbase hb1 hp1 hp hap hb hcc hn2 hN r1 r2 b1 b2 b3;generalize parN ps 0 1=n at *;generalize parN ps 0 0=how at *;go_enter Tryz.func144,Tryz.ntmps144;go_wp2_with fail;refine hpn.mono ?_;rintro e wk ⟨rfl,hk⟩;subst hk;clear hpn;go_wp2_with fail;refine hph.mono ?_;rintro e wk ⟨rfl,hk⟩;subst hk;clear hph;go_wp2;rw [<- hW1.out]
 have hd:Below W1.heap.size W1 W1.drew:=bdr W1;refine wp_region_noPanic ?_;refine wp_region_held_drew (S:=(fun W=>W.cell? ⟨B,11,none⟩=some (.int .i64 t.top)/\W.cell? ⟨B,12,none⟩=some (.int .i64 t.bot))) (by kernel_rfl) (cf _ hd) (fun Hh=>?_);refine' wpAnyH_take (i:=0) (v:=_) rfl (by kernel_rfl) (by kernel_rfl) (by kernel_rfl) (fun _ _ _ h=>h) (Or.inl ⟨by rfl,?hy1014⟩) Hh ?hr1014
 case hy1014=>(intro w hSw;(try dsimp only at hSw);go_simp;(try with_reducible rfl))
 simp only [Act.put,ZA,ZB,ZC,ZD,ZE];refine' wpAnyH_take (i:=1) (v:=_) rfl (by kernel_rfl) (by kernel_rfl) (by kernel_rfl) (fun _ _ _ h=>h) (Or.inl ⟨by rfl,?hy1015⟩) Hh ?hr1015
 case hy1015=>(intro w hSw;(try dsimp only at hSw);go_simp;(try with_reducible rfl))
 simp only [Act.put,ZA,ZB,ZC,ZD,ZE,ZF];refine' wpAnyH_take (i:=2) (v:=_) rfl (by kernel_rfl) (by kernel_rfl) (by kernel_rfl) (fun _ _ _ h=>h) (Or.inl ⟨by rfl,?hy1016⟩) Hh ?hr1016
 case hy1016=>(intro w hSw;(try dsimp only at hSw);go_simp;(try with_reducible rfl))
 simp only [Act.put,ZA,ZB,ZC,ZD,ZE,ZF];refine' wpAnyH_take (i:=3) (v:=_) rfl (by kernel_rfl) (by kernel_rfl) (by kernel_rfl) (fun _ _ _ h=>h) (Or.inl ⟨by rfl,?hy1017⟩) Hh ?hr1017
 case hy1017=>(intro w hSw;(try dsimp only at hSw);go_simp;(try with_reducible rfl))
 simp only [Act.put,ZA,ZB,ZC,ZD,ZE,ZF];refine' wpAnyH_take (i:=4) (v:=_) rfl (by kernel_rfl) (by kernel_rfl) (by kernel_rfl) (fun _ _ _ h=>h) (Or.inl ⟨by rfl,?hy1018⟩) Hh ?hr1018
 case hy1018=>(intro w hSw;(try dsimp only at hSw);go_simp;(try with_reducible rfl))
 simp only [Act.put,ZA,ZB,ZC,ZD,ZE,ZF];refine' wpAnyH_take (i:=5) (v:=_) rfl (by kernel_rfl) (by kernel_rfl) (by kernel_rfl) (fun _ _ _ h=>h) (Or.inl ⟨by rfl,?hy1019⟩) Hh ?hr1019
 case hy1019=>(intro w hSw;(try dsimp only at hSw);go_simp;(try with_reducible rfl))
 simp only [Act.put,ZA,ZB,ZC,ZD,ZE,ZF];refine' wpAnyH_take (i:=6) (v:=_) rfl (by kernel_rfl) (by kernel_rfl) (by kernel_rfl) (fun _ _ _ h=>h) (Or.inl ⟨by rfl,?hy1020⟩) Hh ?hr1020
 case hy1020=>(intro w hSw;(try dsimp only at hSw);go_simp;(try with_reducible rfl))
 simp only [Act.put,ZA,ZB,ZC,ZD,ZE,ZF];refine' wpAnyH_take (i:=7) (v:=_) rfl (by kernel_rfl) (by kernel_rfl) (by kernel_rfl) (fun _ _ _ h=>h) (Or.inl ⟨by rfl,?hy1021⟩) Hh ?hr1021
 case hy1021=>(intro w hSw;(try dsimp only at hSw);go_simp;(try with_reducible rfl))
 simp only [Act.put,ZA,ZB,ZC,ZD,ZE,ZF];refine' wpAnyH_take (i:=8) (v:=_) rfl (by kernel_rfl) (by kernel_rfl) (by kernel_rfl) (fun _ _ _ h=>h) (Or.inl ⟨by rfl,?hy1022⟩) Hh ?hr1022
 case hy1022=>(intro w hSw;(try dsimp only at hSw);go_simp;(try with_reducible rfl))
 simp only [Act.put,ZA,ZB,ZC,ZD,ZE,ZF];refine' wpAnyH_take (i:=9) (v:=_) rfl (by kernel_rfl) (by kernel_rfl) (by kernel_rfl) (fun _ _ _ h=>h) (Or.inl ⟨by rfl,?hy1023⟩) Hh ?hr1023
 case hy1023=>(intro w hSw;(try dsimp only at hSw);go_simp;(try with_reducible rfl))
 simp only [Act.put,ZA,ZB,ZC,ZD,ZE,ZF];refine' wpAnyH_take (i:=10) (v:=_) rfl (by kernel_rfl) (by kernel_rfl) (by kernel_rfl) (fun _ _ _ h=>h) (Or.inl ⟨by rfl,?hy1024⟩) Hh ?hr1024
 case hy1024=>(intro w hSw;(try dsimp only at hSw);go_simp;(try with_reducible rfl))
 simp only [Act.put,ZA,ZB,ZC,ZD,ZE,ZF];refine' wpAnyH_take (i:=11) (v:=_) rfl (by kernel_rfl) (by kernel_rfl) (by kernel_rfl) (fun _ _ _ h=>h) (Or.inl ⟨by rfl,?hy1025⟩) Hh ?hr1025
 case hy1025=>(intro w hSw;(try dsimp only at hSw);go_simp;(try with_reducible rfl))
 simp only [Act.put,ZA,ZB,ZC,ZD,ZE,ZF];refine' wpAnyH_take (i:=12) (v:=_) rfl (by kernel_rfl) (by kernel_rfl) (by kernel_rfl) (fun _ _ _ h=>h) (Or.inl ⟨by rfl,?hy1026⟩) Hh ?hr1026
 case hy1026=>(intro w hSw;(try dsimp only at hSw);go_simp;(try with_reducible rfl))
 simp only [Act.put,ZA,ZB,ZC,ZD,ZE,ZF];refine' wpAnyH_take (i:=13) (v:=_) rfl (by kernel_rfl) (by kernel_rfl) (by kernel_rfl) (fun _ _ _ h=>h) (Or.inl ⟨by rfl,?hy1027⟩) Hh ?hr1027
 case hy1027=>(intro w hSw;(try dsimp only at hSw);go_simp;(try with_reducible rfl))
 refine rd 14 fun K hK=>?_
 go_simp;refine (hbk _ hd).mono ?_;rintro e wk ⟨rfl,hb⟩;replace hd:=hd.trans (hb.mono hd.size);unfold backS;go_wp2_with fail;refine hK.out _ _ (cf _ hd) (fun Hh=>?_);clear hK K;refine rd 15 fun K hK=>?_
 go_simp;refine (hmv _ hd).mono ?_;rintro e w2 ⟨rfl,vg2,hR⟩;go_wp2_with fail;refine hK.out _ _ (⟨hR.s.cell 11,hR.s.cell 12⟩) (fun Hh=>?_);clear hK K
 (try simp only [Act.put,ZA,ZB,ZC,ZD,ZE,ZF])
 refine dn ?_;have hF:=(show Hid _ from (h1.out.below hd).trans hR);clear hR h1 Hh cf hd hmv hbk;go_wp2;refine be ?_;exact ⟨rfl,_,_,_,hF.out⟩
theorem inf_style5:(Tryz.prog.info? 28).map (·.size)=some 5:=by kernel_rfl

theorem l7Sign_109 (cn N base B:Nat) (pv:Value) (ps:List Int) (t:Te) (v:Tv) (vg vo:List Value) (w:World) (h:Scr w 35 base B [] t v vg vo) (hbase:base<=w.heap.size) (rt:RtW t cn N) (hp:SlN w pv ps) (hl:ps.length<=1000) (hap:ApF w B v vg vo pv) (hb:∀ x∈ps,0<=x/\x<=9999) :
  Calls Tryz.prog 144 #[.pointer (some ⟨B,0,none⟩),.int .i64 109,pv] w fun e w'=>e=.returned (.tuple #[])/\∃ v' vg' vo',Res w w' 35 base B [] v vg vo (listT t 109 ps) v' vg' vo':=by
 have hpn:Calls Tryz.prog 211 #[pv,.int .i64 0,.int .i64 1] w (fun e w'=>e=.returned (.int .i64 (parN ps 0 1))/\w'=w):=lPa pv ps 0 1 w hp hl;have hph:Calls Tryz.prog 211 #[pv,.int .i64 0,.int .i64 0] w (fun e w'=>e=.returned (.int .i64 (parN ps 0 0))/\w'=w):=lPa pv ps 0 0 w hp hl;have hnb:=parN_bd hb 0 1 (by omega);have hcc:=rt.c;have c0:w.cell? ⟨B,0,none⟩=some (.int .i64 t.gc):=h.cell 0;have c4:w.cell? ⟨B,4,none⟩=some (.int .i64 t.row):=h.cell 4;have c5:w.cell? ⟨B,5,none⟩=some (.int .i64 t.col):=h.cell 5;have c13:w.cell? ⟨B,13,none⟩=some (.bool t.full):=h.cell 13;have z13:w.frozen? ⟨B,13,none⟩=false:=h.frozen 13;have h1:Res w (w.setCell ⟨B,13,none⟩ (.bool false)) 35 base B [] v vg vo { t with full:=false } v vg vo:=h.put (sCg B [.bool false] 13 w) _ (sCh B 35 [.bool false] 13 w _ h.b) rfl rfl rfl rfl rfl;have hb1:=Nat.le_trans hbase h1.g.size;have hp1:=(hp.res hap h1).1;obtain ⟨W1,hW1⟩:∃ W1,Hid (W1=w.setCell ⟨B,13,none⟩ (.bool false)):=⟨_,rfl⟩;rw [<- hW1.out] at h1 hp1 hb1
 obtain ⟨b1,b2,b3⟩:=rt.tb;obtain ⟨r1,r2⟩:=rt.row;have hn2:=rt.n1.2;have hlt:=h1.s.lt;have hN:=rt.n;obtain ⟨W2,hW2⟩:∃ W2,Hid (W2=W1.setCell ⟨B,13,none⟩ (.bool t.full)):=⟨_,rfl⟩;have h2:=h1.trans (h1.s.put (sCg B [.bool t.full] 13 W1) t (sCh B 35 [.bool t.full] 13 W1 _ h1.s.b) rfl rfl rfl rfl rfl);have y13:W1.cell? ⟨B,13,none⟩=some (.bool false):=h1.s.cell 13;have z13':W1.frozen? ⟨B,13,none⟩=false:=h1.s.frozen 13;have hW2':Res w W2 35 base B [] v vg vo t v vg vo:=by rw [hW2.out];exact h2
 clear h2;have y6:w.cell? ⟨B,6,none⟩=some (.int .i64 t.st.fore):=h.cell 6;have y7:w.cell? ⟨B,7,none⟩=some (.int .i64 t.st.back):=h.cell 7;have y8:w.cell? ⟨B,8,none⟩=some (.bool t.st.bold):=h.cell 8;have y9:w.cell? ⟨B,9,none⟩=some (.bool t.st.under):=h.cell 9;have y10:w.cell? ⟨B,10,none⟩=some (.bool t.st.turned):=h.cell 10;have hst:=l3Styled_all t.st pv ps W2 ((hp.res hap hW2').1.l.sl) (by omega);have hV:listT t 109 ps={ t with st:=stylN t.st ps }:=by simp [listT]
 rw [hV]
 clear hV;generalize stylN t.st ps=s2 at *;unfold stV at hst;replace hW2':=(show Hid _ from hW2')

 clear h h1 rt hbase hb1 hp1 hp hap hb hcc hn2 hN r1 r2 b1 b2 b3;generalize parN ps 0 1=n at *;generalize parN ps 0 0=how at *;go_enter Tryz.func144,Tryz.ntmps144;go_wp2_with fail;refine hpn.mono ?_;rintro e wk ⟨rfl,hk⟩;subst hk;clear hpn;go_wp2_with fail;refine hph.mono ?_;rintro e wk ⟨rfl,hk⟩;subst hk;clear hph;go_wp2_with fail;rw [<- hW1.out,<- hW2.out]
 refine hst.mono ?_;rintro e w3 ⟨rfl,hb3⟩;have k3:=hW2'.out.below hb3;have hblk:BlkC w3 B 35 ([]++(teCs t v).toList):=k3.s.b;have hfin:∀ w4,w3.grownBy w4 (some B)->BlkC w4 B 35 (setV ([]++(teCs t v).toList) 6 [.int .i64 s2.fore,.int .i64 s2.back,.bool s2.bold,.bool s2.under,.bool s2.turned])->Res wk w4 35 base B [] v vg vo { t with st:=s2 } v vg vo:=fun w4 hg hb=>k3.trans (k3.s.put hg { t with st:=s2 } hb rfl rfl rfl rfl rfl)
 replace hfin:=(show Hid _ from hfin);clear k3 hst hW2';go_wp2_with (refine store_at (B:=B) (k:=6) (n:=5) (cs:=[]++(teCs t v).toList) (v:=.agg #[.int .i64 s2.fore,.int .i64 s2.back,.bool s2.bold,.bool s2.under,.bool s2.turned]) (by rfl) 28 _ _ (by rfl) inf_style5 hblk (by rfl) (by rfl) (by rfl) (by rfl) (by rfl) ?_;intro w4 hg4 hb4 hz4);refine be ?_;exact ⟨rfl,_,_,_,hfin.out _ hg4 hb4⟩
theorem l7Sign_114 (cn N base B:Nat) (pv:Value) (ps:List Int) (t:Te) (v:Tv) (vg vo:List Value) (w:World) (h:Scr w 35 base B [] t v vg vo) (hbase:base<=w.heap.size) (rt:RtW t cn N) (hp:SlN w pv ps) (hl:ps.length<=1000) (hap:ApF w B v vg vo pv) (hb:∀ x∈ps,0<=x/\x<=9999) :
  Calls Tryz.prog 144 #[.pointer (some ⟨B,0,none⟩),.int .i64 114,pv] w fun e w'=>e=.returned (.tuple #[])/\∃ v' vg' vo',Res w w' 35 base B [] v vg vo (listT t 114 ps) v' vg' vo':=by
 have hpn:Calls Tryz.prog 211 #[pv,.int .i64 0,.int .i64 1] w (fun e w'=>e=.returned (.int .i64 (parN ps 0 1))/\w'=w):=lPa pv ps 0 1 w hp hl;have hph:Calls Tryz.prog 211 #[pv,.int .i64 0,.int .i64 0] w (fun e w'=>e=.returned (.int .i64 (parN ps 0 0))/\w'=w):=lPa pv ps 0 0 w hp hl;have hnb:=parN_bd hb 0 1 (by omega);have hcc:=rt.c;have c0:w.cell? ⟨B,0,none⟩=some (.int .i64 t.gc):=h.cell 0;have c4:w.cell? ⟨B,4,none⟩=some (.int .i64 t.row):=h.cell 4;have c5:w.cell? ⟨B,5,none⟩=some (.int .i64 t.col):=h.cell 5;have c13:w.cell? ⟨B,13,none⟩=some (.bool t.full):=h.cell 13;have z13:w.frozen? ⟨B,13,none⟩=false:=h.frozen 13;have h1:Res w (w.setCell ⟨B,13,none⟩ (.bool false)) 35 base B [] v vg vo { t with full:=false } v vg vo:=h.put (sCg B [.bool false] 13 w) _ (sCh B 35 [.bool false] 13 w _ h.b) rfl rfl rfl rfl rfl;have hb1:=Nat.le_trans hbase h1.g.size;have hp1:=(hp.res hap h1).1;obtain ⟨W1,hW1⟩:∃ W1,Hid (W1=w.setCell ⟨B,13,none⟩ (.bool false)):=⟨_,rfl⟩;rw [<- hW1.out] at h1 hp1 hb1
 obtain ⟨b1,b2,b3⟩:=rt.tb;obtain ⟨r1,r2⟩:=rt.row;have hn2:=rt.n1.2;have hlt:=h1.s.lt;have hN:=rt.n;rcases h1.s.o.1.shape with ⟨_,hs⟩|⟨gb,gcap,hvg,_,_,_⟩
 ·rw [hs] at hN;simp at hN;omega
 have f1:W1.cell? ⟨B,1,none⟩=some (.slice (some ⟨gb,0,none⟩) t.g.length gcap):=by rw [h1.s.cell 1];show some v.g=_;rw [hvg]
 have hla:Calls Tryz.prog 212 #[.pointer (some ⟨B,0,none⟩)] W1 (fun e w'=>e=.returned (.int .i64 ((t.g.length:Int)-1))/\w'=W1):=l7Last_any B _ _ _ W1 f1 (by omega);have hp2:Calls Tryz.prog 211 #[pv,.int .i64 1,.int .i64 (t.g.length:Int)] W1 (fun e w'=>e=.returned (.int .i64 (parN ps 1 (t.g.length:Int)))/\w'=W1):=lPa pv ps 1 (t.g.length:Int) W1 hp1 hl;have hmb:=parN_bd hb 1 (t.g.length:Int) (by omega);obtain ⟨lv,hlv⟩:∃ lv,Hid ((t.g.length:Int)-1=lv):=⟨_,rfl⟩;have hlv2:=hlv.out;have e1:IntKind.i64.wrap (lv+1)=(t.g.length:Int):=by simp [IntKind.wrap,IntKind.bits,IntKind.signed];omega
 obtain ⟨n1,hn1⟩:∃ n1,Hid (parN ps 0 1-1=n1):=⟨_,rfl⟩;have e2:IntKind.i64.wrap (parN ps 0 1-1)=n1:=by rw [<- hn1.out];simp [IntKind.wrap,IntKind.bits,IntKind.signed];omega
 obtain ⟨q,hq⟩:∃ q,Hid (parN ps 1 (t.g.length:Int)=q):=⟨_,rfl⟩;rw [hq.out] at hp2 hmb
 obtain ⟨bq,hbq⟩:∃ bq,Hid (q-1=bq):=⟨_,rfl⟩;have e3:IntKind.i64.wrap (q-1)=bq:=by rw [<- hbq.out];simp [IntKind.wrap,IntKind.bits,IntKind.signed];omega
 rw [hlv.out] at hla
 have z11:W1.frozen? ⟨B,11,none⟩=false:=h1.s.frozen 11;have z12:W1.frozen? ⟨B,12,none⟩=false:=h1.s.frozen 12;have z4:W1.frozen? ⟨B,4,none⟩=false:=h1.s.frozen 4;have z5:W1.frozen? ⟨B,5,none⟩=false:=h1.s.frozen 5;have y11:W1.cell? ⟨B,11,none⟩=some (.int .i64 t.top):=h1.s.cell 11;have y12:W1.cell? ⟨B,12,none⟩=some (.int .i64 t.bot):=h1.s.cell 12;have y4:W1.cell? ⟨B,4,none⟩=some (.int .i64 t.row):=h1.s.cell 4;have y5:W1.cell? ⟨B,5,none⟩=some (.int .i64 t.col):=h1.s.cell 5;have g1:=h1.trans (h1.s.put (sCg B [.int .i64 n1] 11 W1) { t with full:=false,top:=n1 } (sCh B 35 [.int .i64 n1] 11 W1 _ h1.s.b) rfl rfl rfl rfl rfl);have g2:=g1.trans (g1.s.put (sCg B [.int .i64 bq] 12 _) { t with full:=false,top:=n1,bot:=bq } (sCh B 35 [.int .i64 bq] 12 _ _ g1.s.b) rfl rfl rfl rfl rfl);have g3:=g2.trans (g2.s.put (sCg B [.int .i64 0] 4 _) { t with full:=false,top:=n1,bot:=bq,row:=0 } (sCh B 35 [.int .i64 0] 4 _ _ g2.s.b) rfl rfl rfl rfl rfl);have g4:=g3.trans (g3.s.put (sCg B [.int .i64 0] 5 _) { t with full:=false,top:=n1,bot:=bq,row:=0,col:=0 } (sCh B 35 [.int .i64 0] 5 _ _ g3.s.b) rfl rfl rfl rfl rfl);replace g4:=(show Hid _ from g4);clear g1 g2 g3 f1
 by_cases k1:n1<bq
 ·by_cases k2:bq<=lv
  ·have hV:listT t 114 ps={ t with full:=false,top:=n1,bot:=bq,row:=0,col:=0 }:=by
    have k3:parN ps 0 1-1<parN ps 1 (t.g.length:Int)-1/\parN ps 1 (t.g.length:Int)-1<=(t.g.length:Int)-1:=by rw [hn1.out,hq.out,hbq.out,hlv.out];exact ⟨k1,k2⟩
    rw [<- hn1.out,<- hbq.out,<- hq.out]
    simp only [listT];rw [if_pos k3]
    rfl
   rw [hV]
   clear hV;replace h1:=(show Hid _ from h1);clear h rt hbase hb1 hp1 hp hap hb hcc hmb hnb hn2 hN hlv2 r1 r2 b1 b2 b3;generalize parN ps 0 1=n at *;generalize (t.g.length:Int)=tl at *;generalize parN ps 0 0=how at *;go_enter Tryz.func144,Tryz.ntmps144;go_wp2_with fail;refine hpn.mono ?_;rintro e wk ⟨rfl,hk⟩;subst hk;clear hpn;go_wp2_with fail;refine hph.mono ?_;rintro e wk ⟨rfl,hk⟩;subst hk;clear hph;go_wp2_with fail;rw [<- hW1.out]
   refine hla.mono ?_;rintro e wk ⟨rfl,hk⟩;subst hk;go_wp2_with fail;refine hp2.mono ?_;rintro e wk ⟨rfl,hk⟩;subst hk;go_wp2_with fail;refine hla.mono ?_;rintro e wk ⟨rfl,hk⟩;subst hk;go_wp2;refine be ?_;exact ⟨rfl,_,_,_,g4.out⟩
  ·have hV:listT t 114 ps={ t with full:=false }:=by
    have k3:¬ (parN ps 0 1-1<parN ps 1 (t.g.length:Int)-1/\parN ps 1 (t.g.length:Int)-1<=(t.g.length:Int)-1):=by rw [hn1.out,hq.out,hbq.out,hlv.out];exact fun h=>k2 h.2
    simp only [listT];rw [if_neg k3]
    rfl
   rw [hV]
   clear hV;replace h1:=(show Hid _ from h1);clear h rt hbase hb1 hp1 hp hap hb hcc hmb hnb hn2 hN hlv2 r1 r2 b1 b2 b3;generalize parN ps 0 1=n at *;generalize (t.g.length:Int)=tl at *;generalize parN ps 0 0=how at *;go_enter Tryz.func144,Tryz.ntmps144;go_wp2_with fail;refine hpn.mono ?_;rintro e wk ⟨rfl,hk⟩;subst hk;clear hpn;go_wp2_with fail;refine hph.mono ?_;rintro e wk ⟨rfl,hk⟩;subst hk;clear hph;go_wp2_with fail;rw [<- hW1.out]
   refine hla.mono ?_;rintro e wk ⟨rfl,hk⟩;subst hk;go_wp2_with fail;refine hp2.mono ?_;rintro e wk ⟨rfl,hk⟩;subst hk;go_wp2_with fail;refine hla.mono ?_;rintro e wk ⟨rfl,hk⟩;subst hk;go_wp2;refine be ?_;exact ⟨rfl,_,_,_,h1.out⟩
 ·have hV:listT t 114 ps={ t with full:=false }:=by
   have k3:¬ (parN ps 0 1-1<parN ps 1 (t.g.length:Int)-1/\parN ps 1 (t.g.length:Int)-1<=(t.g.length:Int)-1):=by rw [hn1.out,hq.out,hbq.out,hlv.out];exact fun h=>k1 h.1
   simp only [listT];rw [if_neg k3]
   rfl
  rw [hV]
  clear hV;replace h1:=(show Hid _ from h1);clear h rt hbase hb1 hp1 hp hap hb hcc hmb hnb hn2 hN hlv2 r1 r2 b1 b2 b3;generalize parN ps 0 1=n at *;generalize (t.g.length:Int)=tl at *;generalize parN ps 0 0=how at *;go_enter Tryz.func144,Tryz.ntmps144;go_wp2_with fail;refine hpn.mono ?_;rintro e wk ⟨rfl,hk⟩;subst hk;clear hpn;go_wp2_with fail;refine hph.mono ?_;rintro e wk ⟨rfl,hk⟩;subst hk;clear hph;go_wp2_with fail;rw [<- hW1.out]
  refine hla.mono ?_;rintro e wk ⟨rfl,hk⟩;subst hk;go_wp2_with fail;refine hp2.mono ?_;rintro e wk ⟨rfl,hk⟩;subst hk;go_wp2;refine be ?_;exact ⟨rfl,_,_,_,h1.out⟩
theorem l7Sign_none (cn N base B:Nat) (pv:Value) (ps:List Int) (t:Te) (v:Tv) (vg vo:List Value) (w:World) (h:Scr w 35 base B [] t v vg vo) (hbase:base<=w.heap.size) (rt:RtW t cn N) (hp:SlN w pv ps) (hl:ps.length<=1000) (hap:ApF w B v vg vo pv) (hb:∀ x∈ps,0<=x/\x<=9999) (r:Int) (n65:r≠65) (n66:r≠66) (n67:r≠67) (n68:r≠68) (n71:r≠71) (n100:r≠100) (n72:r≠72) (n102:r≠102) (n74:r≠74) (n75:r≠75) (n76:r≠76) (n77:r≠77) (n64:r≠64) (n80:r≠80) (n88:r≠88) (n83:r≠83) (n84:r≠84) (n109:r≠109) (n114:r≠114) :
  Calls Tryz.prog 144 #[.pointer (some ⟨B,0,none⟩),.int .i64 r,pv] w fun e w'=>e=.returned (.tuple #[])/\∃ v' vg' vo',Res w w' 35 base B [] v vg vo (listT t r ps) v' vg' vo':=by
 have hpn:Calls Tryz.prog 211 #[pv,.int .i64 0,.int .i64 1] w (fun e w'=>e=.returned (.int .i64 (parN ps 0 1))/\w'=w):=lPa pv ps 0 1 w hp hl;have hph:Calls Tryz.prog 211 #[pv,.int .i64 0,.int .i64 0] w (fun e w'=>e=.returned (.int .i64 (parN ps 0 0))/\w'=w):=lPa pv ps 0 0 w hp hl;have hnb:=parN_bd hb 0 1 (by omega);have hcc:=rt.c;have c0:w.cell? ⟨B,0,none⟩=some (.int .i64 t.gc):=h.cell 0;have c4:w.cell? ⟨B,4,none⟩=some (.int .i64 t.row):=h.cell 4;have c5:w.cell? ⟨B,5,none⟩=some (.int .i64 t.col):=h.cell 5;have c13:w.cell? ⟨B,13,none⟩=some (.bool t.full):=h.cell 13;have z13:w.frozen? ⟨B,13,none⟩=false:=h.frozen 13;have h1:Res w (w.setCell ⟨B,13,none⟩ (.bool false)) 35 base B [] v vg vo { t with full:=false } v vg vo:=h.put (sCg B [.bool false] 13 w) _ (sCh B 35 [.bool false] 13 w _ h.b) rfl rfl rfl rfl rfl;have hb1:=Nat.le_trans hbase h1.g.size;have hp1:=(hp.res hap h1).1
 have hV:listT t r ps=t:=by
  unfold listT;simp only [n65,n66,n67,n68,n71,n100,n72,n102,n74,n75,n76,n77,n64,n80,n88,n83,n84,n109,n114,or_self,if_false]
 rw [hV]
 clear hV hnb hcc hp1 hb1;have h2:=h1.trans (h1.s.put (sCg B [.bool t.full] 13 _) t (sCh B 35 [.bool t.full] 13 _ _ h1.s.b) rfl rfl rfl rfl rfl);clear h1;have h1:=h2;clear h2;have q65:(r==65)=false:=by simp [n65]
 have q66:(r==66)=false:=by simp [n66]
 have q67:(r==67)=false:=by simp [n67]
 have q68:(r==68)=false:=by simp [n68]
 have q71:(r==71)=false:=by simp [n71]
 have q100:(r==100)=false:=by simp [n100]
 have q72:(r==72)=false:=by simp [n72]
 have q102:(r==102)=false:=by simp [n102]
 have q74:(r==74)=false:=by simp [n74]
 have q75:(r==75)=false:=by simp [n75]
 have q76:(r==76)=false:=by simp [n76]
 have q77:(r==77)=false:=by simp [n77]
 have q64:(r==64)=false:=by simp [n64]
 have q80:(r==80)=false:=by simp [n80]
 have q88:(r==88)=false:=by simp [n88]
 have q83:(r==83)=false:=by simp [n83]
 have q84:(r==84)=false:=by simp [n84]
 have q109:(r==109)=false:=by simp [n109]
 have q114:(r==114)=false:=by simp [n114]
 clear n65 n66 n67 n68 n71 n100 n72 n102 n74 n75 n76 n77 n64 n80 n88 n83 n84 n109 n114;replace h1:=(show Hid _ from h1);clear h rt hbase  hp hap hb;generalize parN ps 0 1=n at *;generalize parN ps 0 0=how at *;go_enter Tryz.func144,Tryz.ntmps144;go_wp2_with fail;refine hpn.mono ?_;rintro e wk ⟨rfl,hk⟩;subst hk;clear hpn;go_wp2_with fail;refine hph.mono ?_;rintro e wk ⟨rfl,hk⟩;subst hk;clear hph;go_wp2;refine be ?_;exact ⟨rfl,_,_,_,h1.out⟩
theorem l7Sign_any (cn N base B:Nat) (pv:Value) (ps:List Int) (t:Te) (v:Tv) (vg vo:List Value) (w:World) (h:Scr w 35 base B [] t v vg vo) (hbase:base<=w.heap.size) (rt:RtW t cn N) (hp:SlN w pv ps) (hl:ps.length<=1000) (hap:ApF w B v vg vo pv) (hb:∀ x∈ps,0<=x/\x<=9999) (r:Int) :
  Calls Tryz.prog 144 #[.pointer (some ⟨B,0,none⟩),.int .i64 r,pv] w fun e w'=>e=.returned (.tuple #[])/\∃ v' vg' vo',Res w w' 35 base B [] v vg vo (listT t r ps) v' vg' vo':=by
 by_cases n65:r=65
 ·subst n65;exact l7Sign_65 cn N base B pv ps t v vg vo w h hbase rt hp hl hap hb
 by_cases n66:r=66
 ·subst n66;exact l7Sign_66 cn N base B pv ps t v vg vo w h hbase rt hp hl hap hb
 by_cases n67:r=67
 ·subst n67;exact l7Sign_67 cn N base B pv ps t v vg vo w h hbase rt hp hl hap hb
 by_cases n68:r=68
 ·subst n68;exact l7Sign_68 cn N base B pv ps t v vg vo w h hbase rt hp hl hap hb
 by_cases n71:r=71
 ·subst n71;exact l7Sign_71 cn N base B pv ps t v vg vo w h hbase rt hp hl hap hb
 by_cases n100:r=100
 ·subst n100;exact l7Sign_100 cn N base B pv ps t v vg vo w h hbase rt hp hl hap hb
 by_cases n72:r=72
 ·subst n72;exact l7Sign_72 cn N base B pv ps t v vg vo w h hbase rt hp hl hap hb
 by_cases n102:r=102
 ·subst n102;exact l7Sign_102 cn N base B pv ps t v vg vo w h hbase rt hp hl hap hb
 by_cases n74:r=74
 ·subst n74;exact l7Sign_74 cn N base B pv ps t v vg vo w h hbase rt hp hl hap hb
 by_cases n75:r=75
 ·subst n75;exact l7Sign_75 cn N base B pv ps t v vg vo w h hbase rt hp hl hap hb
 by_cases n76:r=76
 ·subst n76;exact l7Sign_76 cn N base B pv ps t v vg vo w h hbase rt hp hl hap hb
 by_cases n77:r=77
 ·subst n77;exact l7Sign_77 cn N base B pv ps t v vg vo w h hbase rt hp hl hap hb
 by_cases n64:r=64
 ·subst n64;exact l7Sign_64 cn N base B pv ps t v vg vo w h hbase rt hp hl hap hb
 by_cases n80:r=80
 ·subst n80;exact l7Sign_80 cn N base B pv ps t v vg vo w h hbase rt hp hl hap hb
 by_cases n88:r=88
 ·subst n88;exact l7Sign_88 cn N base B pv ps t v vg vo w h hbase rt hp hl hap hb
 by_cases n83:r=83
 ·subst n83;exact l7Sign_83 cn N base B pv ps t v vg vo w h hbase rt hp hl hap hb
 by_cases n84:r=84
 ·subst n84;exact l7Sign_84 cn N base B pv ps t v vg vo w h hbase rt hp hl hap hb
 by_cases n109:r=109
 ·subst n109;exact l7Sign_109 cn N base B pv ps t v vg vo w h hbase rt hp hl hap hb
 by_cases n114:r=114
 ·subst n114;exact l7Sign_114 cn N base B pv ps t v vg vo w h hbase rt hp hl hap hb
 exact l7Sign_none cn N base B pv ps t v vg vo w h hbase rt hp hl hap hb r n65 n66 n67 n68 n71 n100 n72 n102 n74 n75 n76 n77 n64 n80 n88 n83 n84 n109 n114
theorem l7Do_1 (cn N base B:Nat) (pv x:Value) (ps:List Int) (r m:Int) (t:Te) (v:Tv) (vg vo:List Value) (w:World) (h:Scr w 35 base B [] t v vg vo) (hbase:base<=w.heap.size) (rk:RtK t cn N) (hp:SlN w pv ps) (hl:ps.length<=1000) (hap:ApF w B v vg vo pv) (hb:∀ y∈ps,0<=y/\y<=9999) (hxs:∃ a n c,x=.slice a n c) :
  Calls Tryz.prog 62 #[.pointer (some ⟨B,0,none⟩),.agg (acA 1 r pv m x)] w fun e w'=>e=.returned (.tuple #[])/\∃ v' vg' vo',Res w w' 35 base B [] v vg vo (printT t r) v' vg' vo':=by
 obtain ⟨xa,xn,xc,rfl⟩:=hxs;obtain ⟨W,hW⟩:∃ W,Hid (W=w.alloc (Obj.cells #[.int .i64 1,.int .i64 r,pv,.int .i64 m,.slice xa xn xc] 37)):=⟨_,rfl⟩;have hb0:Below w.heap.size w W:=by rw [hW.out];exact bal' _ _
 have hof:=Res.of_below h hb0;have hbw:=Nat.le_trans hbase hb0.size;have hpW:=hp.below hb0;have haW:=hap.mono hb0.size;have rt:=rk.w;have hcl:=l7Print_any cn N base B t v vg vo W hof.s hbw rk r;obtain ⟨pa,pn,pc,rfl⟩:∃ a n c,pv=.slice a n c:=by obtain ⟨a,c,e⟩:=hp.shp;exact ⟨a,_,c,e⟩
 replace hof:=(show Hid _ from hof);clear h hbase rk hp hap hbw hpW haW rt hb0 hb;unfold acA;go_enter Tryz.func62,Tryz.ntmps62;go_wp2_with fail;rw [<- hW.out]
 refine hcl.mono ?_;rintro e w2 ⟨rfl,v2,g2,o2,hR⟩;have hF:=(show Hid _ from hof.out.trans hR);clear hcl hR hof;go_wp2;refine be ?_;exact ⟨rfl,_,_,_,hF.out⟩
theorem l7Do_2 (cn N base B:Nat) (pv x:Value) (ps:List Int) (r m:Int) (t:Te) (v:Tv) (vg vo:List Value) (w:World) (h:Scr w 35 base B [] t v vg vo) (hbase:base<=w.heap.size) (rk:RtK t cn N) (hp:SlN w pv ps) (hl:ps.length<=1000) (hap:ApF w B v vg vo pv) (hb:∀ y∈ps,0<=y/\y<=9999) (hxs:∃ a n c,x=.slice a n c) :
  Calls Tryz.prog 62 #[.pointer (some ⟨B,0,none⟩),.agg (acA 2 r pv m x)] w fun e w'=>e=.returned (.tuple #[])/\∃ v' vg' vo',Res w w' 35 base B [] v vg vo (controlT t r) v' vg' vo':=by
 obtain ⟨xa,xn,xc,rfl⟩:=hxs;obtain ⟨W,hW⟩:∃ W,Hid (W=w.alloc (Obj.cells #[.int .i64 2,.int .i64 r,pv,.int .i64 m,.slice xa xn xc] 37)):=⟨_,rfl⟩;have hb0:Below w.heap.size w W:=by rw [hW.out];exact bal' _ _
 have hof:=Res.of_below h hb0;have hbw:=Nat.le_trans hbase hb0.size;have hpW:=hp.below hb0;have haW:=hap.mono hb0.size;have rt:=rk.w;have hcl:=l7Control_any cn N base B t v vg vo W hof.s hbw rt r;obtain ⟨pa,pn,pc,rfl⟩:∃ a n c,pv=.slice a n c:=by obtain ⟨a,c,e⟩:=hp.shp;exact ⟨a,_,c,e⟩
 replace hof:=(show Hid _ from hof);clear h hbase rk hp hap hbw hpW haW rt hb0 hb;unfold acA;go_enter Tryz.func62,Tryz.ntmps62;go_wp2_with fail;rw [<- hW.out]
 refine hcl.mono ?_;rintro e w2 ⟨rfl,v2,g2,o2,hR⟩;have hF:=(show Hid _ from hof.out.trans hR);clear hcl hR hof;go_wp2;refine be ?_;exact ⟨rfl,_,_,_,hF.out⟩
theorem l7Do_3 (cn N base B:Nat) (pv x:Value) (ps:List Int) (r m:Int) (t:Te) (v:Tv) (vg vo:List Value) (w:World) (h:Scr w 35 base B [] t v vg vo) (hbase:base<=w.heap.size) (rk:RtK t cn N) (hp:SlN w pv ps) (hl:ps.length<=1000) (hap:ApF w B v vg vo pv) (hb:∀ y∈ps,0<=y/\y<=9999) (hxs:∃ a n c,x=.slice a n c) :
  Calls Tryz.prog 62 #[.pointer (some ⟨B,0,none⟩),.agg (acA 3 r pv m x)] w fun e w'=>e=.returned (.tuple #[])/\∃ v' vg' vo',Res w w' 35 base B [] v vg vo (escapeT t r) v' vg' vo':=by
 obtain ⟨xa,xn,xc,rfl⟩:=hxs;obtain ⟨W,hW⟩:∃ W,Hid (W=w.alloc (Obj.cells #[.int .i64 3,.int .i64 r,pv,.int .i64 m,.slice xa xn xc] 37)):=⟨_,rfl⟩;have hb0:Below w.heap.size w W:=by rw [hW.out];exact bal' _ _
 have hof:=Res.of_below h hb0;have hbw:=Nat.le_trans hbase hb0.size;have hpW:=hp.below hb0;have haW:=hap.mono hb0.size;have rt:=rk.w;have hcl:=l7Escape_any cn N base B t v vg vo W hof.s hbw rt r;obtain ⟨pa,pn,pc,rfl⟩:∃ a n c,pv=.slice a n c:=by obtain ⟨a,c,e⟩:=hp.shp;exact ⟨a,_,c,e⟩
 replace hof:=(show Hid _ from hof);clear h hbase rk hp hap hbw hpW haW rt hb0 hb;unfold acA;go_enter Tryz.func62,Tryz.ntmps62;go_wp2_with fail;rw [<- hW.out]
 refine hcl.mono ?_;rintro e w2 ⟨rfl,v2,g2,o2,hR⟩;have hF:=(show Hid _ from hof.out.trans hR);clear hcl hR hof;go_wp2;refine be ?_;exact ⟨rfl,_,_,_,hF.out⟩
theorem l7Do_4s (cn N base B:Nat) (pv x:Value) (ps:List Int) (r m:Int) (t:Te) (v:Tv) (vg vo:List Value) (w:World) (h:Scr w 35 base B [] t v vg vo) (hbase:base<=w.heap.size) (rk:RtK t cn N) (hp:SlN w pv ps) (hl:ps.length<=1000) (hap:ApF w B v vg vo pv) (hb:∀ y∈ps,0<=y/\y<=9999) (hxs:∃ a n c,x=.slice a n c) (hm:m=0) :
  Calls Tryz.prog 62 #[.pointer (some ⟨B,0,none⟩),.agg (acA 4 r pv m x)] w fun e w'=>e=.returned (.tuple #[])/\∃ v' vg' vo',Res w w' 35 base B [] v vg vo (listT t r ps) v' vg' vo':=by
 obtain ⟨xa,xn,xc,rfl⟩:=hxs;obtain ⟨W,hW⟩:∃ W,Hid (W=w.alloc (Obj.cells #[.int .i64 4,.int .i64 r,pv,.int .i64 m,.slice xa xn xc] 37)):=⟨_,rfl⟩;have hb0:Below w.heap.size w W:=by rw [hW.out];exact bal' _ _
 have hof:=Res.of_below h hb0;have hbw:=Nat.le_trans hbase hb0.size;have hpW:=hp.below hb0;have haW:=hap.mono hb0.size;have rt:=rk.w;have hcl:=l7Sign_any cn N base B pv ps t v vg vo W hof.s hbw rt hpW hl haW hb r;obtain ⟨pa,pn,pc,rfl⟩:∃ a n c,pv=.slice a n c:=by obtain ⟨a,c,e⟩:=hp.shp;exact ⟨a,_,c,e⟩
 replace hof:=(show Hid _ from hof);clear h hbase rk hp hap hbw hpW haW rt hb0 hb;subst hm;unfold acA;go_enter Tryz.func62,Tryz.ntmps62;go_wp2_with fail;rw [<- hW.out]
 refine hcl.mono ?_;rintro e w2 ⟨rfl,v2,g2,o2,hR⟩;have hF:=(show Hid _ from hof.out.trans hR);clear hcl hR hof;go_wp2;refine be ?_;exact ⟨rfl,_,_,_,hF.out⟩
theorem l7Do_4h (cn N base B:Nat) (pv x:Value) (ps:List Int) (r m:Int) (t:Te) (v:Tv) (vg vo:List Value) (w:World) (h:Scr w 35 base B [] t v vg vo) (hbase:base<=w.heap.size) (rk:RtK t cn N) (hp:SlN w pv ps) (hl:ps.length<=1000) (hap:ApF w B v vg vo pv) (hb:∀ y∈ps,0<=y/\y<=9999) (hxs:∃ a n c,x=.slice a n c) (hm:¬ m=0) (hr:r=104) :
  Calls Tryz.prog 62 #[.pointer (some ⟨B,0,none⟩),.agg (acA 4 r pv m x)] w fun e w'=>e=.returned (.tuple #[])/\∃ v' vg' vo',Res w w' 35 base B [] v vg vo (ps.foldl (modeT true) t) v' vg' vo':=by
 obtain ⟨xa,xn,xc,rfl⟩:=hxs;obtain ⟨W,hW⟩:∃ W,Hid (W=w.alloc (Obj.cells #[.int .i64 4,.int .i64 r,pv,.int .i64 m,.slice xa xn xc] 37)):=⟨_,rfl⟩;have hb0:Below w.heap.size w W:=by rw [hW.out];exact bal' _ _
 have hof:=Res.of_below h hb0;have hbw:=Nat.le_trans hbase hb0.size;have hpW:=hp.below hb0;have haW:=hap.mono hb0.size;have rt:=rk.w;have hcl:=l7Mode_any cn N base B pv ps true t v vg vo W hof.s hbw rk hpW hl haW;obtain ⟨pa,pn,pc,rfl⟩:∃ a n c,pv=.slice a n c:=by obtain ⟨a,c,e⟩:=hp.shp;exact ⟨a,_,c,e⟩
 replace hof:=(show Hid _ from hof);clear h hbase rk hp hap hbw hpW haW rt hb0 hb;subst hr;have qm:(m==0)=false:=by simp [hm]
 unfold acA;go_enter Tryz.func62,Tryz.ntmps62;go_wp2_with fail;rw [<- hW.out]
 refine hcl.mono ?_;rintro e w2 ⟨rfl,v2,g2,o2,hR⟩;have hF:=(show Hid _ from hof.out.trans hR);clear hcl hR hof;go_wp2;refine be ?_;exact ⟨rfl,_,_,_,hF.out⟩
theorem l7Do_4l (cn N base B:Nat) (pv x:Value) (ps:List Int) (r m:Int) (t:Te) (v:Tv) (vg vo:List Value) (w:World) (h:Scr w 35 base B [] t v vg vo) (hbase:base<=w.heap.size) (rk:RtK t cn N) (hp:SlN w pv ps) (hl:ps.length<=1000) (hap:ApF w B v vg vo pv) (hb:∀ y∈ps,0<=y/\y<=9999) (hxs:∃ a n c,x=.slice a n c) (hm:¬ m=0) (hr:r=108) :
  Calls Tryz.prog 62 #[.pointer (some ⟨B,0,none⟩),.agg (acA 4 r pv m x)] w fun e w'=>e=.returned (.tuple #[])/\∃ v' vg' vo',Res w w' 35 base B [] v vg vo (ps.foldl (modeT false) t) v' vg' vo':=by
 obtain ⟨xa,xn,xc,rfl⟩:=hxs;obtain ⟨W,hW⟩:∃ W,Hid (W=w.alloc (Obj.cells #[.int .i64 4,.int .i64 r,pv,.int .i64 m,.slice xa xn xc] 37)):=⟨_,rfl⟩;have hb0:Below w.heap.size w W:=by rw [hW.out];exact bal' _ _
 have hof:=Res.of_below h hb0;have hbw:=Nat.le_trans hbase hb0.size;have hpW:=hp.below hb0;have haW:=hap.mono hb0.size;have rt:=rk.w;have hcl:=l7Mode_any cn N base B pv ps false t v vg vo W hof.s hbw rk hpW hl haW;obtain ⟨pa,pn,pc,rfl⟩:∃ a n c,pv=.slice a n c:=by obtain ⟨a,c,e⟩:=hp.shp;exact ⟨a,_,c,e⟩
 replace hof:=(show Hid _ from hof);clear h hbase rk hp hap hbw hpW haW rt hb0 hb;subst hr;have qm:(m==0)=false:=by simp [hm]
 unfold acA;go_enter Tryz.func62,Tryz.ntmps62;go_wp2_with fail;rw [<- hW.out]
 refine hcl.mono ?_;rintro e w2 ⟨rfl,v2,g2,o2,hR⟩;have hF:=(show Hid _ from hof.out.trans hR);clear hcl hR hof;go_wp2;refine be ?_;exact ⟨rfl,_,_,_,hF.out⟩
theorem l7Do_4n (cn N base B:Nat) (pv x:Value) (ps:List Int) (r m:Int) (t:Te) (v:Tv) (vg vo:List Value) (w:World) (h:Scr w 35 base B [] t v vg vo) (hbase:base<=w.heap.size) (rk:RtK t cn N) (hp:SlN w pv ps) (hl:ps.length<=1000) (hap:ApF w B v vg vo pv) (hb:∀ y∈ps,0<=y/\y<=9999) (hxs:∃ a n c,x=.slice a n c) (hm:¬ m=0) (h1:¬ r=104) (h2:¬ r=108) :
  Calls Tryz.prog 62 #[.pointer (some ⟨B,0,none⟩),.agg (acA 4 r pv m x)] w fun e w'=>e=.returned (.tuple #[])/\∃ v' vg' vo',Res w w' 35 base B [] v vg vo t v' vg' vo':=by
 obtain ⟨xa,xn,xc,rfl⟩:=hxs;obtain ⟨W,hW⟩:∃ W,Hid (W=w.alloc (Obj.cells #[.int .i64 4,.int .i64 r,pv,.int .i64 m,.slice xa xn xc] 37)):=⟨_,rfl⟩;have hb0:Below w.heap.size w W:=by rw [hW.out];exact bal' _ _
 have hof:=Res.of_below h hb0;have hbw:=Nat.le_trans hbase hb0.size;have hpW:=hp.below hb0;have haW:=hap.mono hb0.size;have rt:=rk.w;obtain ⟨pa,pn,pc,rfl⟩:∃ a n c,pv=.slice a n c:=by obtain ⟨a,c,e⟩:=hp.shp;exact ⟨a,_,c,e⟩
 replace hof:=(show Hid _ from hof);clear h hbase rk hp hap hbw hpW haW rt hb0 hb;have qm:(m==0)=false:=by simp [hm]
 have q1:(r==104)=false:=by simp [h1]
 have q2:(r==108)=false:=by simp [h2]
 unfold acA;go_enter Tryz.func62,Tryz.ntmps62;go_wp2;rw [<- hW.out]
 refine be ?_;exact ⟨rfl,_,_,_,hof.out⟩
theorem l7Do_none (cn N base B:Nat) (pv x:Value) (ps:List Int) (r m:Int) (t:Te) (v:Tv) (vg vo:List Value) (w:World) (h:Scr w 35 base B [] t v vg vo) (hbase:base<=w.heap.size) (rk:RtK t cn N) (hp:SlN w pv ps) (hl:ps.length<=1000) (hap:ApF w B v vg vo pv) (hb:∀ y∈ps,0<=y/\y<=9999) (hxs:∃ a n c,x=.slice a n c) (k:Int) (n1:¬ k=1) (n2:¬ k=2) (n3:¬ k=3) (n4:¬ k=4) (n5:¬ k=5) :
  Calls Tryz.prog 62 #[.pointer (some ⟨B,0,none⟩),.agg (acA k r pv m x)] w fun e w'=>e=.returned (.tuple #[])/\∃ v' vg' vo',Res w w' 35 base B [] v vg vo t v' vg' vo':=by
 obtain ⟨xa,xn,xc,rfl⟩:=hxs;obtain ⟨W,hW⟩:∃ W,Hid (W=w.alloc (Obj.cells #[.int .i64 k,.int .i64 r,pv,.int .i64 m,.slice xa xn xc] 37)):=⟨_,rfl⟩;have hb0:Below w.heap.size w W:=by rw [hW.out];exact bal' _ _
 have hof:=Res.of_below h hb0;have hbw:=Nat.le_trans hbase hb0.size;have hpW:=hp.below hb0;have haW:=hap.mono hb0.size;have rt:=rk.w;obtain ⟨pa,pn,pc,rfl⟩:∃ a n c,pv=.slice a n c:=by obtain ⟨a,c,e⟩:=hp.shp;exact ⟨a,_,c,e⟩
 replace hof:=(show Hid _ from hof);clear h hbase rk hp hap hbw hpW haW rt hb0 hb;have q1:(k==1)=false:=by simp [n1]
 have q2:(k==2)=false:=by simp [n2]
 have q3:(k==3)=false:=by simp [n3]
 have q4:(k==4)=false:=by simp [n4]
 have q5:(k==5)=false:=by simp [n5]
 unfold acA;go_enter Tryz.func62,Tryz.ntmps62;go_wp2;rw [<- hW.out]
 refine be ?_;exact ⟨rfl,_,_,_,hof.out⟩
end Go.Proofs.YtgcnmjjlmcnllaaGreatDoor
