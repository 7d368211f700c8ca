/- Parts of the proof. -/
import Derived.Test.YtgcnmjjlmcnllaaGreatDoorP1
import Derived.Test.YtgcnmjjlmcnllaaGreatDoorP12
import Derived.Test.YtgcnmjjlmcnllaaGreatDoorP14
import Derived.Test.YtgcnmjjlmcnllaaGreatDoorP16
import Derived.Test.YtgcnmjjlmcnllaaGreatDoorP17
namespace Go.Proofs.YtgcnmjjlmcnllaaGreatDoor
set_option maxRecDepth 20000
set_option maxHeartbeats 16000000
open Go.ChangeShapes Go.WideShapes Go.ChangeAt Go.RowKit
theorem l7Escape_anew (cn N base B:Nat) (t:Te) (v:Tv) (vg vo:List Value) (w:World) (h:Scr w 35 base B [] t v vg vo) (hbase:base<=w.heap.size) (rt:RtW t cn N) :
  Calls Tryz.prog 143 #[.pointer (some ⟨B,0,none⟩),.int .i64 99] w fun e w'=>e=.returned (.tuple #[])/\∃ v' vg' vo',Res w w' 35 base B [] v vg vo (anewT t) v' vg' vo':=by
 have hV:anewT t={ newT cn N (newR cn N) with ti:=t.ti,pa:=t.pa,fe:=t.fe }:=by unfold anewT;rw [rt.gc,rt.n,Int.toNat_natCast]
 rw [hV]
 have hn1:=rt.n1;have hcc:=rt.c;have hNT:=fun W=>l7New_any cn N W (by omega) (by omega) (by omega)
 have hgc:=rt.gc;have hgl:=rt.n;obtain ⟨ga,gcp,hvg⟩:=sGs (SlG.of_own h.o.1.g);obtain ⟨oa,ocp,hvo⟩:=sGs (SlG.of_own h.o.2.1.g);obtain ⟨tia,tip,hti⟩:=(SlN.of_own h.o.2.2.2.head).shp;obtain ⟨ppa,ppp,hpp⟩:=(SlN.of_own h.o.2.2.2.tail.head).shp;obtain ⟨pta,ptp,hpt⟩:=(SlN.of_own h.o.2.2.2.tail.tail.head).shp;obtain ⟨q1,q2,q3,q4,q5⟩:=v;simp only at hvg hvo hti hpp hpt;subst hvg;subst hvo;subst hti;subst hpp;subst hpt;have h1:=h.put (sCg B [.bool false] 13 w) { t with full:=false } (sCh B 35 [.bool false] 13 w _ h.b) rfl rfl rfl rfl rfl;have bP:=bal' (w.setCell ⟨B,13,none⟩ (.bool false)) (Obj.cells #[.int .i64 t.pa.state,.slice ppa t.pa.params.length ppp,.int .i64 t.pa.mark,.slice pta t.pa.text.length ptp] 31);have bF:=bal' ((w.setCell ⟨B,13,none⟩ (.bool false)).alloc (Obj.cells #[.int .i64 t.pa.state,.slice ppa t.pa.params.length ppp,.int .i64 t.pa.mark,.slice pta t.pa.text.length ptp] 31)) (Obj.cells #[.string t.fe] 33);have hP:=(BlkC.new (w.setCell ⟨B,13,none⟩ (.bool false)) 31 [.int .i64 t.pa.state,.slice ppa t.pa.params.length ppp,.int .i64 t.pa.mark,.slice pta t.pa.text.length ptp]).below bF;have hF:=BlkC.new ((w.setCell ⟨B,13,none⟩ (.bool false)).alloc (Obj.cells #[.int .i64 t.pa.state,.slice ppa t.pa.params.length ppp,.int .i64 t.pa.mark,.slice pta t.pa.text.length ptp] 31)) 33 [.string t.fe];have z0:(w.setCell ⟨B,13,none⟩ (.bool false)).heap.size=w.heap.size:=by simp
 have z1:((w.setCell ⟨B,13,none⟩ (.bool false)).alloc (Obj.cells #[.int .i64 t.pa.state,.slice ppa t.pa.params.length ppp,.int .i64 t.pa.mark,.slice pta t.pa.text.length ptp] 31)).heap.size=w.heap.size+1:=by simp
 obtain ⟨W3,hW3⟩:∃ W3,W3=((w.setCell ⟨B,13,none⟩ (.bool false)).alloc (Obj.cells #[.int .i64 t.pa.state,.slice ppa t.pa.params.length ppp,.int .i64 t.pa.mark,.slice pta t.pa.text.length ptp] 31)).alloc (Obj.cells #[.string t.fe] 33):=⟨_,rfl⟩;have h3:Res w W3 35 base B [] ⟨.slice ga t.g.length gcp,.slice oa t.o.length ocp,.slice tia t.ti.length tip,.slice ppa t.pa.params.length ppp,.slice pta t.pa.text.length ptp⟩ vg vo { t with full:=false } ⟨.slice ga t.g.length gcp,.slice oa t.o.length ocp,.slice tia t.ti.length tip,.slice ppa t.pa.params.length ppp,.slice pta t.pa.text.length ptp⟩ vg vo:=by rw [hW3];exact (h1.below bP).below bF
 replace hP:BlkC W3 w.heap.size 31 [.int .i64 t.pa.state,.slice ppa t.pa.params.length ppp,.int .i64 t.pa.mark,.slice pta t.pa.text.length ptp]:=by rw [hW3,<- z0];exact hP
 replace hF:BlkC W3 (w.heap.size+1) 33 [.string t.fe]:=by rw [hW3,<- z1];exact hF
 have c13:w.cell? ⟨B,13,none⟩=some (.bool t.full):=h.cell 13;have z13:w.frozen? ⟨B,13,none⟩=false:=h.frozen 13;have c24:w.cell? ⟨B,24,none⟩=some (.slice tia t.ti.length tip):=h.cell 24;have c25:w.cell? ⟨B,25,none⟩=some (.int .i64 t.pa.state):=h.cell 25;have c26:w.cell? ⟨B,26,none⟩=some (.slice ppa t.pa.params.length ppp):=h.cell 26;have c27:w.cell? ⟨B,27,none⟩=some (.int .i64 t.pa.mark):=h.cell 27;have c28:w.cell? ⟨B,28,none⟩=some (.slice pta t.pa.text.length ptp):=h.cell 28;have c29:w.cell? ⟨B,29,none⟩=some (.string t.fe):=h.cell 29;have hlt:=h.lt;have hnP:w.heap.size≠B:=by omega
 have hnF:w.heap.size+1≠B:=by omega
 replace hW3:=(show Hid _ from hW3);replace h3:=(show Hid _ from h3);replace hgl:=(show Hid _ from hgl);replace hgc:=(show Hid _ from hgc);clear hV h1 bP bF z0 z1 rt;go_enter Tryz.func143,Tryz.ntmps143;go_wp2;rw [<- hW3.out]
 clear hW3 c13 z13 c24 c25 c26 c27 c28 c29;have hd:=bdr W3;have hB3:BlkC W3.drew B 35 ([]++(teCs { t with full:=false } ⟨.slice ga t.g.length gcp,.slice oa t.o.length ocp,.slice tia t.ti.length tip,.slice ppa t.pa.params.length ppp,.slice pta t.pa.text.length ptp⟩).toList):=BlkC.below h3.out.s.b hd;have hS3:=h3.out.s.o.below hd;have hP3:=hP.below hd;have hF3:=hF.below hd;have hw3:w.heap.size+2<=W3.heap.size:=by have:=hF.lt;omega
 have d0:W3.drew.cell? ⟨B,0,none⟩=some (.int .i64 (cn:Int)):=by rw [<- hgc.out];exact cAl hB3 0
 have d1:W3.drew.cell? ⟨B,1,none⟩=some (.slice ga N gcp):=by rw [<- hgl.out];exact cAl hB3 1
 refine wp_region_noPanic ?_;refine wp_region_held_drew (S:=(fun W=>W.cell? ⟨B,0,none⟩=some (.int .i64 (cn:Int)))) (by kernel_rfl) d0 (fun Hh=>?_);refine' wpAnyH_take (i:=0) (v:=_) rfl (by kernel_rfl) (by kernel_rfl) (by kernel_rfl) (fun _ _ _ h=>h) (Or.inl ⟨by rfl,?hm1⟩) Hh ?hn1
 case hm1=>(intro w hSw;(try dsimp only at hSw);go_simp;(try with_reducible rfl))
 (try simp only [Act.put,ZA,ZB,ZC,ZD,ZE])
 refine' wpAnyH_take (i:=1) (v:=_) rfl (by kernel_rfl) (by kernel_rfl) (by kernel_rfl) (fun _ _ _ h=>h) (Or.inl ⟨by rfl,?hm2⟩) Hh ?hn2
 case hm2=>(intro w hSw;(try dsimp only at hSw);go_simp;(try with_reducible rfl))
 (try simp only [Act.put,ZA,ZB,ZC,ZD,ZE,ZF])
 refine' wpAnyH_take (i:=2) (v:=_) rfl (by kernel_rfl) (by kernel_rfl) (by kernel_rfl) (fun _ _ _ h=>h) (Or.inl ⟨by rfl,?hm3⟩) Hh ?hn3
 case hm3=>(intro w hSw;(try dsimp only at hSw);go_simp;(try with_reducible rfl))
 (try simp only [Act.put,ZA,ZB,ZC,ZD,ZE,ZF])
 refine' wpAnyH_take (i:=3) (v:=_) rfl (by kernel_rfl) (by kernel_rfl) (by kernel_rfl) (fun _ _ _ h=>h) (Or.inl ⟨by rfl,?hm4⟩) Hh ?hn4
 case hm4=>(intro w hSw;(try dsimp only at hSw);go_simp;(try with_reducible rfl))
 (try simp only [Act.put,ZA,ZB,ZC,ZD,ZE,ZF])
 refine' wpAnyH_take (i:=4) (v:=_) rfl (by kernel_rfl) (by kernel_rfl) (by kernel_rfl) (fun _ _ _ h=>h) (Or.inl ⟨by rfl,?hm5⟩) Hh ?hn5
 case hm5=>(intro w hSw;(try dsimp only at hSw);go_simp;(try with_reducible rfl))
 (try simp only [Act.put,ZA,ZB,ZC,ZD,ZE,ZF])
 refine' wpAnyH_take (i:=5) (v:=_) rfl (by kernel_rfl) (by kernel_rfl) (by kernel_rfl) (fun _ _ _ h=>h) (Or.inl ⟨by rfl,?hm6⟩) Hh ?hn6
 case hm6=>(intro w hSw;(try dsimp only at hSw);go_simp;(try with_reducible rfl))
 (try simp only [Act.put,ZA,ZB,ZC,ZD,ZE,ZF])
 refine' wpAnyH_take (i:=6) (v:=_) rfl (by kernel_rfl) (by kernel_rfl) (by kernel_rfl) (fun _ _ _ h=>h) (Or.inl ⟨by rfl,?hm7⟩) Hh ?hn7
 case hm7=>(intro w hSw;(try dsimp only at hSw);go_simp;(try with_reducible rfl))
 (try simp only [Act.put,ZA,ZB,ZC,ZD,ZE,ZF])
 refine' wpAnyH_take (i:=7) (v:=_) rfl (by kernel_rfl) (by kernel_rfl) (by kernel_rfl) (fun _ _ _ h=>h) (Or.inl ⟨by rfl,?hm8⟩) Hh ?hn8
 case hm8=>(intro w hSw;(try dsimp only at hSw);go_simp;(try with_reducible rfl))
 (try simp only [Act.put,ZA,ZB,ZC,ZD,ZE,ZF])
 refine' wpAnyH_take (i:=8) (v:=_) rfl (by kernel_rfl) (by kernel_rfl) (by kernel_rfl) (fun _ _ _ h=>h) (Or.inl ⟨by rfl,?hm9⟩) Hh ?hn9
 case hm9=>(intro w hSw;(try dsimp only at hSw);go_simp;(try with_reducible rfl))
 (try simp only [Act.put,ZA,ZB,ZC,ZD,ZE,ZF])
 refine' wpAnyH_take (i:=9) (v:=_) rfl (by kernel_rfl) (by kernel_rfl) (by kernel_rfl) (fun _ _ _ h=>h) (Or.inl ⟨by rfl,?hm10⟩) Hh ?hn10
 case hm10=>(intro w hSw;(try dsimp only at hSw);go_simp;(try with_reducible rfl))
 refine rdo 10 fun K hK=>?_
 go_simp;refine hK.out _ _ d0 (fun Hh=>?_);clear hK K
 (try simp only [Act.put,ZA,ZB,ZC,ZD,ZE,ZF])
 refine' wpAnyH_take (i:=11) (v:=_) rfl (by kernel_rfl) (by kernel_rfl) (by kernel_rfl) (fun _ _ _ h=>h) (Or.inl ⟨by rfl,?hm11⟩) Hh ?hn11
 case hm11=>(intro w hSw;(try dsimp only at hSw);go_simp;(try with_reducible rfl))
 refine rdo 12 fun K hK=>?_
 go_simp;refine (hNT _).mono ?_;rintro e w4 ⟨u6,u7,rfl,hO,hb⟩;have hm0:w.heap.size+2<=W3.drew.heap.size:=hw3;obtain ⟨c1,c2,c3,hO⟩:=hO;obtain ⟨vg6,vo6,hS6⟩:=RgT.own (show RgT _ _ c1 c2 c3 _ _ from hO);have hon:=hS6.sl.one;obtain ⟨m,hm,hS6⟩:∃ m,w.heap.size<=m/\OwnS w4 m _ _ vg6 vo6:=⟨_,by omega,hS6⟩;have hB4:BlkC w4 B 35 ([]++(teCs { t with full:=false } ⟨.slice ga t.g.length gcp,.slice oa t.o.length ocp,.slice tia t.ti.length tip,.slice ppa t.pa.params.length ppp,.slice pta t.pa.text.length ptp⟩).toList):=BlkC.below hB3 hb;have hd4:=hd.trans (hb.mono hd.size);have hS4:=hS3.below hb;have hP4:=hP3.below hb;have hF4:=hF3.below hb;have d4:w4.cell? ⟨B,0,none⟩=some (.int .i64 (cn:Int)):=by rw [<- hgc.out];exact cAl hB4 0
 go_wp2_with fail;refine hK.out _ _ d4 (fun Hh=>?_);clear hK K hNT hO hb
 (try simp only [Act.put,ZA,ZB,ZC,ZD,ZE,ZF])
 refine' wpAnyH_take (i:=13) (v:=_) rfl (by kernel_rfl) (by kernel_rfl) (by kernel_rfl) (fun _ _ _ h=>h) (Or.inl ⟨by rfl,?hm12⟩) Hh ?hn12
 case hm12=>(intro w hSw;(try dsimp only at hSw);go_simp;(try with_reducible rfl))
 refine rdo 14 fun K hK=>?_
 refine wp_store_row 35 _ _ rfl B (teCs (newT cn N (newR cn N)) (tvN u6 u7)) rfl rfl 35 _ hB4 info_te (by rfl) (by rw [<- Array.all_toList];exact hon) ?_;have hg:=setRow_gr w4 B (teCs (newT cn N (newR cn N)) (tvN u6 u7));have hT5:BlkC (w4.setRow B (teCs (newT cn N (newR cn N)) (tvN u6 u7))) B 35 (teCs (newT cn N (newR cn N)) (tvN u6 u7)).toList:=setRow_heap _ _ _ _ _ _ hB4;refine hK.out _ _ (cAl hT5 0) (fun Hh=>?_);clear hK K
 (try simp only [Act.put])
 refine dn ?_;generalize w4.setRow B (teCs (newT cn N (newR cn N)) (tvN u6 u7))=W5 at *;have hS5:=hS6.grown hg hB4 (by decide) (by decide) (by decide);have hL5:=hS4.grown hg hB4 (by decide) (by decide) (by decide);have hP5:=BlkC.kept hP4 hg (fun e=>hnP (Option.some.inj e).symm);have hF5:=BlkC.kept hF4 hg (fun e=>hnF (Option.some.inj e).symm);have n24:W5.cell? ⟨B,24,none⟩=some (.slice none 0 0):=cAl hT5 24;have y24:W5.frozen? ⟨B,24,none⟩=false:=frozen_of_row _ _ _ _ _ hT5;have n25:W5.cell? ⟨B,25,none⟩=some (.int .i64 1):=cAl hT5 25;have y25:W5.frozen? ⟨B,25,none⟩=false:=frozen_of_row _ _ _ _ _ hT5;have n26:W5.cell? ⟨B,26,none⟩=some (.slice none 0 0):=cAl hT5 26;have y26:W5.frozen? ⟨B,26,none⟩=false:=frozen_of_row _ _ _ _ _ hT5;have n27:W5.cell? ⟨B,27,none⟩=some (.int .i64 0):=cAl hT5 27;have y27:W5.frozen? ⟨B,27,none⟩=false:=frozen_of_row _ _ _ _ _ hT5;have n28:W5.cell? ⟨B,28,none⟩=some (.slice none 0 0):=cAl hT5 28;have y28:W5.frozen? ⟨B,28,none⟩=false:=frozen_of_row _ _ _ _ _ hT5;have n29:W5.cell? ⟨B,29,none⟩=some (.string ⟨#[]⟩):=cAl hT5 29;have y29:W5.frozen? ⟨B,29,none⟩=false:=frozen_of_row _ _ _ _ _ hT5;have p0:W5.cell? ⟨w.heap.size,0,none⟩=some (.int .i64 t.pa.state):=cAl hP5 0;have p1:W5.cell? ⟨w.heap.size,1,none⟩=some (.slice ppa t.pa.params.length ppp):=cAl hP5 1;have p2:W5.cell? ⟨w.heap.size,2,none⟩=some (.int .i64 t.pa.mark):=cAl hP5 2;have p3:W5.cell? ⟨w.heap.size,3,none⟩=some (.slice pta t.pa.text.length ptp):=cAl hP5 3;have f0:W5.cell? ⟨w.heap.size+1,0,none⟩=some (.string t.fe):=cAl hF5 0;have g24:=sCg B [.slice tia t.ti.length tip] 24 W5;have t24:=sCh B 35 [.slice tia t.ti.length tip] 24 W5 _ hT5;have g25:=sCg B [.int .i64 t.pa.state,.slice ppa t.pa.params.length ppp,.int .i64 t.pa.mark,.slice pta t.pa.text.length ptp] 25 (W5.setCells B 24 [.slice tia t.ti.length tip]);have t25:=sCh B 35 [.int .i64 t.pa.state,.slice ppa t.pa.params.length ppp,.int .i64 t.pa.mark,.slice pta t.pa.text.length ptp] 25 _ _ t24;have g29:=sCg B [.string t.fe] 29 ((W5.setCells B 24 [.slice tia t.ti.length tip]).setCells B 25 [.int .i64 t.pa.state,.slice ppa t.pa.params.length ppp,.int .i64 t.pa.mark,.slice pta t.pa.text.length ptp]);have t29:=sCh B 35 [.string t.fe] 29 _ _ t25;have gA:=grown_tr (grown_tr g24 g25) g29;have hS7:=hS5.grown gA hT5 (by decide) (by decide) (by decide);have hL7:=(hL5.grown gA hT5 (by decide) (by decide) (by decide)).2.2.2;have hO7:OwnS _ base { newT cn N (newR cn N) with ti:=t.ti,pa:=t.pa,fe:=t.fe } ⟨u6,u7,.slice tia t.ti.length tip,.slice ppa t.pa.params.length ppp,.slice pta t.pa.text.length ptp⟩ vg6 vo6:=⟨ownV_low hS7.1 (Nat.le_trans hbase hm),ownV_low hS7.2.1 (Nat.le_trans hbase hm),hS7.2.2.1,hL7⟩;have hB7:BlkC _ B 35 ([]++(teCs { newT cn N (newR cn N) with ti:=t.ti,pa:=t.pa,fe:=t.fe } ⟨u6,u7,.slice tia t.ti.length tip,.slice ppa t.pa.params.length ppp,.slice pta t.pa.text.length ptp⟩).toList):=t29;have hG7:GrP (Ft B ⟨.slice ga t.g.length gcp,.slice oa t.o.length ocp,.slice tia t.ti.length tip,.slice ppa t.pa.params.length ppp,.slice pta t.pa.text.length ptp⟩ vg vo) w _:=((h3.out.g.trans (GrP.of_below hd4)).trans (GrP.of_grown hg (fun g e=>by cases e;exact .inl rfl))).trans (GrP.of_grown gA (fun g e=>by cases e;exact .inl rfl))
 have hC7:∀ k,k<w.heap.size->Ft B ⟨u6,u7,.slice tia t.ti.length tip,.slice ppa t.pa.params.length ppp,.slice pta t.pa.text.length ptp⟩ vg6 vo6 k->Ft B ⟨.slice ga t.g.length gcp,.slice oa t.o.length ocp,.slice tia t.ti.length tip,.slice ppa t.pa.params.length ppp,.slice pta t.pa.text.length ptp⟩ vg vo k:=fun k hk c=>c.elim .inl (fun c=>c.elim (fun c=>absurd (GrS.bd hS7.1 c).1 (by omega)) (fun c=>absurd (GrS.bd hS7.2.1 c).1 (by omega)))
 have hR:=(show Hid (Res w _ 35 base B [] ⟨.slice ga t.g.length gcp,.slice oa t.o.length ocp,.slice tia t.ti.length tip,.slice ppa t.pa.params.length ppp,.slice pta t.pa.text.length ptp⟩ vg vo { newT cn N (newR cn N) with ti:=t.ti,pa:=t.pa,fe:=t.fe } ⟨u6,u7,.slice tia t.ti.length tip,.slice ppa t.pa.params.length ppp,.slice pta t.pa.text.length ptp⟩ vg6 vo6) from ⟨⟨hB7,hO7,h.n1,h.n2,h.n3,h.hb⟩,hG7,hC7,rfl,rfl⟩);clear g24 t24 g25 t25 g29 t29 gA hS7 hL7 hO7 hB7 hG7 hC7 hT5 hS5 hL5 hP5 hF5 hP4 hF4 hP3 hF3 hP hF hS3 hS4 hS6 hB3 hB4 hd hd4 h3 hg Hh h d0 d1 d4 hon;go_wp2;refine be ?_;exact ⟨rfl,_,_,_,hR.out⟩
theorem l7Escape_any (cn N base B:Nat) (t:Te) (v:Tv) (vg vo:List Value) (w:World) (h:Scr w 35 base B [] t v vg vo) (hbase:base<=w.heap.size) (rt:RtW t cn N) (r:Int) :
  Calls Tryz.prog 143 #[.pointer (some ⟨B,0,none⟩),.int .i64 r] w fun e w'=>e=.returned (.tuple #[])/\∃ v' vg' vo',Res w w' 35 base B [] v vg vo (escapeT t r) v' vg' vo':=by
 by_cases hr:r=99
 ·subst hr
  exact l7Escape_anew cn N base B t v vg vo w h hbase rt
 ·exact l7Escape_most cn N base B t v vg vo w h hbase rt r hr
theorem Scr.grid {W0 W1 W':World} {T:TypeId} {base B:Nat} {X:List Value} {t:Te} {v:Tv} {vg vo:List Value} (h:Scr W0 T base B X t v vg vo) (hbase:base<=W0.heap.size) (hb:Below W0.heap.size W0 W1) (u:Value) (vs:List Value) (c:Int) (G:List (List Ce)) (hu:OwnV W1 W0.heap.size W1.heap.size u vs G) (hg:W1.grownBy W' (some B)) (hb':BlkC W' B T (X++(teCs { t with gc:=c,g:=G } ⟨u,v.o,v.ti,v.pp,v.pt⟩).toList)):Res W0 W' T base B X v vg vo { t with gc:=c,g:=G } ⟨u,v.o,v.ti,v.pp,v.pt⟩ vs vo:=by
 have h1:=h.below hb
 have ho:OwnS W1 base { t with gc:=c,g:=G } ⟨u,v.o,v.ti,v.pp,v.pt⟩ vs vo:=⟨ownV_low hu hbase,h1.o.2.1,fun k a b=>by
  have:=(GrS.bd hu a).1;have:=(GrS.bd h.o.2.1 b).2;omega,h1.o.2.2.2⟩
 have ho2:=ho.grown hg h1.b h.n1 h.n2 h.n3;refine ⟨⟨hb',ho2,h.n1,h.n2,h.n3,h.hb⟩,(GrP.of_below hb).trans (GrP.of_grown hg (fun g e=>by cases e;exact .inl rfl)),fun k hk c=>?_,rfl,rfl⟩;rcases c with c|c|c
 ·exact .inl c
 ·have:=(GrS.bd hu c).1;omega
 ·exact .inr (.inr c)
theorem l7Mode_any (cn N base B:Nat) (pv:Value) (ps:List Int) (b:Bool) (t:Te) (v:Tv) (vg vo:List Value) (w:World) (h:Scr w 35 base B [] t v vg vo) (hbase:base<=w.heap.size) (rk:RtK t cn N) (hp:SlN w pv ps) (hl:ps.length<=1000) (hap:ApF w B v vg vo pv) :
  Calls Tryz.prog 145 #[.pointer (some ⟨B,0,none⟩),pv,.bool b] w fun e w'=>e=.returned (.tuple #[])/\∃ v' vg' vo',Res w w' 35 base B [] v vg vo (ps.foldl (modeT b) t) v' vg' vo':=by
 have hfo:∀ j,Hid (j<ps.length->(ps.take (j+1)).foldl (modeT b) t=modeT b ((ps.take j).foldl (modeT b) t) (ps.getD j 0)):=fun j=>fun hj=>by
  rw [List.take_succ_eq_append_getElem hj,List.foldl_append]
  simp [hj]
 obtain ⟨pa,pc,rfl⟩:=hp.shp;have hK:Hid (Res w w 35 base B [] v vg vo ((ps.take 0).foldl (modeT b) t) v vg vo):=h.res;have hNw:=fun W=>l5New_any cn N W (by have:=rk.w.c;omega) (by have:=rk.w.n1;omega)
 unfold gridV at hNw;clear h;go_enter Tryz.func145,Tryz.ntmps145;go_wp2;go_loopw [6] (fun i wr=>∃ (j:Nat) (v':Tv) (vg' vo':List Value),i=.int .i64 j/\j<=ps.length/\Hid (Res w wr 35 base B [] v vg vo ((ps.take j).foldl (modeT b) t) v' vg' vo')/\SlN wr (.slice pa ps.length pc) ps/\ApF wr B v' vg' vo' (.slice pa ps.length pc)/\base<=wr.heap.size) (fun i _=>ps.length-(intOf i).toNat)
 case atStart=>exact ⟨0,v,vg,vo,rfl,Nat.zero_le _,hK,hp,hap,hbase⟩
 case round =>
  clear hK hp hap hbase;obtain ⟨j,v',vg',vo',rfl,hj,hK,hp,hap,hbj⟩:=hrel
  by_cases hlt:j<ps.length
  ·have hji:(j:Int)<(ps.length:Int):=by omega
   have hj0:(0:Int)<=(j:Int):=by omega
   have rkj:=RtK.modes b (ps.take j) rk
   have hnx:=fun W2 v2 g2 o2 (r':Res wr W2 35 base B [] v' vg' vo' (modeT b ((ps.take j).foldl (modeT b) t) (ps.getD j 0)) v2 g2 o2)=>(show Hid (Res w W2 35 base B [] v vg vo ((ps.take (j+1)).foldl (modeT b) t) v2 g2 o2)/\SlN W2 (.slice pa ps.length pc) ps/\ApF W2 B v2 g2 o2 (.slice pa ps.length pc)/\base<=W2.heap.size from by
    rw [<- (hfo j).out hlt] at r'
    have hr:=hp.res hap r';exact ⟨hK.out.trans r',hr.1,hr.2,Nat.le_trans hbj r'.g.size⟩)
   have hs:=hK.out.s;generalize (ps.take j).foldl (modeT b) t=t' at *;obtain ⟨_,_,hpe,hpc,hpn,hpx⟩:=id hp
   obtain ⟨pb,po,rfl,hcc⟩:∃ b off,pa=some ⟨b,off,none⟩/\wr.cell? ⟨b,off+j,none⟩=some (.int .i64 (ps.getD j 0)):=by
    rcases hpx with hz|⟨b',off',he,_,hc⟩
    ·rw [hz] at hlt;simp at hlt
    ·injection hpe with e1
     exact ⟨b',off',by rw [e1];exact he,hc j hlt⟩
   clear hpe hpc hpn hpx hp hap hfo;generalize ps.getD j 0=y at *;have rkw:=rkj.w;have c14:wr.cell? ⟨B,14,none⟩=some (.bool t'.wrap):=hs.cell 14;have z14:wr.frozen? ⟨B,14,none⟩=false:=hs.frozen 14;have c16:wr.cell? ⟨B,16,none⟩=some (.bool t'.hid):=hs.cell 16;have z16:wr.frozen? ⟨B,16,none⟩=false:=hs.frozen 16;clear hK rkj rk
   by_cases y7:y=7
   ·subst y7
    obtain ⟨k1,k2,k3,k4⟩:=hnx _ _ _ _ (show Res wr (wr.setCell ⟨B,14,none⟩ (.bool b)) 35 base B [] v' vg' vo' (modeT b t' 7) v' vg' vo' from hs.put (sCg B [.bool b] 14 wr) { t' with wrap:=b } (sCh B 35 [.bool b] 14 wr _ hs.b) rfl rfl rfl rfl rfl);clear hnx hs rkw hNw;go_wp2;go_roundw
    case rel=>exact ⟨j+1,_,_,_,by go_num,by omega,k1,k2,k3,k4⟩
    case measure=>simp [intOf];omega
   by_cases y25:y=25
   ·subst y25
    obtain ⟨k1,k2,k3,k4⟩:=hnx _ _ _ _ (show Res wr (wr.setCell ⟨B,16,none⟩ (.bool (!b))) 35 base B [] v' vg' vo' (modeT b t' 25) v' vg' vo' from hs.put (sCg B [.bool (!b)] 16 wr) { t' with hid:=!b } (sCh B 35 [.bool (!b)] 16 wr _ hs.b) rfl rfl rfl rfl rfl);clear hnx hs rkw hNw y7;go_wp2;go_roundw
    case rel=>exact ⟨j+1,_,_,_,by go_num,by omega,k1,k2,k3,k4⟩
    case measure=>simp [intOf];omega
   by_cases y10:y=1049
   ·subst y10
    clear y7 y25 c14 z14 c16 z16;obtain ⟨a,ha⟩:∃ a,Hid (t'.away=a):=⟨_,rfl⟩;have c15:wr.cell? ⟨B,15,none⟩=some (.bool a):=by rw [<- ha.out];exact hs.cell 15
    have z15:wr.frozen? ⟨B,15,none⟩=false:=hs.frozen 15
    by_cases hab:a=b
    ·subst hab
     have hV:modeT a t' 1049=t':=by unfold modeT;rw [if_neg (by omega),if_neg (by omega),if_pos rfl,if_pos ha.out]
     rw [hV] at hnx
     obtain ⟨k1,k2,k3,k4⟩:=hnx _ _ _ _ hs.res;clear hnx hs rkw hNw ha hV z15
     cases a
     ·go_wp2
      go_roundw
      case rel=>exact ⟨j+1,_,_,_,by go_num,by omega,k1,k2,k3,k4⟩
      case measure=>simp [intOf];omega
     ·go_wp2
      go_roundw
      case rel=>exact ⟨j+1,_,_,_,by go_num,by omega,k1,k2,k3,k4⟩
      case measure=>simp [intOf];omega
    have hV:modeT b t' 1049={ swapT { t' with away:=b } with g:=if b=true then newR cn N else t'.o }:=by
     unfold modeT swapT;rw [if_neg (by omega),if_neg (by omega),if_pos rfl,if_neg (by rw [ha.out];exact hab),rkw.gc,rkw.n,Int.toNat_natCast]
    rw [hV] at hnx
    have hgc:=rkw.gc;have hgl:=rkw.n;have hoc:t'.gc=t'.oc:=by rw [rkw.gc,rkw.oc]
    clear hV;obtain ⟨ga,gcp,hvg⟩:=sGs (SlG.of_own hs.o.1.g);obtain ⟨oa,ocp,hvo⟩:=sGs (SlG.of_own hs.o.2.1.g);obtain ⟨q1,q2,q3,q4,q5⟩:=v';simp only at hvg hvo;subst hvg;subst hvo;have c0:wr.cell? ⟨B,0,none⟩=some (.int .i64 t'.gc):=hs.cell 0;have c1:wr.cell? ⟨B,1,none⟩=some (.slice ga t'.g.length gcp):=hs.cell 1;have c2:wr.cell? ⟨B,2,none⟩=some (.int .i64 t'.oc):=hs.cell 2;have c3:wr.cell? ⟨B,3,none⟩=some (.slice oa t'.o.length ocp):=hs.cell 3;have z0:wr.frozen? ⟨B,0,none⟩=false:=hs.frozen 0;have z1:wr.frozen? ⟨B,1,none⟩=false:=hs.frozen 1;have z2:wr.frozen? ⟨B,2,none⟩=false:=hs.frozen 2;have z3:wr.frozen? ⟨B,3,none⟩=false:=hs.frozen 3;have hlt':=hs.lt;have hnB:wr.heap.size≠B:=by omega
    have hnB':B≠wr.heap.size:=by omega
    have p2:=hs.swap (grown_tr (sCg B [.int .i64 t'.oc,.slice oa t'.o.length ocp] 0 wr) (sCg B [.int .i64 t'.gc,.slice ga t'.g.length gcp] 2 _)) (sCh B 35 [.int .i64 t'.gc,.slice ga t'.g.length gcp] 2 _ _ (sCh B 35 [.int .i64 t'.oc,.slice oa t'.o.length ocp] 0 _ _ hs.b));have p4:=(p2.trans (p2.s.put (sCg B [.bool b] 15 _) { swapT t' with away:=b } (sCh B 35 [.bool b] 15 _ _ p2.s.b) rfl rfl rfl rfl rfl)).below (bal' _ (Obj.cells #[.int .i64 t'.gc,.slice ga t'.g.length gcp] 26))
    have hN3:∀ W,Calls Tryz.prog 138 #[.int .i64 t'.gc,.int .i64 (t'.g.length:Int)] W (fun e w'=>∃ u,e=.returned (.agg #[.int .i64 t'.gc,u])/\OwnG w' W.heap.size w'.heap.size u (newR cn N)/\Below W.heap.size W w'):=by
     rw [hgc,hgl]
     exact hNw
    clear p2 hs hNw;replace hoc:=(show Hid _ from hoc);replace hgc:=(show Hid _ from hgc);replace hgl:=(show Hid _ from hgl)
    cases b
    ·obtain rfl:a=true:=by simpa using hab
     obtain ⟨k1,k2,k3,k4⟩:=hnx _ _ _ _ p4;clear hab ha rkw hN3 hnx p4;go_wp2;go_roundw
     case rel=>exact ⟨j+1,_,_,_,by go_num,by omega,k1,k2,k3,k4⟩
     case measure=>simp [intOf];omega
    ·obtain rfl:a=false:=by simpa using hab
     have e:({ swapT { t' with away:=true } with gc:=t'.gc,g:=newR cn N }:Te)={ swapT { t' with away:=true } with g:=if true=true then newR cn N else t'.o }:=by rw [hoc.out];rfl
     rw [<- e] at hnx
     clear hab ha rkw e;replace hnx:=(show Hid _ from hnx);replace p4:=(show Hid _ from p4);go_wp2_with fail;refine (hN3 _).mono ?_;rintro e w5 ⟨u,rfl,hO,hb⟩;have hs5:=p4.out.s.below hb;have d0:w5.cell? ⟨B,0,none⟩=some (.int .i64 t'.oc):=hs5.cell 0;have d1:w5.cell? ⟨B,1,none⟩=some (.slice oa t'.o.length ocp):=hs5.cell 1;have y0:w5.frozen? ⟨B,0,none⟩=false:=hs5.frozen 0;have y1:w5.frozen? ⟨B,1,none⟩=false:=hs5.frozen 1;obtain ⟨ua,ucp,rfl⟩:=sGs (SlG.of_own hO);obtain ⟨vs,hu⟩:=hO.v;have p5:=p4.out.trans (Scr.grid p4.out.s (Nat.le_trans hbj p4.out.g.size) hb (.slice ua (newR cn N).length ucp) vs t'.gc (newR cn N) hu (sCg B [.int .i64 t'.gc,.slice ua (newR cn N).length ucp] 0 w5) (sCh B 35 [.int .i64 t'.gc,.slice ua (newR cn N).length ucp] 0 w5 _ hs5.b));obtain ⟨k1,k2,k3,k4⟩:=hnx.out _ _ _ _ p5;clear hN3 hnx p4 p5 hs5 hu hb hO;go_wp2;go_roundw
     case rel=>exact ⟨j+1,_,_,_,by go_num,by omega,k1,k2,k3,k4⟩
     case measure=>simp [intOf];omega
   have hV:modeT b t' y=t':=by unfold modeT;rw [if_neg y7,if_neg y25,if_neg y10]
   rw [hV] at hnx
   have q7:(y==7)=false:=by simp [y7]
   have q25:(y==25)=false:=by simp [y25]
   have q10:(y==1049)=false:=by simp [y10]
   obtain ⟨k1,k2,k3,k4⟩:=hnx _ _ _ _ hs.res;clear hnx hs rkw hNw hV y7 y25 y10 c14 z14 c16 z16;go_wp2;go_roundw
   case rel=>exact ⟨j+1,_,_,_,by go_num,by omega,k1,k2,k3,k4⟩
   case measure=>simp [intOf];omega
  ·have hjn:¬ (j:Int)<(ps.length:Int):=by omega
   have hF:=(show Hid (Res w wr 35 base B [] v vg vo (ps.foldl (modeT b) t) v' vg' vo') from by
    have e:ps.take j=ps:=List.take_of_length_le (by omega);rw [<- e]
    exact hK.out)
   clear hK hp hap hfo hNw;go_wp2;refine be ?_;exact ⟨rfl,_,_,_,hF.out⟩
theorem l7ActionOk_any (k r m:Int) (pv y:Value) (ps xs:List Int) (w:World) (hp:SlN w pv ps) (hy:SlN w y xs) (hpl:ps.length<=1048576) (ht:xs.length<=1048576) :
  Calls Tryz.prog 61 #[.agg (acA k r pv m y)] w fun e w'=>e=.returned (.bool (actB ⟨k,r,ps,m,xs⟩))/\Below w.heap.size w w':=by
 obtain ⟨W,hW⟩:∃ W,W=w.alloc (Obj.cells #[.int .i64 k,.int .i64 r,pv,.int .i64 m,y] 37):=⟨_,rfl⟩;have hb0:Below w.heap.size w W:=by rw [hW];exact bal' _ _
 have hA:BlkC W w.heap.size 37 [.int .i64 k,.int .i64 r,pv,.int .i64 m,y]:=by rw [hW];exact heap_alloc_new w _
 have a0:W.cell? ⟨w.heap.size,0,none⟩=some (.int .i64 k):=cAl hA 0;have a1:W.cell? ⟨w.heap.size,1,none⟩=some (.int .i64 r):=cAl hA 1;have a2:W.cell? ⟨w.heap.size,2,none⟩=some pv:=cAl hA 2;have a3:W.cell? ⟨w.heap.size,3,none⟩=some (.int .i64 m):=cAl hA 3;have a4:W.cell? ⟨w.heap.size,4,none⟩=some y:=cAl hA 4;have hRu:=specRuneOk_any r W;have hR1:=specRunes6_any y xs 40 W (hy.below hb0).si (by omega) (by decide);obtain ⟨rv,hrv⟩:∃ rv,Hid (rv=actB ⟨k,r,ps,m,xs⟩):=⟨_,rfl⟩;rw [<- hrv.out]
 have hval:Hid (rv=(runeOk r && (decide (ps.length<=16) && (decide (m=0\/m=63) && ((decide (xs.length<=40) && runesB xs) && paramsB ps))))):=hrv.out;replace hW:=(show Hid _ from hW);obtain ⟨pa,pc,rfl,hpc⟩:=(hp.below hb0).si.cons;obtain ⟨ya,yc,rfl⟩:=hy.shp;obtain ⟨rt,hrt⟩:∃ rt,(decide (xs.length<=40) && runesB xs)=rt:=⟨_,rfl⟩;rw [hrt] at hval
 generalize runeOk r=ru at *;clear hrv hp hy ht hA;unfold acA
 cases ru
 case false =>
  have hV:Hid (rv=false):=hval.out;clear hval hrt hpc;go_enter Tryz.func61,Tryz.ntmps61;refine wp_seq_k (fun K hK=>?_);have hH:=(show Hid _ from hK);clear hK;go_wp2;refine hH.out _ _ ?_;rw [<- hW.out]
  clear hH hW;go_wp2_with (first|(go_at_call 140;refine hRu.mono ?_;rintro e w' ⟨rfl,rfl⟩)|(go_at_call 75;refine hR1.mono ?_;rintro e w' ⟨rfl,rfl⟩));go_ret;exact ⟨by rw [hV.out];rfl,hb0⟩
 by_cases hl:ps.length<=16
 case neg =>
  have hV:Hid (rv=false):=by show _=_;rw [hval.out,decide_eq_false hl];rfl
  have hli:(16:Int)<(ps.length:Int):=by omega
  clear hval hrt hpc;go_enter Tryz.func61,Tryz.ntmps61;refine wp_seq_k (fun K hK=>?_);have hH:=(show Hid _ from hK);clear hK;go_wp2;refine hH.out _ _ ?_;rw [<- hW.out]
  clear hH hW;go_wp2_with (first|(go_at_call 140;refine hRu.mono ?_;rintro e w' ⟨rfl,rfl⟩)|(go_at_call 75;refine hR1.mono ?_;rintro e w' ⟨rfl,rfl⟩));go_ret;exact ⟨by rw [hV.out];rfl,hb0⟩
 have hli:¬ (16:Int)<(ps.length:Int):=by omega
 by_cases m0:m=0
 ·subst m0
  rw [hrt] at hR1
  cases rt
  case false =>
   have hV:Hid (rv=false):=by show _=_;rw [hval.out,decide_eq_true hl];simp
   clear hval hrt hpc hl;go_enter Tryz.func61,Tryz.ntmps61;refine wp_seq_k (fun K hK=>?_);have hH:=(show Hid _ from hK);clear hK;go_wp2;refine hH.out _ _ ?_;rw [<- hW.out]
   clear hH hW;go_wp2_with (first|(go_at_call 140;refine hRu.mono ?_;rintro e w' ⟨rfl,rfl⟩)|(go_at_call 75;refine hR1.mono ?_;rintro e w' ⟨rfl,rfl⟩));go_ret;exact ⟨by rw [hV.out];rfl,hb0⟩
  have hV0:Hid (rv=paramsB ps):=by show _=_;rw [hval.out,decide_eq_true hl];simp
  clear hval hrt hl;go_enter Tryz.func61,Tryz.ntmps61;refine wp_seq_k (fun K hK=>?_);have hH:=(show Hid _ from hK);clear hK;go_wp2;refine hH.out _ _ ?_;rw [<- hW.out]
  clear hH hW;go_wp2_with (first|(go_at_call 140;refine hRu.mono ?_;rintro e w' ⟨rfl,rfl⟩)|(go_at_call 75;refine hR1.mono ?_;rintro e w' ⟨rfl,rfl⟩));clear hRu hR1;go_loop [2,3] (fun _ i=>∃ j:Nat,i=.int .i64 j/\j<=ps.length/\Hid (∀ k,k<j->0<=ps.getD k 0/\ps.getD k 0<=9999)) (fun _ i=>ps.length-(intOf i).toNat)
  case atStart=>exact ⟨0,rfl,Nat.zero_le _,(fun k hk=>absurd hk (Nat.not_lt_zero k))⟩
  case round =>
   obtain ⟨j,rfl,hj,hall⟩:=hrel
   by_cases hlt:j<ps.length
   ·have hji:(j:Int)<(ps.length:Int):=by omega
    have hj0:(0:Int)<=(j:Int):=by omega
    obtain ⟨b,off,rfl,hcj⟩:=hpc j hlt;have hno:¬ (0<=ps.getD j 0/\ps.getD j 0<=9999)->Hid (paramsB ps=false):=fun h=>paramsB_no j hlt h
    have hstep:(0<=ps.getD j 0/\ps.getD j 0<=9999)->Hid (∀ k,k<j+1->0<=ps.getD k 0/\ps.getD k 0<=9999):=fun h=>(show ∀ k,k<j+1->0<=ps.getD k 0/\ps.getD k 0<=9999 from fun k hk=>by
     by_cases e:k=j
     ·rw [e];exact h
     ·exact hall.out k (by omega))
    have hin:=fun W=>l1In_any (ps.getD j 0) 0 9999 W
    clear hpc hall;generalize ps.getD j 0=x at *
    by_cases hx:0<=x/\x<=9999
    ·have hall2:=hstep hx
     rw [decide_eq_true hx] at hin
     clear hno hstep hx;go_wp2_with (go_at_call 73;refine (hin _).mono ?_;rintro e w' ⟨rfl,rfl⟩);go_round
     case rel=>exact ⟨j+1,by go_num,by omega,hall2⟩
     case measure=>simp [intOf];omega
    ·have hV:Hid (rv=false):=by show _=_;rw [hV0.out,(hno hx).out]
     rw [decide_eq_false hx] at hin
     clear hno hstep hx;go_wp2_with (go_at_call 73;refine (hin _).mono ?_;rintro e w' ⟨rfl,rfl⟩);go_ret;exact ⟨by rw [hV.out];rfl,hb0⟩
   ·have hjn:j=ps.length:=by omega
    have hji:¬ (j:Int)<(ps.length:Int):=by omega
    have hV:Hid (rv=true):=by show _=_;rw [hV0.out];exact paramsB_yes (by rw [<- hjn];exact hall.out)
    clear hpc hall hjn;go_wp2;go_ret;exact ⟨by rw [hV.out];rfl,hb0⟩
 by_cases m63:m=63
 ·subst m63
  rw [hrt] at hR1
  cases rt
  case false =>
   have hV:Hid (rv=false):=by show _=_;rw [hval.out,decide_eq_true hl];simp
   clear hval hrt hpc hl;go_enter Tryz.func61,Tryz.ntmps61;refine wp_seq_k (fun K hK=>?_);have hH:=(show Hid _ from hK);clear hK;go_wp2;refine hH.out _ _ ?_;rw [<- hW.out]
   clear hH hW;go_wp2_with (first|(go_at_call 140;refine hRu.mono ?_;rintro e w' ⟨rfl,rfl⟩)|(go_at_call 75;refine hR1.mono ?_;rintro e w' ⟨rfl,rfl⟩));go_ret;exact ⟨by rw [hV.out];rfl,hb0⟩
  have hV0:Hid (rv=paramsB ps):=by show _=_;rw [hval.out,decide_eq_true hl];simp
  clear hval hrt hl;go_enter Tryz.func61,Tryz.ntmps61;refine wp_seq_k (fun K hK=>?_);have hH:=(show Hid _ from hK);clear hK;go_wp2;refine hH.out _ _ ?_;rw [<- hW.out]
  clear hH hW;go_wp2_with (first|(go_at_call 140;refine hRu.mono ?_;rintro e w' ⟨rfl,rfl⟩)|(go_at_call 75;refine hR1.mono ?_;rintro e w' ⟨rfl,rfl⟩));clear hRu hR1;go_loop [2,3] (fun _ i=>∃ j:Nat,i=.int .i64 j/\j<=ps.length/\Hid (∀ k,k<j->0<=ps.getD k 0/\ps.getD k 0<=9999)) (fun _ i=>ps.length-(intOf i).toNat)
  case atStart=>exact ⟨0,rfl,Nat.zero_le _,(fun k hk=>absurd hk (Nat.not_lt_zero k))⟩
  case round =>
   obtain ⟨j,rfl,hj,hall⟩:=hrel
   by_cases hlt:j<ps.length
   ·have hji:(j:Int)<(ps.length:Int):=by omega
    have hj0:(0:Int)<=(j:Int):=by omega
    obtain ⟨b,off,rfl,hcj⟩:=hpc j hlt;have hno:¬ (0<=ps.getD j 0/\ps.getD j 0<=9999)->Hid (paramsB ps=false):=fun h=>paramsB_no j hlt h
    have hstep:(0<=ps.getD j 0/\ps.getD j 0<=9999)->Hid (∀ k,k<j+1->0<=ps.getD k 0/\ps.getD k 0<=9999):=fun h=>(show ∀ k,k<j+1->0<=ps.getD k 0/\ps.getD k 0<=9999 from fun k hk=>by
     by_cases e:k=j
     ·rw [e];exact h
     ·exact hall.out k (by omega))
    have hin:=fun W=>l1In_any (ps.getD j 0) 0 9999 W
    clear hpc hall;generalize ps.getD j 0=x at *
    by_cases hx:0<=x/\x<=9999
    ·have hall2:=hstep hx
     rw [decide_eq_true hx] at hin
     clear hno hstep hx;go_wp2_with (go_at_call 73;refine (hin _).mono ?_;rintro e w' ⟨rfl,rfl⟩);go_round
     case rel=>exact ⟨j+1,by go_num,by omega,hall2⟩
     case measure=>simp [intOf];omega
    ·have hV:Hid (rv=false):=by show _=_;rw [hV0.out,(hno hx).out]
     rw [decide_eq_false hx] at hin
     clear hno hstep hx;go_wp2_with (go_at_call 73;refine (hin _).mono ?_;rintro e w' ⟨rfl,rfl⟩);go_ret;exact ⟨by rw [hV.out];rfl,hb0⟩
   ·have hjn:j=ps.length:=by omega
    have hji:¬ (j:Int)<(ps.length:Int):=by omega
    have hV:Hid (rv=true):=by show _=_;rw [hV0.out];exact paramsB_yes (by rw [<- hjn];exact hall.out)
    clear hpc hall hjn;go_wp2;go_ret;exact ⟨by rw [hV.out];rfl,hb0⟩
 have hV:Hid (rv=false):=by show _=_;rw [hval.out,decide_eq_false (show ¬ (m=0\/m=63) by omega)];simp
 have q0:(m==0)=false:=by simp [m0]
 have q63:(m==63)=false:=by simp [m63]
 have q1:(m != 0)=true:=by simp [m0]
 have q2:(m != 63)=true:=by simp [m63]
 clear hval hrt hpc;go_enter Tryz.func61,Tryz.ntmps61;refine wp_seq_k (fun K hK=>?_);have hH:=(show Hid _ from hK);clear hK;go_wp2;refine hH.out _ _ ?_;rw [<- hW.out]
 clear hH hW;go_wp2_with (first|(go_at_call 140;refine hRu.mono ?_;rintro e w' ⟨rfl,rfl⟩)|(go_at_call 75;refine hR1.mono ?_;rintro e w' ⟨rfl,rfl⟩));go_ret;exact ⟨by rw [hV.out];rfl,hb0⟩
theorem clearL_whole (x y:List Ce) (n:Nat) (s:St) (hx:x.length=n) (hy:y.length=n):clearL x 0 n s=clearL y 0 n s:=by
 unfold clearL
 have e:fillUp x 0 n s=fillUp y 0 n s:=by
  refine List.ext_getElem (by rw [fillUp_len,fillUp_len,hx,hy]) fun i h1 h2=>?_
  rw [fillUp_len,hx] at h1
  simp [fillUp,h1,hx,hy]
 rw [e]
def eaP (t:Te) (how:Int) (i:Nat):Prop:=how=2\/how=0/\t.row<(i:Int)\/how=1/\(i:Int)<t.row
instance (t:Te) (how:Int) (i:Nat):Decidable (eaP t how i):=by unfold eaP;infer_instance
def eaG (t:Te) (how:Int) (cn j:Nat):List (List Ce):=genR t.g.length fun i=>if i<j/\eaP t how i then clearL (rowX (Go.Proofs.YtgcnmjjlmcnllaaGreatDoor.eraseRow t how).g i) 0 cn (backS t.st) else rowX (Go.Proofs.YtgcnmjjlmcnllaaGreatDoor.eraseRow t how).g i
theorem eaG_len (t:Te) (how:Int) (cn j:Nat):(eaG t how cn j).length=t.g.length:=genR_len _ _
theorem eaG_at (t:Te) (how:Int) (cn j i:Nat) (hi:i<t.g.length):rowX (eaG t how cn j) i=if i<j/\eaP t how i then clearL (rowX (Go.Proofs.YtgcnmjjlmcnllaaGreatDoor.eraseRow t how).g i) 0 cn (backS t.st) else rowX (Go.Proofs.YtgcnmjjlmcnllaaGreatDoor.eraseRow t how).g i:=genR_at _ _ _ hi
theorem eraseRow_len (t:Te) (how:Int):(Go.Proofs.YtgcnmjjlmcnllaaGreatDoor.eraseRow t how).g.length=t.g.length:=by
 unfold Go.Proofs.YtgcnmjjlmcnllaaGreatDoor.eraseRow clearT Go.Proofs.YtgcnmjjlmcnllaaGreatDoor.rowT;split
 ·simp
 split
 ·simp
 split
 ·simp
 rfl
theorem eraseRow_g (t:Te) (how:Int):{ t with g:=(Go.Proofs.YtgcnmjjlmcnllaaGreatDoor.eraseRow t how).g }=Go.Proofs.YtgcnmjjlmcnllaaGreatDoor.eraseRow t how:=by
 unfold Go.Proofs.YtgcnmjjlmcnllaaGreatDoor.eraseRow clearT Go.Proofs.YtgcnmjjlmcnllaaGreatDoor.rowT;split
 ·rfl
 split
 ·rfl
 split<;>rfl
theorem eraseRow_rl (t:Te) (how:Int) (i:Nat) (_hi:i<t.g.length):(rowX (Go.Proofs.YtgcnmjjlmcnllaaGreatDoor.eraseRow t how).g i).length=(rowX t.g i).length:=by
 have hs:∀ (r:Nat) (xs:List Ce),xs.length=(rowX t.g r).length->(rowX (t.g.set r xs) i).length=(rowX t.g i).length:=fun r xs hx=>by
  by_cases hr:r<t.g.length
  ·rw [rowX_same _ _ _ _ hr]
   split
   ·rename_i e;rw [hx,e]
   ·rfl
  ·rw [List.set_eq_of_length_le (by omega)]
 unfold Go.Proofs.YtgcnmjjlmcnllaaGreatDoor.eraseRow clearT Go.Proofs.YtgcnmjjlmcnllaaGreatDoor.rowT;split
 ·exact hs _ _ (clearL_len _ _ _ _)
 split
 ·exact hs _ _ (clearL_len _ _ _ _)
 split
 ·exact hs _ _ (clearL_len _ _ _ _)
 rfl
theorem eaG_zero (t:Te) (how:Int) (cn:Nat):({ t with g:=eaG t how cn 0 }:Te)=Go.Proofs.YtgcnmjjlmcnllaaGreatDoor.eraseRow t how:=by
 rw [<- eraseRow_g]
 congr 1
 refine ext_rowX _ _ (by rw [eaG_len,eraseRow_len]) fun i hi=>?_
 rw [eaG_len] at hi
 rw [eaG_at _ _ _ _ _ hi,if_neg (by omega)]
theorem eaG_skip (t:Te) (how:Int) (cn j:Nat) (hp:¬ eaP t how j):eaG t how cn (j+1)=eaG t how cn j :=
 ext_rowX _ _ (by rw [eaG_len,eaG_len]) fun i hi=>by
  rw [eaG_len] at hi
  rw [eaG_at _ _ _ _ _ hi,eaG_at _ _ _ _ _ hi]
  by_cases e:i=j
  ·subst e;rw [if_neg (fun e=>hp e.2),if_neg (by omega)]
  ·by_cases c:i<j/\eaP t how i
   ·rw [if_pos ⟨by omega,c.2⟩,if_pos c]
   ·rw [if_neg (fun q=>c ⟨by omega,q.2⟩),if_neg c]
theorem eaG_step (t:Te) (how:Int) (cn j:Nat) (hj:j<t.g.length) (hp:eaP t how j):clearT { t with g:=eaG t how cn j } (j:Int) 0 (cn:Int)={ t with g:=eaG t how cn (j+1) }:=by
 unfold clearT Go.Proofs.YtgcnmjjlmcnllaaGreatDoor.rowT;simp only;rw [Int.toNat_natCast,Int.toNat_natCast,eaG_at _ _ _ _ _ hj,if_neg (by omega)]
 congr 1
 refine ext_rowX _ _ (by rw [List.length_set,eaG_len,eaG_len]) fun i hi=>?_
 rw [List.length_set,eaG_len] at hi
 rw [rowX_same _ _ _ _ (by rw [eaG_len];exact hj),eaG_at _ _ _ _ _ hi,eaG_at _ _ _ _ _ hi]
 by_cases e:i=j
 ·subst e;rw [if_pos rfl,if_pos ⟨by omega,hp⟩];rfl
 ·rw [if_neg e]
  by_cases c:i<j/\eaP t how i
  ·rw [if_pos c,if_pos ⟨by omega,c.2⟩]
  ·rw [if_neg c,if_neg (fun q=>c ⟨by omega,q.2⟩)]
theorem eaG_end {t:Te} {cn N:Nat} (rt:RtW t cn N) (how:Int):({ t with g:=eaG t how cn N }:Te)=Go.Proofs.YtgcnmjjlmcnllaaGreatDoor.eraseAll t how:=by
 have hN:=rt.n;unfold Go.Proofs.YtgcnmjjlmcnllaaGreatDoor.eraseAll
 congr 1
 refine ext_rowX _ _ (by rw [eaG_len,genR_len]) fun i hi=>?_
 rw [eaG_len] at hi
 rw [eaG_at _ _ _ _ _ hi,genR_at _ _ _ hi]
 by_cases c:eaP t how i
 ·rw [if_pos ⟨by omega,c⟩,rt.gc,Int.toNat_natCast]
  unfold eaP at c;rw [if_pos c]
  exact clearL_whole _ _ _ _ (by rw [eraseRow_rl _ _ _ hi];exact rt.gx i (by omega)) (rt.gx i (by omega))
 ·rw [if_neg (fun q=>c q.2)]
  unfold eaP at c;rw [if_neg c]
theorem RtW.ea {t:Te} {cn N:Nat} (rt:RtW t cn N) (how:Int) (j:Nat):RtW { t with g:=eaG t how cn j } cn N :=
 ⟨rt.gc,rt.oc,rt.c,by rw [<- rt.n];exact eaG_len _ _ _ _,rt.m,rt.n1,fun i hi=>by
  have hi2:i<t.g.length:=by rw [rt.n];exact hi
  show (rowX (eaG t how cn j) i).length=cn
  rw [eaG_at _ _ _ _ _ hi2]
  split
  ·rw [clearL_len,eraseRow_rl _ _ _ hi2];exact rt.gx i hi
  ·rw [eraseRow_rl _ _ _ hi2];exact rt.gx i hi,rt.ox,rt.row,rt.col,rt.tb⟩
end Go.Proofs.YtgcnmjjlmcnllaaGreatDoor
