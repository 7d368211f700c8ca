import Derived.Test.YtfpopnkhmjkdlaaGreatDoorP15
set_option maxRecDepth 20000
set_option maxHeartbeats 16000000
namespace Go.Proofs.YtfpopnkhmjkdlaaGreatDoor
open Go.ChangeShapes Go.WideShapes Go.ChangeAt Go.RowKit
def TB (w:World) (B:Nat) (cs:List Value):Prop:=Xj w B 35 cs
theorem TB.lt {w:World} {B:Nat} {cs:List Value} (h:TB w B cs):B<w.heap.size:=(Array.getElem?_eq_some_iff.1 h).1
theorem Xch:(Tryz.prog.info? 2).map (·.size)=some 1:=by kernel_rfl
theorem Xh9:(Tryz.prog.info? 4).map (·.size)=some 1:=by kernel_rfl
theorem Xeb:(Tryz.prog.info? 26).map (·.size)=some 2:=by kernel_rfl
theorem Xhy:(Tryz.prog.info? 28).map (·.size)=some 5:=by kernel_rfl
theorem QS:(Tryz.prog.info? 29).map (·.size)=some 1:=by kernel_rfl
theorem Xci:(Tryz.prog.info? 31).map (·.size)=some 4:=by kernel_rfl
theorem Xia:(Tryz.prog.info? 33).map (·.size)=some 1:=by kernel_rfl
theorem TB.kept {w w':World} {B:Nat} {cs:List Value} {row:Option Nat} (h:TB w B cs) (hg:w.grownBy w' row) (hne:row≠some B):TB w' B cs:=by
 unfold TB Xj;rw [hg.block B h.lt (Ne.symm hne)]
 exact h
theorem TB.below {w w':World} {B:Nat} {cs:List Value} (h:TB w B cs) (hb:Below w.heap.size w w'):TB w' B cs:=h.kept (gbl hb none) (by simp)
theorem TB.new (w:World) (cs:List Value):TB (w.alloc (.cells cs.toArray 35)) w.heap.size cs:=heap_alloc_new w _
theorem cAl {w:World} {B:Nat} {cs:Array Value} {T:TypeId} (h:w.heap[B]?=some (.cells cs T (0,0))) (k:Nat):w.cell? ⟨B,k,none⟩=cs[k]?:=cell_of_row w B _ _ _ (0,0) h
theorem XS.join {w:World} {b c:Nat} {L M:List (Value×List Int)} (h:XS w b L) (hl:∀ p∈L,∀ g,p.1.ownBlock=some g->g<c) (k:XS w c M) (hbc:b<=c):XS w b (L++M) :=
 ⟨fun p hp=>(List.mem_append.1 hp).elim (h.1 p) (fun hm=>(k.1 p hm).low hbc),List.pairwise_append.2 ⟨h.2,k.2,fun p hp q hq g e1 e2=>by have:=hl p hp g e1;have:=((k.1 q hq).lt g e2).1;omega⟩⟩
theorem YE.low {w:World} {lo lo' hi:Nat} {v:Value} {rows:List (List Ce)} (h:YE w lo hi v rows) (hb:lo'<=lo):YE w lo' hi v rows:=⟨h.1.low hb,h.2.1,h.2.2⟩
def Qz (w:World) (base:Nat) (t:Te) (v:Tv):Prop:=∃ b1 b2 b3,YE w base b1 v.g t.g/\YE w b1 b2 v.o t.o/\XS w b3 [(v.ti,t.ti),(v.pp,t.pa.params),(v.pt,t.pa.text)]/\base<=b1/\b1<=b2/\b2<=b3/\b3<=w.heap.size
theorem Qz.sl {w:World} {base:Nat} {t:Te} {v:Tv} (h:Qz w base t v):SlT w t v:=by
 obtain ⟨b1,b2,b3,h1,h2,h3,_⟩:=h;exact ⟨h1.sl,h2.sl,SlN.of_own h3.head,SlN.of_own h3.tail.head,SlN.of_own h3.tail.tail.head⟩
theorem YE.grown {w w':World} {lo hi B:Nat} {v:Value} {rows:List (List Ce)} (h:YE w lo hi v rows) (hg:w.grownBy w' (some B)) (hB:B<lo):YE w' lo hi v rows :=
 ⟨h.1.kept hg (fun g e=>by cases e;exact hB),h.2.1,Nat.le_trans h.2.2 hg.size⟩
set_option maxRecDepth 40000 in
theorem XcV (t:Te) (v:Tv) (w:World) (h:SlT w t v) (hz:SzT 1048576 t) :
  Calls Tryz.prog 30 #[teV t v] w fun e w'=>∃ v',e=.returned (teV t v')/\Qz w' w.heap.size t v'/\Below w.heap.size w w':=by
 obtain ⟨vg,vo,vti,vpp,vpt⟩:=v;obtain ⟨hg,ho,hti,hpp,hpt⟩:=h;simp only at hg ho hti hpp hpt;obtain ⟨z1,z2,z3,z4,z5,z6,z7⟩:=hz;have cG:=fun W hW=>Qn t.gc vg t.g W hW (by omega) (fun i hi=>by have:=z2 i hi;omega)
 have cO:=fun W hW=>Qn t.oc vo t.o W hW (by omega) (fun i hi=>by have:=z4 i hi;omega)
 have cS:=fun W=>JW t.st W
 have cSs:=fun W=>JW t.ss W
 have cT:=fun W hW=>JV vti t.ti W hW (by omega)
 have cP:=fun W h1 h2=>XaN t.pa vpp vpt W h1 h2 (by omega) (by omega)
 have cF:=fun W=>XbV t.fe W
 have hb0:=Xd w (Obj.cells (Xg t ⟨vg,vo,vti,vpp,vpt⟩) 65);have hX0:=TeB.new w 65 t ⟨vg,vo,vti,vpp,vpt⟩;obtain ⟨ga,gp,hq1⟩:=sGs hg;obtain ⟨oa,op,hq2⟩:=sGs ho;obtain ⟨tia,tip,hq3⟩:=hti.shp;obtain ⟨ppa,ppp,hq4⟩:=hpp.shp;obtain ⟨pta,ptp,hq5⟩:=hpt.shp;subst hq1;subst hq2;subst hq3;subst hq4;subst hq5;obtain ⟨w1,hw1⟩:∃ w1,w1=w.alloc (Obj.cells (Xg t ⟨.slice ga t.g.length gp,.slice oa t.o.length op,.slice tia t.ti.length tip,.slice ppa t.pa.params.length ppp,.slice pta t.pa.text.length ptp⟩) 65):=⟨_,rfl⟩;rw [<- hw1] at hX0 hb0
 have zs1:w1.heap.size=w.heap.size+1:=by rw [hw1];simp
 obtain ⟨w2,hw2⟩:∃ w2,w2=(w1.alloc (Obj.cells #[.int .i64 0,.slice none 0 0,.int .i64 0,.slice none 0 0,.int .i64 0,.int .i64 0,.int .i64 0,.int .i64 0,.bool false,.bool false,.bool false,.int .i64 0,.int .i64 0,.bool false,.bool false,.bool false,.bool false,.int .i64 0,.int .i64 0,.int .i64 0,.int .i64 0,.bool false,.bool false,.bool false,.slice none 0 0,.int .i64 0,.slice none 0 0,.int .i64 0,.slice none 0 0,.string ⟨#[]⟩] 35)).alloc (Obj.cells #[.int .i64 0,.slice none 0 0,.int .i64 0,.slice none 0 0,.int .i64 0,.int .i64 0,.int .i64 0,.int .i64 0,.bool false,.bool false,.bool false,.int .i64 0,.int .i64 0,.bool false,.bool false,.bool false,.bool false,.int .i64 0,.int .i64 0,.int .i64 0,.int .i64 0,.bool false,.bool false,.bool false,.slice none 0 0,.int .i64 0,.slice none 0 0,.int .i64 0,.slice none 0 0,.string ⟨#[]⟩] 35):=⟨_,rfl⟩;have hb1:=Xd w1 (Obj.cells #[.int .i64 0,.slice none 0 0,.int .i64 0,.slice none 0 0,.int .i64 0,.int .i64 0,.int .i64 0,.int .i64 0,.bool false,.bool false,.bool false,.int .i64 0,.int .i64 0,.bool false,.bool false,.bool false,.bool false,.int .i64 0,.int .i64 0,.int .i64 0,.int .i64 0,.bool false,.bool false,.bool false,.slice none 0 0,.int .i64 0,.slice none 0 0,.int .i64 0,.slice none 0 0,.string ⟨#[]⟩] 35);have hb2:=Xd (w1.alloc (Obj.cells #[.int .i64 0,.slice none 0 0,.int .i64 0,.slice none 0 0,.int .i64 0,.int .i64 0,.int .i64 0,.int .i64 0,.bool false,.bool false,.bool false,.int .i64 0,.int .i64 0,.bool false,.bool false,.bool false,.bool false,.int .i64 0,.int .i64 0,.int .i64 0,.int .i64 0,.bool false,.bool false,.bool false,.slice none 0 0,.int .i64 0,.slice none 0 0,.int .i64 0,.slice none 0 0,.string ⟨#[]⟩] 35)) (Obj.cells #[.int .i64 0,.slice none 0 0,.int .i64 0,.slice none 0 0,.int .i64 0,.int .i64 0,.int .i64 0,.int .i64 0,.bool false,.bool false,.bool false,.int .i64 0,.int .i64 0,.bool false,.bool false,.bool false,.bool false,.int .i64 0,.int .i64 0,.int .i64 0,.int .i64 0,.bool false,.bool false,.bool false,.slice none 0 0,.int .i64 0,.slice none 0 0,.int .i64 0,.slice none 0 0,.string ⟨#[]⟩] 35);have hR0:=(TB.new w1 [.int .i64 0,.slice none 0 0,.int .i64 0,.slice none 0 0,.int .i64 0,.int .i64 0,.int .i64 0,.int .i64 0,.bool false,.bool false,.bool false,.int .i64 0,.int .i64 0,.bool false,.bool false,.bool false,.bool false,.int .i64 0,.int .i64 0,.int .i64 0,.int .i64 0,.bool false,.bool false,.bool false,.slice none 0 0,.int .i64 0,.slice none 0 0,.int .i64 0,.slice none 0 0,.string ⟨#[]⟩]).below hb2;have hB0:=TB.new (w1.alloc (Obj.cells #[.int .i64 0,.slice none 0 0,.int .i64 0,.slice none 0 0,.int .i64 0,.int .i64 0,.int .i64 0,.int .i64 0,.bool false,.bool false,.bool false,.int .i64 0,.int .i64 0,.bool false,.bool false,.bool false,.bool false,.int .i64 0,.int .i64 0,.int .i64 0,.int .i64 0,.bool false,.bool false,.bool false,.slice none 0 0,.int .i64 0,.slice none 0 0,.int .i64 0,.slice none 0 0,.string ⟨#[]⟩] 35)) [.int .i64 0,.slice none 0 0,.int .i64 0,.slice none 0 0,.int .i64 0,.int .i64 0,.int .i64 0,.int .i64 0,.bool false,.bool false,.bool false,.int .i64 0,.int .i64 0,.bool false,.bool false,.bool false,.bool false,.int .i64 0,.int .i64 0,.int .i64 0,.int .i64 0,.bool false,.bool false,.bool false,.slice none 0 0,.int .i64 0,.slice none 0 0,.int .i64 0,.slice none 0 0,.string ⟨#[]⟩]
 have hbb:=hb1.trans (hb2.mono hb1.size);have zs2:w2.heap.size=w.heap.size+3:=by rw [hw2];simp;omega
 rw [<- hw2] at hR0 hB0 hbb
 rw [zs1] at hR0
 rw [show (w1.alloc (Obj.cells #[.int .i64 0,.slice none 0 0,.int .i64 0,.slice none 0 0,.int .i64 0,.int .i64 0,.int .i64 0,.int .i64 0,.bool false,.bool false,.bool false,.int .i64 0,.int .i64 0,.bool false,.bool false,.bool false,.bool false,.int .i64 0,.int .i64 0,.int .i64 0,.int .i64 0,.bool false,.bool false,.bool false,.slice none 0 0,.int .i64 0,.slice none 0 0,.int .i64 0,.slice none 0 0,.string ⟨#[]⟩] 35)).heap.size=w.heap.size+2 by simp;omega] at hB0
 have hX:=hX0.below hbb;have kb:=hb0.trans (hbb.mono hb0.size);rw [hw1] at hw2
 replace hw2:=(show Hid _ from hw2);clear z1 z2 z3 z4 z5 z6 z7 hb0 hb1 hb2 hbb hX0 hw1 zs1;unfold teV Yp stV paV at *;go_enter Tryz.func30,Tryz.ntmps30;refine wp_seq_k (fun K hK=>?_);have hH:=(show Hid _ from hK);clear hK;go_wp2;refine hH.out _ _ ?_;clear hH;refine wp_seq_k (fun K hK=>?_);have hH:=(show Hid _ from hK);clear hK;go_wp2;refine hH.out _ _ ?_;rw [<- hw2.out,show w.heap.size+1+1=w.heap.size+2 from rfl]
 clear hH hw2;obtain ⟨c0,c1,c2,c3,c4,c5,c6,c7,c8,c9,c10,c11,c12,c13,c14,c15,c16,c17,c18,c19,c20,c21,c22,c23,c24,c25,c26,c27,c28,c29⟩:=hX.cells;go_wp2_with fail;refine (cG _ (hg.below kb)).mono ?_;rintro e w3 ⟨xg,rfl,hng,hb⟩;clear c0 c1 c2 c3 c4 c5 c6 c7 c8 c9 c10 c11 c12 c13 c14 c15 c16 c17 c18 c19 c20 c21 c22 c23 c24 c25 c26 c27 c28 c29;have hB:=hB0.below hb;replace hX:=hX.below hb;have hR:=hR0.below hb;have s23:w2.heap.size<=w3.heap.size:=hb.size;replace kb:=kb.trans (hb.mono kb.size);clear hB0 hR0 hb;obtain ⟨xga,xgn,xgp,hxg⟩:=Jc (SlG.of_own hng);subst hxg;have og:YE w3 w2.heap.size w3.heap.size (.slice xga xgn xgp) t.g:=YE.of hng;clear hng;have hBl:=hB;have hac:=World.grownBy.refl w3 (some (w.heap.size+2));obtain ⟨z3,hz3⟩:∃ z,Hid (w3.heap.size=z):=⟨_,rfl⟩;have zc:=hz3;obtain ⟨c0,c1,c2,c3,c4,c5,c6,c7,c8,c9,c10,c11,c12,c13,c14,c15,c16,c17,c18,c19,c20,c21,c22,c23,c24,c25,c26,c27,c28,c29⟩:=hX.cells;go_wp2_with (first|(refine XD (by rfl) 26 _ _ (by rfl) Xeb hB (by rfl) (by rfl) (by rfl) (by rfl) (by rfl) ?_;intro W hg1 hB1 hz1;clear c0 c1 c2 c3 c4 c5 c6 c7 c8 c9 c10 c11 c12 c13 c14 c15 c16 c17 c18 c19 c20 c21 c22 c23 c24 c25 c26 c27 c28 c29;have hX1:=hX.kept hg1 (by simp);have hac1:=Xf hac hg1;have zc1:=(show Hid _ from hz1.trans zc.out);clear hX hB hac zc hg1 hz1;have hX:=hX1;have hB:=hB1;have hac:=hac1;have zc:=zc1;clear hX1 hB1 hac1 zc1;obtain ⟨c0,c1,c2,c3,c4,c5,c6,c7,c8,c9,c10,c11,c12,c13,c14,c15,c16,c17,c18,c19,c20,c21,c22,c23,c24,c25,c26,c27,c28,c29⟩:=hX.cells));clear c0 c1 c2 c3 c4 c5 c6 c7 c8 c9 c10 c11 c12 c13 c14 c15 c16 c17 c18 c19 c20 c21 c22 c23 c24 c25 c26 c27 c28 c29;have kbc:=kb.grown hac kb.size (fun g e=>by cases e;omega);have hR:=hR.kept hac (by simp);have og:=og.grown hac (by omega);replace hB:TB _ (w.heap.size+2) [.int .i64 t.gc,.slice xga xgn xgp,.int .i64 0,.slice none 0 0,.int .i64 0,.int .i64 0,.int .i64 0,.int .i64 0,.bool false,.bool false,.bool false,.int .i64 0,.int .i64 0,.bool false,.bool false,.bool false,.bool false,.int .i64 0,.int .i64 0,.int .i64 0,.int .i64 0,.bool false,.bool false,.bool false,.slice none 0 0,.int .i64 0,.slice none 0 0,.int .i64 0,.slice none 0 0,.string ⟨#[]⟩]:=hB;clear hac hBl;refine (cO _ (ho.below kbc)).mono ?_;rintro e w4 ⟨xo,rfl,hno,hb⟩;replace hB:=hB.below hb;replace hX:=hX.below hb;replace hR:=hR.below hb;replace kb:=kbc.trans (hb.mono kbc.size);have s34:w3.heap.size<=w4.heap.size:=by have:=hb.size;rw [zc.out,<- hz3.out] at this;exact this
 replace og:=og.below hb;clear kbc hb;rw [zc.out,<- hz3.out] at hno
 obtain ⟨xoa,xon,xop,hxo⟩:=Jc (SlG.of_own hno);subst hxo;have oo:YE w4 w3.heap.size w4.heap.size (.slice xoa xon xop) t.o:=YE.of hno;clear hno;clear zc;have hBl:=hB;have hac:=World.grownBy.refl w4 (some (w.heap.size+2));obtain ⟨z4,hz4⟩:∃ z,Hid (w4.heap.size=z):=⟨_,rfl⟩;have zc:=hz4;obtain ⟨c0,c1,c2,c3,c4,c5,c6,c7,c8,c9,c10,c11,c12,c13,c14,c15,c16,c17,c18,c19,c20,c21,c22,c23,c24,c25,c26,c27,c28,c29⟩:=hX.cells;go_wp2_with (first|(refine XD (by rfl) 26 _ _ (by rfl) Xeb hB (by rfl) (by rfl) (by rfl) (by rfl) (by rfl) ?_;intro W hg1 hB1 hz1;clear c0 c1 c2 c3 c4 c5 c6 c7 c8 c9 c10 c11 c12 c13 c14 c15 c16 c17 c18 c19 c20 c21 c22 c23 c24 c25 c26 c27 c28 c29;have hX1:=hX.kept hg1 (by simp);have hac1:=Xf hac hg1;have zc1:=(show Hid _ from hz1.trans zc.out);clear hX hB hac zc hg1 hz1;have hX:=hX1;have hB:=hB1;have hac:=hac1;have zc:=zc1;clear hX1 hB1 hac1 zc1;obtain ⟨c0,c1,c2,c3,c4,c5,c6,c7,c8,c9,c10,c11,c12,c13,c14,c15,c16,c17,c18,c19,c20,c21,c22,c23,c24,c25,c26,c27,c28,c29⟩:=hX.cells)|(refine XD (by rfl) 2 _ _ (by rfl) Xch hB (by rfl) (by rfl) (by rfl) (by rfl) (by rfl) ?_;intro W hg1 hB1 hz1;clear c0 c1 c2 c3 c4 c5 c6 c7 c8 c9 c10 c11 c12 c13 c14 c15 c16 c17 c18 c19 c20 c21 c22 c23 c24 c25 c26 c27 c28 c29;have hX1:=hX.kept hg1 (by simp);have hac1:=Xf hac hg1;have zc1:=(show Hid _ from hz1.trans zc.out);clear hX hB hac zc hg1 hz1;have hX:=hX1;have hB:=hB1;have hac:=hac1;have zc:=zc1;clear hX1 hB1 hac1 zc1;obtain ⟨c0,c1,c2,c3,c4,c5,c6,c7,c8,c9,c10,c11,c12,c13,c14,c15,c16,c17,c18,c19,c20,c21,c22,c23,c24,c25,c26,c27,c28,c29⟩:=hX.cells));clear c0 c1 c2 c3 c4 c5 c6 c7 c8 c9 c10 c11 c12 c13 c14 c15 c16 c17 c18 c19 c20 c21 c22 c23 c24 c25 c26 c27 c28 c29;have kbc:=kb.grown hac kb.size (fun g e=>by cases e;omega);have hR:=hR.kept hac (by simp);have og:=og.grown hac (by omega);have oo:=oo.grown hac (by omega);replace hB:TB _ (w.heap.size+2) [.int .i64 t.gc,.slice xga xgn xgp,.int .i64 t.oc,.slice xoa xon xop,.int .i64 t.row,.int .i64 t.col,.int .i64 0,.int .i64 0,.bool false,.bool false,.bool false,.int .i64 0,.int .i64 0,.bool false,.bool false,.bool false,.bool false,.int .i64 0,.int .i64 0,.int .i64 0,.int .i64 0,.bool false,.bool false,.bool false,.slice none 0 0,.int .i64 0,.slice none 0 0,.int .i64 0,.slice none 0 0,.string ⟨#[]⟩]:=hB;clear hac hBl;refine (cS _).mono ?_;rintro e w5 ⟨rfl,hb⟩;replace hB:=hB.below hb;replace hX:=hX.below hb;replace hR:=hR.below hb;replace kb:=kbc.trans (hb.mono kbc.size);have s45:w4.heap.size<=w5.heap.size:=by have:=hb.size;rw [zc.out,<- hz4.out] at this;exact this
 replace og:=og.below hb;replace oo:=oo.below hb;clear kbc hb;clear zc;have hBl:=hB;have hac:=World.grownBy.refl w5 (some (w.heap.size+2));obtain ⟨z5,hz5⟩:∃ z,Hid (w5.heap.size=z):=⟨_,rfl⟩;have zc:=hz5;obtain ⟨c0,c1,c2,c3,c4,c5,c6,c7,c8,c9,c10,c11,c12,c13,c14,c15,c16,c17,c18,c19,c20,c21,c22,c23,c24,c25,c26,c27,c28,c29⟩:=hX.cells;go_wp2_with (first|(refine XD (by rfl) 28 _ _ (by rfl) Xhy hB (by rfl) (by rfl) (by rfl) (by rfl) (by rfl) ?_;intro W hg1 hB1 hz1;clear c0 c1 c2 c3 c4 c5 c6 c7 c8 c9 c10 c11 c12 c13 c14 c15 c16 c17 c18 c19 c20 c21 c22 c23 c24 c25 c26 c27 c28 c29;have hX1:=hX.kept hg1 (by simp);have hac1:=Xf hac hg1;have zc1:=(show Hid _ from hz1.trans zc.out);clear hX hB hac zc hg1 hz1;have hX:=hX1;have hB:=hB1;have hac:=hac1;have zc:=zc1;clear hX1 hB1 hac1 zc1;obtain ⟨c0,c1,c2,c3,c4,c5,c6,c7,c8,c9,c10,c11,c12,c13,c14,c15,c16,c17,c18,c19,c20,c21,c22,c23,c24,c25,c26,c27,c28,c29⟩:=hX.cells)|(refine XD (by rfl) 2 _ _ (by rfl) Xch hB (by rfl) (by rfl) (by rfl) (by rfl) (by rfl) ?_;intro W hg1 hB1 hz1;clear c0 c1 c2 c3 c4 c5 c6 c7 c8 c9 c10 c11 c12 c13 c14 c15 c16 c17 c18 c19 c20 c21 c22 c23 c24 c25 c26 c27 c28 c29;have hX1:=hX.kept hg1 (by simp);have hac1:=Xf hac hg1;have zc1:=(show Hid _ from hz1.trans zc.out);clear hX hB hac zc hg1 hz1;have hX:=hX1;have hB:=hB1;have hac:=hac1;have zc:=zc1;clear hX1 hB1 hac1 zc1;obtain ⟨c0,c1,c2,c3,c4,c5,c6,c7,c8,c9,c10,c11,c12,c13,c14,c15,c16,c17,c18,c19,c20,c21,c22,c23,c24,c25,c26,c27,c28,c29⟩:=hX.cells)|(refine XD (by rfl) 4 _ _ (by rfl) Xh9 hB (by rfl) (by rfl) (by rfl) (by rfl) (by rfl) ?_;intro W hg1 hB1 hz1;clear c0 c1 c2 c3 c4 c5 c6 c7 c8 c9 c10 c11 c12 c13 c14 c15 c16 c17 c18 c19 c20 c21 c22 c23 c24 c25 c26 c27 c28 c29;have hX1:=hX.kept hg1 (by simp);have hac1:=Xf hac hg1;have zc1:=(show Hid _ from hz1.trans zc.out);clear hX hB hac zc hg1 hz1;have hX:=hX1;have hB:=hB1;have hac:=hac1;have zc:=zc1;clear hX1 hB1 hac1 zc1;obtain ⟨c0,c1,c2,c3,c4,c5,c6,c7,c8,c9,c10,c11,c12,c13,c14,c15,c16,c17,c18,c19,c20,c21,c22,c23,c24,c25,c26,c27,c28,c29⟩:=hX.cells));clear c0 c1 c2 c3 c4 c5 c6 c7 c8 c9 c10 c11 c12 c13 c14 c15 c16 c17 c18 c19 c20 c21 c22 c23 c24 c25 c26 c27 c28 c29;have kbc:=kb.grown hac kb.size (fun g e=>by cases e;omega);have hR:=hR.kept hac (by simp);have og:=og.grown hac (by omega);have oo:=oo.grown hac (by omega);replace hB:TB _ (w.heap.size+2) [.int .i64 t.gc,.slice xga xgn xgp,.int .i64 t.oc,.slice xoa xon xop,.int .i64 t.row,.int .i64 t.col,.int .i64 t.st.fore,.int .i64 t.st.back,.bool t.st.bold,.bool t.st.under,.bool t.st.turned,.int .i64 t.top,.int .i64 t.bot,.bool t.full,.bool t.wrap,.bool t.away,.bool t.hid,.int .i64 t.sr,.int .i64 t.sc,.int .i64 0,.int .i64 0,.bool false,.bool false,.bool false,.slice none 0 0,.int .i64 0,.slice none 0 0,.int .i64 0,.slice none 0 0,.string ⟨#[]⟩]:=hB;clear hac hBl;refine (cSs _).mono ?_;rintro e w6 ⟨rfl,hb⟩;replace hB:=hB.below hb;replace hX:=hX.below hb;replace hR:=hR.below hb;replace kb:=kbc.trans (hb.mono kbc.size)
 have s56:w5.heap.size<=w6.heap.size:=by have:=hb.size;rw [zc.out,<- hz5.out] at this;exact this
 replace og:=og.below hb;replace oo:=oo.below hb;clear kbc hb;clear zc;have hBl:=hB;have hac:=World.grownBy.refl w6 (some (w.heap.size+2));obtain ⟨z6,hz6⟩:∃ z,Hid (w6.heap.size=z):=⟨_,rfl⟩;have zc:=hz6;obtain ⟨c0,c1,c2,c3,c4,c5,c6,c7,c8,c9,c10,c11,c12,c13,c14,c15,c16,c17,c18,c19,c20,c21,c22,c23,c24,c25,c26,c27,c28,c29⟩:=hX.cells;go_wp2_with (first|(refine XD (by rfl) 28 _ _ (by rfl) Xhy hB (by rfl) (by rfl) (by rfl) (by rfl) (by rfl) ?_;intro W hg1 hB1 hz1;clear c0 c1 c2 c3 c4 c5 c6 c7 c8 c9 c10 c11 c12 c13 c14 c15 c16 c17 c18 c19 c20 c21 c22 c23 c24 c25 c26 c27 c28 c29;have hX1:=hX.kept hg1 (by simp);have hac1:=Xf hac hg1;have zc1:=(show Hid _ from hz1.trans zc.out);clear hX hB hac zc hg1 hz1;have hX:=hX1;have hB:=hB1;have hac:=hac1;have zc:=zc1;clear hX1 hB1 hac1 zc1;obtain ⟨c0,c1,c2,c3,c4,c5,c6,c7,c8,c9,c10,c11,c12,c13,c14,c15,c16,c17,c18,c19,c20,c21,c22,c23,c24,c25,c26,c27,c28,c29⟩:=hX.cells));clear c0 c1 c2 c3 c4 c5 c6 c7 c8 c9 c10 c11 c12 c13 c14 c15 c16 c17 c18 c19 c20 c21 c22 c23 c24 c25 c26 c27 c28 c29;have kbc:=kb.grown hac kb.size (fun g e=>by cases e;omega);have hR:=hR.kept hac (by simp);have og:=og.grown hac (by omega);have oo:=oo.grown hac (by omega);replace hB:TB _ (w.heap.size+2) [.int .i64 t.gc,.slice xga xgn xgp,.int .i64 t.oc,.slice xoa xon xop,.int .i64 t.row,.int .i64 t.col,.int .i64 t.st.fore,.int .i64 t.st.back,.bool t.st.bold,.bool t.st.under,.bool t.st.turned,.int .i64 t.top,.int .i64 t.bot,.bool t.full,.bool t.wrap,.bool t.away,.bool t.hid,.int .i64 t.sr,.int .i64 t.sc,.int .i64 t.ss.fore,.int .i64 t.ss.back,.bool t.ss.bold,.bool t.ss.under,.bool t.ss.turned,.slice none 0 0,.int .i64 0,.slice none 0 0,.int .i64 0,.slice none 0 0,.string ⟨#[]⟩]:=hB;clear hac hBl;refine (cT _ (hti.below kbc).l.sl).mono ?_;rintro e w7 ⟨xt,rfl,hnt,hb⟩;replace hB:=hB.below hb;replace hX:=hX.below hb;replace hR:=hR.below hb;replace kb:=kbc.trans (hb.mono kbc.size);have s67:w6.heap.size<=w7.heap.size:=by have:=hb.size;rw [zc.out,<- hz6.out] at this;exact this
 replace og:=og.below hb;replace oo:=oo.below hb;clear kbc hb;rw [zc.out,<- hz6.out] at hnt
 obtain ⟨xta,xtn,xtp,hxt⟩:=Yi.shape hnt;subst hxt;have ol:XS w7 w6.heap.size [((.slice xta xtn xtp:Value),t.ti)]:=⟨fun p hp=>by rw [List.mem_singleton] at hp;subst hp;exact hnt,List.pairwise_singleton _ _⟩;clear hnt;clear zc;have olt:∀ p∈[((.slice xta xtn xtp:Value),t.ti)],∀ g,p.1.ownBlock=some g->g<w7.heap.size:=fun p hp g e=>((ol.1 p hp).lt g e).2
 have hBl:=hB;have hac:=World.grownBy.refl w7 (some (w.heap.size+2));obtain ⟨z7,hz7⟩:∃ z,Hid (w7.heap.size=z):=⟨_,rfl⟩;have zc:=hz7;obtain ⟨c0,c1,c2,c3,c4,c5,c6,c7,c8,c9,c10,c11,c12,c13,c14,c15,c16,c17,c18,c19,c20,c21,c22,c23,c24,c25,c26,c27,c28,c29⟩:=hX.cells;go_wp2_with (first|(refine XD (by rfl) 29 _ _ (by rfl) QS hB (by rfl) (by rfl) (by rfl) (by rfl) (by rfl) ?_;intro W hg1 hB1 hz1;clear c0 c1 c2 c3 c4 c5 c6 c7 c8 c9 c10 c11 c12 c13 c14 c15 c16 c17 c18 c19 c20 c21 c22 c23 c24 c25 c26 c27 c28 c29;have hX1:=hX.kept hg1 (by simp);have hac1:=Xf hac hg1;have zc1:=(show Hid _ from hz1.trans zc.out);clear hX hB hac zc hg1 hz1;have hX:=hX1;have hB:=hB1;have hac:=hac1;have zc:=zc1;clear hX1 hB1 hac1 zc1;obtain ⟨c0,c1,c2,c3,c4,c5,c6,c7,c8,c9,c10,c11,c12,c13,c14,c15,c16,c17,c18,c19,c20,c21,c22,c23,c24,c25,c26,c27,c28,c29⟩:=hX.cells));clear c0 c1 c2 c3 c4 c5 c6 c7 c8 c9 c10 c11 c12 c13 c14 c15 c16 c17 c18 c19 c20 c21 c22 c23 c24 c25 c26 c27 c28 c29;have kbc:=kb.grown hac kb.size (fun g e=>by cases e;omega);have hR:=hR.kept hac (by simp);have og:=og.grown hac (by omega);have oo:=oo.grown hac (by omega);have ol:=ol.kept hac (fun p hp=>.inr ((ol.1 p hp).not_block hBl (by decide)));replace hB:TB _ (w.heap.size+2) [.int .i64 t.gc,.slice xga xgn xgp,.int .i64 t.oc,.slice xoa xon xop,.int .i64 t.row,.int .i64 t.col,.int .i64 t.st.fore,.int .i64 t.st.back,.bool t.st.bold,.bool t.st.under,.bool t.st.turned,.int .i64 t.top,.int .i64 t.bot,.bool t.full,.bool t.wrap,.bool t.away,.bool t.hid,.int .i64 t.sr,.int .i64 t.sc,.int .i64 t.ss.fore,.int .i64 t.ss.back,.bool t.ss.bold,.bool t.ss.under,.bool t.ss.turned,.slice xta xtn xtp,.int .i64 0,.slice none 0 0,.int .i64 0,.slice none 0 0,.string ⟨#[]⟩]:=hB;clear hac hBl;refine (cP _ (hpp.below kbc).l.sl (hpt.below kbc).l.sl).mono ?_;rintro e w8 ⟨xp,xq,rfl,hnp,hb⟩;replace hB:=hB.below hb;replace hX:=hX.below hb;replace hR:=hR.below hb;replace kb:=kbc.trans (hb.mono kbc.size);have s78:w7.heap.size<=w8.heap.size:=by have:=hb.size;rw [zc.out,<- hz7.out] at this;exact this
 replace og:=og.below hb;replace oo:=oo.below hb;replace ol:=ol.below hb;clear kbc hb;rw [zc.out,<- hz7.out] at hnp
 obtain ⟨xpa,xpn,xpp,hxp⟩:=hnp.head.shape;obtain ⟨xqa,xqn,xqp,hxq⟩:=hnp.tail.head.shape;simp only at hxp hxq;subst hxp;subst hxq;have ol8:XS w8 w6.heap.size ([((.slice xta xtn xtp:Value),t.ti)]++[(.slice xpa xpn xpp,t.pa.params),(.slice xqa xqn xqp,t.pa.text)]):=ol.join olt hnp s67;clear ol hnp olt;have ol:=ol8;clear ol8;clear zc;have hBl:=hB;have hac:=World.grownBy.refl w8 (some (w.heap.size+2));obtain ⟨z8,hz8⟩:∃ z,Hid (w8.heap.size=z):=⟨_,rfl⟩;have zc:=hz8;obtain ⟨c0,c1,c2,c3,c4,c5,c6,c7,c8,c9,c10,c11,c12,c13,c14,c15,c16,c17,c18,c19,c20,c21,c22,c23,c24,c25,c26,c27,c28,c29⟩:=hX.cells;go_wp2_with (first|(refine XD (by rfl) 31 _ _ (by rfl) Xci hB (by rfl) (by rfl) (by rfl) (by rfl) (by rfl) ?_;intro W hg1 hB1 hz1;clear c0 c1 c2 c3 c4 c5 c6 c7 c8 c9 c10 c11 c12 c13 c14 c15 c16 c17 c18 c19 c20 c21 c22 c23 c24 c25 c26 c27 c28 c29;have hX1:=hX.kept hg1 (by simp);have hac1:=Xf hac hg1;have zc1:=(show Hid _ from hz1.trans zc.out);clear hX hB hac zc hg1 hz1;have hX:=hX1;have hB:=hB1;have hac:=hac1;have zc:=zc1;clear hX1 hB1 hac1 zc1;obtain ⟨c0,c1,c2,c3,c4,c5,c6,c7,c8,c9,c10,c11,c12,c13,c14,c15,c16,c17,c18,c19,c20,c21,c22,c23,c24,c25,c26,c27,c28,c29⟩:=hX.cells));clear c0 c1 c2 c3 c4 c5 c6 c7 c8 c9 c10 c11 c12 c13 c14 c15 c16 c17 c18 c19 c20 c21 c22 c23 c24 c25 c26 c27 c28 c29;have kbc:=kb.grown hac kb.size (fun g e=>by cases e;omega);have hR:=hR.kept hac (by simp);have og:=og.grown hac (by omega);have oo:=oo.grown hac (by omega);have ol:=ol.kept hac (fun p hp=>.inr ((ol.1 p hp).not_block hBl (by decide)));replace hB:TB _ (w.heap.size+2) [.int .i64 t.gc,.slice xga xgn xgp,.int .i64 t.oc,.slice xoa xon xop,.int .i64 t.row,.int .i64 t.col,.int .i64 t.st.fore,.int .i64 t.st.back,.bool t.st.bold,.bool t.st.under,.bool t.st.turned,.int .i64 t.top,.int .i64 t.bot,.bool t.full,.bool t.wrap,.bool t.away,.bool t.hid,.int .i64 t.sr,.int .i64 t.sc,.int .i64 t.ss.fore,.int .i64 t.ss.back,.bool t.ss.bold,.bool t.ss.under,.bool t.ss.turned,.slice xta xtn xtp,.int .i64 t.pa.state,.slice xpa xpn xpp,.int .i64 t.pa.mark,.slice xqa xqn xqp,.string ⟨#[]⟩]:=hB;clear hac hBl;refine (cF _).mono ?_;rintro e w9 ⟨rfl,hb⟩;replace hB:=hB.below hb;replace hX:=hX.below hb;replace hR:=hR.below hb;replace kb:=kbc.trans (hb.mono kbc.size);have s89:w8.heap.size<=w9.heap.size:=by have:=hb.size;rw [zc.out,<- hz8.out] at this;exact this
 replace og:=og.below hb;replace oo:=oo.below hb;replace ol:=ol.below hb;clear kbc hb;clear zc;have hBl:=hB;have hac:=World.grownBy.refl w9 (some (w.heap.size+2));obtain ⟨z9,hz9⟩:∃ z,Hid (w9.heap.size=z):=⟨_,rfl⟩;have zc:=hz9;obtain ⟨c0,c1,c2,c3,c4,c5,c6,c7,c8,c9,c10,c11,c12,c13,c14,c15,c16,c17,c18,c19,c20,c21,c22,c23,c24,c25,c26,c27,c28,c29⟩:=hX.cells;go_wp2_with (first|(refine KX (cs:=#[.int .i64 t.gc,.slice xga xgn xgp,.int .i64 t.oc,.slice xoa xon xop,.int .i64 t.row,.int .i64 t.col,.int .i64 t.st.fore,.int .i64 t.st.back,.bool t.st.bold,.bool t.st.under,.bool t.st.turned,.int .i64 t.top,.int .i64 t.bot,.bool t.full,.bool t.wrap,.bool t.away,.bool t.hid,.int .i64 t.sr,.int .i64 t.sc,.int .i64 t.ss.fore,.int .i64 t.ss.back,.bool t.ss.bold,.bool t.ss.under,.bool t.ss.turned,.slice xta xtn xtp,.int .i64 t.pa.state,.slice xpa xpn xpp,.int .i64 t.pa.mark,.slice xqa xqn xqp,.string t.fe]) (by rfl) 35 _ (by rfl) Tryz.underlying35 rfl Xr hB (by rfl) ?_)|(refine Yh (cs:=#[.int .i64 t.gc,.slice xga xgn xgp,.int .i64 t.oc,.slice xoa xon xop,.int .i64 t.row,.int .i64 t.col,.int .i64 t.st.fore,.int .i64 t.st.back,.bool t.st.bold,.bool t.st.under,.bool t.st.turned,.int .i64 t.top,.int .i64 t.bot,.bool t.full,.bool t.wrap,.bool t.away,.bool t.hid,.int .i64 t.sr,.int .i64 t.sc,.int .i64 t.ss.fore,.int .i64 t.ss.back,.bool t.ss.bold,.bool t.ss.under,.bool t.ss.turned,.slice xta xtn xtp,.int .i64 t.pa.state,.slice xpa xpn xpp,.int .i64 t.pa.mark,.slice xqa xqn xqp,.string t.fe]) (by rfl) 35 _ _ (by rfl) Xr (by rfl) (by rfl) (hR.kept hac (by simp)) (by rfl) (by rfl) ?_;intro w10 hg10 hR10 zz10)|(refine XD (by rfl) 33 _ _ (by rfl) Xia hB (by rfl) (by rfl) (by rfl) (by rfl) (by rfl) ?_;intro W hg1 hB1 hz1;clear c0 c1 c2 c3 c4 c5 c6 c7 c8 c9 c10 c11 c12 c13 c14 c15 c16 c17 c18 c19 c20 c21 c22 c23 c24 c25 c26 c27 c28 c29;have hX1:=hX.kept hg1 (by simp);have hac1:=Xf hac hg1;have zc1:=(show Hid _ from hz1.trans zc.out);clear hX hB hac zc hg1 hz1;have hX:=hX1;have hB:=hB1;have hac:=hac1;have zc:=zc1;clear hX1 hB1 hac1 zc1;obtain ⟨c0,c1,c2,c3,c4,c5,c6,c7,c8,c9,c10,c11,c12,c13,c14,c15,c16,c17,c18,c19,c20,c21,c22,c23,c24,c25,c26,c27,c28,c29⟩:=hX.cells));have kbc:=kb.grown hac kb.size (fun g e=>by cases e;omega);have hRR:=hR.kept hac (by simp)
 have hfin:Qz w10 w.heap.size t ⟨.slice xga xgn xgp,.slice xoa xon xop,.slice xta xtn xtp,.slice xpa xpn xpp,.slice xqa xqn xqp⟩ :=
  ⟨w3.heap.size,w4.heap.size,w6.heap.size,YE.low ((og.grown hac (by omega)).grown hg10 (by omega)) (by omega),(oo.grown hac (by omega)).grown hg10 (by omega),(ol.kept hac (fun p hp=>.inr ((ol.1 p hp).not_block hBl (by decide)))).kept hg10 (fun p hp=>.inr (((ol.kept hac (fun p hp=>.inr ((ol.1 p hp).not_block hBl (by decide)))).1 p hp).not_block hRR (by decide))),by omega,by omega,by omega,by rw [zz10,zc.out,<- hz9.out];omega⟩
 exact bodyPost_ret (v:=.agg #[.int .i64 t.gc,.slice xga xgn xgp,.int .i64 t.oc,.slice xoa xon xop,.int .i64 t.row,.int .i64 t.col,.int .i64 t.st.fore,.int .i64 t.st.back,.bool t.st.bold,.bool t.st.under,.bool t.st.turned,.int .i64 t.top,.int .i64 t.bot,.bool t.full,.bool t.wrap,.bool t.away,.bool t.hid,.int .i64 t.sr,.int .i64 t.sc,.int .i64 t.ss.fore,.int .i64 t.ss.back,.bool t.ss.bold,.bool t.ss.under,.bool t.ss.turned,.slice xta xtn xtp,.int .i64 t.pa.state,.slice xpa xpn xpp,.int .i64 t.pa.mark,.slice xqa xqn xqp,.string t.fe]) (results_cell_row Tryz.results30 _ _ _ _ _ _ _ rfl hR10 Tryz.underlying35 rfl Xr) rfl ⟨_,rfl,hfin,kbc.grown hg10 kbc.size (fun g e=>by cases e;omega)⟩
def AxC (w:World) (B:Nat) (k r:Int) (pv:Value) (m:Int) (tv:Value):Prop:=w.heap[B]?=some (.cells #[.int .i64 k,.int .i64 r,pv,.int .i64 m,tv] 37 (0,0))
theorem AxC.lt {w:World} {B:Nat} {k r m:Int} {pv tv:Value} (h:AxC w B k r pv m tv):B<w.heap.size:=(Array.getElem?_eq_some_iff.1 h).1
theorem AxC.below {w w':World} {B:Nat} {k r m:Int} {pv tv:Value} (h:AxC w B k r pv m tv) (hb:Below w.heap.size w w'):AxC w' B k r pv m tv:=by
 unfold AxC;rw [hb.block B h.lt]
 exact h
theorem AxC.new (w:World) (k r m:Int) (pv tv:Value):AxC (w.alloc (.cells #[.int .i64 k,.int .i64 r,pv,.int .i64 m,tv] 37)) w.heap.size k r pv m tv:=heap_alloc_new w _
theorem AxC.cells {w:World} {B:Nat} {k r m:Int} {pv tv:Value} (h:AxC w B k r pv m tv) :
  w.cell? ⟨B,0,none⟩=some (.int .i64 k)/\w.cell? ⟨B,1,none⟩=some (.int .i64 r)/\w.cell? ⟨B,2,none⟩=some pv/\w.cell? ⟨B,3,none⟩=some (.int .i64 m)/\w.cell? ⟨B,4,none⟩=some tv:=by
 refine ⟨?_,?_,?_,?_,?_⟩<;>(rw [cell_of_row w B _ _ _ (0,0) h];rfl)
theorem Xaw (a:Ac) (pv tv pv2 tv2:Value) (w:World) (hp:SlI w pv a.params) (ht:SlI w tv a.text) (hp2:SlI w pv2 a.params) (ht2:SlI w tv2 a.text) (hpl:a.params.length<=1073741824) (htl:a.text.length<=1073741824) :
  Calls Tryz.prog 33 #[axV ⟨a,pv,tv⟩,axV ⟨a,pv2,tv2⟩] w fun e w'=>e=.returned (.bool true)/\Below w.heap.size w w':=by
 obtain ⟨k,r,ps,m,ts⟩:=a;have hb1:=Xd w (Obj.cells #[.int .i64 k,.int .i64 r,pv,.int .i64 m,tv] 37);have hb2:=Xd (w.alloc (Obj.cells #[.int .i64 k,.int .i64 r,pv,.int .i64 m,tv] 37)) (Obj.cells #[.int .i64 k,.int .i64 r,pv2,.int .i64 m,tv2] 37);have hbb:=hb1.trans (hb2.mono hb1.size);have hP:=(AxC.new w k r m pv tv).below hb2;have hR:=AxC.new (w.alloc (Obj.cells #[.int .i64 k,.int .i64 r,pv,.int .i64 m,tv] 37)) k r m pv2 tv2;rw [show (w.alloc (Obj.cells #[.int .i64 k,.int .i64 r,pv,.int .i64 m,tv] 37)).heap.size=w.heap.size+1 by simp] at hR
 have e1:=JC pv pv2 ps _ (hp.below hbb) (hp2.below hbb) hpl;have e2:=fun W h1 h2=>JC tv tv2 ts W h1 h2 htl
 have ht3:=ht.below hbb;have ht4:=ht2.below hbb;unfold axV at *;simp only at *;obtain ⟨pa,pc,hpv⟩:=hp.shp;obtain ⟨ta,tc,htv⟩:=ht.shp;obtain ⟨pa2,pc2,hpv2⟩:=hp2.shp;obtain ⟨ta2,tc2,htv2⟩:=ht2.shp;subst hpv;subst htv;subst hpv2;subst htv2;obtain ⟨c0,c1,c2,c3,c4⟩:=hP.cells;obtain ⟨d0,d1,d2,d3,d4⟩:=hR.cells;clear hp ht hp2 ht2 hb1 hb2;go_enter Tryz.func33,Tryz.ntmps33;go_wp2_with fail;refine e1.mono ?_;rintro e w3 ⟨rfl,n,hw⟩;have hbn:Below _ _ w3:=hw ▸ K1 _ n;have hP3:=hP.below hbn;have hR3:=hR.below hbn;have e3:=e2 w3 (ht3.below hbn) (ht4.below hbn);have hb3:=hbb.trans (hbn.mono hbb.size);clear hw hbn hP hR e1 e2 ht3 ht4 hbb c0 c1 c2 c3 c4 d0 d1 d2 d3 d4;obtain ⟨c0,c1,c2,c3,c4⟩:=hP3.cells;obtain ⟨d0,d1,d2,d3,d4⟩:=hR3.cells;go_wp2_with fail;refine e3.mono ?_;rintro e w4 ⟨rfl,n2,hw⟩;have hbn:Below w3.heap.size w3 w4:=hw ▸ K1 _ n2;have hb4:=hb3.trans (hbn.mono hb3.size);clear hw hbn e3 hb3 c0 c1 c2 c3 c4 d0 d1 d2 d3 d4;go_wp2;go_ret;exact ⟨rfl,hb4⟩
theorem UU (p:Pa) (pv tv:Value) (k n m2:Nat) (w:World) (hp:SlI w pv (Ya k n)) (ht:SlI w tv (Ya ((k+n:Nat):Int) m2)) (hpp:p.params=Ya k n) (htt:p.text=Ya ((k+n:Nat):Int) m2) (hk:k<=1048576) (hn:n<=1048576) (hm:m2<=1048576) :
  Calls Tryz.prog 106 #[paV p pv tv,.int .i64 k] w fun e w'=>e=.returned (.int .i64 ((k+n+m2:Nat):Int))/\Below w.heap.size w w':=by
 obtain ⟨s,ps,m,ts⟩:=p;have hb0:=Xd w (Obj.cells #[.int .i64 s,pv,.int .i64 m,tv] 31);have hP:=PbB.new w s m pv tv;have q1:=JG pv k n _ (hp.below hb0) ⟨by omega,by omega⟩ (by omega);have q2:=JG tv ((k+n:Nat):Int) m2 _ (ht.below hb0) ⟨by omega,by omega⟩ (by omega);have n1:Hid ((k:Int)+(n:Int)=((k+n:Nat):Int)):=by show _=_;omega
 have n2:Hid (((k+n:Nat):Int)+(m2:Int)=((k+n+m2:Nat):Int)):=by show _=_;omega
 rw [n1.out] at q1
 rw [n2.out] at q2
 have g1:¬ (((k+n:Nat):Int)<0):=by omega
 have g2:¬ (((k+n+m2:Nat):Int)<0):=by omega
 unfold paV at *;simp only at *;obtain ⟨pa,pc,hpv⟩:=hp.shp;obtain ⟨ta,tc,htv⟩:=ht.shp;rw [YI] at hpv htv
 subst hpv;subst htv;obtain ⟨c0,c1,c2,c3⟩:=hP.cells;clear hp ht hP hpp htt;go_enter Tryz.func106,Tryz.ntmps106;go_wp2_with fail;refine q1.mono ?_;rintro e w3 ⟨rfl,hw⟩;subst hw;clear q1;go_wp2_with fail;refine q2.mono ?_;rintro e w4 ⟨rfl,hw⟩;subst hw;clear q2;go_wp2;go_ret;exact ⟨rfl,hb0⟩
theorem QY (gc r c:Int) (a:Option Addr) (n cp:Nat) (w:World) (h1:1<=gc) (h2:gc<=60) (hn1:1<=n) (hn:n<=30) :
  Calls Tryz.prog 72 #[.agg #[.int .i64 gc,.slice a n cp],.int .i64 r,.int .i64 c] w fun e w'=>e=.returned (.bool (Y4 gc n r c))/\Below w.heap.size w w':=by
 have hb0:=Xd w (Obj.cells #[.int .i64 gc,.slice a n cp] 26);have hi:=fun x lo hi W=>XQ x lo hi W
 obtain ⟨b1,e1⟩:∃ b,Hid (decide (0<=r/\r<=(n:Int)-1)=b):=⟨_,rfl⟩;obtain ⟨b2,e2⟩:∃ b,Hid (decide (0<=c/\c<=gc-1)=b):=⟨_,rfl⟩;have i1:=fun W=>hi r 0 ((n:Int)-1) W
 have i2:=fun W=>hi c 0 (gc-1) W
 rw [e1.out] at i1
 rw [e2.out] at i2
 have hv:Hid (Y4 gc n r c=(b1 && b2)):=by show _=_;unfold Y4;rw [e1.out,e2.out]
 rw [hv.out]
 have hn1i:(1:Int)<=(n:Int):=by omega
 have hni:(n:Int)<=30:=by omega
 clear hi e1 e2 hv hn1 hn
 cases b1
 ·go_enter Tryz.func72,Tryz.ntmps72
  go_wp2_with fail;refine (i1 _).mono ?_;rintro e w1 ⟨rfl,hw⟩;subst hw;go_wp2;go_ret;exact ⟨rfl,hb0⟩
 ·go_enter Tryz.func72,Tryz.ntmps72
  go_wp2_with fail;refine (i1 _).mono ?_;rintro e w1 ⟨rfl,hw⟩;subst hw;go_wp2_with fail;refine (i2 _).mono ?_;rintro e w2 ⟨rfl,hw⟩;subst hw;go_wp2;go_ret;exact ⟨rfl,hb0⟩
theorem Xai (t:Te) (v:Tv) (w:World) (h:SlT w t v) (hz:SzT 1048576 t) :
  Calls Tryz.prog 20 #[teV t v] w fun e w'=>e=.returned (.bool (Xk t))/\Below w.heap.size w w':=by
 obtain ⟨vg,vo,vti,vpp,vpt⟩:=v;obtain ⟨hg,ho,hti,hpp,hpt⟩:=h;simp only at hg ho hti hpp hpt;obtain ⟨z1,z2,z3,z4,z5,z6,z7⟩:=hz;obtain ⟨rv,hrv⟩:∃ rv,Hid (rv=Xk t):=⟨_,rfl⟩;rw [<- hrv.out]
 have hb0:=Xd w (Obj.cells (Xg t ⟨vg,vo,vti,vpp,vpt⟩) 35);have hB:=TeB.new w 35 t ⟨vg,vo,vti,vpp,vpt⟩;have cG:=fun W hW=>JS t.gc vg t.g W hW z1 z2
 have cO:=fun W hW=>JS t.oc vo t.o W hW z3 z4
 have cS:=fun W=>Kh t.st W
 have cSs:=fun W=>Kh t.ss W
 have cT:=fun W hW=>Zh vti t.ti 40 W hW (by omega) (by decide)
 have cP:=fun W h1 h2=>U4 t.pa vpp vpt W h1 h2 (by omega) (by omega)
 have cF:=fun W=>U3 t.fe W
 obtain ⟨bG,eG⟩:∃ b,Hid (Xy t.gc t.g=b):=⟨_,rfl⟩;obtain ⟨bO,eO⟩:∃ b,Hid (Xy t.oc t.o=b):=⟨_,rfl⟩;obtain ⟨bS,eS⟩:∃ b,Hid (t.st.ok=b):=⟨_,rfl⟩;obtain ⟨bSs,eSs⟩:∃ b,Hid (t.ss.ok=b):=⟨_,rfl⟩;obtain ⟨bT,eT⟩:∃ b,Hid ((decide (t.ti.length<=40) && XZ t.ti)=b):=⟨_,rfl⟩;obtain ⟨bP,eP⟩:∃ b,Hid (okV t.pa=b):=⟨_,rfl⟩;obtain ⟨bF,eF⟩:∃ b,Hid (Zg t.fe=b):=⟨_,rfl⟩;rw [eG.out] at cG
 rw [eO.out] at cO
 rw [eS.out] at cS
 rw [eSs.out] at cSs
 rw [eT.out] at cT
 rw [eP.out] at cP
 rw [eF.out] at cF
 obtain ⟨ga,gp,hq1⟩:=sGs hg;obtain ⟨oa,op,hq2⟩:=sGs ho;obtain ⟨tia,tip,hq3⟩:=hti.shp;obtain ⟨ppa,ppp,hq4⟩:=hpp.shp;obtain ⟨pta,ptp,hq5⟩:=hpt.shp;subst hq1;subst hq2;subst hq3;subst hq4;subst hq5;unfold teV Yp stV paV at *;obtain ⟨w1,hw1⟩:∃ w1,w1=w.alloc (Obj.cells (Xg t ⟨.slice ga t.g.length gp,.slice oa t.o.length op,.slice tia t.ti.length tip,.slice ppa t.pa.params.length ppp,.slice pta t.pa.text.length ptp⟩) 35):=⟨_,rfl⟩;rw [<- hw1] at hB hb0
 replace hw1:=(show Hid _ from hw1);clear z1 z2 z3 z4 z5 z6 z7;go_enter Tryz.func20,Tryz.ntmps20;refine wp_seq_k (fun K hK=>?_);have hH:=(show Hid _ from hK);clear hK;go_wp2;refine hH.out _ _ ?_;rw [<- hw1.out]
 clear hH hw1;obtain ⟨c0,c1,c2,c3,c4,c5,c6,c7,c8,c9,c10,c11,c12,c13,c14,c15,c16,c17,c18,c19,c20,c21,c22,c23,c24,c25,c26,c27,c28,c29⟩:=hB.cells;go_wp2_with fail;refine (cG _ (hg.below hb0)).mono ?_;rintro e w1 ⟨rfl,hb⟩;have hb1:=hb0.trans (hb.mono hb0.size);replace hB:=hB.below hb;clear c0 c1 c2 c3 c4 c5 c6 c7 c8 c9 c10 c11 c12 c13 c14 c15 c16 c17 c18 c19 c20 c21 c22 c23 c24 c25 c26 c27 c28 c29;clear hb hb0;obtain ⟨c0,c1,c2,c3,c4,c5,c6,c7,c8,c9,c10,c11,c12,c13,c14,c15,c16,c17,c18,c19,c20,c21,c22,c23,c24,c25,c26,c27,c28,c29⟩:=hB.cells
 cases bG
 case false =>
  have hv:Hid (rv=false):=by show _=_;rw [hrv.out];unfold Xk;simp [eG.out]
  go_wp2;go_ret;exact ⟨by rw [hv.out];rfl,hb1⟩
 go_wp2_with fail;refine (cO _ (ho.below hb1)).mono ?_;rintro e w2 ⟨rfl,hb⟩;have hb2:=hb1.trans (hb.mono hb1.size);replace hB:=hB.below hb;clear c0 c1 c2 c3 c4 c5 c6 c7 c8 c9 c10 c11 c12 c13 c14 c15 c16 c17 c18 c19 c20 c21 c22 c23 c24 c25 c26 c27 c28 c29;clear hb hb1;obtain ⟨c0,c1,c2,c3,c4,c5,c6,c7,c8,c9,c10,c11,c12,c13,c14,c15,c16,c17,c18,c19,c20,c21,c22,c23,c24,c25,c26,c27,c28,c29⟩:=hB.cells
 cases bO
 case false =>
  have hv:Hid (rv=false):=by show _=_;rw [hrv.out];unfold Xk;simp [eG.out,eO.out]
  go_wp2;go_ret;exact ⟨by rw [hv.out];rfl,hb2⟩
 obtain ⟨⟨hc1,hc2⟩,⟨hn1,hn2⟩,_⟩:=(YU t.gc t.g).1 eG.out;have hn1i:(1:Int)<=(t.g.length:Int):=by omega
 have hn2i:(t.g.length:Int)<=30:=by omega
 by_cases q3:t.gc=t.oc
 case neg =>
  have hv:Hid (rv=false):=by show _=_;rw [hrv.out];unfold Xk;simp [q3]
  have q3b:(t.gc != t.oc)=true:=by simp [q3]
  go_wp2;go_ret;exact ⟨by rw [hv.out];rfl,hb2⟩
 have q3b:(t.gc != t.oc)=false:=by simp [q3]
 have q3h:=(show Hid _ from q3);clear q3
 by_cases q4:t.g.length=t.o.length
 case neg =>
  have hv:Hid (rv=false):=by show _=_;rw [hrv.out];unfold Xk;simp [q4]
  have q4b:((t.g.length:Int) != (t.o.length:Int))=true:=by simp;omega
  clear q4;go_wp2;go_ret;exact ⟨by rw [hv.out];rfl,hb2⟩
 have q4b:((t.g.length:Int) != (t.o.length:Int))=false:=by simp;omega
 have q4h:=(show Hid _ from q4);clear q4;have cC:=fun W=>QY t.gc t.row t.col ga t.g.length gp W hc1 hc2 hn1 hn2
 have cD:=fun W=>QY t.gc t.sr t.sc ga t.g.length gp W hc1 hc2 hn1 hn2
 have cI:=fun W=>XQ t.top 0 t.bot W
 obtain ⟨bC,eC⟩:∃ b,Hid (Y4 t.gc t.g.length t.row t.col=b):=⟨_,rfl⟩;obtain ⟨bD,eD⟩:∃ b,Hid (Y4 t.gc t.g.length t.sr t.sc=b):=⟨_,rfl⟩;obtain ⟨bI,eI⟩:∃ b,Hid (decide (0<=t.top/\t.top<=t.bot)=b):=⟨_,rfl⟩;rw [eC.out] at cC
 rw [eD.out] at cD
 rw [eI.out] at cI
 go_wp2_with fail;refine (cC _).mono ?_;rintro e w3 ⟨rfl,hb⟩;have hb3:=hb2.trans (hb.mono hb2.size);replace hB:=hB.below hb;clear c0 c1 c2 c3 c4 c5 c6 c7 c8 c9 c10 c11 c12 c13 c14 c15 c16 c17 c18 c19 c20 c21 c22 c23 c24 c25 c26 c27 c28 c29;clear hb hb2;obtain ⟨c0,c1,c2,c3,c4,c5,c6,c7,c8,c9,c10,c11,c12,c13,c14,c15,c16,c17,c18,c19,c20,c21,c22,c23,c24,c25,c26,c27,c28,c29⟩:=hB.cells
 cases bC
 case false =>
  have hv:Hid (rv=false):=by show _=_;rw [hrv.out];unfold Xk;simp [eC.out]
  go_wp2;go_ret;exact ⟨by rw [hv.out];rfl,hb3⟩
 go_wp2_with fail;refine (cD _).mono ?_;rintro e w4 ⟨rfl,hb⟩;have hb4:=hb3.trans (hb.mono hb3.size);replace hB:=hB.below hb;clear c0 c1 c2 c3 c4 c5 c6 c7 c8 c9 c10 c11 c12 c13 c14 c15 c16 c17 c18 c19 c20 c21 c22 c23 c24 c25 c26 c27 c28 c29;clear hb hb3;obtain ⟨c0,c1,c2,c3,c4,c5,c6,c7,c8,c9,c10,c11,c12,c13,c14,c15,c16,c17,c18,c19,c20,c21,c22,c23,c24,c25,c26,c27,c28,c29⟩:=hB.cells
 cases bD
 case false =>
  have hv:Hid (rv=false):=by show _=_;rw [hrv.out];unfold Xk;simp [eD.out]
  go_wp2;go_ret;exact ⟨by rw [hv.out];rfl,hb4⟩
 go_wp2_with fail;refine (cI _).mono ?_;rintro e w5 ⟨rfl,hw⟩;subst hw
 cases bI
 case false =>
  have hv:Hid (rv=false):=by
   have:=of_decide_eq_false eI.out
   show _=_;rw [hrv.out];unfold Xk
   rw [decide_eq_false (p:=0<=t.top/\_) (by omega)];simp
  go_wp2;go_ret;exact ⟨by rw [hv.out];rfl,hb4⟩
 have q5:=of_decide_eq_true eI.out
 by_cases q6:(t.g.length:Int)-1<t.bot
 case pos =>
  have hv:Hid (rv=false):=by
   show _=_;rw [hrv.out];unfold Xk
   rw [decide_eq_false (p:=0<=t.top/\_) (by omega)];simp
  go_wp2;go_ret;exact ⟨by rw [hv.out];rfl,hb4⟩
 by_cases q7:t.top=t.bot
 case pos =>
  have q7b:(t.top==t.bot)=true:=by simp [q7]
  by_cases q8:0<(t.g.length:Int)-1
  case pos =>
   have hv:Hid (rv=false):=by
    show _=_;rw [hrv.out];unfold Xk
    rw [decide_eq_false (p:=0<=t.top/\_) (by omega)];simp
   clear q7;go_wp2;go_ret;exact ⟨by rw [hv.out];rfl,hb4⟩
  have q9:Hid (0<=t.top/\t.top<=t.bot/\t.bot<=(t.g.length:Int)-1/\¬ (t.top=t.bot/\0<(t.g.length:Int)-1)):=by show _/\_;omega
  clear q7
  by_cases q10:t.full=true/\t.col≠t.gc-1
  case pos =>
   obtain ⟨qa,qb⟩:=q10
   have hv:Hid (rv=false):=by
    show _=_;rw [hrv.out];unfold Xk
    rw [decide_eq_false (p:=t.full=true->_) (fun h=>qb (h qa))];simp
   have qbb:(t.col != t.gc-1)=true:=by simp [qb]
   rw [qa] at c13
   clear qb qa;go_wp2;go_ret;exact ⟨by rw [hv.out];rfl,hb4⟩
  have q11:Hid (t.full=true->t.col=t.gc-1):=fun h=>by
   by_cases hq:t.col=t.gc-1
   ·exact hq
   ·exact absurd ⟨h,hq⟩ q10
  clear q10;obtain ⟨fu,hfu⟩:∃ fu,Hid (t.full=fu):=⟨_,rfl⟩;rw [hfu.out] at c13
  cases fu
  case false =>
   go_wp2_with fail;refine (cS _).mono ?_;rintro e w6 ⟨rfl,hb⟩;have hb6:=hb4.trans (hb.mono hb4.size);replace hB:=hB.below hb;clear c0 c1 c2 c3 c4 c5 c6 c7 c8 c9 c10 c11 c12 c13 c14 c15 c16 c17 c18 c19 c20 c21 c22 c23 c24 c25 c26 c27 c28 c29;clear hb hb4;obtain ⟨c0,c1,c2,c3,c4,c5,c6,c7,c8,c9,c10,c11,c12,c13,c14,c15,c16,c17,c18,c19,c20,c21,c22,c23,c24,c25,c26,c27,c28,c29⟩:=hB.cells
   cases bS
   case false =>
    have hv:Hid (rv=false):=by show _=_;rw [hrv.out];unfold Xk;simp [eS.out]
    go_wp2;go_ret;exact ⟨by rw [hv.out];rfl,hb6⟩
   go_wp2_with fail;refine (cSs _).mono ?_;rintro e w7 ⟨rfl,hb⟩;have hb7:=hb6.trans (hb.mono hb6.size);replace hB:=hB.below hb;clear c0 c1 c2 c3 c4 c5 c6 c7 c8 c9 c10 c11 c12 c13 c14 c15 c16 c17 c18 c19 c20 c21 c22 c23 c24 c25 c26 c27 c28 c29;clear hb hb6;obtain ⟨c0,c1,c2,c3,c4,c5,c6,c7,c8,c9,c10,c11,c12,c13,c14,c15,c16,c17,c18,c19,c20,c21,c22,c23,c24,c25,c26,c27,c28,c29⟩:=hB.cells
   cases bSs
   case false =>
    have hv:Hid (rv=false):=by show _=_;rw [hrv.out];unfold Xk;simp [eSs.out]
    go_wp2;go_ret;exact ⟨by rw [hv.out];rfl,hb7⟩
   go_wp2_with fail;refine (cT _ (hti.below hb7).l.sl).mono ?_;rintro e w8 ⟨rfl,hw⟩;subst hw
   cases bT
   case false =>
    have hv:Hid (rv=false):=by show _=_;rw [hrv.out];unfold Xk;rw [eT.out];simp
    go_wp2;go_ret;exact ⟨by rw [hv.out];rfl,hb7⟩
   go_wp2_with fail;refine (cP _ (hpp.below hb7).l.sl (hpt.below hb7).l.sl).mono ?_;rintro e w9 ⟨rfl,hb⟩;have hb9:=hb7.trans (hb.mono hb7.size);replace hB:=hB.below hb;clear c0 c1 c2 c3 c4 c5 c6 c7 c8 c9 c10 c11 c12 c13 c14 c15 c16 c17 c18 c19 c20 c21 c22 c23 c24 c25 c26 c27 c28 c29;clear hb hb7;obtain ⟨c0,c1,c2,c3,c4,c5,c6,c7,c8,c9,c10,c11,c12,c13,c14,c15,c16,c17,c18,c19,c20,c21,c22,c23,c24,c25,c26,c27,c28,c29⟩:=hB.cells
   cases bP
   case false =>
    have hv:Hid (rv=false):=by show _=_;rw [hrv.out];unfold Xk;simp [eP.out]
    go_wp2;go_ret;exact ⟨by rw [hv.out];rfl,hb9⟩
   go_wp2_with fail;refine (cF _).mono ?_;rintro e w10 ⟨rfl,hb⟩;have hb10:=hb9.trans (hb.mono hb9.size);have hv:Hid (rv=bF):=by show _=_;rw [hrv.out];unfold Xk;rw [eG.out,eO.out,decide_eq_true q3h.out,decide_eq_true q4h.out,eC.out,eD.out,decide_eq_true q9.out,decide_eq_true q11.out,eS.out,eSs.out,eT.out,eP.out,eF.out];simp
   go_wp2;go_ret;exact ⟨by rw [hv.out];rfl,hb10⟩
  case true =>
   have qbb:(t.col != t.gc-1)=false:=by simp [q11.out hfu.out]
   go_wp2_with fail;refine (cS _).mono ?_;rintro e w6 ⟨rfl,hb⟩;have hb6:=hb4.trans (hb.mono hb4.size);replace hB:=hB.below hb;clear c0 c1 c2 c3 c4 c5 c6 c7 c8 c9 c10 c11 c12 c13 c14 c15 c16 c17 c18 c19 c20 c21 c22 c23 c24 c25 c26 c27 c28 c29;clear hb hb4;obtain ⟨c0,c1,c2,c3,c4,c5,c6,c7,c8,c9,c10,c11,c12,c13,c14,c15,c16,c17,c18,c19,c20,c21,c22,c23,c24,c25,c26,c27,c28,c29⟩:=hB.cells
   cases bS
   case false =>
    have hv:Hid (rv=false):=by show _=_;rw [hrv.out];unfold Xk;simp [eS.out]
    go_wp2;go_ret;exact ⟨by rw [hv.out];rfl,hb6⟩
   go_wp2_with fail;refine (cSs _).mono ?_;rintro e w7 ⟨rfl,hb⟩;have hb7:=hb6.trans (hb.mono hb6.size);replace hB:=hB.below hb;clear c0 c1 c2 c3 c4 c5 c6 c7 c8 c9 c10 c11 c12 c13 c14 c15 c16 c17 c18 c19 c20 c21 c22 c23 c24 c25 c26 c27 c28 c29;clear hb hb6;obtain ⟨c0,c1,c2,c3,c4,c5,c6,c7,c8,c9,c10,c11,c12,c13,c14,c15,c16,c17,c18,c19,c20,c21,c22,c23,c24,c25,c26,c27,c28,c29⟩:=hB.cells
   cases bSs
   case false =>
    have hv:Hid (rv=false):=by show _=_;rw [hrv.out];unfold Xk;simp [eSs.out]
    go_wp2;go_ret;exact ⟨by rw [hv.out];rfl,hb7⟩
   go_wp2_with fail;refine (cT _ (hti.below hb7).l.sl).mono ?_;rintro e w8 ⟨rfl,hw⟩;subst hw
   cases bT
   case false =>
    have hv:Hid (rv=false):=by show _=_;rw [hrv.out];unfold Xk;rw [eT.out];simp
    go_wp2;go_ret;exact ⟨by rw [hv.out];rfl,hb7⟩
   go_wp2_with fail;refine (cP _ (hpp.below hb7).l.sl (hpt.below hb7).l.sl).mono ?_;rintro e w9 ⟨rfl,hb⟩;have hb9:=hb7.trans (hb.mono hb7.size);replace hB:=hB.below hb;clear c0 c1 c2 c3 c4 c5 c6 c7 c8 c9 c10 c11 c12 c13 c14 c15 c16 c17 c18 c19 c20 c21 c22 c23 c24 c25 c26 c27 c28 c29;clear hb hb7;obtain ⟨c0,c1,c2,c3,c4,c5,c6,c7,c8,c9,c10,c11,c12,c13,c14,c15,c16,c17,c18,c19,c20,c21,c22,c23,c24,c25,c26,c27,c28,c29⟩:=hB.cells
   cases bP
   case false =>
    have hv:Hid (rv=false):=by show _=_;rw [hrv.out];unfold Xk;simp [eP.out]
    go_wp2;go_ret;exact ⟨by rw [hv.out];rfl,hb9⟩
   go_wp2_with fail;refine (cF _).mono ?_;rintro e w10 ⟨rfl,hb⟩;have hb10:=hb9.trans (hb.mono hb9.size);have hv:Hid (rv=bF):=by show _=_;rw [hrv.out];unfold Xk;rw [eG.out,eO.out,decide_eq_true q3h.out,decide_eq_true q4h.out,eC.out,eD.out,decide_eq_true q9.out,decide_eq_true q11.out,eS.out,eSs.out,eT.out,eP.out,eF.out];simp
   go_wp2;go_ret;exact ⟨by rw [hv.out];rfl,hb10⟩
 have q7b:(t.top==t.bot)=false:=by simp [q7]
 have q9:Hid (0<=t.top/\t.top<=t.bot/\t.bot<=(t.g.length:Int)-1/\¬ (t.top=t.bot/\0<(t.g.length:Int)-1)):=by show _/\_;omega
 by_cases q10:t.full=true/\t.col≠t.gc-1
 case pos =>
  obtain ⟨qa,qb⟩:=q10
  have hv:Hid (rv=false):=by
   show _=_;rw [hrv.out];unfold Xk
   rw [decide_eq_false (p:=t.full=true->_) (fun h=>qb (h qa))];simp
  have qbb:(t.col != t.gc-1)=true:=by simp [qb]
  rw [qa] at c13
  clear qb qa;go_wp2;go_ret;exact ⟨by rw [hv.out];rfl,hb4⟩
 have q11:Hid (t.full=true->t.col=t.gc-1):=fun h=>by
  by_cases hq:t.col=t.gc-1
  ·exact hq
  ·exact absurd ⟨h,hq⟩ q10
 clear q10;obtain ⟨fu,hfu⟩:∃ fu,Hid (t.full=fu):=⟨_,rfl⟩;rw [hfu.out] at c13
 cases fu
 case false =>
  go_wp2_with fail;refine (cS _).mono ?_;rintro e w6 ⟨rfl,hb⟩;have hb6:=hb4.trans (hb.mono hb4.size);replace hB:=hB.below hb;clear c0 c1 c2 c3 c4 c5 c6 c7 c8 c9 c10 c11 c12 c13 c14 c15 c16 c17 c18 c19 c20 c21 c22 c23 c24 c25 c26 c27 c28 c29;clear hb hb4;obtain ⟨c0,c1,c2,c3,c4,c5,c6,c7,c8,c9,c10,c11,c12,c13,c14,c15,c16,c17,c18,c19,c20,c21,c22,c23,c24,c25,c26,c27,c28,c29⟩:=hB.cells
  cases bS
  case false =>
   have hv:Hid (rv=false):=by show _=_;rw [hrv.out];unfold Xk;simp [eS.out]
   go_wp2;go_ret;exact ⟨by rw [hv.out];rfl,hb6⟩
  go_wp2_with fail;refine (cSs _).mono ?_;rintro e w7 ⟨rfl,hb⟩;have hb7:=hb6.trans (hb.mono hb6.size);replace hB:=hB.below hb;clear c0 c1 c2 c3 c4 c5 c6 c7 c8 c9 c10 c11 c12 c13 c14 c15 c16 c17 c18 c19 c20 c21 c22 c23 c24 c25 c26 c27 c28 c29;clear hb hb6;obtain ⟨c0,c1,c2,c3,c4,c5,c6,c7,c8,c9,c10,c11,c12,c13,c14,c15,c16,c17,c18,c19,c20,c21,c22,c23,c24,c25,c26,c27,c28,c29⟩:=hB.cells
  cases bSs
  case false =>
   have hv:Hid (rv=false):=by show _=_;rw [hrv.out];unfold Xk;simp [eSs.out]
   go_wp2;go_ret;exact ⟨by rw [hv.out];rfl,hb7⟩
  go_wp2_with fail;refine (cT _ (hti.below hb7).l.sl).mono ?_;rintro e w8 ⟨rfl,hw⟩;subst hw
  cases bT
  case false =>
   have hv:Hid (rv=false):=by show _=_;rw [hrv.out];unfold Xk;rw [eT.out];simp
   go_wp2;go_ret;exact ⟨by rw [hv.out];rfl,hb7⟩
  go_wp2_with fail;refine (cP _ (hpp.below hb7).l.sl (hpt.below hb7).l.sl).mono ?_;rintro e w9 ⟨rfl,hb⟩;have hb9:=hb7.trans (hb.mono hb7.size);replace hB:=hB.below hb;clear c0 c1 c2 c3 c4 c5 c6 c7 c8 c9 c10 c11 c12 c13 c14 c15 c16 c17 c18 c19 c20 c21 c22 c23 c24 c25 c26 c27 c28 c29;clear hb hb7;obtain ⟨c0,c1,c2,c3,c4,c5,c6,c7,c8,c9,c10,c11,c12,c13,c14,c15,c16,c17,c18,c19,c20,c21,c22,c23,c24,c25,c26,c27,c28,c29⟩:=hB.cells
  cases bP
  case false =>
   have hv:Hid (rv=false):=by show _=_;rw [hrv.out];unfold Xk;simp [eP.out]
   go_wp2;go_ret;exact ⟨by rw [hv.out];rfl,hb9⟩
  go_wp2_with fail;refine (cF _).mono ?_;rintro e w10 ⟨rfl,hb⟩;have hb10:=hb9.trans (hb.mono hb9.size);have hv:Hid (rv=bF):=by show _=_;rw [hrv.out];unfold Xk;rw [eG.out,eO.out,decide_eq_true q3h.out,decide_eq_true q4h.out,eC.out,eD.out,decide_eq_true q9.out,decide_eq_true q11.out,eS.out,eSs.out,eT.out,eP.out,eF.out];simp
  go_wp2;go_ret;exact ⟨by rw [hv.out];rfl,hb10⟩
 case true =>
  have qbb:(t.col != t.gc-1)=false:=by simp [q11.out hfu.out]
  go_wp2_with fail;refine (cS _).mono ?_;rintro e w6 ⟨rfl,hb⟩;have hb6:=hb4.trans (hb.mono hb4.size);replace hB:=hB.below hb;clear c0 c1 c2 c3 c4 c5 c6 c7 c8 c9 c10 c11 c12 c13 c14 c15 c16 c17 c18 c19 c20 c21 c22 c23 c24 c25 c26 c27 c28 c29;clear hb hb4;obtain ⟨c0,c1,c2,c3,c4,c5,c6,c7,c8,c9,c10,c11,c12,c13,c14,c15,c16,c17,c18,c19,c20,c21,c22,c23,c24,c25,c26,c27,c28,c29⟩:=hB.cells
  cases bS
  case false =>
   have hv:Hid (rv=false):=by show _=_;rw [hrv.out];unfold Xk;simp [eS.out]
   go_wp2;go_ret;exact ⟨by rw [hv.out];rfl,hb6⟩
  go_wp2_with fail;refine (cSs _).mono ?_;rintro e w7 ⟨rfl,hb⟩;have hb7:=hb6.trans (hb.mono hb6.size);replace hB:=hB.below hb;clear c0 c1 c2 c3 c4 c5 c6 c7 c8 c9 c10 c11 c12 c13 c14 c15 c16 c17 c18 c19 c20 c21 c22 c23 c24 c25 c26 c27 c28 c29;clear hb hb6;obtain ⟨c0,c1,c2,c3,c4,c5,c6,c7,c8,c9,c10,c11,c12,c13,c14,c15,c16,c17,c18,c19,c20,c21,c22,c23,c24,c25,c26,c27,c28,c29⟩:=hB.cells
  cases bSs
  case false =>
   have hv:Hid (rv=false):=by show _=_;rw [hrv.out];unfold Xk;simp [eSs.out]
   go_wp2;go_ret;exact ⟨by rw [hv.out];rfl,hb7⟩
  go_wp2_with fail;refine (cT _ (hti.below hb7).l.sl).mono ?_;rintro e w8 ⟨rfl,hw⟩;subst hw
  cases bT
  case false =>
   have hv:Hid (rv=false):=by show _=_;rw [hrv.out];unfold Xk;rw [eT.out];simp
   go_wp2;go_ret;exact ⟨by rw [hv.out];rfl,hb7⟩
  go_wp2_with fail;refine (cP _ (hpp.below hb7).l.sl (hpt.below hb7).l.sl).mono ?_;rintro e w9 ⟨rfl,hb⟩;have hb9:=hb7.trans (hb.mono hb7.size);replace hB:=hB.below hb;clear c0 c1 c2 c3 c4 c5 c6 c7 c8 c9 c10 c11 c12 c13 c14 c15 c16 c17 c18 c19 c20 c21 c22 c23 c24 c25 c26 c27 c28 c29;clear hb hb7;obtain ⟨c0,c1,c2,c3,c4,c5,c6,c7,c8,c9,c10,c11,c12,c13,c14,c15,c16,c17,c18,c19,c20,c21,c22,c23,c24,c25,c26,c27,c28,c29⟩:=hB.cells
  cases bP
  case false =>
   have hv:Hid (rv=false):=by show _=_;rw [hrv.out];unfold Xk;simp [eP.out]
   go_wp2;go_ret;exact ⟨by rw [hv.out];rfl,hb9⟩
  go_wp2_with fail;refine (cF _).mono ?_;rintro e w10 ⟨rfl,hb⟩;have hb10:=hb9.trans (hb.mono hb9.size);have hv:Hid (rv=bF):=by show _=_;rw [hrv.out];unfold Xk;rw [eG.out,eO.out,decide_eq_true q3h.out,decide_eq_true q4h.out,eC.out,eD.out,decide_eq_true q9.out,decide_eq_true q11.out,eS.out,eSs.out,eT.out,eP.out,eF.out];simp
  go_wp2;go_ret;exact ⟨by rw [hv.out];rfl,hb10⟩
theorem Xax (h:ByteArray) (w:World) :
  Calls Tryz.prog 100 #[.agg #[.string h],.agg #[.string h]] w fun e w'=>e=.returned (.bool true)/\Below w.heap.size w w':=by
 go_enter Tryz.func100,Tryz.ntmps100;go_wp2;go_ret;exact ⟨rfl,((Below.refl _ _).alloc (Nat.le_refl _) _).alloc (by simp) _⟩
section
variable {H : Type} {enc : TypeId × Value → H} {w : World} {base : Nat} {spare : Nat → Bool} {held : Bool}
theorem Xea {fuel:Nat} {cs:List Value} {y:DataW H×List MemPlace} (hf:DataW.trod enc Tryz.prog w base spare held fuel 60 cs=some y) :
  ∃ (cols:Int) (u:Value) (rows:List (List Ce)),cs=[.int .i64 cols,u]/\SlG w u rows/\rows.length<=maxLen/\∀ i,i<rows.length->(Xb rows i).length<=maxLen:=by
 obtain ⟨xs,n,_,_,hl,hlen,hfs⟩:=DataW.trod_struct Tryz.underlying60 hf;have e:Tryz.prog.cellsOf 60=2:=by kernel_rfl
 have ei:Tryz.prog.cellsOf 2=1:=by kernel_rfl
 have er:Tryz.prog.cellsOf 58=1:=by kernel_rfl
 match cs,hl.trans e,xs,hlen with
 | [c0,c1],_,[x0,x1],_ =>
  have h0:=hfs 0 _ rfl;have h1:=hfs 1 _ rfl;simp [ei,er] at h0 h1;obtain ⟨k0,q0,_,_⟩:=DataW.trod_int Tryz.underlying2 h0;obtain ⟨u,rows,q1,hs,hle,hxl⟩:=Xht h1;simp at q0 q1;subst q0;subst q1;exact ⟨_,_,rows,rfl,hs,hle,hxl⟩
theorem Xfi {fuel:Nat} {cs:List Value} {y:DataW H×List MemPlace} (hf:DataW.trod enc Tryz.prog w base spare held fuel 62 cs=some y) :
  ∃ (q:Pa) (pv tv:Value),cs=[.int .i64 q.state,pv,.int .i64 q.mark,tv]/\SlN w pv q.params/\SlN w tv q.text/\q.params.length<=maxLen/\q.text.length<=maxLen:=by
 obtain ⟨xs,n,_,_,hl,hlen,hfs⟩:=DataW.trod_struct Tryz.underlying62 hf;have e:Tryz.prog.cellsOf 62=4:=by kernel_rfl
 have ei:Tryz.prog.cellsOf 2=1:=by kernel_rfl
 have er:Tryz.prog.cellsOf 29=1:=by kernel_rfl
 match cs,hl.trans e,xs,hlen with
 | [c0,c1,c2,c3],_,[x0,x1,x2,x3],_ =>
  have h0:=hfs 0 _ rfl;have h1:=hfs 1 _ rfl;have h2:=hfs 2 _ rfl;have h3:=hfs 3 _ rfl;simp [ei,er] at h0 h1 h2 h3;obtain ⟨k0,q0,_,_⟩:=DataW.trod_int Tryz.underlying2 h0;obtain ⟨u1,y1,q1,s1,l1⟩:=Uy h1;obtain ⟨k2,q2,_,_⟩:=DataW.trod_int Tryz.underlying2 h2;obtain ⟨u3,y3,q3,s3,l3⟩:=Uy h3;simp at q0 q1 q2 q3;subst q0;subst q1;subst q2;subst q3;exact ⟨⟨k0,y1,k2,y3⟩,_,_,rfl,s1,s3,l1,l3⟩
theorem Xez {fuel:Nat} {cs:List Value} {y:DataW H×List MemPlace} (hf:DataW.trod enc Tryz.prog w base spare held fuel 63 cs=some y) :
  ∃ s:ByteArray,cs=[.string s]/\s.size<=maxLen:=by
 obtain ⟨xs,n,_,_,hl,hlen,hfs⟩:=DataW.trod_struct Tryz.underlying63 hf;have e:Tryz.prog.cellsOf 63=1:=by kernel_rfl
 have e2:Tryz.prog.cellsOf 9=1:=by kernel_rfl
 match cs,hl.trans e,xs,hlen with
 | [c0],_,[x0],_ =>
  have h0:=hfs 0 _ rfl;simp [e2] at h0;obtain ⟨s,hs,_,hm⟩:=DataW.trod_string Tryz.underlying9 h0;simp at hs;subst hs;exact ⟨s,rfl,hm⟩
theorem Zi (cs:List Value) (a k b:Nat) (h:a+k=b):cs.drop a=(cs.drop a).take k++cs.drop b:=by
 subst h;rw [<- List.drop_drop]
 exact (List.take_append_drop k (cs.drop a)).symm
theorem Xhv {fuel:Nat} {cs:List Value} {y:DataW H×List MemPlace} (hf:DataW.trod enc Tryz.prog w base spare held fuel 65 cs=some y) :
  ∃ (t:Te) (u:Tv),cs=(Xg t u).toList/\SlT w t u/\SzT maxLen t/\t.fe.size<=maxLen:=by
 obtain ⟨xs,n,_,_,hl,hlen,hfs⟩:=DataW.trod_struct Tryz.underlying65 hf;have e:Tryz.prog.cellsOf 65=30:=by kernel_rfl
 have eg:Tryz.prog.cellsOf 60=2:=by kernel_rfl
 have ei:Tryz.prog.cellsOf 2=1:=by kernel_rfl
 have eb:Tryz.prog.cellsOf 4=1:=by kernel_rfl
 have es:Tryz.prog.cellsOf 61=5:=by kernel_rfl
 have el:Tryz.prog.cellsOf 29=1:=by kernel_rfl
 have ep:Tryz.prog.cellsOf 62=4:=by kernel_rfl
 have ef:Tryz.prog.cellsOf 63=1:=by kernel_rfl
 have hn:xs.length=17:=hlen;have hget:∀ i,i<17->∃ y,xs[i]?=some y:=fun i hi=>⟨xs[i]'(by omega),List.getElem?_eq_getElem (by omega)⟩
 clear hlen hf;obtain ⟨y0,hy0⟩:=hget 0 (by decide);have h0:DataW.trod enc Tryz.prog w base spare held n 60 ((cs.drop 0).take (Tryz.prog.cellsOf 60))=some y0:=(hfs 0 _ rfl).trans hy0;rw [eg] at h0
 obtain ⟨k0,u0,r0,q0,s0,l0,m0⟩:=Xea h0;obtain ⟨y1,hy1⟩:=hget 1 (by decide);have h1:DataW.trod enc Tryz.prog w base spare held n 60 ((cs.drop 2).take (Tryz.prog.cellsOf 60))=some y1:=(hfs 1 _ rfl).trans hy1;rw [eg] at h1
 obtain ⟨k1,u1,r1,q1,s1,l1,m1⟩:=Xea h1;obtain ⟨y2,hy2⟩:=hget 2 (by decide);have h2:DataW.trod enc Tryz.prog w base spare held n 2 ((cs.drop 4).take (Tryz.prog.cellsOf 2))=some y2:=(hfs 2 _ rfl).trans hy2;rw [ei] at h2
 obtain ⟨k2,q2,_,_⟩:=DataW.trod_int Tryz.underlying2 h2;obtain ⟨y3,hy3⟩:=hget 3 (by decide);have h3:DataW.trod enc Tryz.prog w base spare held n 2 ((cs.drop 5).take (Tryz.prog.cellsOf 2))=some y3:=(hfs 3 _ rfl).trans hy3;rw [ei] at h3
 obtain ⟨k3,q3,_,_⟩:=DataW.trod_int Tryz.underlying2 h3;obtain ⟨y4,hy4⟩:=hget 4 (by decide);have h4:DataW.trod enc Tryz.prog w base spare held n 61 ((cs.drop 6).take (Tryz.prog.cellsOf 61))=some y4:=(hfs 4 _ rfl).trans hy4;rw [es] at h4
 obtain ⟨k4,q4⟩:=Xak h4;obtain ⟨y5,hy5⟩:=hget 5 (by decide);have h5:DataW.trod enc Tryz.prog w base spare held n 2 ((cs.drop 11).take (Tryz.prog.cellsOf 2))=some y5:=(hfs 5 _ rfl).trans hy5;rw [ei] at h5
 obtain ⟨k5,q5,_,_⟩:=DataW.trod_int Tryz.underlying2 h5;obtain ⟨y6,hy6⟩:=hget 6 (by decide);have h6:DataW.trod enc Tryz.prog w base spare held n 2 ((cs.drop 12).take (Tryz.prog.cellsOf 2))=some y6:=(hfs 6 _ rfl).trans hy6;rw [ei] at h6
 obtain ⟨k6,q6,_,_⟩:=DataW.trod_int Tryz.underlying2 h6;obtain ⟨y7,hy7⟩:=hget 7 (by decide);have h7:DataW.trod enc Tryz.prog w base spare held n 4 ((cs.drop 13).take (Tryz.prog.cellsOf 4))=some y7:=(hfs 7 _ rfl).trans hy7;rw [eb] at h7
 obtain ⟨k7,q7,_⟩:=DataW.trod_bool Tryz.underlying4 h7;obtain ⟨y8,hy8⟩:=hget 8 (by decide);have h8:DataW.trod enc Tryz.prog w base spare held n 4 ((cs.drop 14).take (Tryz.prog.cellsOf 4))=some y8:=(hfs 8 _ rfl).trans hy8;rw [eb] at h8
 obtain ⟨k8,q8,_⟩:=DataW.trod_bool Tryz.underlying4 h8;obtain ⟨y9,hy9⟩:=hget 9 (by decide);have h9:DataW.trod enc Tryz.prog w base spare held n 4 ((cs.drop 15).take (Tryz.prog.cellsOf 4))=some y9:=(hfs 9 _ rfl).trans hy9;rw [eb] at h9
 obtain ⟨k9,q9,_⟩:=DataW.trod_bool Tryz.underlying4 h9;obtain ⟨y10,hy10⟩:=hget 10 (by decide);have h10:DataW.trod enc Tryz.prog w base spare held n 4 ((cs.drop 16).take (Tryz.prog.cellsOf 4))=some y10:=(hfs 10 _ rfl).trans hy10;rw [eb] at h10
 obtain ⟨k10,q10,_⟩:=DataW.trod_bool Tryz.underlying4 h10;obtain ⟨y11,hy11⟩:=hget 11 (by decide);have h11:DataW.trod enc Tryz.prog w base spare held n 2 ((cs.drop 17).take (Tryz.prog.cellsOf 2))=some y11:=(hfs 11 _ rfl).trans hy11;rw [ei] at h11
 obtain ⟨k11,q11,_,_⟩:=DataW.trod_int Tryz.underlying2 h11;obtain ⟨y12,hy12⟩:=hget 12 (by decide);have h12:DataW.trod enc Tryz.prog w base spare held n 2 ((cs.drop 18).take (Tryz.prog.cellsOf 2))=some y12:=(hfs 12 _ rfl).trans hy12;rw [ei] at h12
 obtain ⟨k12,q12,_,_⟩:=DataW.trod_int Tryz.underlying2 h12;obtain ⟨y13,hy13⟩:=hget 13 (by decide);have h13:DataW.trod enc Tryz.prog w base spare held n 61 ((cs.drop 19).take (Tryz.prog.cellsOf 61))=some y13:=(hfs 13 _ rfl).trans hy13;rw [es] at h13
 obtain ⟨k13,q13⟩:=Xak h13;obtain ⟨y14,hy14⟩:=hget 14 (by decide);have h14:DataW.trod enc Tryz.prog w base spare held n 29 ((cs.drop 24).take (Tryz.prog.cellsOf 29))=some y14:=(hfs 14 _ rfl).trans hy14;rw [el] at h14
 obtain ⟨u14,k14,q14,s14,l14⟩:=Uy h14;obtain ⟨y15,hy15⟩:=hget 15 (by decide);have h15:DataW.trod enc Tryz.prog w base spare held n 62 ((cs.drop 25).take (Tryz.prog.cellsOf 62))=some y15:=(hfs 15 _ rfl).trans hy15;rw [ep] at h15
 obtain ⟨k15,u15,v15,q15,s15,l15,m15,n15⟩:=Xfi h15;obtain ⟨y16,hy16⟩:=hget 16 (by decide);have h16:DataW.trod enc Tryz.prog w base spare held n 63 ((cs.drop 29).take (Tryz.prog.cellsOf 63))=some y16:=(hfs 16 _ rfl).trans hy16;rw [ef] at h16
 obtain ⟨k16,q16,l16⟩:=Xez h16;have z17:cs.drop 30=[]:=List.drop_eq_nil_of_le (by rw [hl,e];exact Nat.le_refl _);have z16:cs.drop 29=[.string k16]:=by rw [Zi cs 29 1 30 rfl,q16,z17];rfl
 have z15:cs.drop 25=[.int .i64 k15.state,u15,.int .i64 k15.mark,v15,.string k16]:=by rw [Zi cs 25 4 29 rfl,q15,z16];rfl
 have z14:cs.drop 24=[u14,.int .i64 k15.state,u15,.int .i64 k15.mark,v15,.string k16]:=by rw [Zi cs 24 1 25 rfl,q14,z15];rfl
 have z13:cs.drop 19=[.int .i64 k13.fore,.int .i64 k13.back,.bool k13.bold,.bool k13.under,.bool k13.turned,u14,.int .i64 k15.state,u15,.int .i64 k15.mark,v15,.string k16]:=by rw [Zi cs 19 5 24 rfl,q13,z14];rfl
 have z12:cs.drop 18=[.int .i64 k12,.int .i64 k13.fore,.int .i64 k13.back,.bool k13.bold,.bool k13.under,.bool k13.turned,u14,.int .i64 k15.state,u15,.int .i64 k15.mark,v15,.string k16]:=by rw [Zi cs 18 1 19 rfl,q12,z13];rfl
 have z11:cs.drop 17=[.int .i64 k11,.int .i64 k12,.int .i64 k13.fore,.int .i64 k13.back,.bool k13.bold,.bool k13.under,.bool k13.turned,u14,.int .i64 k15.state,u15,.int .i64 k15.mark,v15,.string k16]:=by rw [Zi cs 17 1 18 rfl,q11,z12];rfl
 have z10:cs.drop 16=[.bool k10,.int .i64 k11,.int .i64 k12,.int .i64 k13.fore,.int .i64 k13.back,.bool k13.bold,.bool k13.under,.bool k13.turned,u14,.int .i64 k15.state,u15,.int .i64 k15.mark,v15,.string k16]:=by rw [Zi cs 16 1 17 rfl,q10,z11];rfl
 have z9:cs.drop 15=[.bool k9,.bool k10,.int .i64 k11,.int .i64 k12,.int .i64 k13.fore,.int .i64 k13.back,.bool k13.bold,.bool k13.under,.bool k13.turned,u14,.int .i64 k15.state,u15,.int .i64 k15.mark,v15,.string k16]:=by rw [Zi cs 15 1 16 rfl,q9,z10];rfl
 have z8:cs.drop 14=[.bool k8,.bool k9,.bool k10,.int .i64 k11,.int .i64 k12,.int .i64 k13.fore,.int .i64 k13.back,.bool k13.bold,.bool k13.under,.bool k13.turned,u14,.int .i64 k15.state,u15,.int .i64 k15.mark,v15,.string k16]:=by rw [Zi cs 14 1 15 rfl,q8,z9];rfl
 have z7:cs.drop 13=[.bool k7,.bool k8,.bool k9,.bool k10,.int .i64 k11,.int .i64 k12,.int .i64 k13.fore,.int .i64 k13.back,.bool k13.bold,.bool k13.under,.bool k13.turned,u14,.int .i64 k15.state,u15,.int .i64 k15.mark,v15,.string k16]:=by rw [Zi cs 13 1 14 rfl,q7,z8];rfl
 have z6:cs.drop 12=[.int .i64 k6,.bool k7,.bool k8,.bool k9,.bool k10,.int .i64 k11,.int .i64 k12,.int .i64 k13.fore,.int .i64 k13.back,.bool k13.bold,.bool k13.under,.bool k13.turned,u14,.int .i64 k15.state,u15,.int .i64 k15.mark,v15,.string k16]:=by rw [Zi cs 12 1 13 rfl,q6,z7];rfl
 have z5:cs.drop 11=[.int .i64 k5,.int .i64 k6,.bool k7,.bool k8,.bool k9,.bool k10,.int .i64 k11,.int .i64 k12,.int .i64 k13.fore,.int .i64 k13.back,.bool k13.bold,.bool k13.under,.bool k13.turned,u14,.int .i64 k15.state,u15,.int .i64 k15.mark,v15,.string k16]:=by rw [Zi cs 11 1 12 rfl,q5,z6];rfl
 have z4:cs.drop 6=[.int .i64 k4.fore,.int .i64 k4.back,.bool k4.bold,.bool k4.under,.bool k4.turned,.int .i64 k5,.int .i64 k6,.bool k7,.bool k8,.bool k9,.bool k10,.int .i64 k11,.int .i64 k12,.int .i64 k13.fore,.int .i64 k13.back,.bool k13.bold,.bool k13.under,.bool k13.turned,u14,.int .i64 k15.state,u15,.int .i64 k15.mark,v15,.string k16]:=by rw [Zi cs 6 5 11 rfl,q4,z5];rfl
 have z3:cs.drop 5=[.int .i64 k3,.int .i64 k4.fore,.int .i64 k4.back,.bool k4.bold,.bool k4.under,.bool k4.turned,.int .i64 k5,.int .i64 k6,.bool k7,.bool k8,.bool k9,.bool k10,.int .i64 k11,.int .i64 k12,.int .i64 k13.fore,.int .i64 k13.back,.bool k13.bold,.bool k13.under,.bool k13.turned,u14,.int .i64 k15.state,u15,.int .i64 k15.mark,v15,.string k16]:=by rw [Zi cs 5 1 6 rfl,q3,z4];rfl
 have z2:cs.drop 4=[.int .i64 k2,.int .i64 k3,.int .i64 k4.fore,.int .i64 k4.back,.bool k4.bold,.bool k4.under,.bool k4.turned,.int .i64 k5,.int .i64 k6,.bool k7,.bool k8,.bool k9,.bool k10,.int .i64 k11,.int .i64 k12,.int .i64 k13.fore,.int .i64 k13.back,.bool k13.bold,.bool k13.under,.bool k13.turned,u14,.int .i64 k15.state,u15,.int .i64 k15.mark,v15,.string k16]:=by rw [Zi cs 4 1 5 rfl,q2,z3];rfl
 have z1:cs.drop 2=[.int .i64 k1,u1,.int .i64 k2,.int .i64 k3,.int .i64 k4.fore,.int .i64 k4.back,.bool k4.bold,.bool k4.under,.bool k4.turned,.int .i64 k5,.int .i64 k6,.bool k7,.bool k8,.bool k9,.bool k10,.int .i64 k11,.int .i64 k12,.int .i64 k13.fore,.int .i64 k13.back,.bool k13.bold,.bool k13.under,.bool k13.turned,u14,.int .i64 k15.state,u15,.int .i64 k15.mark,v15,.string k16]:=by rw [Zi cs 2 2 4 rfl,q1,z2];rfl
 have z0:cs.drop 0=[.int .i64 k0,u0,.int .i64 k1,u1,.int .i64 k2,.int .i64 k3,.int .i64 k4.fore,.int .i64 k4.back,.bool k4.bold,.bool k4.under,.bool k4.turned,.int .i64 k5,.int .i64 k6,.bool k7,.bool k8,.bool k9,.bool k10,.int .i64 k11,.int .i64 k12,.int .i64 k13.fore,.int .i64 k13.back,.bool k13.bold,.bool k13.under,.bool k13.turned,u14,.int .i64 k15.state,u15,.int .i64 k15.mark,v15,.string k16]:=by rw [Zi cs 0 2 2 rfl,q0,z1];rfl
 refine ⟨⟨k0,r0,k1,r1,k2,k3,k4,k5,k6,k7,k8,k9,k10,k11,k12,k13,k14,k15,k16⟩,⟨u0,u1,u14,u15,v15⟩,z0,⟨s0,s1,s14,s15,l15⟩,⟨l0,m0,l1,m1,l14,m15,n15⟩,l16⟩
theorem XfI {b0:Nat} {r:Reach} {v:Value} {d:DataW H} {p:List MemPlace} (hv:Value.okWide Tryz.prog w r b0 65 v) (h:DataW.Trod enc Tryz.prog w base spare held 65 v d p) :
  ∃ (t:Te) (u:Tv),v=teV t u/\SlT w t u/\SzT maxLen t/\t.fe.size<=maxLen:=by
 obtain ⟨cs,rfl,_⟩:=okWide_struct Tryz.underlying65 hv;obtain ⟨fuel,hf⟩:=h;obtain ⟨t,u,h1,h2,h3,h4⟩:=Xhv hf;refine ⟨t,u,?_,h2,h3,h4⟩;unfold teV
 congr 1
 exact Array.toList_inj.1 h1
end
