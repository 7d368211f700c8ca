/- Parts of the proof. -/
import Derived.Test.YtgcnmjjlmcnllaaGreatDoorP1
import Derived.Test.YtgcnmjjlmcnllaaGreatDoorP2
import Derived.Test.YtgcnmjjlmcnllaaGreatDoorP3
import Derived.Test.YtgcnmjjlmcnllaaGreatDoorP4
import Derived.Test.YtgcnmjjlmcnllaaGreatDoorP5
import Derived.Test.YtgcnmjjlmcnllaaGreatDoorP6
import Derived.Test.YtgcnmjjlmcnllaaGreatDoorP7
import Derived.Test.YtgcnmjjlmcnllaaGreatDoorP8
import Derived.Test.YtgcnmjjlmcnllaaGreatDoorP12
import Derived.Test.YtgcnmjjlmcnllaaGreatDoorP13
import Derived.Test.YtgcnmjjlmcnllaaGreatDoorP16
import Derived.Test.YtgcnmjjlmcnllaaGreatDoorP31
import Derived.Deep.RegionHeld3
namespace Go.Proofs.YtgcnmjjlmcnllaaGreatDoor
set_option maxRecDepth 20000
set_option maxHeartbeats 16000000
open Go.ChangeShapes Go.WideShapes Go.ChangeAt Go.RowKit
theorem eqCSS_same (va vb:Value) (rows:List (List Ce)) (w:World) (ha:SlG w va rows) (hb:SlG w vb rows) (hl:rows.length<=1073741824) (hx:∀ i,i<rows.length->(rowX rows i).length<=1073741824) :
  Calls Tryz.prog 163 #[va,vb] w fun e w'=>e=.returned (.bool true)/\Below w.heap.size w w':=by
 obtain ⟨a,c,vs,rfl,_,_,hr,hs⟩:=id ha;obtain ⟨a2,c2,vs2,rfl,_,_,hr2,hs2⟩:=id hb;clear ha hb;go_enter Tryz.func163,Tryz.ntmps163;go_wp2;go_loopw [5] (fun i wr=>∃ j:Nat,i=.int .i64 j/\j<=rows.length/\Below w.heap.size w wr) (fun i _=>rows.length-(intOf i).toNat)
 case atStart=>exact ⟨0,rfl,Nat.zero_le _,Below.refl _ _⟩
 case round =>
  obtain ⟨j,rfl,hj,kb⟩:=hrel
  by_cases hlt:j<rows.length
  ·have hji:(j:Int)<(rows.length:Int):=by omega
   have hj0:(0:Int)<=(j:Int):=by omega
   rcases hr with h|⟨b,off,rfl,hbb,hrc⟩
   ·rw [h] at hlt;simp at hlt
   rcases hr2 with h|⟨b2,off2,rfl,hbb2,hrc2⟩
   ·rw [h] at hlt;simp at hlt
   have hsj:=(hs j hlt).below kb;have hsj2:=(hs2 j hlt).below kb;have hcj:=(kb.cell (p:=⟨b,off+j,none⟩) hbb).trans (hrc j hlt);have hcj2:=(kb.cell (p:=⟨b2,off2+j,none⟩) hbb2).trans (hrc2 j hlt);obtain ⟨aj,cj,ev,_⟩:=id hsj;obtain ⟨aj2,cj2,ev2,_⟩:=id hsj2;rw [ev] at hcj hsj
   rw [ev2] at hcj2 hsj2
   have heq:=fun W (hW:Below wr.heap.size wr W)=>eqC_same _ _ _ W (hsj.below hW) (hsj2.below hW) (hx j hlt)
   clear hs hs2 hrc hrc2 ev ev2 hsj hsj2;go_wp2;go_region_with (go_at_call 225;refine (heq _ (bdr _)).mono ?_;rintro e w2 ⟨rfl,hb2⟩)
   all_goals
    have kb2:=(kb.trans ((bdr wr).mono kb.size)).trans (hb2.mono kb.size);clear kb hb2 heq;go_wp2;go_roundw
    case rel=>exact ⟨j+1,by go_num,by omega,by first|exact kb2|exact kb2.drew⟩
    case measure=>simp [intOf];omega
  ·have hjn:j=rows.length:=by omega
   have hji:¬ (j:Int)<(rows.length:Int):=by omega
   subst hjn;clear hs hs2 hr hr2;go_wp2;go_ret;exact ⟨rfl,kb⟩
theorem eqGrid_same (cols:Int) (va vb:Value) (rows:List (List Ce)) (w:World) (ha:SlG w va rows) (hb:SlG w vb rows) (hl:rows.length<=1073741824) (hx:∀ i,i<rows.length->(rowX rows i).length<=1073741824) :
  Calls Tryz.prog 96 #[gridV cols va,gridV cols vb] w fun e w'=>e=.returned (.bool true)/\Below w.heap.size w w':=by
 have hb0:=bal' w (Obj.cells #[.int .i64 cols,va] 26);have hb1:=bal' (w.alloc (Obj.cells #[.int .i64 cols,va] 26)) (Obj.cells #[.int .i64 cols,vb] 26);have hG0:=(GrN.new w cols va 26).below hb1;have hG1:=GrN.new (w.alloc (Obj.cells #[.int .i64 cols,va] 26)) cols vb 26;have e0:(w.alloc (Obj.cells #[.int .i64 cols,va] 26)).heap.size=w.heap.size+1:=by simp
 rw [e0] at hG1
 have heq:=fun W h1 h2=>eqCSS_same va vb rows W h1 h2 hl hx
 have hbb:=hb0.trans (hb1.mono hb0.size);have ha1:=ha.below hbb;have hb2:=hb.below hbb;obtain ⟨a,c,vs,rfl,_⟩:=id ha;obtain ⟨a2,c2,vs2,rfl,_⟩:=id hb;unfold gridV;obtain ⟨_,g0,g1⟩:=id hG0;obtain ⟨_,f0,f1⟩:=id hG1;go_enter Tryz.func96,Tryz.ntmps96;go_wp2_with fail;refine (heq _ ha1 hb2).mono ?_;rintro e w2 ⟨rfl,hw⟩;go_wp2;go_ret;exact ⟨rfl,hbb.trans (hw.mono hbb.size)⟩
theorem eqFeeder_same (h:ByteArray) (w:World) :
  Calls Tryz.prog 100 #[.agg #[.string h],.agg #[.string h]] w fun e w'=>e=.returned (.bool true)/\Below w.heap.size w w':=by
 go_enter Tryz.func100,Tryz.ntmps100;go_wp2;go_ret;exact ⟨rfl,((Below.refl _ _).alloc (Nat.le_refl _) _).alloc (by simp) _⟩

theorem eqTerm_same (t:Te) (v v2:Tv) (w:World) (h:SlT w t v) (h2:SlT w t v2) (hz:SzT 1048576 t) :
  Calls Tryz.prog 32 #[teV t v,teV t v2] w fun e w'=>e=.returned (.bool true)/\Below w.heap.size w w':=by
 obtain ⟨vg,vo,vti,vpp,vpt⟩:=v;obtain ⟨hg,ho,hti,hpp,hpt⟩:=h;obtain ⟨vg2,vo2,vti2,vpp2,vpt2⟩:=v2;obtain ⟨hg2,ho2,hti2,hpp2,hpt2⟩:=h2;simp only at hg ho hti hpp hpt hg2 ho2 hti2 hpp2 hpt2;obtain ⟨z1,z2,z3,z4,z5,z6,z7⟩:=hz;have cG:=fun W h1 h2=>eqGrid_same t.gc vg vg2 t.g W h1 h2 (by omega) (fun i hi=>by have:=z2 i hi;omega)
 have cO:=fun W h1 h2=>eqGrid_same t.oc vo vo2 t.o W h1 h2 (by omega) (fun i hi=>by have:=z4 i hi;omega)
 have cS:=fun W=>eqStyle_same t.st W
 have cSs:=fun W=>eqStyle_same t.ss W
 have cT:=fun W h1 h2=>eqI_same vti vti2 t.ti W h1 h2 (by omega)
 have cP:=fun W h1 h2 h3 h4=>eqParser_same t.pa vpp vpt vpp2 vpt2 W h1 h2 h3 h4 (by omega) (by omega)
 have cF:=fun W=>eqFeeder_same t.fe W
 obtain ⟨ga,gp,hq1⟩:=sGs hg;obtain ⟨oa,op,hq2⟩:=sGs ho;obtain ⟨tia,tip,hq3⟩:=hti.shp;obtain ⟨ppa,ppp,hq4⟩:=hpp.shp;obtain ⟨pta,ptp,hq5⟩:=hpt.shp;obtain ⟨ga2,gp2,hq6⟩:=sGs hg2;obtain ⟨oa2,op2,hq7⟩:=sGs ho2;obtain ⟨tia2,tip2,hq8⟩:=hti2.shp;obtain ⟨ppa2,ppp2,hq9⟩:=hpp2.shp;obtain ⟨pta2,ptp2,hq10⟩:=hpt2.shp;subst hq1;subst hq2;subst hq3;subst hq4;subst hq5;subst hq6;subst hq7;subst hq8;subst hq9;subst hq10;have hb1:=bal' w (Obj.cells (teCs t ⟨.slice ga t.g.length gp,.slice oa t.o.length op,.slice tia t.ti.length tip,.slice ppa t.pa.params.length ppp,.slice pta t.pa.text.length ptp⟩) 35);have hb2:=bal' (w.alloc (Obj.cells (teCs t ⟨.slice ga t.g.length gp,.slice oa t.o.length op,.slice tia t.ti.length tip,.slice ppa t.pa.params.length ppp,.slice pta t.pa.text.length ptp⟩) 35)) (Obj.cells (teCs t ⟨.slice ga2 t.g.length gp2,.slice oa2 t.o.length op2,.slice tia2 t.ti.length tip2,.slice ppa2 t.pa.params.length ppp2,.slice pta2 t.pa.text.length ptp2⟩) 35);have hX0:=(TeB.new w 35 t ⟨.slice ga t.g.length gp,.slice oa t.o.length op,.slice tia t.ti.length tip,.slice ppa t.pa.params.length ppp,.slice pta t.pa.text.length ptp⟩).below hb2;have hY0:=TeB.new (w.alloc (Obj.cells (teCs t ⟨.slice ga t.g.length gp,.slice oa t.o.length op,.slice tia t.ti.length tip,.slice ppa t.pa.params.length ppp,.slice pta t.pa.text.length ptp⟩) 35)) 35 t ⟨.slice ga2 t.g.length gp2,.slice oa2 t.o.length op2,.slice tia2 t.ti.length tip2,.slice ppa2 t.pa.params.length ppp2,.slice pta2 t.pa.text.length ptp2⟩;have kb:=hb1.trans (hb2.mono hb1.size);rw [show (w.alloc (Obj.cells (teCs t ⟨.slice ga t.g.length gp,.slice oa t.o.length op,.slice tia t.ti.length tip,.slice ppa t.pa.params.length ppp,.slice pta t.pa.text.length ptp⟩) 35)).heap.size=w.heap.size+1 by simp] at hY0
 obtain ⟨w2,hw2⟩:∃ w2,w2=(w.alloc (Obj.cells (teCs t ⟨.slice ga t.g.length gp,.slice oa t.o.length op,.slice tia t.ti.length tip,.slice ppa t.pa.params.length ppp,.slice pta t.pa.text.length ptp⟩) 35)).alloc (Obj.cells (teCs t ⟨.slice ga2 t.g.length gp2,.slice oa2 t.o.length op2,.slice tia2 t.ti.length tip2,.slice ppa2 t.pa.params.length ppp2,.slice pta2 t.pa.text.length ptp2⟩) 35):=⟨_,rfl⟩;rw [<- hw2] at hX0 hY0 kb
 replace hw2:=(show Hid _ from hw2);have hX:=hX0;have hY:=hY0;clear z1 z2 z3 z4 z5 z6 z7 hb1 hb2 hX0 hY0;unfold teV gridV stV paV at *;go_enter Tryz.func32,Tryz.ntmps32;refine wp_seq_k (fun K hK=>?_);have hH:=(show Hid _ from hK);clear hK;go_wp2;refine hH.out _ _ ?_;rw [<- hw2.out]
 clear hH hw2;obtain ⟨c0,c1,c2,c3,c4,c5,c6,c7,c8,c9,c10,c11,c12,c13,c14,c15,c16,c17,c18,c19,c20,c21,c22,c23,c24,c25,c26,c27,c28,c29⟩:=hX.cells;obtain ⟨d0,d1,d2,d3,d4,d5,d6,d7,d8,d9,d10,d11,d12,d13,d14,d15,d16,d17,d18,d19,d20,d21,d22,d23,d24,d25,d26,d27,d28,d29⟩:=hY.cells;go_wp2_with fail;refine (cG _ (hg.below kb) (hg2.below kb)).mono ?_;rintro e w3 ⟨rfl,hb⟩;replace kb:=kb.trans (hb.mono kb.size);replace hX:=hX.below hb;replace hY:=hY.below hb;clear c0 c1 c2 c3 c4 c5 c6 c7 c8 c9 c10 c11 c12 c13 c14 c15 c16 c17 c18 c19 c20 c21 c22 c23 c24 c25 c26 c27 c28 c29;clear d0 d1 d2 d3 d4 d5 d6 d7 d8 d9 d10 d11 d12 d13 d14 d15 d16 d17 d18 d19 d20 d21 d22 d23 d24 d25 d26 d27 d28 d29;clear hb;obtain ⟨c0,c1,c2,c3,c4,c5,c6,c7,c8,c9,c10,c11,c12,c13,c14,c15,c16,c17,c18,c19,c20,c21,c22,c23,c24,c25,c26,c27,c28,c29⟩:=hX.cells;obtain ⟨d0,d1,d2,d3,d4,d5,d6,d7,d8,d9,d10,d11,d12,d13,d14,d15,d16,d17,d18,d19,d20,d21,d22,d23,d24,d25,d26,d27,d28,d29⟩:=hY.cells;go_wp2_with fail;refine (cO _ (ho.below kb) (ho2.below kb)).mono ?_;rintro e w4 ⟨rfl,hb⟩;replace kb:=kb.trans (hb.mono kb.size);replace hX:=hX.below hb;replace hY:=hY.below hb;clear c0 c1 c2 c3 c4 c5 c6 c7 c8 c9 c10 c11 c12 c13 c14 c15 c16 c17 c18 c19 c20 c21 c22 c23 c24 c25 c26 c27 c28 c29;clear d0 d1 d2 d3 d4 d5 d6 d7 d8 d9 d10 d11 d12 d13 d14 d15 d16 d17 d18 d19 d20 d21 d22 d23 d24 d25 d26 d27 d28 d29;clear hb;obtain ⟨c0,c1,c2,c3,c4,c5,c6,c7,c8,c9,c10,c11,c12,c13,c14,c15,c16,c17,c18,c19,c20,c21,c22,c23,c24,c25,c26,c27,c28,c29⟩:=hX.cells;obtain ⟨d0,d1,d2,d3,d4,d5,d6,d7,d8,d9,d10,d11,d12,d13,d14,d15,d16,d17,d18,d19,d20,d21,d22,d23,d24,d25,d26,d27,d28,d29⟩:=hY.cells;go_wp2_with fail;refine (cS _).mono ?_;rintro e w5 ⟨rfl,hb⟩;replace kb:=kb.trans (hb.mono kb.size);replace hX:=hX.below hb;replace hY:=hY.below hb;clear c0 c1 c2 c3 c4 c5 c6 c7 c8 c9 c10 c11 c12 c13 c14 c15 c16 c17 c18 c19 c20 c21 c22 c23 c24 c25 c26 c27 c28 c29;clear d0 d1 d2 d3 d4 d5 d6 d7 d8 d9 d10 d11 d12 d13 d14 d15 d16 d17 d18 d19 d20 d21 d22 d23 d24 d25 d26 d27 d28 d29;clear hb;obtain ⟨c0,c1,c2,c3,c4,c5,c6,c7,c8,c9,c10,c11,c12,c13,c14,c15,c16,c17,c18,c19,c20,c21,c22,c23,c24,c25,c26,c27,c28,c29⟩:=hX.cells;obtain ⟨d0,d1,d2,d3,d4,d5,d6,d7,d8,d9,d10,d11,d12,d13,d14,d15,d16,d17,d18,d19,d20,d21,d22,d23,d24,d25,d26,d27,d28,d29⟩:=hY.cells;go_wp2_with fail;refine (cSs _).mono ?_;rintro e w6 ⟨rfl,hb⟩;replace kb:=kb.trans (hb.mono kb.size);replace hX:=hX.below hb;replace hY:=hY.below hb;clear c0 c1 c2 c3 c4 c5 c6 c7 c8 c9 c10 c11 c12 c13 c14 c15 c16 c17 c18 c19 c20 c21 c22 c23 c24 c25 c26 c27 c28 c29;clear d0 d1 d2 d3 d4 d5 d6 d7 d8 d9 d10 d11 d12 d13 d14 d15 d16 d17 d18 d19 d20 d21 d22 d23 d24 d25 d26 d27 d28 d29;clear hb;obtain ⟨c0,c1,c2,c3,c4,c5,c6,c7,c8,c9,c10,c11,c12,c13,c14,c15,c16,c17,c18,c19,c20,c21,c22,c23,c24,c25,c26,c27,c28,c29⟩:=hX.cells;obtain ⟨d0,d1,d2,d3,d4,d5,d6,d7,d8,d9,d10,d11,d12,d13,d14,d15,d16,d17,d18,d19,d20,d21,d22,d23,d24,d25,d26,d27,d28,d29⟩:=hY.cells;go_wp2_with fail;refine (cT _ (hti.below kb).l.sl (hti2.below kb).l.sl).mono ?_;rintro e w7 ⟨rfl,nd,hwd⟩
 have hb:Below _ _ w7:=hwd ▸ drewN_bel _ nd;clear hwd;replace kb:=kb.trans (hb.mono kb.size);replace hX:=hX.below hb;replace hY:=hY.below hb;clear c0 c1 c2 c3 c4 c5 c6 c7 c8 c9 c10 c11 c12 c13 c14 c15 c16 c17 c18 c19 c20 c21 c22 c23 c24 c25 c26 c27 c28 c29;clear d0 d1 d2 d3 d4 d5 d6 d7 d8 d9 d10 d11 d12 d13 d14 d15 d16 d17 d18 d19 d20 d21 d22 d23 d24 d25 d26 d27 d28 d29;clear hb;obtain ⟨c0,c1,c2,c3,c4,c5,c6,c7,c8,c9,c10,c11,c12,c13,c14,c15,c16,c17,c18,c19,c20,c21,c22,c23,c24,c25,c26,c27,c28,c29⟩:=hX.cells;obtain ⟨d0,d1,d2,d3,d4,d5,d6,d7,d8,d9,d10,d11,d12,d13,d14,d15,d16,d17,d18,d19,d20,d21,d22,d23,d24,d25,d26,d27,d28,d29⟩:=hY.cells;go_wp2_with fail;refine (cP _ (hpp.below kb).l.sl (hpt.below kb).l.sl (hpp2.below kb).l.sl (hpt2.below kb).l.sl).mono ?_;rintro e w8 ⟨rfl,hb⟩;replace kb:=kb.trans (hb.mono kb.size);replace hX:=hX.below hb;replace hY:=hY.below hb;clear c0 c1 c2 c3 c4 c5 c6 c7 c8 c9 c10 c11 c12 c13 c14 c15 c16 c17 c18 c19 c20 c21 c22 c23 c24 c25 c26 c27 c28 c29;clear d0 d1 d2 d3 d4 d5 d6 d7 d8 d9 d10 d11 d12 d13 d14 d15 d16 d17 d18 d19 d20 d21 d22 d23 d24 d25 d26 d27 d28 d29;clear hb;obtain ⟨c0,c1,c2,c3,c4,c5,c6,c7,c8,c9,c10,c11,c12,c13,c14,c15,c16,c17,c18,c19,c20,c21,c22,c23,c24,c25,c26,c27,c28,c29⟩:=hX.cells;obtain ⟨d0,d1,d2,d3,d4,d5,d6,d7,d8,d9,d10,d11,d12,d13,d14,d15,d16,d17,d18,d19,d20,d21,d22,d23,d24,d25,d26,d27,d28,d29⟩:=hY.cells;go_wp2_with fail;refine (cF _).mono ?_;rintro e w9 ⟨rfl,hb⟩;replace kb:=kb.trans (hb.mono kb.size);clear c0 c1 c2 c3 c4 c5 c6 c7 c8 c9 c10 c11 c12 c13 c14 c15 c16 c17 c18 c19 c20 c21 c22 c23 c24 c25 c26 c27 c28 c29;clear d0 d1 d2 d3 d4 d5 d6 d7 d8 d9 d10 d11 d12 d13 d14 d15 d16 d17 d18 d19 d20 d21 d22 d23 d24 d25 d26 d27 d28 d29;clear hb;go_wp2;go_ret;exact ⟨rfl,kb⟩
theorem info_tl:(Tryz.prog.info? 65).map (·.size)=some 30:=by kernel_rfl
theorem load_tl {w:World} {ops:Array Oper} {rest:List Oper} {o:Oper} {a:Act} {Q:Exit->Act->World->Prop} {B:Nat} {t:Te} {v:Tv} (hb:TeB w B 65 t v) (hgd:Region.wanted o (yielded ops a.tmps)=true) (x:Operand)
  (ho:o.op=.load 65 x) (hx:a.eval x=.pointer (some ⟨B,0,none⟩))
  (h:wpList Tryz.prog ops Q rest (a.put o.dst (.agg (teCs t v))) w):wpList Tryz.prog ops Q (o::rest) a w :=
 load_T (cs:=teCs t v) hgd 65 x ho Tryz.underlying65 rfl info_tl hb hx h
theorem run_load_te {W:World} {B:Nat} {t:Te} {v:Tv} (hb:TeB W B 35 t v) (a:Act) (o:Oper) (x:Operand) (ho:o.op=.load 35 x) (hx:a.eval x=.pointer (some ⟨B,0,none⟩)) :
  (execOp a.eval o).run Tryz.prog W=.ok (.value (.agg (teCs t v))) W:=by
 unfold execOp;simp only [ho,hx,Instr.loadAt,Instr.sureAddr,Sem.run_bind,Sem.run_pure,Result.andThen_ok,run_loadVar_row W B 35 35 (teCs t v) (0,0) _ hb Tryz.underlying35 rfl info_te]
theorem run_load_tl {W:World} {B:Nat} {t:Te} {v:Tv} (hb:TeB W B 65 t v) (a:Act) (o:Oper) (x:Operand) (ho:o.op=.load 65 x) (hx:a.eval x=.pointer (some ⟨B,0,none⟩)) :
  (execOp a.eval o).run Tryz.prog W=.ok (.value (.agg (teCs t v))) W:=by
 unfold execOp;simp only [ho,hx,Instr.loadAt,Instr.sureAddr,Sem.run_bind,Sem.run_pure,Result.andThen_ok,run_loadVar_row W B 65 65 (teCs t v) (0,0) _ hb Tryz.underlying65 rfl info_tl]
theorem termOk_bd {t:Te} (h:termOkB t=true):sumG t.g t.g.length<=60000/\sumG t.o t.o.length<=60000/\t.g.length<=30/\t.o.length<=30/\t.ti.length<=40/\t.pa.params.length<=16/\t.pa.text.length<=40:=by
 obtain ⟨gc,f1,f2,f3,f4,_,f6⟩:=termOk_sizes h;obtain ⟨⟨g1,g2⟩,⟨l1,l1'⟩,x1⟩:=gridOk_rows f3;obtain ⟨_,⟨l2,l2'⟩,x2⟩:=gridOk_rows f4;have s1:=sumG_bd _ 60 (fun i hi=>by rw [(x1 i hi).1];omega) _ (Nat.le_refl t.g.length);have s2:=sumG_bd _ 60 (fun i hi=>by rw [(x2 i hi).1];omega) _ (Nat.le_refl t.o.length);have m1:=Nat.mul_le_mul_right 60 l1';have m2:=Nat.mul_le_mul_right 60 l2';exact ⟨by omega,by omega,l1',l2',f6.2.2.2.2.1,f6.2.2.2.2.2.1,f6.2.2.2.2.2.2⟩
theorem doR_bd (t:Te) (a:Ac):sumG (doR t a).g (doR t a).g.length<=60000/\sumG (doR t a).o (doR t a).o.length<=60000/\(doR t a).g.length<=30/\(doR t a).o.length<=30/\(doR t a).ti.length<=40/\(doR t a).pa.params.length<=16/\(doR t a).pa.text.length<=40:=by
 unfold doR
 by_cases h:termOkB t=true
 ·rw [if_pos h]
  by_cases ha:actB a=true
  ·rw [if_pos ha];exact termOk_bd ((rtK_of h).doT a ha).ok
  ·rw [if_neg ha];exact termOk_bd h
 ·rw [if_neg h];simp [teZ,sumG]
theorem doR_sz (t:Te) (a:Ac):SzT 1048576 (doR t a):=by
 obtain ⟨h1,h2,h3,h4,h5,h6,h7⟩:=doR_bd t a;exact ⟨by omega,fun i hi=>by have:=sumG_row (doR t a).g hi;omega,by omega,fun i hi=>by have:=sumG_row (doR t a).o hi;omega,by omega,by omega,by omega⟩
theorem szAction_any (p:Ac) (pv tv:Value) (left:Nat) (w:World) (hp:SlI w pv p.params) (ht:SlI w tv p.text) (hpl:p.params.length<=maxLen) (htl:p.text.length<=maxLen) (hf:left<=4611686018427387904) :
  Calls Tryz.prog 29 #[.agg (acA p.kind p.rune pv p.mark tv),.int .i64 left] w fun e w'=>e=.returned (.int .i64 (szP p.params.length p.text.length left))/\Below w.heap.size w w':=by
 obtain ⟨k,r,ps,m,ts⟩:=p;have hb:=bal' w (Obj.cells #[.int .i64 k,.int .i64 r,pv,.int .i64 m,tv] 66);have hP:=BlkC.new w 66 (acA k r pv m tv).toList;have h1:=szI_any pv ps left _ (hp.below hb) hpl hf;have h2:=fun l h=>szI_any tv ts l _ (ht.below hb) htl h
 unfold acA at *;simp only at *;obtain ⟨pa,pc,hpv⟩:=hp.shp;obtain ⟨ta,tc,htv⟩:=ht.shp;subst hpv;subst htv;have c0:(w.alloc (Obj.cells #[.int .i64 k,.int .i64 r,.slice pa ps.length pc,.int .i64 m,.slice ta ts.length tc] 66)).cell? ⟨w.heap.size,2,none⟩=some (.slice pa ps.length pc):=cAl hP 2;have c1:(w.alloc (Obj.cells #[.int .i64 k,.int .i64 r,.slice pa ps.length pc,.int .i64 m,.slice ta ts.length tc] 66)).cell? ⟨w.heap.size,4,none⟩=some (.slice ta ts.length tc):=cAl hP 4;obtain ⟨rv,hrv⟩:∃ rv,Hid (rv=szP ps.length ts.length left):=⟨_,rfl⟩;rw [<- hrv.out]
 by_cases q1:left<ps.length
 ·have hv:Hid (rv=-1):=by show _=_;rw [hrv.out];unfold szP;rw [if_pos q1]
  rw [if_pos q1] at h1
  clear h2 hp ht hP hrv;go_enter Tryz.func29,Tryz.ntmps29;go_wp2_with (go_at_call 88;refine h1.mono ?_;rintro e w' ⟨rfl,rfl⟩);go_ret;exact ⟨by rw [hv.out];rfl,hb⟩
 ·rw [if_neg q1] at h1
  have h3:=h2 (left-ps.length) (by omega);have hn:¬ (((left-ps.length:Nat):Int)<0):=by omega
  obtain ⟨l2,hl2⟩:∃ l2,Hid (l2=left-ps.length):=⟨_,rfl⟩;rw [<- hl2.out] at h1 h3 hn
  by_cases q2:l2<ts.length
  ·have hv:Hid (rv=-1):=by show _=_;rw [hrv.out];unfold szP;rw [if_neg q1,if_pos (by rw [<- hl2.out];exact q2)]
   rw [if_pos q2] at h3
   clear h2 hp ht hP hrv hl2;go_enter Tryz.func29,Tryz.ntmps29;go_wp2_with fail;refine h1.mono ?_;rintro e w3 ⟨rfl,hw⟩;subst hw;clear h1;go_wp2_with fail;refine h3.mono ?_;rintro e w4 ⟨rfl,hw⟩;subst hw;clear h3;go_wp2;go_ret;exact ⟨by rw [hv.out];rfl,hb⟩
  ·obtain ⟨l3,hl3⟩:∃ l3,Hid (l3=l2-ts.length):=⟨_,rfl⟩
   have hv:Hid (rv=(l3:Int)):=by show _=_;rw [hrv.out,hl3.out,hl2.out];unfold szP;rw [if_neg q1,if_neg (by rw [<- hl2.out];exact q2)]
   rw [if_neg q2,<- hl3.out] at h3
   have hn3:¬ ((l3:Int)<0):=by omega
   clear h2 hp ht hP hrv hl2 hl3;go_enter Tryz.func29,Tryz.ntmps29;go_wp2_with fail;refine h1.mono ?_;rintro e w3 ⟨rfl,hw⟩;subst hw;clear h1;go_wp2_with fail;refine h3.mono ?_;rintro e w4 ⟨rfl,hw⟩;subst hw;clear h3;go_wp2;go_ret;exact ⟨by rw [hv.out];rfl,hb⟩
theorem info_ac5:(Tryz.prog.info? 37).map (·.size)=some 5:=by kernel_rfl
theorem toAction_copy (a:Ac) (pv tv:Value) (w:World) (hp:SlI w pv a.params) (ht:SlI w tv a.text) (hpl:a.params.length<=1073741824) (htl:a.text.length<=1073741824) :
  Calls Tryz.prog 31 #[.agg (acA a.kind a.rune pv a.mark tv)] w fun e w'=>∃ pv' tv',e=.returned (.agg (acA a.kind a.rune pv' a.mark tv'))/\LiOk w' w.heap.size [(pv',a.params),(tv',a.text)]/\Below w.heap.size w w':=by
 obtain ⟨k,r,ps,m,ts⟩:=a;simp only at *;obtain ⟨pa,pc,hpv⟩:=hp.shp;obtain ⟨ta,tc,htv⟩:=ht.shp;subst hpv;subst htv;have cP:=fun W h=>toI_copy (.slice pa ps.length pc) ps W h hpl
 have cT:=fun W h=>toI_copy (.slice ta ts.length tc) ts W h htl
 have b0:=bal' w (Obj.cells #[.int .i64 k,.int .i64 r,.slice pa ps.length pc,.int .i64 m,.slice ta ts.length tc] 66);have hX0:=BlkC.new w 66 [.int .i64 k,.int .i64 r,.slice pa ps.length pc,.int .i64 m,.slice ta ts.length tc];obtain ⟨w1,hw1⟩:∃ w1,w1=w.alloc (Obj.cells #[.int .i64 k,.int .i64 r,.slice pa ps.length pc,.int .i64 m,.slice ta ts.length tc] 66):=⟨_,rfl⟩;have zs1:w1.heap.size=w.heap.size+1:=by rw [hw1];simp
 replace hX0:BlkC w1 w.heap.size 66 [.int .i64 k,.int .i64 r,.slice pa ps.length pc,.int .i64 m,.slice ta ts.length tc]:=by rw [hw1];exact hX0
 rw [<- hw1] at b0
 obtain ⟨w2,hw2⟩:∃ w2,w2=(w1.alloc (Obj.cells #[.int .i64 0,.int .i64 0,.slice none 0 0,.int .i64 0,.slice none 0 0] 37)).alloc (Obj.cells #[.int .i64 0,.int .i64 0,.slice none 0 0,.int .i64 0,.slice none 0 0] 37):=⟨_,rfl⟩;have b1:=bal' w1 (Obj.cells #[.int .i64 0,.int .i64 0,.slice none 0 0,.int .i64 0,.slice none 0 0] 37);have b2:=bal' (w1.alloc (Obj.cells #[.int .i64 0,.int .i64 0,.slice none 0 0,.int .i64 0,.slice none 0 0] 37)) (Obj.cells #[.int .i64 0,.int .i64 0,.slice none 0 0,.int .i64 0,.slice none 0 0] 37);have hR:=BlkC.below (BlkC.new w1 37 [.int .i64 0,.int .i64 0,.slice none 0 0,.int .i64 0,.slice none 0 0]) b2;have hB:=BlkC.new (w1.alloc (Obj.cells #[.int .i64 0,.int .i64 0,.slice none 0 0,.int .i64 0,.slice none 0 0] 37)) 37 [.int .i64 0,.int .i64 0,.slice none 0 0,.int .i64 0,.slice none 0 0];have bb:=b1.trans (b2.mono b1.size);have zs2:w2.heap.size=w.heap.size+3:=by rw [hw2];simp;omega
 replace hR:BlkC w2 (w.heap.size+1) 37 [.int .i64 0,.int .i64 0,.slice none 0 0,.int .i64 0,.slice none 0 0]:=by rw [hw2,<- zs1];exact hR
 replace hB:BlkC w2 (w.heap.size+2) 37 [.int .i64 0,.int .i64 0,.slice none 0 0,.int .i64 0,.slice none 0 0]:=by rw [hw2,show w.heap.size+2=(w1.alloc (Obj.cells #[.int .i64 0,.int .i64 0,.slice none 0 0,.int .i64 0,.slice none 0 0] 37)).heap.size by simp;omega];exact hB
 rw [<- hw2] at bb
 have hX:=BlkC.below hX0 bb;have kb:=b0.trans (bb.mono b0.size);rw [hw1] at hw2
 replace hw2:=(show Hid _ from hw2);clear b0 b1 b2 bb hX0 hw1 zs1;unfold acA at *;go_enter Tryz.func31,Tryz.ntmps31;refine wp_seq_k (fun K hK=>?_);have hH:=(show Hid _ from hK);clear hK;go_wp2;refine hH.out _ _ ?_;clear hH;refine wp_seq_k (fun K hK=>?_);have hH:=(show Hid _ from hK);clear hK;go_wp2;refine hH.out _ _ ?_;rw [<- hw2.out,show w.heap.size+1+1=w.heap.size+2 from rfl]
 clear hH hw2;have c0:w2.cell? ⟨w.heap.size,0,none⟩=some (.int .i64 k):=cAl hX 0
 go_wp2_with (first
  | (refine store_at (by rfl) 2 _ _ (by rfl) inf_i hB (by rfl) (by rfl) (by rfl) (by rfl) (by rfl) ?_;intro W1 hg1 hB1 hz1;clear c0;have hX1:=BlkC.kept hX hg1 (fun e=>by have:=Option.some.inj e;omega);have c1:W1.cell? ⟨w.heap.size,1,none⟩=some (.int .i64 r):=cAl hX1 1)
  | (refine store_at (by rfl) 2 _ _ (by rfl) inf_i hB1 (by rfl) (by rfl) (by rfl) (by rfl) (by rfl) ?_;intro W2 hg2 hB2 hz2;clear c1;have hX2:=BlkC.kept hX1 hg2 (fun e=>by have:=Option.some.inj e;omega);have c2:W2.cell? ⟨w.heap.size,2,none⟩=some (.slice pa ps.length pc):=cAl hX2 2))
 have kb2:=(kb.grown hg1 kb.size (fun g e=>by cases e;omega)).grown hg2 (by omega) (fun g e=>by cases e;omega);have hR2:=BlkC.kept (BlkC.kept hR hg1 (fun e=>by have:=Option.some.inj e;omega)) hg2 (fun e=>by have:=Option.some.inj e;omega);clear hX hX1 hB hB1 hR kb hg1 hg2 c2;refine (cP W2 (hp.below kb2)).mono ?_;rintro e w4 ⟨u,rfl,hou,hb⟩;replace hou:OwnI w4 W2.heap.size u ps:=hou;have kb4:=kb2.trans (hb.mono kb2.size);have hX4:=BlkC.below hX2 hb;have hR4:=BlkC.below hR2 hb;have hB4:=BlkC.below hB2 hb;have z4:=hb.size;obtain ⟨ua,un,uc,hu⟩:=hou.shape;subst hu;clear hb kb2 hX2 hR2 hB2 cP;have c3:w4.cell? ⟨w.heap.size,3,none⟩=some (.int .i64 m):=cAl hX4 3
 go_wp2_with (first
  | (refine store_at (by rfl) 29 _ _ (by rfl) inf_l hB4 (by rfl) (by rfl) (by rfl) (by rfl) (by rfl) ?_;intro W5 hg5 hB5 hz5;clear c3;have hX5:=BlkC.kept hX4 hg5 (fun e=>by have:=Option.some.inj e;omega);have c3:W5.cell? ⟨w.heap.size,3,none⟩=some (.int .i64 m):=cAl hX5 3)
  | (refine store_at (by rfl) 2 _ _ (by rfl) inf_i hB5 (by rfl) (by rfl) (by rfl) (by rfl) (by rfl) ?_;intro W6 hg6 hB6 hz6;clear c3;have hX6:=BlkC.kept hX5 hg6 (fun e=>by have:=Option.some.inj e;omega);have c4:W6.cell? ⟨w.heap.size,4,none⟩=some (.slice ta ts.length tc):=cAl hX6 4))
 have gg:=grown_tr hg5 hg6;have kb6:=kb4.grown gg kb4.size (fun g e=>by cases e;omega);have hR6:=BlkC.kept hR4 gg (fun e=>by have:=Option.some.inj e;omega);have hou6:=hou.kept gg (.inr (fun e=>by have:=(hou.lt _ e).1;omega));clear hX4 hX5 hB4 hB5 hR4 hg5 hg6 c4 gg;refine (cT W6 (ht.below kb6)).mono ?_;rintro e w7 ⟨t,rfl,hot,hb⟩;replace hot:OwnI w7 W6.heap.size t ts:=hot;obtain ⟨sa,sn,sc,hu⟩:=hot.shape;subst hu;have kb7:=kb6.trans (hb.mono kb6.size);have hR7:=BlkC.below hR6 hb;have hB7:=BlkC.below hB6 hb
 have hL7:LiOk w7 w.heap.size [(.slice ua un uc,ps),(.slice sa sn sc,ts)] :=
  ((show LiOk W6 w.heap.size [(.slice ua un uc,ps)] from ⟨fun p hp=>by rw [List.mem_singleton] at hp;subst hp;exact hou6.low (by omega),List.pairwise_singleton _ _⟩).new hb (hot.low (by omega)) (fun g e=>(hot.lt g e).1)).perm (List.Perm.swap _ _ _)
 have hne:∀ p∈[((.slice ua un uc:Value),ps),(.slice sa sn sc,ts)],∀ k,p.1.ownBlock=some k->w.heap.size+3<=k:=fun p hp k e=>by
  simp only [List.mem_cons,List.mem_nil_iff,or_false] at hp;rcases hp with rfl|rfl
  ·have:=(hou.lt k e).1;omega
  ·have:=(hot.lt k e).1;omega
 have z7:=hb.size;clear hb kb6 hX6 hB6 hR6 cT hou6
 go_wp2_with (first
  | (refine store_at (by rfl) 29 _ _ (by rfl) inf_l hB7 (by rfl) (by rfl) (by rfl) (by rfl) (by rfl) ?_;intro W8 hg8 hB8 hz8;have hO8:=(show BlkC W8 (w.heap.size+2) 37 [.int .i64 k,.int .i64 r,.slice ua un uc,.int .i64 m,.slice sa sn sc] from hB8);have hR8:=BlkC.kept hR7 hg8 (fun e=>by have:=Option.some.inj e;omega))
  | (refine load_T (cs:=#[.int .i64 k,.int .i64 r,.slice ua un uc,.int .i64 m,.slice sa sn sc]) (by rfl) 37 _ (by rfl) Tryz.underlying37 rfl info_ac5 hO8 (by rfl) ?_)
  | (refine store_T (cs:=#[.int .i64 k,.int .i64 r,.slice ua un uc,.int .i64 m,.slice sa sn sc]) (by rfl) 37 _ _ (by rfl) info_ac5 (by rfl) (by rfl) hR8 (by rfl) (by rfl) ?_;intro w9 hg9 hR9 hz9))
 have kb9:=(kb7.grown hg8 kb7.size (fun g e=>by cases e;omega)).grown hg9 (by omega) (fun g e=>by cases e;omega);have hL9:=(hL7.kept hg8 (fun p hp=>.inr fun e=>by have:=hne p hp _ e;omega)).kept hg9 (fun p hp=>.inr fun e=>by have:=hne p hp _ e;omega);exact bodyPost_ret (v:=.agg #[.int .i64 k,.int .i64 r,.slice ua un uc,.int .i64 m,.slice sa sn sc]) (results_cell_row Tryz.results31 _ _ _ _ _ _ _ rfl hR9 Tryz.underlying37 rfl info_ac5) rfl ⟨_,_,rfl,hL9,kb9⟩
theorem AxC.kept {w w':World} {B:Nat} {k r m:Int} {pv tv:Value} {row:Option Nat} (h:AxC w B k r pv m tv) (hg:w.grownBy w' row) (hne:row≠some B):AxC w' B k r pv m tv:=by
 unfold AxC;rw [hg.block B h.lt (Ne.symm hne)]
 exact h
theorem markAction_big (p:Ac) (pv tv:Value) (k:Nat) (base:Nat) (R:List (Value×List Int)) (w:World) (h:LiOk w base ((pv,p.params)::(tv,p.text)::R)) (_hb:base<=w.heap.size) (hk:k<=134217728) (hpl:p.params.length<=1048576) (htl:p.text.length<=1048576) :
  Calls Tryz.prog 35 #[.agg (acA p.kind p.rune pv p.mark tv),.int .i64 k] w fun e w'=>e=.returned (.int .i64 ((k+p.params.length+p.text.length:Nat):Int))/\LiOk w' base ((pv,marksI k p.params.length)::(tv,marksI ((k+p.params.length:Nat):Int) p.text.length)::R)/\GrV pv tv w w':=by
 obtain ⟨a,r,ps,m,ts⟩:=p;have hb0:=bal' w (Obj.cells #[.int .i64 a,.int .i64 r,pv,.int .i64 m,tv] 37);have hP:=AxC.new w a r m pv tv;have h0:=h.below hb0;have m1:=markI_own base pv k ps.length (ps.map (Value.int .i64)) _ h0.head ⟨by omega,by omega⟩ (by simp only at hpl;omega);have m2:=fun W (hW:OwnI W base tv ts)=>markI_own base tv ((k+ps.length:Nat):Int) ts.length (ts.map (Value.int .i64)) W hW ⟨by omega,by simp only at hpl;omega⟩ (by simp only at htl;omega)
 have n1:Hid ((k:Int)+(ps.length:Int)=((k+ps.length:Nat):Int)):=by show _=_;omega
 have n2:Hid (((k+ps.length:Nat):Int)+(ts.length:Int)=((k+ps.length+ts.length:Nat):Int)):=by show _=_;omega
 rw [n1.out] at m1
 unfold acA at *;simp only at *;obtain ⟨pa,pn,pc,hpv⟩:=h.head.shape;obtain ⟨ta,tn,tc,htv⟩:=h.tail.head.shape;simp only at hpv htv;subst hpv;subst htv;have hGr:GrV (.slice pa pn pc) (.slice ta tn tc) w (w.alloc (Obj.cells #[.int .i64 a,.int .i64 r,.slice pa pn pc,.int .i64 m,.slice ta tn tc] 37)):=GrV.of_below hb0;obtain ⟨c0,c1,c2,c3,c4⟩:=hP.cells;have hs:∀ W,(w.alloc (Obj.cells #[.int .i64 a,.int .i64 r,.slice pa pn pc,.int .i64 m,.slice ta tn tc] 37)).grownBy W (Value.slice pa pn pc).ownBlock->AxC W w.heap.size a r (.slice pa pn pc) m (.slice ta tn tc):=fun W hg=>hP.kept hg (h0.head.not_block hP (by decide))
 clear h;go_enter Tryz.func35,Tryz.ntmps35;go_wp2_with fail;refine m1.mono ?_;rintro e w3 ⟨rfl,ho3,hg3⟩;have hP3:=hs w3 hg3;have hL3:LiOk w3 base ((.slice pa pn pc,marksI k ps.length)::(.slice ta tn tc,ts)::R):=h0.grow hg3 (by unfold OwnI;rw [marksI_len];exact ho3) (fun g e=>.inl e);have hG3:=hGr.grown hg3 (fun g e=>.inl e);have m3:=m2 w3 hL3.tail.head;rw [n2.out] at m3
 clear m1 m2 hs hGr hP h0 hg3 ho3 c0 c1 c2 c3 c4;obtain ⟨c0,c1,c2,c3,c4⟩:=hP3.cells;go_wp2_with fail;refine m3.mono ?_;rintro e w4 ⟨rfl,ho4,hg4⟩
 have hL4:LiOk w4 base ((.slice pa pn pc,marksI k ps.length)::(.slice ta tn tc,marksI ((k+ps.length:Nat):Int) ts.length)::R) :=
  ((hL3.perm (List.Perm.swap _ _ _)).grow hg4 (show OwnI w4 base _ _ from by unfold OwnI;rw [marksI_len];exact ho4) (fun g e=>.inl e)).perm (List.Perm.swap _ _ _)
 have hG4:=hG3.grown hg4 (fun g e=>.inr (.inl e));clear m3 hP3 hL3 hG3 hg4 ho4 c0 c1 c2 c3 c4;go_wp2;go_ret;exact ⟨rfl,hL4,hG4⟩
end Go.Proofs.YtgcnmjjlmcnllaaGreatDoor
