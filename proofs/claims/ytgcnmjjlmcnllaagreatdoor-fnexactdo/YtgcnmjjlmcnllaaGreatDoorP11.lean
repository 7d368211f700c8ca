/- Parts of the proof. -/
import Derived.Test.YtgcnmjjlmcnllaaGreatDoorP10
namespace Go.Proofs.YtgcnmjjlmcnllaaGreatDoor
set_option maxRecDepth 20000
set_option maxHeartbeats 16000000
open Go.ChangeShapes Go.WideShapes Go.ChangeAt Go.RowKit
theorem letter_d (cn N base B:Nat) (x0 x1 x2 x3 x4 x5 pv x:Value) (k r m:Int) (t:Te) (v:Tv) (vg vo:List Value) (w:World) (hSp:SpansAt w) (hSb:0<base) (h:Scr w 98 base B [x0,x1,x2,x3,x4,x5] t v vg vo) (hbase:base<=w.heap.size) (rk:RtK t cn N) (hwr:Hid (true=t.wrap)) (hfu:Hid (false=t.full)) (hgt:¬ t.gc<t.col+wdV r) (h1:1<=wdV r) (h2:wdV r<=t.gc) :
  Calls Tryz.prog 122 #[.pointer (some ⟨B,0,none⟩),.agg (acA k r pv m x)] w fun e w'=>e=.returned (.tuple #[])/\∃ v' vg' vo',Res w w' 98 base B [x0,x1,x2,x3,x4,x5] v vg vo (printI t r) v' vg' vo':=by
 obtain ⟨W,hW⟩:∃ W,W=w.alloc (Obj.cells #[.int .i64 k,.int .i64 r,pv,.int .i64 m,x] 37):=⟨_,rfl⟩;have hb0:Below w.heap.size w W:=by rw [hW];exact bal' _ _
 have hA:BlkC W w.heap.size 37 [.int .i64 k,.int .i64 r,pv,.int .i64 m,x]:=by rw [hW];exact heap_alloc_new w _
 have hapA:ApF W B v vg vo (.slice (some ⟨w.heap.size,0,none⟩) 0 0):=fun g e=>by
  obtain rfl:w.heap.size=g:=by simpa [Value.ownBlock] using e
  refine ⟨hA.lt,fun c=>?_⟩;rcases c with c|c|c
  ·have:=h.lt;omega
  ·have:=(GrS.bd h.o.1 c).2;omega
  ·have:=(GrS.bd h.o.2.1 c).2;omega
 have hof:=Res.of_below h hb0;have hbase0:base<=W.heap.size:=Nat.le_trans hbase hb0.size;have hA1:W.cell? ⟨w.heap.size,1,none⟩=some (.int .i64 r):=cAl hA 1;have hSp0:=hSp.below hb0 hSp.lt;have hwd:=implWidth_any r W hSp0;replace hW:=(show Hid _ from hW);obtain ⟨c,hc⟩:∃ c,Hid (wdV r=c):=⟨_,rfl⟩;rw [hc.out] at hwd
 have hgc:=rk.w.gc;have hcc:=rk.w.c;have hcol:=rk.w.col;unfold acA;have hcb:1<=c/\c<=2:=by have:=widthV_bd r;have:=hc.out;omega
 have q0:(c==0)=false:=by simp;omega
 have hcg:c<=t.gc:=by have:=hc.out;omega
 have q1:decide ((cn:Int)<c)=false:=decide_eq_false (by omega);have hgt':decide ((cn:Int)<t.col+c)=false:=decide_eq_false (by rw [<- hc.out,<- hgc];exact hgt);have hwx:IntKind.i64.wrap (t.col+c)=t.col+c:=by simp [IntKind.wrap,IntKind.bits,IntKind.signed];omega
 go_enter Tryz.func122,Tryz.ntmps122;refine wp_seq_k (fun K hK=>?_);have hH:=(show Hid _ from hK);clear hK;go_wp2;refine hH.out _ _ ?_;rw [<- hW.out]
 clear hH hW;generalize w.heap.size=A at *;go_wp2_with fail;refine hwd.mono ?_;rintro e W0 ⟨rfl,hbw⟩;clear hwd hA1;replace hA:=hA.below hbw;replace hapA:=hapA.mono hbw.size;replace hof:=hof.below hbw;replace hbase0:=Nat.le_trans hbase0 hbw.size;replace hSp0:=hSp0.below hbw hSp0.lt;have hd0:=bdr W0;have cf:∀ W,Below W0.heap.size W0 W->W.cell? ⟨B,20,none⟩=some (.bool true)/\W.cell? ⟨B,19,none⟩=some (.bool false)/\W.cell? ⟨B,11,none⟩=some (.int .i64 t.col)/\W.cell? ⟨B,6,none⟩=some (.int .i64 t.gc):=fun W hb=>⟨by rw [(hof.s.below hb).cell 20];show some (Value.bool t.wrap)=_;rw [<- hwr.out],by rw [(hof.s.below hb).cell 19];show some (Value.bool t.full)=_;rw [<- hfu.out],(hof.s.below hb).cell 11,(hof.s.below hb).cell 6⟩
 have d6:W0.cell? ⟨B,6,none⟩=some (.int .i64 t.gc):=hof.s.cell 6;go_wp2;clear d6;refine wp_region_noPanic ?_;refine wp_region_held_drew (S:=(fun W=>W.cell? ⟨B,20,none⟩=some (.bool true)/\W.cell? ⟨B,19,none⟩=some (.bool false)/\W.cell? ⟨B,11,none⟩=some (.int .i64 t.col)/\W.cell? ⟨B,6,none⟩=some (.int .i64 t.gc))) (by kernel_rfl) (cf _ hd0) (fun hHeld=>?_);refine tk 0 ?_;refine tk 1 ?_;refine tk 2 ?_;refine tk 3 ?_;refine tk 4 ?_;refine tk 5 ?_;refine tk 6 ?_;refine tk 7 ?_;refine tk 8 ?_;refine tk 9 ?_;refine tk 10 ?_;refine tk 11 ?_;refine tk 12 ?_;refine tk 13 ?_;refine tk 14 ?_;refine tk 15 ?_;refine tk 16 ?_;refine tk 17 ?_;refine tk 18 ?_;refine tk 19 ?_;refine tk 20 ?_;refine tk 21 ?_;refine tk 22 ?_;refine tk 23 ?_;refine tk 24 ?_;refine tk 25 ?_;refine tk 26 ?_;refine tk 27 ?_
 (try simp only [Act.put,ZA,ZB,ZC,ZD,ZE,ZF])
 refine dn ?_;clear cf;have hR1:=(show Hid _ from hof.below hd0);replace hA:=hA.below hd0;replace hapA:=hapA.mono hd0.size;have hSp1:=hSp0.below hd0 hSp0.lt;have hb1:=Nat.le_trans hbase0 hd0.size;have hg1:t.gc=(cn:Int):=hgc;have k1col:=rk.w.col;have k1row:=rk.w.row;have k1n:=rk.w.n;have k1gx:=rk.w.gx;have k1w:∀ q,0<=q/\q+c<=cn->writtenV (rowX t.g t.row.toNat) q r t.st=writeL (rowX t.g t.row.toNat) q.toNat r t.st:=fun q hq=>rk.written _ q r rk.w.row (by rw [hc.out];exact hq) (by have:=hc.out;omega)
 clear hof hSp0 hbase0 hd0 h hbase rk hSp hb0 hbw;generalize W0.drew=W1 at *;have c6:W1.cell? ⟨B,6,none⟩=some (.int .i64 (cn:Int)):=by rw [<- hg1];exact hR1.out.s.cell 6
 have c11:W1.cell? ⟨B,11,none⟩=some (.int .i64 t.col):=hR1.out.s.cell 11;have z11:W1.frozen? ⟨B,11,none⟩=false:=hR1.out.s.frozen 11;obtain ⟨q,hq⟩:∃ q,Hid (min t.col (t.gc-c)=q):=⟨_,rfl⟩;have hq2:min t.col ((cn:Int)-c)=q:=by have:=hq.out;omega
 have hqb:0<=q/\q+c<=cn:=by have:=k1col;omega
 have hws:IntKind.i64.wrap ((cn:Int)-c)=(cn:Int)-c:=by simp [IntKind.wrap,IntKind.bits,IntKind.signed];omega
 have p5:=(hR1.out.s.put (sCg B [.int .i64 q] 11 W1) { t with col:=q } (sCh B 98 [.int .i64 q] 11 W1 _ hR1.out.s.b) rfl rfl rfl rfl rfl).below (bdr _);have s6:(W1.setCell ⟨B,11,none⟩ (.int .i64 q)).drew.cell? ⟨B,6,none⟩=some (.int .i64 (cn:Int)):=by rw [<- hg1];exact p5.s.cell 6
 replace p5:=(show Hid _ from p5);go_wp2;refine wp_region_noPanic ?_;refine wp_region_held_drew (S:=(fun W=>W.cell? ⟨B,6,none⟩=some (.int .i64 (cn:Int)))) (by kernel_rfl) (c6) (fun hHeld=>?_);refine tk 0 ?_;refine tk 1 ?_;refine tk 2 ?_;refine tk 3 ?_;refine tk 4 ?_;refine tk 6 ?_;refine tk 7 ?_;refine tk 8 ?_;refine tk 9 ?_;refine tk 10 ?_;refine tk 11 ?_;refine tk 12 ?_;refine tk 13 ?_;refine rd 5 fun K hK=>?_
 go_simp;refine hK.out _ _ (hHeld) (fun hHeld=>?_);clear hK K;refine tk 14 ?_;refine tk 15 ?_;refine tk 16 ?_;refine tk 17 ?_;refine rd 18 fun K hK=>?_
 go_simp;refine hK.out _ _ (s6) (fun hHeld=>?_);clear hK K
 (try simp only [Act.put,ZA,ZB,ZC,ZD,ZE,ZF])
 refine dn ?_;obtain ⟨W2,hW2⟩:∃ W2,W2=(W1.setCell ⟨B,11,none⟩ (.int .i64 q)).drew:=⟨_,rfl⟩;rw [<- hW2]
 have P5:Res W1 W2 98 base B [x0,x1,x2,x3,x4,x5] v vg vo { t with col:=q } v vg vo:=by rw [hW2];exact p5.out
 clear hW2 p5 s6 c6 c11 z11;have hR2:=(show Hid _ from hR1.out.trans P5);have hA2:=hA.grp P5.g (hapA A rfl).2;have hap2:ApF W2 B v vg vo (.slice (some ⟨A,0,none⟩) 0 0):=fun g e=>⟨Nat.lt_of_lt_of_le (hapA g e).1 P5.g.size,fun c=>(hapA g e).2 (P5.c g (hapA g e).1 c)⟩
 have hSp2:=hSp1.below (hR1.out.s.bel hb1 P5) hSb;have hb2:=Nat.le_trans hb1 P5.g.size;clear hA hapA hSp1 P5 hR1;obtain ⟨i,hri⟩:∃ i:Nat,t.row=(i:Int):=⟨t.row.toNat,by have:=k1row;omega⟩;have hi:i<N:=by have:=k1row;omega
 have hN:=k1n;have h2s:=hR2.out.s;rcases h2s.o.1.shape with ⟨_,hs⟩|⟨g,cap,hvg,hbg,hlg,hcap⟩
 ·rw [hs] at hN;simp at hN;omega
 rw [hN] at hvg hcap
 have ho:=h2s.o.1;have hro:=ho.2.2.1 i (by show i<t.g.length;omega);have hvl:=ho.1;rw [hvg] at ho
 have hci:=ho.cell hN i hi;obtain ⟨ra,rn,rc,hre⟩:=hro.isSl;rw [hre] at hci hro
 have hgx:=k1gx i hi;have hsl:SlC W2 (.slice ra rn rc) (rowX t.g i):=SlC.of_own hro;have hlt:=h2s.lt;have cf:∀ W,Below W2.heap.size W2 W->W.cell? ⟨B,7,none⟩=some (.slice (some ⟨g,0,none⟩) N cap)/\W.cell? ⟨B,10,none⟩=some (.int .i64 (i:Int))/\W.cell? ⟨B,11,none⟩=some (.int .i64 q)/\W.cell? ⟨A,1,none⟩=some (.int .i64 r)/\W.cell? ⟨B,12,none⟩=some (.int .i64 t.st.fore)/\W.cell? ⟨B,13,none⟩=some (.int .i64 t.st.back)/\W.cell? ⟨B,14,none⟩=some (.bool t.st.bold)/\W.cell? ⟨B,15,none⟩=some (.bool t.st.under)/\W.cell? ⟨B,16,none⟩=some (.bool t.st.turned):=fun W hb=>⟨by rw [(h2s.below hb).cell 7];show some v.g=_;rw [hvg],by rw [(h2s.below hb).cell 10];show some (Value.int .i64 t.row)=_;rw [hri],(h2s.below hb).cell 11,cAl (hA2.below hb) 1,(h2s.below hb).cell 12,(h2s.below hb).cell 13,(h2s.below hb).cell 14,(h2s.below hb).cell 15,(h2s.below hb).cell 16⟩
 have ci:∀ W,Below W2.heap.size W2 W->W.cell? ⟨g,i,none⟩=some (.slice ra rn rc):=fun W hb=>(hb.cell (p:=⟨g,i,none⟩) hlg).trans hci
 have zi:∀ W,Below W2.heap.size W2 W->W.frozen? ⟨g,i,none⟩=false:=fun W hb=>(ho.below hb).frozen hN i
 have hcd:=fun W (hb:Below W2.heap.size W2 W)=>implWritten_any (.slice ra rn rc) (rowX t.g i) q r t.st W (hSp2.below hb hSp2.lt) (hsl.below hb) (by omega)
 obtain ⟨R,hR⟩:∃ R,Hid (writtenV (rowX t.g i) q r t.st=R):=⟨_,rfl⟩;simp only [hR.out] at hcd;have hfin:∀ W u,Below W2.heap.size W2 W->OwnC W W2.heap.size u R->Hid (Res W2 (W.setCell ⟨g,i,none⟩ u) 98 base B [x0,x1,x2,x3,x4,x5] v vg vo { ({ t with col:=q }:Te) with g:=t.g.set i R } v (vg.set i u) vo):=fun W u hb hu=>h2s.row hb2 hb hvg hN i hi u R hu
 have hsc:∀ W u,Below W2.heap.size W2 W->(W.setCell ⟨g,i,none⟩ u).cell? ⟨B,7,none⟩=some (.slice (some ⟨g,0,none⟩) N cap)/\(W.setCell ⟨g,i,none⟩ u).cell? ⟨B,10,none⟩=some (.int .i64 (i:Int))/\(W.setCell ⟨g,i,none⟩ u).cell? ⟨B,11,none⟩=some (.int .i64 q)/\(W.setCell ⟨g,i,none⟩ u).cell? ⟨A,1,none⟩=some (.int .i64 r)/\(W.setCell ⟨g,i,none⟩ u).cell? ⟨B,12,none⟩=some (.int .i64 t.st.fore)/\(W.setCell ⟨g,i,none⟩ u).cell? ⟨B,13,none⟩=some (.int .i64 t.st.back)/\(W.setCell ⟨g,i,none⟩ u).cell? ⟨B,14,none⟩=some (.bool t.st.bold)/\(W.setCell ⟨g,i,none⟩ u).cell? ⟨B,15,none⟩=some (.bool t.st.under)/\(W.setCell ⟨g,i,none⟩ u).cell? ⟨B,16,none⟩=some (.bool t.st.turned):=fun W u hb=>by
  have hne:g≠B:=fun e=>grS_not h2s.o.1 h2s.b h2s.n1 h2s.n2 (.inl (by rw [hvg,<- e];rfl))
  have hnA:g≠A:=fun e=>(hap2 A rfl).2 (.inr (.inl (.inl (by rw [hvg,<- e];rfl))))
  have hk:∀ k,(W.setCell ⟨g,i,none⟩ u).cell? ⟨B,k,none⟩=W.cell? ⟨B,k,none⟩:=fun k=>World.cell?_of_block (w:=W) ((setCell_gr W g i u).block B (Nat.lt_of_lt_of_le hlt hb.size) (fun e=>hne (Option.some.inj e).symm))
  have hkA:∀ k,(W.setCell ⟨g,i,none⟩ u).cell? ⟨A,k,none⟩=W.cell? ⟨A,k,none⟩:=fun k=>World.cell?_of_block (w:=W) ((setCell_gr W g i u).block A (Nat.lt_of_lt_of_le hA2.lt hb.size) (fun e=>hnA (Option.some.inj e).symm))
  rw [hk,hk,hk,hkA,hk,hk,hk,hk,hk]
  exact cf W hb
 have hRR:Hid (R=writeL (rowX t.g t.row.toNat) (min t.col (t.gc-wdV r)).toNat r t.st):=by
  show _=_
  have e:=k1w q hqb;have e1:=hR.out;rw [hri,Int.toNat_natCast] at e
  rw [<- e1,e,hc.out,hq.out,hri,Int.toNat_natCast]
 unfold stV at hcd;have hd:=bdr W2;have i0:(0:Int)<=(i:Int):=by omega
 have i1:(i:Int)<(N:Int):=by omega
 clear h2s ho hro hre hsl hgx hSp2 hvg hbg hcap hlt hvl hci hR hi hlg hA2 hap2 hN;go_wp2;refine wp_region_noPanic ?_;refine wp_region_held_drew (S:=(fun W=>W.cell? ⟨B,7,none⟩=some (.slice (some ⟨g,0,none⟩) N cap)/\W.cell? ⟨B,10,none⟩=some (.int .i64 (i:Int))/\W.cell? ⟨B,11,none⟩=some (.int .i64 q)/\W.cell? ⟨A,1,none⟩=some (.int .i64 r)/\W.cell? ⟨B,12,none⟩=some (.int .i64 t.st.fore)/\W.cell? ⟨B,13,none⟩=some (.int .i64 t.st.back)/\W.cell? ⟨B,14,none⟩=some (.bool t.st.bold)/\W.cell? ⟨B,15,none⟩=some (.bool t.st.under)/\W.cell? ⟨B,16,none⟩=some (.bool t.st.turned))) (by kernel_rfl) (cf _ hd) (fun hHeld=>?_);have di:=ci _ hd;refine tk 0 ?_;refine tk 1 ?_;refine tk 2 ?_;refine tk 3 ?_;refine tk 4 ?_;refine tk 5 ?_;refine tk 6 ?_;refine tk 7 ?_;refine tk 8 ?_;refine tk 9 ?_;refine tk 10 ?_;refine tk 11 ?_;refine tk 12 ?_;refine tk 13 ?_;refine tk 14 ?_;refine tk 15 ?_;refine tk 16 ?_;refine tk 17 ?_;refine tk 18 ?_;refine tk 19 ?_;refine tk 20 ?_;refine tk 21 ?_;refine tk 22 ?_;refine tk 24 ?_;refine tk 25 ?_;refine tk 26 ?_;refine tk 27 ?_;refine tk 28 ?_;refine tk 29 ?_;refine tk 30 ?_;refine tk 31 ?_;refine tk 32 ?_;refine tk 33 ?_;refine tk 34 ?_;refine tk 35 ?_;refine rd 23 fun K hK=>?_
 go_simp;refine hK.out _ _ (hHeld) (fun hHeld=>?_);clear hK K;refine rd 36 fun K hK=>?_
 go_simp;refine (hcd _ hd).mono ?_;rintro e w6 ⟨u,rfl,hu,hbx⟩;have hu2:=hu.low hd.size;replace hd:=hd.trans (hbx.mono hd.size);obtain ⟨ua,un,uc,hue⟩:=hu2.isSl;subst hue;have di:=ci _ hd;have zj:=zi _ hd;go_wp2_with fail;refine hK.out _ _ (cf _ hd) (fun hHeld=>?_);clear hK K;refine tk 37 ?_;refine rd 38 fun K hK=>?_
 go_simp;refine hK.out _ _ (hsc _ _ hd) (fun hHeld=>?_);clear hK K
 (try simp only [Act.put,ZA,ZB,ZC,ZD,ZE,ZF])
 refine dn ?_;obtain ⟨W3,hW3⟩:∃ W3,W3=w6.setCell ⟨g,i,none⟩ (.slice ua un uc):=⟨_,rfl⟩;rw [<- hW3]
 have hR3:=(show Hid _ from hR2.out.trans (by have:=(hfin _ _ hd hu2).out;rw [<- hW3] at this;exact this));clear hfin hW3 hR2 di zj hd hu2 hcd hsc cf ci zi;have c11:W3.cell? ⟨B,11,none⟩=some (.int .i64 q):=hR3.out.s.cell 11;have z11:W3.frozen? ⟨B,11,none⟩=false:=hR3.out.s.frozen 11;obtain ⟨q',hq'⟩:∃ q',Hid (q+c=q'):=⟨_,rfl⟩;have hwa:IntKind.i64.wrap (q+c)=q':=by have:=hq'.out;simp [IntKind.wrap,IntKind.bits,IntKind.signed];omega
 have p7:=(show Hid _ from hR3.out.trans (hR3.out.s.put (sCg B [.int .i64 q'] 11 W3) { ({ t with col:=q' }:Te) with g:=t.g.set i R } (sCh B 98 [.int .i64 q'] 11 W3 _ hR3.out.s.b) rfl rfl rfl rfl rfl));obtain ⟨W4,hW4⟩:∃ W4,W4=W3.setCell ⟨B,11,none⟩ (.int .i64 q'):=⟨_,rfl⟩;have hR4:Hid (Res w W4 98 base B [x0,x1,x2,x3,x4,x5] v vg vo { ({ t with col:=q' }:Te) with g:=t.g.set i R } v (vg.set i (.slice ua un uc)) vo):=by rw [hW4];exact p7.out
 clear p7 hR3;have d11:W4.cell? ⟨B,11,none⟩=some (.int .i64 q'):=hR4.out.s.cell 11;have d19:W4.cell? ⟨B,19,none⟩=some (.bool t.full):=hR4.out.s.cell 19;have y19:W4.frozen? ⟨B,19,none⟩=false:=hR4.out.s.frozen 19;obtain ⟨b,hb⟩:∃ b,Hid (decide ((cn:Int)-1<q')=b):=⟨_,rfl⟩;have hb':decide ((cn:Int)-1<q')=b:=hb.out;have hla:=lastCol_any B (cn:Int) W4.drew (by rw [<- hg1];exact hR4.out.s.cell 6) (by omega);have p8:=(show Hid _ from (hR4.out.trans (hR4.out.s.put (sCg B [.bool b] 19 W4) { ({ t with col:=q',full:=b }:Te) with g:=t.g.set i R } (sCh B 98 [.bool b] 19 W4 _ hR4.out.s.b) rfl rfl rfl rfl rfl)).below (bdr _));have s11:(W4.setCell ⟨B,19,none⟩ (.bool b)).drew.cell? ⟨B,11,none⟩=some (.int .i64 q'):=p8.out.s.cell 11;replace hW4:=(show Hid _ from hW4);go_wp2_with fail;rw [<- hW4.out]
 clear hW4 c11 z11;go_wp2;refine wp_region_noPanic ?_;refine wp_region_held_drew (S:=(fun W=>W.cell? ⟨B,11,none⟩=some (.int .i64 q'))) (by kernel_rfl) (d11) (fun hHeld=>?_);refine tk 0 ?_;refine tk 1 ?_;refine tk 2 ?_;refine tk 3 ?_;refine tk 4 ?_;refine tk 5 ?_;refine tk 6 ?_;refine rd 7 fun K hK=>?_
 go_simp;refine hla.mono ?_;rintro e wk ⟨rfl,hw⟩;subst hw;go_wp2_with fail;refine hK.out _ _ (d11) (fun hHeld=>?_);clear hK K;refine tk 8 ?_;refine tk 9 ?_;refine tk 10 ?_;refine tk 11 ?_;refine rd 12 fun K hK=>?_
 go_simp;refine hK.out _ _ (s11) (fun hHeld=>?_);clear hK K
 (try simp only [Act.put,ZA,ZB,ZC,ZD,ZE,ZF])
 refine dn ?_;obtain ⟨W5,hW5⟩:∃ W5,W5=(W4.setCell ⟨B,19,none⟩ (.bool b)).drew:=⟨_,rfl⟩;rw [<- hW5]
 have hR5:Hid (Res w W5 98 base B [x0,x1,x2,x3,x4,x5] v vg vo { ({ t with col:=q',full:=b }:Te) with g:=t.g.set i R } v (vg.set i (.slice ua un uc)) vo):=by rw [hW5];exact p8.out
 clear p8 hW5 hR4 d11 d19 y19 s11 hla;have d11:W5.cell? ⟨B,11,none⟩=some (.int .i64 q'):=hR5.out.s.cell 11;have y11:W5.frozen? ⟨B,11,none⟩=false:=hR5.out.s.frozen 11;have hla:=lastCol_any B (cn:Int) W5.drew (by rw [<- hg1];exact hR5.out.s.cell 6) (by omega);obtain ⟨q2,hq3⟩:∃ q2,Hid (min q' ((cn:Int)-1)=q2):=⟨_,rfl⟩;have hq4:min q' ((cn:Int)-1)=q2:=hq3.out;have p9:=(show Hid _ from (hR5.out.trans (hR5.out.s.put (sCg B [.int .i64 q2] 11 W5) { ({ t with col:=q2,full:=b }:Te) with g:=t.g.set i R } (sCh B 98 [.int .i64 q2] 11 W5 _ hR5.out.s.b) rfl rfl rfl rfl rfl)).below (bdr _))
 have hF:Hid (Res w (W5.setCell ⟨B,11,none⟩ (.int .i64 q2)).drew 98 base B [x0,x1,x2,x3,x4,x5] v vg vo (printI t r) v (vg.set i (.slice ua un uc)) vo):=by
  have e:printI t r={ ({ t with col:=q2,full:=b }:Te) with g:=t.g.set i R }:=by
   unfold printI Go.Proofs.YtgcnmjjlmcnllaaGreatDoor.rowT;rw [<- hRR.out,hc.out,hq.out,hq'.out,hg1,hq4,hb',show t.row.toNat=i by omega]
  show Res _ _ _ _ _ _ _ _ _ _ _ _ _
  rw [e]
  exact p9.out
 clear p9 hR5 hRR;go_wp2;refine wp_region_noPanic ?_;refine wp_region_held_drew (S:=(fun _=>True)) (by kernel_rfl) (trivial) (fun hHeld=>?_);refine tk 0 ?_;refine tk 1 ?_;refine tk 2 ?_;refine tk 3 ?_;refine tk 4 ?_;refine tk 6 ?_;refine rd2 5 7 (fun K hK=>?_) fun K hK=>?_
 ·go_simp
  refine hK.out _ _ (trivial) (fun hHeld=>?_);clear hK K;refine rd 7 fun K hK=>?_
  go_simp;refine hla.mono ?_;rintro e wk ⟨rfl,hw⟩;subst hw;go_wp2_with fail;refine hK.out _ _ (trivial) (fun hHeld=>?_);clear hK K;refine tk 8 ?_;refine tk 9 ?_;refine tk 10 ?_;refine tk 11 ?_;refine rd 12 fun K hK=>?_
  go_simp;refine hK.out _ _ (trivial) (fun hHeld=>?_);clear hK K
  (try simp only [Act.put,ZA,ZB,ZC,ZD,ZE,ZF])
  refine dn ?_;go_wp2;refine be ?_;exact ⟨rfl,_,_,_,hF.out⟩
 ·go_simp
  refine hla.mono ?_;rintro e wk ⟨rfl,hw⟩;subst hw;go_wp2_with fail;refine hK.out _ _ (trivial) (fun hHeld=>?_);clear hK K;refine rd 5 fun K hK=>?_
  go_simp;refine hK.out _ _ (trivial) (fun hHeld=>?_);clear hK K;refine tk 8 ?_;refine tk 9 ?_;refine tk 10 ?_;refine tk 11 ?_;refine rd 12 fun K hK=>?_
  go_simp;refine hK.out _ _ (trivial) (fun hHeld=>?_);clear hK K
  (try simp only [Act.put,ZA,ZB,ZC,ZD,ZE,ZF])
  refine dn ?_;go_wp2;refine be ?_;exact ⟨rfl,_,_,_,hF.out⟩
theorem letter_any (cn N base B:Nat) (x0 x1 x2 x3 x4 x5 pv x:Value) (k r m:Int) (t:Te) (v:Tv) (vg vo:List Value) (w:World) (hSp:SpansAt w) (hSb:0<base) (h:Scr w 98 base B [x0,x1,x2,x3,x4,x5] t v vg vo) (hbase:base<=w.heap.size) (rk:RtK t cn N) :
  Calls Tryz.prog 122 #[.pointer (some ⟨B,0,none⟩),.agg (acA k r pv m x)] w fun e w'=>e=.returned (.tuple #[])/\∃ v' vg' vo',Res w w' 98 base B [x0,x1,x2,x3,x4,x5] v vg vo (printT t r) v' vg' vo':=by
 have hwb:=widthV_bd r
 by_cases h1:1<=wdV r
 ·by_cases h2:wdV r<=t.gc
  ·rw [print_way rk r h1 h2]
   by_cases hw:t.wrap=true
   ·by_cases hf:t.full=true
    ·rw [if_pos ⟨hw,.inl hf⟩]
     exact letter_b cn N base B x0 x1 x2 x3 x4 x5 pv x k r m t v vg vo w hSp hSb h hbase rk hw.symm hf.symm h1 h2
    ·by_cases hg:t.gc<t.col+wdV r
     ·rw [if_pos ⟨hw,.inr hg⟩]
      exact letter_c cn N base B x0 x1 x2 x3 x4 x5 pv x k r m t v vg vo w hSp hSb h hbase rk hw.symm (show false=t.full by simpa using hf) hg h1 h2
     ·rw [if_neg (fun e=>e.2.elim hf hg)]
      exact letter_d cn N base B x0 x1 x2 x3 x4 x5 pv x k r m t v vg vo w hSp hSb h hbase rk hw.symm (show false=t.full by simpa using hf) hg h1 h2
   ·rw [if_neg (fun e=>hw e.1)]
    exact letter_a cn N base B x0 x1 x2 x3 x4 x5 pv x k r m t v vg vo w hSp hSb h hbase rk (show false=t.wrap by simpa using hw) h1 h2
  ·have hV:printT t r=t:=by unfold printT;rw [if_pos (by omega)]
   rw [hV]
   obtain ⟨W,hW⟩:∃ W,W=w.alloc (Obj.cells #[.int .i64 k,.int .i64 r,pv,.int .i64 m,x] 37):=⟨_,rfl⟩;have hb0:Below w.heap.size w W:=by rw [hW];exact bal' _ _
   have hA:BlkC W w.heap.size 37 [.int .i64 k,.int .i64 r,pv,.int .i64 m,x]:=by rw [hW];exact heap_alloc_new w _
   have hapA:ApF W B v vg vo (.slice (some ⟨w.heap.size,0,none⟩) 0 0):=fun g e=>by
    obtain rfl:w.heap.size=g:=by simpa [Value.ownBlock] using e
    refine ⟨hA.lt,fun c=>?_⟩;rcases c with c|c|c
    ·have:=h.lt;omega
    ·have:=(GrS.bd h.o.1 c).2;omega
    ·have:=(GrS.bd h.o.2.1 c).2;omega
   have hof:=Res.of_below h hb0;have hbase0:base<=W.heap.size:=Nat.le_trans hbase hb0.size;have hA1:W.cell? ⟨w.heap.size,1,none⟩=some (.int .i64 r):=cAl hA 1;have hSp0:=hSp.below hb0 hSp.lt;have hwd:=implWidth_any r W hSp0;replace hW:=(show Hid _ from hW);obtain ⟨c,hc⟩:∃ c,Hid (wdV r=c):=⟨_,rfl⟩;rw [hc.out] at hwd
   have hgc:=rk.w.gc;have hcc:=rk.w.c;have hcol:=rk.w.col;unfold acA;have q0:(c==0)=false:=by have:=hc.out;simp;omega
   have q1:decide ((cn:Int)<c)=true:=decide_eq_true (by have:=hc.out;omega);clear hV;go_enter Tryz.func122,Tryz.ntmps122;refine wp_seq_k (fun K hK=>?_);have hH:=(show Hid _ from hK);clear hK;go_wp2;refine hH.out _ _ ?_;rw [<- hW.out]
   clear hH hW;generalize w.heap.size=A at *;go_wp2_with fail;refine hwd.mono ?_;rintro e W0 ⟨rfl,hbw⟩;clear hwd hA1;replace hA:=hA.below hbw;replace hapA:=hapA.mono hbw.size;replace hof:=hof.below hbw;replace hbase0:=Nat.le_trans hbase0 hbw.size;replace hSp0:=hSp0.below hbw hSp0.lt;have hR:=(show Hid _ from hof);have d6:W0.cell? ⟨B,6,none⟩=some (.int .i64 t.gc):=hof.s.cell 6;clear hof hA hapA;go_wp2;exact bodyPost_ret (v:=.tuple #[]) (results_none rfl _ _ _) rfl ⟨rfl,_,_,_,hR.out⟩
 ·have hV:printT t r=t:=by unfold printT;rw [if_pos (by omega)]
  rw [hV]
  obtain ⟨W,hW⟩:∃ W,W=w.alloc (Obj.cells #[.int .i64 k,.int .i64 r,pv,.int .i64 m,x] 37):=⟨_,rfl⟩;have hb0:Below w.heap.size w W:=by rw [hW];exact bal' _ _
  have hA:BlkC W w.heap.size 37 [.int .i64 k,.int .i64 r,pv,.int .i64 m,x]:=by rw [hW];exact heap_alloc_new w _
  have hapA:ApF W B v vg vo (.slice (some ⟨w.heap.size,0,none⟩) 0 0):=fun g e=>by
   obtain rfl:w.heap.size=g:=by simpa [Value.ownBlock] using e
   refine ⟨hA.lt,fun c=>?_⟩;rcases c with c|c|c
   ·have:=h.lt;omega
   ·have:=(GrS.bd h.o.1 c).2;omega
   ·have:=(GrS.bd h.o.2.1 c).2;omega
  have hof:=Res.of_below h hb0;have hbase0:base<=W.heap.size:=Nat.le_trans hbase hb0.size;have hA1:W.cell? ⟨w.heap.size,1,none⟩=some (.int .i64 r):=cAl hA 1;have hSp0:=hSp.below hb0 hSp.lt;have hwd:=implWidth_any r W hSp0;replace hW:=(show Hid _ from hW);obtain ⟨c,hc⟩:∃ c,Hid (wdV r=c):=⟨_,rfl⟩;rw [hc.out] at hwd
  have hgc:=rk.w.gc;have hcc:=rk.w.c;have hcol:=rk.w.col;unfold acA;obtain rfl:c=0:=by have:=hc.out;omega
  clear hV;go_enter Tryz.func122,Tryz.ntmps122;refine wp_seq_k (fun K hK=>?_);have hH:=(show Hid _ from hK);clear hK;go_wp2;refine hH.out _ _ ?_;rw [<- hW.out]
  clear hH hW;generalize w.heap.size=A at *;go_wp2_with fail;refine hwd.mono ?_;rintro e W0 ⟨rfl,hbw⟩;clear hwd hA1;replace hA:=hA.below hbw;replace hapA:=hapA.mono hbw.size;replace hof:=hof.below hbw;replace hbase0:=Nat.le_trans hbase0 hbw.size;replace hSp0:=hSp0.below hbw hSp0.lt;have hR:=(show Hid _ from hof);clear hof hA hapA;go_wp2;exact bodyPost_ret (v:=.tuple #[]) (results_none rfl _ _ _) rfl ⟨rfl,_,_,_,hR.out⟩
def kindsC:Array Value:=#[.nilFunc,.func (.func 122) #[] #[],.func (.func 123) #[] #[],.func (.func 124) #[] #[],.func (.func 125) #[] #[],.func (.func 126) #[] #[]]
theorem inf_kinds:(Tryz.prog.info? 150).map (·.size)=some 6:=by kernel_rfl
set_option maxRecDepth 40000 in
theorem do_way (base B:Nat) (x0 x1 x2 x3 x4 x5 pv x:Value) (k r m:Int) (t:Te) (v:Tv) (vg vo:List Value) (w:World) (h:Scr w 98 base B [x0,x1,x2,x3,x4,x5] t v vg vo) (hk:0<=k/\k<6) (fn:Nat) (hf:kindsC[k.toNat]?=some (.func (.func fn) #[] #[])) (he:∀ args w,(callFunc fn args).run Tryz.prog w=Result.ok (Next.enter fn args) w) (t2:Te)
  (hc:∀ W,Below w.heap.size w W->Calls Tryz.prog fn #[.pointer (some ⟨B,0,none⟩),.agg (acA k r pv m x)] W fun e w'=>e=.returned (.tuple #[])/\∃ v' vg' vo',Res W w' 98 base B [x0,x1,x2,x3,x4,x5] v vg vo t2 v' vg' vo') (hpv:∃ a n c,pv=.slice a n c) (hx:∃ a n c,x=.slice a n c) :
  Calls Tryz.prog 49 #[.pointer (some ⟨B,0,none⟩),.agg (acA k r pv m x)] w fun e w'=>e=.returned (.tuple #[])/\∃ v' vg' vo',Res w w' 98 base B [x0,x1,x2,x3,x4,x5] v vg vo t2 v' vg' vo':=by
 obtain ⟨pa,pn,pc,rfl⟩:=hpv;obtain ⟨xa,xn,xc,rfl⟩:=hx;obtain ⟨W,hW⟩:∃ W,W=w.alloc (Obj.cells #[.int .i64 k,.int .i64 r,.slice pa pn pc,.int .i64 m,.slice xa xn xc] 37):=⟨_,rfl⟩;have hb0:Below w.heap.size w W:=by rw [hW];exact bal' _ _
 have hA:BlkC W w.heap.size 37 [.int .i64 k,.int .i64 r,.slice pa pn pc,.int .i64 m,.slice xa xn xc]:=by rw [hW];exact heap_alloc_new w _
 have hz0:W.heap.size=w.heap.size+1:=by rw [hW];simp
 have hlt:=h.lt;replace hW:=(show Hid _ from hW);have hS0:(W.alloc (Obj.cells #[.nilFunc,.nilFunc,.nilFunc,.nilFunc,.nilFunc,.nilFunc] 150)).heap[w.heap.size+1]?=some (.cells #[.nilFunc,.nilFunc,.nilFunc,.nilFunc,.nilFunc,.nilFunc] 150 (0,0)):=by rw [<- hz0];exact heap_alloc_new W _
 have hal:=bal' W (Obj.cells #[.nilFunc,.nilFunc,.nilFunc,.nilFunc,.nilFunc,.nilFunc] 150);have hbz:=hb0.trans (hal.mono hb0.size);have i0:0<=k:=hk.1;have i1:k<6:=hk.2
 have hnf:∀ g,w.heap.size<=g->¬ Ft B v vg vo g:=fun g hg c=>by
  rcases c with c|c|c
  ·omega
  ·have:=(GrS.bd h.o.1 c).2;omega
  ·have:=(GrS.bd h.o.2.1 c).2;omega
 replace hf:=(show Hid _ from hf);unfold acA at *;go_enter Tryz.func49,Tryz.ntmps49;refine wp_seq_k (fun K hK=>?_);have hH:=(show Hid _ from hK);clear hK;go_wp2;refine hH.out _ _ ?_;rw [<- hW.out]
 clear hH hW;go_wp2_with (refine store_T (cs:=kindsC) (by rfl) 150 _ _ (by rfl) inf_kinds (by rfl) (by rfl) hS0 (by rfl) (by rfl) ?_;intro W2 hg hS hz2;have hS2:BlkC W2 (w.heap.size+1) 150 kindsC.toList:=hS;have hA2:=BlkC.kept (hA.below hal) hg (fun e=>by injection e with e;omega);have hbW:=(hbz.grown hg hbz.size (fun g e=>by cases e;omega)).trans ((bdr W2).mono (hbz.grown hg hbz.size (fun g e=>by cases e;omega)).size);clear hS);clear hS0 hal hb0 hA hz0;have d1:W2.drew.cell? ⟨w.heap.size,0,none⟩=some (.int .i64 k)/\W2.drew.cell? ⟨w.heap.size,1,none⟩=some (.int .i64 r)/\W2.drew.cell? ⟨w.heap.size,2,none⟩=some (.slice pa pn pc)/\W2.drew.cell? ⟨w.heap.size,3,none⟩=some (.int .i64 m)/\W2.drew.cell? ⟨w.heap.size,4,none⟩=some (.slice xa xn xc):=⟨cAl (hA2.below (bdr W2)) 0,cAl (hA2.below (bdr W2)) 1,cAl (hA2.below (bdr W2)) 2,cAl (hA2.below (bdr W2)) 3,cAl (hA2.below (bdr W2)) 4⟩;have dS:W2.drew.cell? ⟨w.heap.size+1,k.toNat,none⟩=some (.func (.func fn) #[] #[]):=(cAl (BlkC.below hS2 (bdr W2)) _).trans hf.out;refine wp_region_noPanic ?_;refine wp_region_held_drew (S:=(fun W=>(W.cell? ⟨w.heap.size,0,none⟩=some (.int .i64 k)/\W.cell? ⟨w.heap.size,1,none⟩=some (.int .i64 r)/\W.cell? ⟨w.heap.size,2,none⟩=some (.slice pa pn pc)/\W.cell? ⟨w.heap.size,3,none⟩=some (.int .i64 m)/\W.cell? ⟨w.heap.size,4,none⟩=some (.slice xa xn xc))/\W.cell? ⟨w.heap.size+1,k.toNat,none⟩=some (.func (.func fn) #[] #[]))) (by kernel_rfl) ⟨d1,dS⟩ (fun hHeld=>?_);clear d1 dS;refine tk 0 ?_;refine tk 1 ?_;refine tk 2 ?_;refine tk 3 ?_;refine tk 4 ?_;refine tk 5 ?_;refine rd 6 fun K hK=>?_
 go_simp;refine (hc _ hbW).mono ?_;rintro e w3 ⟨rfl,v3,g3,o3,hR⟩;have hA3:=BlkC.grp (hA2.below (bdr W2)) hR.g (hnf _ (Nat.le_refl _));have hS3:=BlkC.grp (BlkC.below hS2 (bdr W2)) hR.g (hnf _ (by omega));have hF:=(show Hid _ from (Res.of_below h hbW).trans hR);go_wp2_with fail;refine hK.out _ _ ⟨⟨cAl hA3 0,cAl hA3 1,cAl hA3 2,cAl hA3 3,cAl hA3 4⟩,(cAl hS3 _).trans hf.out⟩ (fun hHeld=>?_);clear hK K
 (try simp only [Act.put])
 refine dn ?_;clear hHeld hA3 hS3 hR hA2 hS2 hbW hc hf hnf hg hz2 hbz h;go_wp2;refine be ?_;exact ⟨rfl,_,_,_,hF.out⟩
theorem do_any (cn N base B:Nat) (x0 x1 x2 x3 x4 x5 pv x:Value) (a:Ac) (t:Te) (v:Tv) (vg vo:List Value) (w:World) (hSp:SpansAt w) (hSb:0<base) (h:Scr w 98 base B [x0,x1,x2,x3,x4,x5] t v vg vo) (hbase:base<=w.heap.size) (rk:RtK t cn N) (hp:SlN w pv a.params) (hx:SlN w x a.text) (hap:ApF w B v vg vo pv) (hk:1<=a.kind/\a.kind<=5) (ha:actB a=true) :
  Calls Tryz.prog 49 #[.pointer (some ⟨B,0,none⟩),.agg (acA a.kind a.rune pv a.mark x)] w fun e w'=>e=.returned (.tuple #[])/\∃ v' vg' vo',Res w w' 98 base B [x0,x1,x2,x3,x4,x5] v vg vo (doT t a) v' vg' vo':=by
 obtain ⟨k,r,ps,m,xs⟩:=a;unfold actB at ha;simp only [Bool.and_eq_true,decide_eq_true_eq] at ha;simp only at hp hx hk;obtain ⟨a1,a2,a3,⟨a4,a5⟩,a6⟩:=ha;have hq:=paramsB_all a6
 have hr:0<=r:=by
  have:=(runeOk_iff r).1 a1;omega
 have hpv:∃ a n c,pv=.slice a n c:=by obtain ⟨a,c,e⟩:=hp.shp;exact ⟨a,_,c,e⟩
 have hxv:∃ a n c,x=.slice a n c:=by obtain ⟨a,c,e⟩:=hx.shp;exact ⟨a,_,c,e⟩
 by_cases k1:k=1
 ·subst k1
  have hV:doT t ⟨1,r,ps,m,xs⟩=printT t r:=rfl;rw [hV]
  exact do_way base B x0 x1 x2 x3 x4 x5 pv x 1 r m t v vg vo w h (by omega) 122 rfl (enters_at Tryz.func122 (by kernel_rfl) rfl) _ (fun W hb=>letter_any cn N base B x0 x1 x2 x3 x4 x5 pv x 1 r m t v vg vo W (hSp.below hb hSp.lt) hSb (h.below hb) (Nat.le_trans hbase hb.size) rk) hpv hxv
 by_cases k2:k=2
 ·subst k2
  have hV:doT t ⟨2,r,ps,m,xs⟩=controlT t r:=rfl;rw [hV]
  exact do_way base B x0 x1 x2 x3 x4 x5 pv x 2 r m t v vg vo w h (by omega) 123 rfl (enters_at Tryz.func123 (by kernel_rfl) rfl) _ (fun W hb=>control_any cn N base B x0 x1 x2 x3 x4 x5 t v vg vo W (h.below hb) (Nat.le_trans hbase hb.size) rk.w 2 r m pv x) hpv hxv
 by_cases k3:k=3
 ·subst k3
  have hV:doT t ⟨3,r,ps,m,xs⟩=escapeT t r:=rfl;rw [hV]
  exact do_way base B x0 x1 x2 x3 x4 x5 pv x 3 r m t v vg vo w h (by omega) 124 rfl (enters_at Tryz.func124 (by kernel_rfl) rfl) _ (fun W hb=>sign_any cn N base B x0 x1 x2 x3 x4 x5 pv x 3 r m t v vg vo W (h.below hb) (Nat.le_trans hbase hb.size) rk.w) hpv hxv
 by_cases k4:k=4
 ·subst k4
  have hV:doT t ⟨4,r,ps,m,xs⟩=(if m=63 then (if r=104\/r=108 then ps.foldl (modeT (decide (r=104))) t else t) else listT t r ps):=by
   have e:doT t ⟨4,r,ps,m,xs⟩=(if m=0 then listT t r ps else if r=104\/r=108 then ps.foldl (modeT (decide (r=104))) t else t):=rfl;rw [e]
   rcases a3 with rfl|rfl<;>rfl
  rw [hV]
  exact do_way base B x0 x1 x2 x3 x4 x5 pv x 4 r m t v vg vo w h (by omega) 125 rfl (enters_at Tryz.func125 (by kernel_rfl) rfl) _ (fun W hb=>signList_any cn N base B x0 x1 x2 x3 x4 x5 pv x ps 4 r m t v vg vo W (hSp.below hb hSp.lt) hSb (h.below hb) (Nat.le_trans hbase hb.size) rk (hp.below hb) a2 hq (hap.mono hb.size) hr a3) hpv hxv
 by_cases k5:k=5
 ·subst k5
  have hV:doT t ⟨5,r,ps,m,xs⟩={ t with ti:=xs }:=rfl;rw [hV]
  exact do_way base B x0 x1 x2 x3 x4 x5 pv x 5 r m t v vg vo w h (by omega) 126 rfl (enters_at Tryz.func126 (by kernel_rfl) rfl) _ (fun W hb=>name_any base B x0 x1 x2 x3 x4 x5 pv x 5 r m t v vg vo W (h.below hb) (Nat.le_trans hbase hb.size) xs (hx.below hb) (by omega)) hpv hxv
 omega
theorem isCell_any (gc r c:Int) (a:Option Addr) (n cp:Nat) (w:World) (_hn:n<=1048576) :
  Calls Tryz.prog 147 #[.agg #[.int .i64 gc,.slice a n cp],.int .i64 r,.int .i64 c] w fun e w'=>e=.returned (.bool (cellB gc n r c))/\Below w.heap.size w w':=by
 have hb0:=bal' w (Obj.cells #[.int .i64 gc,.slice a n cp] 26);obtain ⟨rv,hrv⟩:∃ rv,Hid (rv=cellB gc n r c):=⟨_,rfl⟩;rw [<- hrv.out]
 by_cases h1:0<=r
 case neg =>
  have hv:Hid (rv=false):=by show _=_;rw [hrv.out];unfold cellB;rw [decide_eq_false (by omega),Bool.false_and]
  go_enter Tryz.func147,Tryz.ntmps147;go_wp2;go_ret;exact ⟨by rw [hv.out];rfl,hb0⟩
 by_cases h2:r<(n:Int)
 case neg =>
  have hv:Hid (rv=false):=by show _=_;rw [hrv.out];unfold cellB;rw [decide_eq_false (by omega),Bool.false_and]
  go_enter Tryz.func147,Tryz.ntmps147;go_wp2;go_ret;exact ⟨by rw [hv.out];rfl,hb0⟩
 by_cases h3:0<=c
 case neg =>
  have hv:Hid (rv=false):=by show _=_;rw [hrv.out];unfold cellB;rw [decide_eq_false (p:=0<=c/\_) (by omega),Bool.and_false]
  go_enter Tryz.func147,Tryz.ntmps147;go_wp2;go_ret;exact ⟨by rw [hv.out];rfl,hb0⟩
 by_cases h4:c<gc
 case neg =>
  have hv:Hid (rv=false):=by show _=_;rw [hrv.out];unfold cellB;rw [decide_eq_false (p:=0<=c/\_) (by omega),Bool.and_false]
  go_enter Tryz.func147,Tryz.ntmps147;go_wp2;go_ret;exact ⟨by rw [hv.out];rfl,hb0⟩
 have hv:Hid (rv=true):=by show _=_;rw [hrv.out];unfold cellB;rw [decide_eq_true (by omega),decide_eq_true (by omega)];rfl
 go_enter Tryz.func147,Tryz.ntmps147;go_wp2;go_ret;exact ⟨by rw [hv.out];rfl,hb0⟩
theorem implSizeOk_any (t:Te) (v:Tv) (w:World) (h:SlT w t v) (hS:SpansAt w) (hz:SzT 1048576 t) :
  Calls Tryz.prog 64 #[teV t v] w fun e w'=>e=.returned (.bool (gridOkB t.gc t.g && (gridOkB t.oc t.o && (decide (t.gc=t.oc) && decide (t.g.length=t.o.length)))))/\Below w.heap.size w w':=by
 obtain ⟨vg,vo,vti,vpp,vpt⟩:=v;obtain ⟨hg,ho,hti,hpp,hpt⟩:=h;simp only at hg ho hti hpp hpt;obtain ⟨z1,z2,z3,z4,z5,z6,z7⟩:=hz;obtain ⟨rv,hrv⟩:∃ rv,Hid (rv=(gridOkB t.gc t.g && (gridOkB t.oc t.o && (decide (t.gc=t.oc) && decide (t.g.length=t.o.length))))):=⟨_,rfl⟩;rw [<- hrv.out]
 have hb0:=bal' w (Obj.cells (teCs t ⟨vg,vo,vti,vpp,vpt⟩) 35);have hB:=TeB.new w 35 t ⟨vg,vo,vti,vpp,vpt⟩;have cG:=fun W hS hW=>implGridOk_any t.gc vg t.g W hS hW z1 z2
 have cO:=fun W hS hW=>implGridOk_any t.oc vo t.o W hS hW z3 z4
 obtain ⟨bG,eG⟩:∃ b,Hid (gridOkB t.gc t.g=b):=⟨_,rfl⟩;obtain ⟨bO,eO⟩:∃ b,Hid (gridOkB t.oc t.o=b):=⟨_,rfl⟩;rw [eG.out] at cG
 rw [eO.out] at cO
 obtain ⟨ga,gp,hq1⟩:=slG_shp hg;obtain ⟨oa,op,hq2⟩:=slG_shp ho;obtain ⟨tia,tip,hq3⟩:=hti.shp;obtain ⟨ppa,ppp,hq4⟩:=hpp.shp;obtain ⟨pta,ptp,hq5⟩:=hpt.shp;subst hq1;subst hq2;subst hq3;subst hq4;subst hq5;unfold teV gridV at *;obtain ⟨w1,hw1⟩:∃ w1,w1=w.alloc (Obj.cells (teCs t ⟨.slice ga t.g.length gp,.slice oa t.o.length op,.slice tia t.ti.length tip,.slice ppa t.pa.params.length ppp,.slice pta t.pa.text.length ptp⟩) 35):=⟨_,rfl⟩;rw [<- hw1] at hB hb0
 replace hw1:=(show Hid _ from hw1);clear z1 z2 z3 z4 z5 z6 z7;go_enter Tryz.func64,Tryz.ntmps64;refine wp_seq_k (fun K hK=>?_);have hH:=(show Hid _ from hK);clear hK;go_wp2;refine hH.out _ _ ?_;rw [<- hw1.out]
 clear hH hw1;obtain ⟨c0,c1,c2,c3,c4,c5,c6,c7,c8,c9,c10,c11,c12,c13,c14,c15,c16,c17,c18,c19,c20,c21,c22,c23,c24,c25,c26,c27,c28,c29⟩:=hB.cells;go_wp2_with fail;refine (cG _ (hS.below hb0 hS.lt) (hg.below hb0)).mono ?_;rintro e w2 ⟨rfl,hb⟩;have hb1:=hb0.trans (hb.mono hb0.size);replace hB:=hB.below hb;clear c0 c1 c2 c3 c4 c5 c6 c7 c8 c9 c10 c11 c12 c13 c14 c15 c16 c17 c18 c19 c20 c21 c22 c23 c24 c25 c26 c27 c28 c29;clear hb hb0;obtain ⟨c0,c1,c2,c3,c4,c5,c6,c7,c8,c9,c10,c11,c12,c13,c14,c15,c16,c17,c18,c19,c20,c21,c22,c23,c24,c25,c26,c27,c28,c29⟩:=hB.cells
 cases bG
 case false =>
  have hv:Hid (rv=false):=by show _=_;rw [hrv.out];rw [eG.out];simp
  go_wp2;go_ret;exact ⟨by rw [hv.out];rfl,hb1⟩
 go_wp2_with fail;refine (cO _ (hS.below hb1 hS.lt) (ho.below hb1)).mono ?_;rintro e w3 ⟨rfl,hb⟩;have hb2:=hb1.trans (hb.mono hb1.size);replace hB:=hB.below hb;clear c0 c1 c2 c3 c4 c5 c6 c7 c8 c9 c10 c11 c12 c13 c14 c15 c16 c17 c18 c19 c20 c21 c22 c23 c24 c25 c26 c27 c28 c29;clear hb hb1;obtain ⟨c0,c1,c2,c3,c4,c5,c6,c7,c8,c9,c10,c11,c12,c13,c14,c15,c16,c17,c18,c19,c20,c21,c22,c23,c24,c25,c26,c27,c28,c29⟩:=hB.cells
 cases bO
 case false =>
  have hv:Hid (rv=false):=by show _=_;rw [hrv.out];rw [eO.out];simp
  go_wp2;go_ret;exact ⟨by rw [hv.out];rfl,hb2⟩
 by_cases q3:t.gc=t.oc
 case neg =>
  have hv:Hid (rv=false):=by show _=_;rw [hrv.out];simp [q3]
  have q3b:(t.gc==t.oc)=false:=by simp [q3]
  clear q3;go_wp2;go_ret;exact ⟨by rw [hv.out];rfl,hb2⟩
 have q3b:(t.gc==t.oc)=true:=by simp [q3]
 have q3h:=(show Hid _ from q3);clear q3
 by_cases q4:t.g.length=t.o.length
 case neg =>
  have hv:Hid (rv=false):=by show _=_;rw [hrv.out];simp [q4]
  have q4b:((t.g.length:Int)==(t.o.length:Int))=false:=by simp;omega
  clear q4;go_wp2;go_ret;exact ⟨by rw [hv.out];rfl,hb2⟩
 have hv:Hid (rv=true):=by show _=_;rw [hrv.out,eG.out,eO.out,decide_eq_true q3h.out,decide_eq_true q4];rfl
 have q4b:((t.g.length:Int)==(t.o.length:Int))=true:=by simp;omega
 clear q4;go_wp2;go_ret;exact ⟨by rw [hv.out];rfl,hb2⟩
theorem implPlacesOk_any (t:Te) (v:Tv) (w:World) (h:SlT w t v) (hc1:1<=t.gc) (hc2:t.gc<=60) (hn:t.g.length<=30) :
  Calls Tryz.prog 65 #[teV t v] w fun e w'=>e=.returned (.bool ((cellB t.gc t.g.length t.row t.col && cellB t.gc t.g.length t.sr t.sc) && decide (t.full=true->t.col=t.gc-1)))/\Below w.heap.size w w':=by
 obtain ⟨vg,vo,vti,vpp,vpt⟩:=v;obtain ⟨hg,ho,hti,hpp,hpt⟩:=h;simp only at hg ho hti hpp hpt;obtain ⟨rv,hrv⟩:∃ rv,Hid (rv=((cellB t.gc t.g.length t.row t.col && cellB t.gc t.g.length t.sr t.sc) && decide (t.full=true->t.col=t.gc-1))):=⟨_,rfl⟩;rw [<- hrv.out]
 have hb0:=bal' w (Obj.cells (teCs t ⟨vg,vo,vti,vpp,vpt⟩) 35);have hB:=TeB.new w 35 t ⟨vg,vo,vti,vpp,vpt⟩;obtain ⟨ga,gp,hq1⟩:=slG_shp hg;obtain ⟨oa,op,hq2⟩:=slG_shp ho;obtain ⟨tia,tip,hq3⟩:=hti.shp;obtain ⟨ppa,ppp,hq4⟩:=hpp.shp;obtain ⟨pta,ptp,hq5⟩:=hpt.shp;subst hq1;subst hq2;subst hq3;subst hq4;subst hq5;unfold teV at *;obtain ⟨w1,hw1⟩:∃ w1,w1=w.alloc (Obj.cells (teCs t ⟨.slice ga t.g.length gp,.slice oa t.o.length op,.slice tia t.ti.length tip,.slice ppa t.pa.params.length ppp,.slice pta t.pa.text.length ptp⟩) 35):=⟨_,rfl⟩;rw [<- hw1] at hB hb0
 replace hw1:=(show Hid _ from hw1);have cC:=fun W=>isCell_any t.gc t.row t.col ga t.g.length gp W (by omega)
 have cD:=fun W=>isCell_any t.gc t.sr t.sc ga t.g.length gp W (by omega)
 obtain ⟨bC,eC⟩:∃ b,Hid (cellB t.gc t.g.length t.row t.col=b):=⟨_,rfl⟩;obtain ⟨bD,eD⟩:∃ b,Hid (cellB t.gc t.g.length t.sr t.sc=b):=⟨_,rfl⟩;rw [eC.out] at cC
 rw [eD.out] at cD
 go_enter Tryz.func65,Tryz.ntmps65;refine wp_seq_k (fun K hK=>?_);have hH:=(show Hid _ from hK);clear hK;go_wp2;refine hH.out _ _ ?_;rw [<- hw1.out]
 clear hH hw1;obtain ⟨c0,c1,c2,c3,c4,c5,c6,c7,c8,c9,c10,c11,c12,c13,c14,c15,c16,c17,c18,c19,c20,c21,c22,c23,c24,c25,c26,c27,c28,c29⟩:=hB.cells;go_wp2_with fail;refine (cC _).mono ?_;rintro e w2 ⟨rfl,hb⟩;have hb1:=hb0.trans (hb.mono hb0.size);replace hB:=hB.below hb;clear c0 c1 c2 c3 c4 c5 c6 c7 c8 c9 c10 c11 c12 c13 c14 c15 c16 c17 c18 c19 c20 c21 c22 c23 c24 c25 c26 c27 c28 c29;clear hb hb0;obtain ⟨c0,c1,c2,c3,c4,c5,c6,c7,c8,c9,c10,c11,c12,c13,c14,c15,c16,c17,c18,c19,c20,c21,c22,c23,c24,c25,c26,c27,c28,c29⟩:=hB.cells
 cases bC
 case false =>
  have hv:Hid (rv=false):=by show _=_;rw [hrv.out];rw [eC.out];simp
  go_wp2;go_ret;exact ⟨by rw [hv.out];rfl,hb1⟩
 go_wp2_with fail;refine (cD _).mono ?_;rintro e w3 ⟨rfl,hb⟩;have hb2:=hb1.trans (hb.mono hb1.size);replace hB:=hB.below hb;clear c0 c1 c2 c3 c4 c5 c6 c7 c8 c9 c10 c11 c12 c13 c14 c15 c16 c17 c18 c19 c20 c21 c22 c23 c24 c25 c26 c27 c28 c29;clear hb hb1;obtain ⟨c0,c1,c2,c3,c4,c5,c6,c7,c8,c9,c10,c11,c12,c13,c14,c15,c16,c17,c18,c19,c20,c21,c22,c23,c24,c25,c26,c27,c28,c29⟩:=hB.cells
 cases bD
 case false =>
  have hv:Hid (rv=false):=by show _=_;rw [hrv.out];rw [eD.out];simp
  go_wp2;go_ret;exact ⟨by rw [hv.out];rfl,hb2⟩
 obtain ⟨fu,hfu⟩:∃ fu,Hid (t.full=fu):=⟨_,rfl⟩;rw [hfu.out] at c13
 cases fu
 case false =>
  have hv:Hid (rv=true):=by show _=_;rw [hrv.out,eC.out,eD.out,decide_eq_true (fun h=>by rw [hfu.out] at h;cases h)];rfl
  go_wp2;go_ret;exact ⟨by rw [hv.out];rfl,hb2⟩
 by_cases q:t.col=t.gc-1
 case pos =>
  have hv:Hid (rv=true):=by show _=_;rw [hrv.out,eC.out,eD.out,decide_eq_true (fun _=>q)];rfl
  have qb:(t.col==t.gc-1)=true:=by simp [q]
  clear q;go_wp2;go_ret;exact ⟨by rw [hv.out];rfl,hb2⟩
 have hv:Hid (rv=false):=by show _=_;rw [hrv.out,eC.out,eD.out,decide_eq_false (fun h=>q (h hfu.out))];rfl
 have qb:(t.col==t.gc-1)=false:=by simp [q]
 clear q;go_wp2;go_ret;exact ⟨by rw [hv.out];rfl,hb2⟩
theorem implMarginsOk_any (t:Te) (v:Tv) (w:World) (h:SlT w t v) (hn1:1<=t.g.length) (hn:t.g.length<=30) :
  Calls Tryz.prog 66 #[teV t v] w fun e w'=>e=.returned (.bool (decide (0<=t.top/\t.top<=t.bot/\t.bot<=(t.g.length:Int)-1/\¬ (t.top=t.bot/\0<(t.g.length:Int)-1))))/\Below w.heap.size w w':=by
 obtain ⟨vg,vo,vti,vpp,vpt⟩:=v;obtain ⟨hg,ho,hti,hpp,hpt⟩:=h;simp only at hg ho hti hpp hpt;obtain ⟨rv,hrv⟩:∃ rv,Hid (rv=(decide (0<=t.top/\t.top<=t.bot/\t.bot<=(t.g.length:Int)-1/\¬ (t.top=t.bot/\0<(t.g.length:Int)-1)))):=⟨_,rfl⟩;rw [<- hrv.out]
 have hb0:=bal' w (Obj.cells (teCs t ⟨vg,vo,vti,vpp,vpt⟩) 35);have hB:=TeB.new w 35 t ⟨vg,vo,vti,vpp,vpt⟩;obtain ⟨ga,gp,hq1⟩:=slG_shp hg;obtain ⟨oa,op,hq2⟩:=slG_shp ho;obtain ⟨tia,tip,hq3⟩:=hti.shp;obtain ⟨ppa,ppp,hq4⟩:=hpp.shp;obtain ⟨pta,ptp,hq5⟩:=hpt.shp;subst hq1;subst hq2;subst hq3;subst hq4;subst hq5;unfold teV at *;obtain ⟨w1,hw1⟩:∃ w1,w1=w.alloc (Obj.cells (teCs t ⟨.slice ga t.g.length gp,.slice oa t.o.length op,.slice tia t.ti.length tip,.slice ppa t.pa.params.length ppp,.slice pta t.pa.text.length ptp⟩) 35):=⟨_,rfl⟩;rw [<- hw1] at hB hb0
 replace hw1:=(show Hid _ from hw1);go_enter Tryz.func66,Tryz.ntmps66;refine wp_seq_k (fun K hK=>?_);have hH:=(show Hid _ from hK);clear hK;go_wp2;refine hH.out _ _ ?_;rw [<- hw1.out]
 clear hH hw1;obtain ⟨c0,c1,c2,c3,c4,c5,c6,c7,c8,c9,c10,c11,c12,c13,c14,c15,c16,c17,c18,c19,c20,c21,c22,c23,c24,c25,c26,c27,c28,c29⟩:=hB.cells
 by_cases q1:t.g.length=1
 case pos =>
  have q1b:((t.g.length:Int)==1)=true:=by simp;omega
  by_cases q2:t.top=0
  case neg =>
   have q2b:(t.top==0)=false:=by simp [q2]
   have hv:Hid (rv=false):=by show _=_;rw [hrv.out];exact decide_eq_false (by omega)
   clear q1 q2;go_wp2;go_ret;exact ⟨by rw [hv.out];rfl,hb0⟩
  have q2b:(t.top==0)=true:=by simp [q2]
  by_cases q3:t.bot=0
  case neg =>
   have q3b:(t.bot==0)=false:=by simp [q3]
   have hv:Hid (rv=false):=by show _=_;rw [hrv.out];exact decide_eq_false (by omega)
   clear q1 q2 q3;go_wp2;go_ret;exact ⟨by rw [hv.out];rfl,hb0⟩
  have q3b:(t.bot==0)=true:=by simp [q3]
  have hv:Hid (rv=true):=by show _=_;rw [hrv.out];exact decide_eq_true (by omega)
  clear q1 q2 q3;go_wp2;go_ret;exact ⟨by rw [hv.out];rfl,hb0⟩
 have q1b:((t.g.length:Int)==1)=false:=by simp;omega
 have q1i:1<(t.g.length:Int):=by omega
 clear q1
 by_cases q2:0<=t.top
 case neg =>
  have hv:Hid (rv=false):=by show _=_;rw [hrv.out];exact decide_eq_false (by omega)
  go_wp2;go_ret;exact ⟨by rw [hv.out];rfl,hb0⟩
 by_cases q3:t.top<t.bot
 case neg =>
  have hv:Hid (rv=false):=by show _=_;rw [hrv.out];exact decide_eq_false (by omega)
  go_wp2;go_ret;exact ⟨by rw [hv.out];rfl,hb0⟩
 by_cases q4:t.bot<(t.g.length:Int)
 case neg =>
  have hv:Hid (rv=false):=by show _=_;rw [hrv.out];exact decide_eq_false (by omega)
  go_wp2;go_ret;exact ⟨by rw [hv.out];rfl,hb0⟩
 have hv:Hid (rv=true):=by show _=_;rw [hrv.out];exact decide_eq_true (by omega)
 go_wp2;go_ret;exact ⟨by rw [hv.out];rfl,hb0⟩
theorem implTermOk_any (t:Te) (v:Tv) (w:World) (h:SlT w t v) (hS:SpansAt w) (hz:SzT 1048576 t) :
  Calls Tryz.prog 19 #[teV t v] w fun e w'=>e=.returned (.bool (termOkB t))/\Below w.heap.size w w':=by
 have dS:=fun W hS h=>implSizeOk_any t v W h hS hz
 have dP:=fun W h=>implPlacesOk_any t v W h
 have dM:=fun W h=>implMarginsOk_any t v W h
 have hh:=h;obtain ⟨z1,z2,z3,z4,z5,z6,z7⟩:=hz;obtain ⟨vg,vo,vti,vpp,vpt⟩:=v;obtain ⟨hg,ho,hti,hpp,hpt⟩:=h;simp only at hg ho hti hpp hpt;obtain ⟨rv,hrv⟩:∃ rv,Hid (rv=(termOkB t)):=⟨_,rfl⟩;rw [<- hrv.out]
 have hb0:=bal' w (Obj.cells (teCs t ⟨vg,vo,vti,vpp,vpt⟩) 35);have hB:=TeB.new w 35 t ⟨vg,vo,vti,vpp,vpt⟩;have cS:=fun W=>implStyleOk_any t.st W
 have cSs:=fun W=>implStyleOk_any t.ss W
 have cT:=fun W hW=>titleOk_any vti t.ti W hW (by omega)
 have cP:=fun W h1 h2=>implParserOk_any t.pa vpp vpt W h1 h2 (by omega) (by omega)
 have cF:=fun W=>implFeederOk_any t.fe W
 obtain ⟨bZ,eZ⟩:∃ b,Hid ((gridOkB t.gc t.g && (gridOkB t.oc t.o && (decide (t.gc=t.oc) && decide (t.g.length=t.o.length))))=b):=⟨_,rfl⟩;obtain ⟨bQ,eQ⟩:∃ b,Hid (((cellB t.gc t.g.length t.row t.col && cellB t.gc t.g.length t.sr t.sc) && decide (t.full=true->t.col=t.gc-1))=b):=⟨_,rfl⟩;obtain ⟨bM,eM⟩:∃ b,Hid (decide (0<=t.top/\t.top<=t.bot/\t.bot<=(t.g.length:Int)-1/\¬ (t.top=t.bot/\0<(t.g.length:Int)-1))=b):=⟨_,rfl⟩;obtain ⟨bS,eS⟩:∃ b,Hid (t.st.ok=b):=⟨_,rfl⟩;obtain ⟨bSs,eSs⟩:∃ b,Hid (t.ss.ok=b):=⟨_,rfl⟩;obtain ⟨bT,eT⟩:∃ b,Hid ((decide (t.ti.length<=40) && runesB t.ti)=b):=⟨_,rfl⟩;obtain ⟨bP,eP⟩:∃ b,Hid (okV t.pa=b):=⟨_,rfl⟩;obtain ⟨bF,eF⟩:∃ b,Hid (feedOk t.fe=b):=⟨_,rfl⟩;rw [eZ.out] at dS
 rw [eQ.out] at dP
 rw [eM.out] at dM
 rw [eS.out] at cS
 rw [eSs.out] at cSs
 rw [eT.out] at cT
 rw [eP.out] at cP
 rw [eF.out] at cF
 obtain ⟨ga,gp,hq1⟩:=slG_shp hg;obtain ⟨oa,op,hq2⟩:=slG_shp ho;obtain ⟨tia,tip,hq3⟩:=hti.shp;obtain ⟨ppa,ppp,hq4⟩:=hpp.shp;obtain ⟨pta,ptp,hq5⟩:=hpt.shp;subst hq1;subst hq2;subst hq3;subst hq4;subst hq5;unfold teV stV paV at *;obtain ⟨w1,hw1⟩:∃ w1,w1=w.alloc (Obj.cells (teCs t ⟨.slice ga t.g.length gp,.slice oa t.o.length op,.slice tia t.ti.length tip,.slice ppa t.pa.params.length ppp,.slice pta t.pa.text.length ptp⟩) 35):=⟨_,rfl⟩;rw [<- hw1] at hB hb0
 replace hw1:=(show Hid _ from hw1);clear z1 z2 z3 z4 z5 z6 z7;go_enter Tryz.func19,Tryz.ntmps19;refine wp_seq_k (fun K hK=>?_);have hH:=(show Hid _ from hK);clear hK;go_wp2;refine hH.out _ _ ?_;rw [<- hw1.out]
 clear hH hw1;go_wp2_with (refine load_te hB (by rfl) _ (by rfl) (by rfl) ?_);refine (dS _ (hS.below hb0 hS.lt) (hh.below hb0)).mono ?_;rintro e w2 ⟨rfl,hb⟩;have hb1:=hb0.trans (hb.mono hb0.size);replace hB:=hB.below hb;clear hb hb0
 cases bZ
 case false =>
  have hv:Hid (rv=false):=by show _=_;rw [hrv.out];unfold termOkB;rw [eZ.out];rfl
  go_wp2;go_ret;exact ⟨by rw [hv.out];rfl,hb1⟩
 obtain ⟨⟨hc1,hc2⟩,⟨hn1,hn2⟩,_⟩:=(gridOk_iff t.gc t.g).1 (Bool.and_eq_true _ _ ▸ eZ.out).1;go_wp2_with (refine load_te hB (by rfl) _ (by rfl) (by rfl) ?_);refine (dP _ (hh.below hb1) hc1 hc2 hn2).mono ?_;rintro e w3 ⟨rfl,hb⟩;have hb2:=hb1.trans (hb.mono hb1.size);replace hB:=hB.below hb;clear hb hb1
 cases bQ
 case false =>
  have hv:Hid (rv=false):=by
   show _=_;rw [hrv.out];unfold termOkB
   have:=eQ.out;rw [Bool.and_eq_false_iff] at this
   rcases this with this|this<;>(rw [this];simp)
  go_wp2;go_ret;exact ⟨by rw [hv.out];rfl,hb2⟩
 go_wp2_with (refine load_te hB (by rfl) _ (by rfl) (by rfl) ?_);refine (dM _ (hh.below hb2) hn1 hn2).mono ?_;rintro e w4 ⟨rfl,hb⟩;have hb3:=hb2.trans (hb.mono hb2.size);replace hB:=hB.below hb;clear hb hb2;obtain ⟨c0,c1,c2,c3,c4,c5,c6,c7,c8,c9,c10,c11,c12,c13,c14,c15,c16,c17,c18,c19,c20,c21,c22,c23,c24,c25,c26,c27,c28,c29⟩:=hB.cells
 cases bM
 case false =>
  have hv:Hid (rv=false):=by show _=_;rw [hrv.out];unfold termOkB;rw [eM.out];simp
  go_wp2;go_ret;exact ⟨by rw [hv.out];rfl,hb3⟩
 go_wp2_with fail;refine (cS _).mono ?_;rintro e w5 ⟨rfl,hb⟩;have hb4:=hb3.trans (hb.mono hb3.size);replace hB:=hB.below hb;clear c0 c1 c2 c3 c4 c5 c6 c7 c8 c9 c10 c11 c12 c13 c14 c15 c16 c17 c18 c19 c20 c21 c22 c23 c24 c25 c26 c27 c28 c29;clear hb hb3;obtain ⟨c0,c1,c2,c3,c4,c5,c6,c7,c8,c9,c10,c11,c12,c13,c14,c15,c16,c17,c18,c19,c20,c21,c22,c23,c24,c25,c26,c27,c28,c29⟩:=hB.cells
 cases bS
 case false =>
  have hv:Hid (rv=false):=by show _=_;rw [hrv.out];unfold termOkB;rw [eS.out];simp
  go_wp2;go_ret;exact ⟨by rw [hv.out];rfl,hb4⟩
 go_wp2_with fail;refine (cSs _).mono ?_;rintro e w6 ⟨rfl,hb⟩;have hb5:=hb4.trans (hb.mono hb4.size);replace hB:=hB.below hb;clear c0 c1 c2 c3 c4 c5 c6 c7 c8 c9 c10 c11 c12 c13 c14 c15 c16 c17 c18 c19 c20 c21 c22 c23 c24 c25 c26 c27 c28 c29;clear hb hb4;obtain ⟨c0,c1,c2,c3,c4,c5,c6,c7,c8,c9,c10,c11,c12,c13,c14,c15,c16,c17,c18,c19,c20,c21,c22,c23,c24,c25,c26,c27,c28,c29⟩:=hB.cells
 cases bSs
 case false =>
  have hv:Hid (rv=false):=by show _=_;rw [hrv.out];unfold termOkB;rw [eSs.out];simp
  go_wp2;go_ret;exact ⟨by rw [hv.out];rfl,hb5⟩
 go_wp2_with fail;refine (cT _ (hti.below hb5).l.sl).mono ?_;rintro e w7 ⟨rfl,hw⟩;subst hw
 cases bT
 case false =>
  have hv:Hid (rv=false):=by show _=_;rw [hrv.out];unfold termOkB;rw [eT.out];simp
  go_wp2;go_ret;exact ⟨by rw [hv.out];rfl,hb5⟩
 go_wp2_with fail;refine (cP _ (hpp.below hb5).l.sl (hpt.below hb5).l.sl).mono ?_;rintro e w8 ⟨rfl,hb⟩;have hb6:=hb5.trans (hb.mono hb5.size);replace hB:=hB.below hb;clear c0 c1 c2 c3 c4 c5 c6 c7 c8 c9 c10 c11 c12 c13 c14 c15 c16 c17 c18 c19 c20 c21 c22 c23 c24 c25 c26 c27 c28 c29;clear hb hb5;obtain ⟨c0,c1,c2,c3,c4,c5,c6,c7,c8,c9,c10,c11,c12,c13,c14,c15,c16,c17,c18,c19,c20,c21,c22,c23,c24,c25,c26,c27,c28,c29⟩:=hB.cells
 cases bP
 case false =>
  have hv:Hid (rv=false):=by show _=_;rw [hrv.out];unfold termOkB;rw [eP.out];simp
  go_wp2;go_ret;exact ⟨by rw [hv.out];rfl,hb6⟩
 go_wp2_with fail;refine (cF _).mono ?_;rintro e w9 ⟨rfl,hb⟩;have hb7:=hb6.trans (hb.mono hb6.size)
 have hv:Hid (rv=bF):=by
  show _=_;rw [hrv.out];unfold termOkB
  have:=eQ.out;rw [Bool.and_eq_true] at this
  rw [eZ.out,this.1,this.2,eM.out,eS.out,eSs.out,eT.out,eP.out,eF.out];simp
 go_wp2;go_ret;exact ⟨by rw [hv.out];rfl,hb7⟩
theorem actionOk_any (k r m:Int) (pv x:Value) (ps xs:List Int) (w:World) (hp:SlN w pv ps) (hx:SlN w x xs) (hl:ps.length<=1048576) (ht:xs.length<=1048576) :
  Calls Tryz.prog 48 #[.agg (acA k r pv m x)] w fun e w'=>e=.returned (.bool (decide (1<=k/\k<=5) && actB ⟨k,r,ps,m,xs⟩))/\Below w.heap.size w w':=by
 obtain ⟨W,hW⟩:∃ W,W=w.alloc (Obj.cells #[.int .i64 k,.int .i64 r,pv,.int .i64 m,x] 37):=⟨_,rfl⟩;have hb0:Below w.heap.size w W:=by rw [hW];exact bal' _ _
 have hA:BlkC W w.heap.size 37 [.int .i64 k,.int .i64 r,pv,.int .i64 m,x]:=by rw [hW];exact heap_alloc_new w _
 have a0:W.cell? ⟨w.heap.size,0,none⟩=some (.int .i64 k):=cAl hA 0;have a1:W.cell? ⟨w.heap.size,1,none⟩=some (.int .i64 r):=cAl hA 1;have a2:W.cell? ⟨w.heap.size,2,none⟩=some pv:=cAl hA 2;have a3:W.cell? ⟨w.heap.size,3,none⟩=some (.int .i64 m):=cAl hA 3;have a4:W.cell? ⟨w.heap.size,4,none⟩=some x:=cAl hA 4;have hRu:=implRuneOk_any r W;have hPa:=paramsOk_any pv ps W (hp.below hb0).si (by omega);have hMk:=markOk_any m W;have hTi:=titleOk_any x xs W (hx.below hb0).si (by omega);obtain ⟨rv,hrv⟩:∃ rv,Hid (rv=(decide (1<=k/\k<=5) && actB ⟨k,r,ps,m,xs⟩)):=⟨_,rfl⟩;rw [<- hrv.out]
 have hval:Hid (rv=(decide (1<=k/\k<=5) && (runeOk r && ((paramsB ps && decide (ps.length<=16)) && (decide (m=0\/m=63) && (decide (xs.length<=40) && runesB xs)))))):=by
  show _=_
  rw [hrv.out]
  unfold actB;rw [Bool.eq_iff_iff]
  simp only [Bool.and_eq_true,decide_eq_true_eq]
  constructor
  ·rintro ⟨b1,b2,b3,b4,b5,b6⟩;exact ⟨b1,b2,⟨b6,b3⟩,b4,b5⟩
  ·rintro ⟨b1,b2,⟨b6,b3⟩,b4,b5⟩;exact ⟨b1,b2,b3,b4,b5,b6⟩
 replace hW:=(show Hid _ from hW);obtain ⟨pa,pc,rfl⟩:=hp.shp;obtain ⟨xa,xc,rfl⟩:=hx.shp;generalize (paramsB ps && decide (ps.length<=16))=qp at *;generalize (decide (xs.length<=40) && runesB xs)=qt at *;generalize decide (m=0\/m=63)=mk at *;generalize runeOk r=ru at *;clear hrv hp hx hl ht hA;unfold acA
 by_cases k1:1<=k
 case neg =>
  obtain rfl:rv=false:=by rw [hval.out,decide_eq_false (fun e=>k1 e.1)];rfl
  have q1:decide (1<=k)=false:=decide_eq_false k1;clear hRu hPa hMk hTi hval;go_enter Tryz.func48,Tryz.ntmps48;refine wp_seq_k (fun K hK=>?_);have hH:=(show Hid _ from hK);clear hK;go_wp2;refine hH.out _ _ ?_;rw [<- hW.out]
  clear hH hW;go_wp2;go_ret;exact ⟨rfl,hb0⟩
 by_cases k5:k<=5
 case neg =>
  obtain rfl:rv=false:=by rw [hval.out,decide_eq_false (fun e=>k5 e.2)];rfl
  have q1:decide (1<=k)=true:=decide_eq_true k1;have q5:decide (k<=5)=false:=decide_eq_false k5;clear hRu hPa hMk hTi hval;go_enter Tryz.func48,Tryz.ntmps48;refine wp_seq_k (fun K hK=>?_);have hH:=(show Hid _ from hK);clear hK;go_wp2;refine hH.out _ _ ?_;rw [<- hW.out]
  clear hH hW;go_wp2;go_ret;exact ⟨rfl,hb0⟩
 have q1:decide (1<=k)=true:=decide_eq_true k1;have q5:decide (k<=5)=true:=decide_eq_true k5
 replace hval:Hid (rv=(ru && (qp && (mk && qt)))):=by
  show _=_
  rw [hval.out,decide_eq_true ⟨k1,k5⟩,Bool.true_and]
 go_enter Tryz.func48,Tryz.ntmps48;refine wp_seq_k (fun K hK=>?_);have hH:=(show Hid _ from hK);clear hK;go_wp2;refine hH.out _ _ ?_;rw [<- hW.out]
 clear hH hW;go_wp2_with fail;refine hRu.mono ?_;rintro e w1 ⟨rfl,hw⟩;subst hw;clear hRu
 cases ru
 case false =>
  obtain rfl:rv=false:=hval.out;clear hval hPa hMk hTi;go_wp2;go_ret;exact ⟨rfl,hb0⟩
 go_wp2_with fail;refine hPa.mono ?_;rintro e w1 ⟨rfl,hw⟩;subst hw;clear hPa
 cases qp
 case false =>
  obtain rfl:rv=false:=hval.out;clear hval hMk hTi;go_wp2;go_ret;exact ⟨rfl,hb0⟩
 go_wp2_with fail;refine hMk.mono ?_;rintro e w1 ⟨rfl,hw⟩;subst hw;clear hMk
 cases mk
 case false =>
  obtain rfl:rv=false:=hval.out;clear hval hTi;go_wp2;go_ret;exact ⟨rfl,hb0⟩
 go_wp2_with fail;refine hTi.mono ?_;rintro e w1 ⟨rfl,hw⟩;subst hw;clear hTi;obtain rfl:rv=qt:=hval.out;clear hval;go_wp2;go_ret;exact ⟨rfl,hb0⟩
theorem lineT_pa (t:Te):(lineT t).pa=t.pa:=by unfold lineT moveT;(split;rfl;split<;>rfl)
theorem printT_pa (t:Te) (r:Int):(printT t r).pa=t.pa:=by
 by_cases h:wdV r=0\/t.gc<wdV r
 ·unfold printT;rw [if_pos h]
 ·have hw:=widthV_bd r
  rw [printT_eq t r (by omega) (by omega)]
  have e1:(p1T t).pa=t.pa:=by unfold p1T;split;rw [lineT_pa];rfl
  have e2:(p2T (p1T t) t.gc r).pa=(p1T t).pa:=by
   unfold p2T;split
   ·split
    ·rw [lineT_pa]
    ·rfl
   ·rfl
  have e3:(p3T (p2T (p1T t) t.gc r) t.gc r).pa=(p2T (p1T t) t.gc r).pa:=by unfold p3T;split<;>rfl
  rw [e3,e2,e1]
theorem controlT_pa (t:Te) (r:Int):(controlT t r).pa=t.pa:=by
 unfold controlT;split
 ·rfl
 split
 ·rfl
 split
 ·exact lineT_pa t
 split<;>rfl
theorem escapeT_pa (t:Te) (r:Int):(escapeT t r).pa=t.pa:=by
 unfold escapeT;split
 ·exact lineT_pa t
 split
 ·exact lineT_pa t
 split
 ·split<;>rfl
 split
 ·rfl
 split
 ·rfl
 split<;>rfl
theorem te_ite_pa {c:Prop} [Decidable c] {a b:Te} {p:Pa} (h1:a.pa=p) (h2:b.pa=p):(if c then a else b).pa=p:=by split<;>assumption
theorem eraseRow_pa (t:Te) (how:Int):(eraseRow t how).pa=t.pa:=te_ite_pa rfl (te_ite_pa rfl (te_ite_pa rfl rfl))
theorem listT_pa (t:Te) (r:Int) (p:List Int):(listT t r p).pa=t.pa:=by
 refine te_ite_pa rfl (te_ite_pa rfl (te_ite_pa rfl (te_ite_pa rfl (te_ite_pa rfl (te_ite_pa rfl (te_ite_pa rfl (te_ite_pa rfl (te_ite_pa ?_ (te_ite_pa ?_ (te_ite_pa rfl (te_ite_pa rfl (te_ite_pa rfl (te_ite_pa rfl (te_ite_pa rfl (te_ite_pa rfl (te_ite_pa ?_ rfl))))))))))))))))
 ·exact eraseRow_pa _ _
 ·exact te_ite_pa rfl rfl
 ·exact te_ite_pa rfl rfl
theorem modeT_pa (on:Bool) (t:Te) (m:Int):(modeT on t m).pa=t.pa:=te_ite_pa rfl (te_ite_pa rfl (te_ite_pa (te_ite_pa rfl rfl) rfl))
theorem modes_pa (on:Bool):∀ (p:List Int) (t:Te),(p.foldl (modeT on) t).pa=t.pa
 | [],_=>rfl
 | m::p,t=>(modes_pa on p (modeT on t m)).trans (modeT_pa on t m)
theorem doT_pa (t:Te) (a:Ac):(doT t a).pa=t.pa :=
 te_ite_pa (printT_pa _ _) (te_ite_pa (controlT_pa _ _) (te_ite_pa (escapeT_pa _ _) (te_ite_pa (te_ite_pa (listT_pa _ _ _) (te_ite_pa (modes_pa _ _ _) rfl)) (te_ite_pa rfl rfl))))
theorem te_pa {t:Te} {p:Pa} (h:t.pa=p):({ t with pa:=p }:Te)=t:=by subst h;rfl
theorem doT_out (t:Te) (a:Ac) (h:¬ (1<=a.kind/\a.kind<=5)):doT t a=t:=by
 unfold doT;rw [if_neg (by omega),if_neg (by omega),if_neg (by omega),if_neg (by omega),if_neg (by omega)]
def doR (t:Te) (a:Ac):Te:=if termOkB t=true then (if actB a=true then doT t a else t) else teZ
theorem implDo_any (t:Te) (v:Tv) (a:Ac) (pv x:Value) (w:World) (hSp:SpansAt w) (h:SlT w t v) (hz:SzT 1048576 t) (hp:SlN w pv a.params) (hx:SlN w x a.text) (hl:a.params.length<=1048576) (ht:a.text.length<=1048576) (hpb:∀ g,pv.ownBlock=some g->g<w.heap.size) :
  Calls Tryz.prog 10 #[.agg (teCs t v),.agg (acA a.kind a.rune pv a.mark x)] w fun e w'=>∃ v' vg vo,e=.returned (.agg (teCs (doR t a) v'))/\OwnS w' w.heap.size (doR t a) v' vg vo/\Below w.heap.size w w':=by
 obtain ⟨Rt,eR⟩:∃ R,Hid (doR t a=R):=⟨_,rfl⟩;rw [eR.out]
 obtain ⟨w3,hw3⟩:∃ w3,w3=((w.alloc (Obj.cells (teCs t v) 35)).alloc (Obj.cells (acA a.kind a.rune pv a.mark x) 37)).alloc (Obj.cells #[.int .i64 0,.slice none 0 0,.int .i64 0,.slice none 0 0,.int .i64 0,.int .i64 0,.int .i64 0,.int .i64 0,.bool false,.bool false,.bool false,.int .i64 0,.int .i64 0,.bool false,.bool false,.bool false,.bool false,.int .i64 0,.int .i64 0,.int .i64 0,.int .i64 0,.bool false,.bool false,.bool false,.slice none 0 0,.int .i64 0,.slice none 0 0,.int .i64 0,.slice none 0 0,.string ⟨#[]⟩] 35):=⟨_,rfl⟩;have b1:=bal' w (Obj.cells (teCs t v) 35);have b2:=bal' (w.alloc (Obj.cells (teCs t v) 35)) (Obj.cells (acA a.kind a.rune pv a.mark x) 37);have b3:=bal' ((w.alloc (Obj.cells (teCs t v) 35)).alloc (Obj.cells (acA a.kind a.rune pv a.mark x) 37)) (Obj.cells #[.int .i64 0,.slice none 0 0,.int .i64 0,.slice none 0 0,.int .i64 0,.int .i64 0,.int .i64 0,.int .i64 0,.bool false,.bool false,.bool false,.int .i64 0,.int .i64 0,.bool false,.bool false,.bool false,.bool false,.int .i64 0,.int .i64 0,.int .i64 0,.int .i64 0,.bool false,.bool false,.bool false,.slice none 0 0,.int .i64 0,.slice none 0 0,.int .i64 0,.slice none 0 0,.string ⟨#[]⟩] 35);have hX:=((TeB.new w 35 t v).below b2).below b3;have hA:=BlkC.below (BlkC.new (w.alloc (Obj.cells (teCs t v) 35)) 37 (acA a.kind a.rune pv a.mark x).toList) b3;have hR:=TB.new ((w.alloc (Obj.cells (teCs t v) 35)).alloc (Obj.cells (acA a.kind a.rune pv a.mark x) 37)) [.int .i64 0,.slice none 0 0,.int .i64 0,.slice none 0 0,.int .i64 0,.int .i64 0,.int .i64 0,.int .i64 0,.bool false,.bool false,.bool false,.int .i64 0,.int .i64 0,.bool false,.bool false,.bool false,.bool false,.int .i64 0,.int .i64 0,.int .i64 0,.int .i64 0,.bool false,.bool false,.bool false,.slice none 0 0,.int .i64 0,.slice none 0 0,.int .i64 0,.slice none 0 0,.string ⟨#[]⟩];have z1:(w.alloc (Obj.cells (teCs t v) 35)).heap.size=w.heap.size+1:=by simp
 have z2:((w.alloc (Obj.cells (teCs t v) 35)).alloc (Obj.cells (acA a.kind a.rune pv a.mark x) 37)).heap.size=w.heap.size+2:=by simp
 have kb:=(b1.trans (b2.mono b1.size)).trans (b3.mono (b1.trans (b2.mono b1.size)).size);rw [z1] at hA
 rw [z2] at hR
 rw [<- hw3] at kb
 replace hX:TeB w3 w.heap.size 35 t v:=by rw [hw3];exact hX
 replace hA:BlkC w3 (w.heap.size+1) 37 [.int .i64 a.kind,.int .i64 a.rune,pv,.int .i64 a.mark,x]:=by rw [hw3];exact hA
 replace hR:TB w3 (w.heap.size+2) [.int .i64 0,.slice none 0 0,.int .i64 0,.slice none 0 0,.int .i64 0,.int .i64 0,.int .i64 0,.int .i64 0,.bool false,.bool false,.bool false,.int .i64 0,.int .i64 0,.bool false,.bool false,.bool false,.bool false,.int .i64 0,.int .i64 0,.int .i64 0,.int .i64 0,.bool false,.bool false,.bool false,.slice none 0 0,.int .i64 0,.slice none 0 0,.int .i64 0,.slice none 0 0,.string ⟨#[]⟩]:=by rw [hw3];exact hR
 replace hw3:=(show Hid _ from hw3);have hT:=implTermOk_any t v w3 (h.below kb) (hSp.below kb hSp.lt) hz;obtain ⟨bT,eT⟩:∃ b,Hid (termOkB t=b):=⟨_,rfl⟩;rw [eT.out] at hT
 unfold teV at hT;unfold acA at hw3 ⊢
 clear b1 b2 b3 z1 z2;go_enter Tryz.func10,Tryz.ntmps10;refine wp_seq_k (fun K hK=>?_);have hH:=(show Hid _ from hK);clear hK;go_wp2;refine hH.out _ _ ?_;rw [<- hw3.out]
 clear hH hw3;go_wp2_with (refine load_te hX (by rfl) _ (by rfl) (by rfl) ?_);refine hT.mono ?_;rintro e w4 ⟨rfl,hb⟩;clear hT;replace kb:=kb.trans (hb.mono kb.size);replace hX:=hX.below hb;replace hA:=hA.below hb;replace hR:=BlkC.below hR hb;clear hb
 cases bT
 case false =>
  obtain rfl:Rt=teZ:=by rw [<- eR.out];unfold doR;rw [if_neg (by rw [eT.out];simp)]
  clear hX hA hp hx;go_wp2_with (refine store_T (cs:=(teCs teZ (tvN (.slice none 0 0) (.slice none 0 0)))) (by rfl) 35 _ _ (by rfl) info_te (by rfl) (by rfl) hR (by rfl) (by rfl) ?_;intro w5 hg hR5 hz5);have hO:=RgT.own (show RgT w5 w.heap.size w.heap.size w.heap.size w.heap.size teZ (tvN (.slice none 0 0) (.slice none 0 0)) from ⟨ownR_none w5 _ (by have:=kb.size;omega),ownR_none w5 _ (by have:=kb.size;omega),(LiOk.nil _ _).nilc.nilc.nilc,Nat.le_refl _,Nat.le_refl _,Nat.le_refl _,by have:=kb.size;omega⟩);obtain ⟨vg,vo,hO⟩:=hO;exact bodyPost_ret (v:=.agg (teCs teZ (tvN (.slice none 0 0) (.slice none 0 0)))) (results_cell_row Tryz.results10 _ _ _ _ _ _ _ rfl hR5 Tryz.underlying35 rfl info_te) rfl ⟨_,vg,vo,rfl,hO,kb.grown hg kb.size (fun g e=>by cases e;omega)⟩
 have hok:=eT.out;have rk:=rtK_of hok;obtain ⟨gc0,_,_,_,_,_,hRt⟩:=termOk_sizes hok
 have hfe:t.fe.size<=281474976710656:=by
  have:=rk.fe
  by_cases h3:t.fe.size<=3
  ·omega
  ·rw [feedOk_big t.fe h3] at this;cases this
 have hsc:=screenOf_any t v w4 (h.below kb) hRt hfe;go_wp2_with (refine load_te hX (by rfl) _ (by rfl) (by rfl) ?_);refine hsc.mono ?_;rintro e w5 ⟨B,v5,vg5,vo5,rfl,hSB,hO5,hBw,hb⟩;have hz4:w.heap.size+3<=w4.heap.size:=by have:=BlkC.lt hR;omega
 have kb4:=kb;have hScr:Scr w5 98 (w4.heap.size+1) B [.int .i64 t.pa.state,v5.pp,.int .i64 t.pa.mark,v5.pt,.slice none 0 0,.slice none 0 0] t v5 vg5 vo5:=⟨hSB,hO5,by decide,by decide,by decide,hBw⟩;replace kb:=kb.trans (hb.mono kb.size);replace hA:=hA.below hb;replace hR:=BlkC.below hR hb;have hbs5:w4.heap.size+1<=w5.heap.size:=by have:=hScr.lt;omega
 have hao:=actionOk_any a.kind a.rune a.mark pv x a.params a.text w5 (hp.below kb) (hx.below kb) hl ht;obtain ⟨bA,eA⟩:∃ b,Hid ((decide (1<=a.kind/\a.kind<=5) && actB a)=b):=⟨_,rfl⟩;rw [show (decide (1<=a.kind/\a.kind<=5) && actB ⟨a.kind,a.rune,a.params,a.mark,a.text⟩)=bA from eA.out] at hao
 unfold acA at hao;clear hX hb hsc hSB hO5;have d0:w5.cell? ⟨w.heap.size+1,0,none⟩=some (.int .i64 a.kind):=cAl hA 0;have d1:w5.cell? ⟨w.heap.size+1,1,none⟩=some (.int .i64 a.rune):=cAl hA 1;have d2:w5.cell? ⟨w.heap.size+1,2,none⟩=some pv:=cAl hA 2;have d3:w5.cell? ⟨w.heap.size+1,3,none⟩=some (.int .i64 a.mark):=cAl hA 3;have d4:w5.cell? ⟨w.heap.size+1,4,none⟩=some x:=cAl hA 4;go_wp2_with fail;refine hao.mono ?_;rintro e w6 ⟨rfl,hb⟩;clear d0 d1 d2 d3 d4 hao;replace kb:=kb.trans (hb.mono kb.size);replace hA:=hA.below hb;replace hR:=BlkC.below hR hb;replace hScr:=hScr.below hb;have hbs6:=Nat.le_trans hbs5 hb.size;clear hb
 cases bA
 case false =>
  obtain rfl:t=Rt:=by
   symm
   rw [<- eR.out];unfold doR;rw [if_pos hok]
   by_cases hac:actB a=true
   ·rw [if_pos hac]
    refine doT_out t a (fun hk=>?_);have:=eA.out;rw [decide_eq_true hk,hac] at this
    cases this
   ·rw [if_neg hac]
  have ht2:t.pa=t.pa:=rfl;have hS7:=hScr;clear hScr eA hp hx hA;obtain ⟨ga,gcp,s1⟩:=slG_shp (SlG.of_own hS7.o.1.g);obtain ⟨oa,ocp,s2⟩:=slG_shp (SlG.of_own hS7.o.2.1.g);obtain ⟨ta,tcp,s3⟩:=(SlN.of_own hS7.o.2.2.2.head).shp;obtain ⟨pa,pcp,s4⟩:=(SlN.of_own hS7.o.2.2.2.tail.head).shp;obtain ⟨qa,qcp,s5⟩:=(SlN.of_own hS7.o.2.2.2.tail.tail.head).shp;obtain ⟨g7,o7,ti7,pp7,pt7⟩:=v5;simp only at s1 s2 s3 s4 s5;subst s1;subst s2;subst s3;subst s4;subst s5;have hSB7:=hS7.b;have hsn:=seen_any B t.pa (.slice none 0 0) (.slice none 0 0) t ga oa ta pa qa _ _ _ _ _ gcp ocp tcp pcp qcp _ _ w6 hSB7;rw [te_pa ht2] at hsn
  clear ht2;have hO7:=hS7.o;have hB7:=hS7.b;have hlB:w.heap.size<B:=by have:=kb4.size;omega
  have hne:B≠w.heap.size+2:=by have:=hz4;omega
  have hone:=hO7.sl.one;clear hS7;go_wp2_with fail;refine hsn.mono ?_;rintro e w8 ⟨rfl,hSB8,hg8⟩;have hO8:=hO7.grown hg8 hB7 (by decide) (by decide) (by decide);have hR8:=BlkC.kept hR hg8 (fun e=>hne (Option.some.inj e));have kb8:=kb.grown hg8 kb.size (fun g e=>by cases e;omega);clear hsn hg8 hO7 hB7 hR kb;go_wp2_with (refine store_T (cs:=teCs t ⟨.slice ga _ gcp,.slice oa _ ocp,.slice ta _ tcp,.slice pa _ pcp,.slice qa _ qcp⟩) (by rfl) 35 _ _ (by rfl) info_te (by rfl) hone hR8 (by rfl) (by rfl) ?_;intro w9 hg9 hR9 hz9);have hO9:=(hO8.grown hg9 hR8 (by decide) (by decide) (by decide)).low (show w.heap.size<=w4.heap.size+1 by have:=kb4.size;omega);exact bodyPost_ret (v:=.agg (teCs t _)) (results_cell_row Tryz.results10 _ _ _ _ _ _ _ rfl hR9 Tryz.underlying35 rfl info_te) rfl ⟨_,_,_,rfl,hO9,kb8.grown hg9 kb8.size (fun g e=>by cases e;omega)⟩
 obtain ⟨hk,hac⟩:(1<=a.kind/\a.kind<=5)/\actB a=true:=by
  have:=eA.out;rw [Bool.and_eq_true,decide_eq_true_eq] at this
  exact this
 obtain rfl:Rt=doT t a:=by rw [<- eR.out];unfold doR;rw [if_pos hok,if_pos hac]
 have hap:ApF w6 B v5 vg5 vo5 pv:=fun g e=>⟨by have:=hpb g e;have:=kb.size;omega,fun c=>by have:=hScr.ftb c;have:=hpb g e;have:=kb4.size;omega⟩
 have hdo:=do_any t.gc.toNat t.g.length (w4.heap.size+1) B _ _ _ _ _ _ pv x a t v5 vg5 vo5 w6 (hSp.below kb hSp.lt) (by have:=hSp.lt;have:=kb4.size;omega) hScr hbs6 rk (hp.below kb) (hx.below kb) hap hk hac;have d0:w6.cell? ⟨w.heap.size+1,0,none⟩=some (.int .i64 a.kind):=cAl hA 0;have d1:w6.cell? ⟨w.heap.size+1,1,none⟩=some (.int .i64 a.rune):=cAl hA 1;have d2:w6.cell? ⟨w.heap.size+1,2,none⟩=some pv:=cAl hA 2;have d3:w6.cell? ⟨w.heap.size+1,3,none⟩=some (.int .i64 a.mark):=cAl hA 3;have d4:w6.cell? ⟨w.heap.size+1,4,none⟩=some x:=cAl hA 4;have ht2:=doT_pa t a;obtain ⟨T2,hT2⟩:∃ T2,doT t a=T2:=⟨_,rfl⟩;rw [hT2] at ht2 hdo
 unfold acA at hdo;go_wp2_with fail;refine hdo.mono ?_;rintro e w7 ⟨rfl,v7,vg7,vo7,hr7⟩;have hS7:=hr7.s;have hR7:TB w7 (w.heap.size+2) _:=BlkC.grp hR hr7.g (fun c=>by have:=hScr.ftb c;omega);have kb7:=kb.trans ((hScr.bel hbs6 hr7).mono (by have:=kb4.size;omega));have hqq:=hr7.p;have hqr:=hr7.q;clear hScr eA hp hx hA hr7 hdo hap hR kb d0 d1 d2 d3 d4;have hq1:=hqq;have hq2:=hqr;obtain ⟨ga,gcp,s1⟩:=slG_shp (SlG.of_own hS7.o.1.g);obtain ⟨oa,ocp,s2⟩:=slG_shp (SlG.of_own hS7.o.2.1.g);obtain ⟨ta,tcp,s3⟩:=(SlN.of_own hS7.o.2.2.2.head).shp;obtain ⟨pa,pcp,s4⟩:=(SlN.of_own hS7.o.2.2.2.tail.head).shp;obtain ⟨qa,qcp,s5⟩:=(SlN.of_own hS7.o.2.2.2.tail.tail.head).shp;obtain ⟨g7,o7,ti7,pp7,pt7⟩:=v7;simp only at s1 s2 s3 s4 s5 hq1 hq2;subst s1;subst s2;subst s3;subst s4;subst s5;have hSB7:=hS7.b;rw [<- hq1,<- hq2] at hSB7
 clear hq1 hq2 hqq hqr;have hsn:=seen_any B t.pa (.slice none 0 0) (.slice none 0 0) T2 ga oa ta pa qa _ _ _ _ _ gcp ocp tcp pcp qcp _ _ w7 hSB7;rw [te_pa ht2] at hsn
 clear ht2;have hO7:=hS7.o;have hB7:=hS7.b;have hlB:w.heap.size<B:=by have:=kb4.size;omega
 have hne:B≠w.heap.size+2:=by have:=hz4;omega
 have hone:=hO7.sl.one;clear hS7;go_wp2_with fail;refine hsn.mono ?_;rintro e w8 ⟨rfl,hSB8,hg8⟩;have hO8:=hO7.grown hg8 hB7 (by decide) (by decide) (by decide);have hR8:=BlkC.kept hR7 hg8 (fun e=>hne (Option.some.inj e));have kb8:=kb7.grown hg8 kb7.size (fun g e=>by cases e;omega);clear hsn hg8 hO7 hB7 hR7 kb7;go_wp2_with (refine store_T (cs:=teCs T2 ⟨.slice ga _ gcp,.slice oa _ ocp,.slice ta _ tcp,.slice pa _ pcp,.slice qa _ qcp⟩) (by rfl) 35 _ _ (by rfl) info_te (by rfl) hone hR8 (by rfl) (by rfl) ?_;intro w9 hg9 hR9 hz9);have hO9:=(hO8.grown hg9 hR8 (by decide) (by decide) (by decide)).low (show w.heap.size<=w4.heap.size+1 by have:=kb4.size;omega);subst hT2;exact bodyPost_ret (v:=.agg (teCs (doT t a) _)) (results_cell_row Tryz.results10 _ _ _ _ _ _ _ rfl hR9 Tryz.underlying35 rfl info_te) rfl ⟨_,_,_,rfl,hO9,kb8.grown hg9 kb8.size (fun g e=>by cases e;omega)⟩
theorem l7Clear_any (cn N base B:Nat) (t:Te) (v:Tv) (vg vo:List Value) (w:World) (h:Scr w 35 base B [] t v vg vo) (hbase:base<=w.heap.size) (rt:RtW t cn N) (r p q:Int) (hr:0<=r/\r<N) (hpq:0<=p/\p<=q/\q<=cn) :
  Calls Tryz.prog 217 #[.pointer (some ⟨B,0,none⟩),.int .i64 r,.int .i64 p,.int .i64 q] w fun e w'=>e=.returned (.tuple #[])/\∃ v' vg' vo',Res w w' 35 base B [] v vg vo (clearT t r p q) v' vg' vo':=by
 have hN:=rt.n;have hn2:=rt.n1;have hcl:=rt.c;obtain ⟨i,rfl⟩:∃ i:Nat,r=(i:Int):=⟨r.toNat,by omega⟩;obtain ⟨a,rfl⟩:∃ i:Nat,p=(i:Int):=⟨p.toNat,by omega⟩;obtain ⟨b,rfl⟩:∃ i:Nat,q=(i:Int):=⟨q.toNat,by omega⟩;have hi:i<N:=by omega
 have hV:clearT t i a b=rowT t i (clearL (rowX t.g i) a b (backS t.st)):=by unfold clearT;rw [Int.toNat_natCast,Int.toNat_natCast,Int.toNat_natCast]
 rw [hV]
 rcases h.o.1.shape with ⟨_,hs⟩|⟨g,cap,hvg,hbg,hlg,hcap⟩
 ·rw [hs] at hN;simp at hN;omega
 rw [hN] at hvg hcap
 have ho:=h.o.1;have hro:=ho.2.2.1 i (by omega);have hvl:=ho.1;rw [hvg] at ho
 have hci:=ho.cell hN i hi;obtain ⟨ra,rn,rc,hre⟩:=hro.isSl;rw [hre] at hci hro
 have hgx:=rt.gx i hi;have hsl:SlC w (.slice ra rn rc) (rowX t.g i):=SlC.of_own hro;have hlt:=h.lt;have c1:∀ W,Below w.heap.size w W->W.cell? ⟨B,1,none⟩=some (.slice (some ⟨g,0,none⟩) N cap):=fun W hb=>by rw [(h.below hb).cell 1];show some v.g=_;rw [hvg]
 have ci:∀ W,Below w.heap.size w W->W.cell? ⟨g,i,none⟩=some (.slice ra rn rc):=fun W hb=>(hb.cell (p:=⟨g,i,none⟩) hlg).trans hci
 have zi:∀ W,Below w.heap.size w W->W.frozen? ⟨g,i,none⟩=false:=fun W hb=>(ho.below hb).frozen hN i
 have hbk:=fun W (hb:Below w.heap.size w W)=>l7Back_any B t.st W ((h.below hb).cell 7) (Nat.lt_of_lt_of_le hlt hb.size)
 have hcd:=fun W (hb:Below w.heap.size w W)=>l4Cleared_any (.slice ra rn rc) (rowX t.g i) a b (backS t.st) W (hsl.below hb) (by omega) (by omega) (by omega)
 obtain ⟨R,hR⟩:∃ R,Hid (clearL (rowX t.g i) a b (backS t.st)=R):=⟨_,rfl⟩;simp only [hR.out] at hcd ⊢
 have hfin:∀ W r,Below w.heap.size w W->OwnC W w.heap.size r R->Res w (W.setCell ⟨g,i,none⟩ r) 35 base B [] v vg vo (rowT t i R) v (vg.set i r) vo:=fun W r hb hr=>by
  have:=h.row hbase hb hvg hN i hi r R hr;unfold rowT;rw [Int.toNat_natCast]
  exact this
 have hsc:∀ W r,Below w.heap.size w W->(W.setCell ⟨g,i,none⟩ r).cell? ⟨B,1,none⟩=some (.slice (some ⟨g,0,none⟩) N cap):=fun W r hb=>by
  have hne:g≠B:=fun e=>grS_not h.o.1 h.b h.n1 h.n2 (.inl (by rw [hvg,<- e];rfl))
  rw [<- c1 W hb]
  exact World.cell?_of_block (w:=W) ((setCell_gr W g i r).block B (Nat.lt_of_lt_of_le hlt hb.size) (fun e=>hne (Option.some.inj e).symm))
 unfold stV at hbk hcd;have hd:=bdr w;have i0:(0:Int)<=(i:Int):=by omega
 have i1:(i:Int)<(N:Int):=by omega
 clear h hbase rt ho hro hre hsl hgx hvg hbg hcap hlt hvl hci hR hV;go_enter Tryz.func217,Tryz.ntmps217;go_wp2;refine wp_region_noPanic ?_;refine wp_region_held_drew (S:=(fun W=>W.cell? ⟨B,1,none⟩=some (.slice (some ⟨g,0,none⟩) N cap))) (by kernel_rfl) (c1 _ hd) (fun hHeld=>?_);have di:=ci _ hd;refine tk 0 ?_;refine tk 1 ?_;refine tk 2 ?_;refine tk 3 ?_;refine tk 4 ?_;refine tk 5 ?_;refine tk 6 ?_;refine tk 7 ?_;refine tk 8 ?_;refine tk 9 ?_;refine tk 10 ?_;refine tk 11 ?_;refine tk 12 ?_;refine tk 14 ?_;refine tk 15 ?_;refine tk 16 ?_;refine rd2 13 17 (fun K hK=>?_) fun K hK=>?_
 ·go_simp
  refine hK.out _ _ (hHeld) (fun hHeld=>?_);clear hK K;refine rd 17 fun K hK=>?_
  go_simp;refine (hbk _ hd).mono ?_;rintro e wk ⟨rfl,hb⟩;replace hd:=hd.trans (hb.mono hd.size);have di:=ci _ hd;unfold backS;go_wp2_with fail;refine hK.out _ _ (c1 _ hd) (fun hHeld=>?_);clear hK K;refine rd 18 fun K hK=>?_
  go_simp;refine (hcd _ hd).mono ?_;rintro e w2 ⟨u,rfl,hu,hb⟩;have hu2:=hu.low hd.size;replace hd:=hd.trans (hb.mono hd.size);obtain ⟨ua,un,uc,hue⟩:=hu2.isSl;subst hue;have di:=ci _ hd;have zj:=zi _ hd;go_wp2_with fail;refine hK.out _ _ (c1 _ hd) (fun hHeld=>?_);clear hK K;refine tk 19 ?_;refine rd 20 fun K hK=>?_
  go_simp;refine hK.out _ _ (hsc _ _ hd) (fun hHeld=>?_);clear hK K
  (try simp only [Act.put,ZA,ZB,ZC,ZD,ZE,ZF])
  refine dn ?_;go_wp2;refine be ?_;exact ⟨rfl,_,_,_,hfin _ _ hd hu2⟩
 ·go_simp
  refine (hbk _ hd).mono ?_;rintro e wk ⟨rfl,hb⟩;replace hd:=hd.trans (hb.mono hd.size);have di:=ci _ hd;unfold backS;go_wp2_with fail;refine hK.out _ _ (c1 _ hd) (fun hHeld=>?_);clear hK K;refine rd 13 fun K hK=>?_
  go_simp;refine hK.out _ _ (hHeld) (fun hHeld=>?_);clear hK K;refine rd 18 fun K hK=>?_
  go_simp;refine (hcd _ hd).mono ?_;rintro e w2 ⟨u,rfl,hu,hb⟩;have hu2:=hu.low hd.size;replace hd:=hd.trans (hb.mono hd.size);obtain ⟨ua,un,uc,hue⟩:=hu2.isSl;subst hue;have di:=ci _ hd;have zj:=zi _ hd;go_wp2_with fail;refine hK.out _ _ (c1 _ hd) (fun hHeld=>?_);clear hK K;refine tk 19 ?_;refine rd 20 fun K hK=>?_
  go_simp;refine hK.out _ _ (hsc _ _ hd) (fun hHeld=>?_);clear hK K
  (try simp only [Act.put,ZA,ZB,ZC,ZD,ZE,ZF])
  refine dn ?_;go_wp2;refine be ?_;exact ⟨rfl,_,_,_,hfin _ _ hd hu2⟩
theorem l7Go_any (cn N base B:Nat) (t:Te) (v:Tv) (vg vo:List Value) (w:World) (h:Scr w 35 base B [] t v vg vo) (_hbase:base<=w.heap.size) (rt:RtW t cn N) (r c:Int) :
  Calls Tryz.prog 213 #[.pointer (some ⟨B,0,none⟩),.int .i64 r,.int .i64 c] w fun e w'=>e=.returned (.tuple #[])/\∃ v' vg' vo',Res w w' 35 base B [] v vg vo (goT t r c) v' vg' vo':=by
 obtain ⟨ga,gc,hvg⟩:∃ a c,v.g=.slice a N c:=by
  obtain ⟨a,c,e⟩:=slG_shp (SlG.of_own h.o.1.g);rw [rt.n] at e
  exact ⟨a,c,e⟩
 have hn2:=rt.n1;have hcl:=rt.c;have hgc:=rt.gc;have hN:=rt.n;have hla:=l7Last_any B ga N gc w (by rw [h.cell 1];show some v.g=_;rw [hvg]) (by omega);have hmn:=fun a b W=>l1Min_any a b W
 have hmx:=fun a b W=>l1MaxG_any a b W
 obtain ⟨q1,e1⟩:∃ q,Hid (max 0 (min ((t.g.length:Int)-1) r)=q):=⟨_,rfl⟩;obtain ⟨q2,e2⟩:∃ q,Hid (max 0 (min (t.gc-1) c)=q):=⟨_,rfl⟩;have hV:goT t r c={ t with row:=q1,col:=q2 }:=by unfold goT;rw [e1.out,e2.out]
 rw [hV]
 have m1:max 0 (min ((N:Int)-1) r)=q1:=by rw [<- hN];exact e1.out
 have m2:max 0 (min ((cn:Int)-1) c)=q2:=by rw [<- hgc];exact e2.out
 have hw:IntKind.i64.wrap ((cn:Int)-1)=(cn:Int)-1:=by simp [IntKind.wrap,IntKind.bits,IntKind.signed];omega
 have p1:=h.put (sCg B [.int .i64 q1] 4 w) { t with row:=q1 } (sCh B 35 [.int .i64 q1] 4 w _ h.b) rfl rfl rfl rfl rfl;have p2:=p1.s.put (sCg B [.int .i64 q2] 5 _) { t with row:=q1,col:=q2 } (sCh B 35 [.int .i64 q2] 5 _ _ p1.s.b) rfl rfl rfl rfl rfl;have hR:=(show Hid _ from p1.trans p2);have c4:w.cell? ⟨B,4,none⟩=some (.int .i64 t.row):=h.cell 4;have c5:w.cell? ⟨B,5,none⟩=some (.int .i64 t.col):=h.cell 5;have c0:w.cell? ⟨B,0,none⟩=some (.int .i64 (cn:Int)):=by rw [<- hgc];exact h.cell 0
 have z4:w.frozen? ⟨B,4,none⟩=false:=h.frozen 4;have z5:w.frozen? ⟨B,5,none⟩=false:=h.frozen 5;clear h rt hvg hV p1 p2 hgc hN e1 e2;go_enter Tryz.func213,Tryz.ntmps213;go_wp2_with fail;refine hla.mono ?_;rintro e wk ⟨rfl,hw1⟩;subst hw1;go_wp2_with fail;refine (hmn _ _ _).mono ?_;rintro e wk ⟨rfl,hw1⟩;subst hw1;go_wp2_with fail;refine (hmx _ _ _).mono ?_;rintro e wk ⟨rfl,hw1⟩;subst hw1;rw [m1]
 go_wp2_with fail;refine (hmn _ _ _).mono ?_;rintro e wk ⟨rfl,hw1⟩;subst hw1;go_wp2_with fail;refine (hmx _ _ _).mono ?_;rintro e wk ⟨rfl,hw1⟩;subst hw1;rw [m2]
 go_wp2;refine be ?_;exact ⟨rfl,_,_,_,hR.out⟩
theorem l7Escape_most (cn N base B:Nat) (t:Te) (v:Tv) (vg vo:List Value) (w:World) (h:Scr w 35 base B [] t v vg vo) (hbase:base<=w.heap.size) (rt:RtW t cn N) (r:Int) (hr:r≠99) :
  Calls Tryz.prog 143 #[.pointer (some ⟨B,0,none⟩),.int .i64 r] w fun e w'=>e=.returned (.tuple #[])/\∃ v' vg' vo',Res w w' 35 base B [] v vg vo (escapeT t r) v' vg' vo':=by
 have full:∀ (W1:World) (t1:Te) (b:Bool) (v1:Tv) (g1 o1:List Value),Scr W1 35 base B [] t1 v1 g1 o1->Res W1 (W1.setCell ⟨B,13,none⟩ (.bool b)) 35 base B [] v1 g1 o1 { t1 with full:=b } v1 g1 o1 :=
  fun W1 t1 b v1 g1 o1 h1=>h1.put (sCg B [.bool b] 13 W1) _ (sCh B 35 [.bool b] 13 W1 _ h1.b) rfl rfl rfl rfl rfl
 have c13:w.cell? ⟨B,13,none⟩=some (.bool t.full):=h.cell 13;have z13:w.frozen? ⟨B,13,none⟩=false:=h.frozen 13;have h1:=full w t false v vg vo h
 by_cases r68:r=68
 ·subst r68
  have hV:escapeT t 68=lineT { t with full:=false }:=by rw [lineT_full];rfl
  rw [hV]
  have hfl:=l7Line_any cn N base B { t with full:=false } v vg vo _ h1.s (Nat.le_trans hbase h1.g.size) (rt.full false);clear h full rt hbase hV;replace h1:=(show Hid _ from h1);go_enter Tryz.func143,Tryz.ntmps143;go_wp2_with fail;refine hfl.mono ?_;rintro e w2 ⟨rfl,v2,g2,o2,hR2⟩;replace hR2:=(show Hid _ from h1.out.trans hR2);clear hfl h1;go_wp2;refine be ?_;exact ⟨rfl,_,_,_,hR2.out⟩
 by_cases r69:r=69
 ·subst r69
  have hV:escapeT t 69={ lineT { t with full:=false } with col:=0 }:=by rw [lineT_full];rfl
  rw [hV]
  have hfl:=l7Line_any cn N base B { t with full:=false } v vg vo _ h1.s (Nat.le_trans hbase h1.g.size) (rt.full false);clear h full rt hbase hV;replace h1:=(show Hid _ from h1);go_enter Tryz.func143,Tryz.ntmps143;go_wp2_with fail;refine hfl.mono ?_;rintro e w2 ⟨rfl,v2,g2,o2,hR2⟩;have c5:w2.cell? ⟨B,5,none⟩=some (.int .i64 (lineT { t with full:=false }).col):=hR2.s.cell 5;have z5:w2.frozen? ⟨B,5,none⟩=false:=hR2.s.frozen 5;replace hR2:=(show Hid _ from h1.out.trans (hR2.trans (hR2.s.put (sCg B [.int .i64 0] 5 w2) { lineT { t with full:=false } with col:=0 } (sCh B 35 [.int .i64 0] 5 w2 _ hR2.s.b) rfl rfl rfl rfl rfl)));clear hfl h1;go_wp2;refine be ?_;exact ⟨rfl,_,_,_,hR2.out⟩
 by_cases r77:r=77
 ·subst r77
  have c4:w.cell? ⟨B,4,none⟩=some (.int .i64 t.row):=h.cell 4;have c11:w.cell? ⟨B,11,none⟩=some (.int .i64 t.top):=h.cell 11;have z4:w.frozen? ⟨B,4,none⟩=false:=h.frozen 4;obtain ⟨r1,r2⟩:=rt.row;obtain ⟨b1,b2,b3⟩:=rt.tb;have hn2:=rt.n1.2
  by_cases hb:t.row=t.top
  ·have hV:escapeT t 77=moveT { t with full:=false } t.top t.bot (-1):=by
    show (if t.row=t.top then _ else _)=_
    rw [if_pos hb];rfl
   rw [hV]
   obtain ⟨w1,hw1⟩:∃ w1,w1=w.setCell ⟨B,13,none⟩ (.bool false):=⟨_,rfl⟩;have h1':Res w w1 35 base B [] v vg vo { t with full:=false } v vg vo:=by rw [hw1];exact h1
   have hs1:=h1'.s;have hbase1:base<=w1.heap.size:=Nat.le_trans hbase h1'.g.size;have rt1:=rt.full false;have hmv:=fun W (hbW:Below w1.heap.size w1 W)=>moveS_any cn N base B { t with full:=false } v vg vo W (hs1.below hbW) (Nat.le_trans hbase1 hbW.size) rt1 t.top.toNat t.bot.toNat (-1) (by omega) (by omega) (by omega)
   rw [show ((t.top.toNat:Nat):Int)=t.top by omega,show ((t.bot.toNat:Nat):Int)=t.bot by omega] at hmv
   have hc:∀ W,Below w1.heap.size w1 W->(W.cell? ⟨B,4,none⟩=some (.int .i64 t.top)/\W.cell? ⟨B,11,none⟩=some (.int .i64 t.top)/\W.cell? ⟨B,12,none⟩=some (.int .i64 t.bot)/\W.cell? ⟨B,7,none⟩=some (.int .i64 t.st.back)):=fun W hbb=>⟨by rw [<- hb];exact (hs1.below hbb).cell 4,(hs1.below hbb).cell 11,(hs1.below hbb).cell 12,(hs1.below hbb).cell 7⟩
   have hlt:=hs1.lt;have hbk:=fun W (hbW:Below w1.heap.size w1 W)=>l7Back_any B t.st W (hc W hbW).2.2.2 (Nat.lt_of_lt_of_le hlt hbW.size)
   unfold stV at hmv hbk;have hof:=fun W (hbW:Below w1.heap.size w1 W)=>h1'.trans (Res.of_below hs1 hbW)
   obtain ⟨e4,e11,e12,e7⟩:=hc _ (Below.refl _ _);have hd:=bdr w1;obtain ⟨d4,d11,d12,d7⟩:=hc _ hd;have hd2:=hd.trans ((bdr w1.drew).mono hd.size);have d9:=hc _ hd2;replace hw1:=(show Hid _ from hw1);clear rt hbase r1 r2 b1 b2 b3 hn2 hV h hlt full h1 hs1 hbase1 rt1 h1' hb;go_enter Tryz.func143,Tryz.ntmps143;refine wp_seq_k (fun K0 hK0=>?_);have hH:=(show Hid _ from hK0);clear hK0;go_wp2;refine hH.out _ _ ?_;clear hH;refine wp_seq_k (fun K0 hK0=>?_);have hH:=(show Hid _ from hK0);clear hK0;go_wp2;refine hH.out _ _ ?_;rw [<- hw1.out]
   clear hH hw1 c4 c11 z4 c13 z13;go_wp2;go_region;go_wp2;obtain ⟨g4,g11,g12,g7⟩:=d9;refine wp_region_noPanic ?_;refine wp_region_held_drew (S:=(fun _=>True)) (by kernel_rfl) (trivial) (fun hHeld=>?_);refine tk 0 ?_;refine tk 1 ?_;refine tk 2 ?_;refine tk 3 ?_;refine tk 4 ?_;refine tk 5 ?_;refine tk 7 ?_;refine tk 8 ?_;refine tk 9 ?_;refine tk 11 ?_;simp only [Act.put,ZA,ZB,ZC,ZD,ZE,ZF];refine wpAnyH_ready (rs:=[6,10,12]) (by kernel_rfl) (by simp) (AllReadyH.cons rfl (fun K hK=>?_) (AllReadyH.cons rfl (fun K hK=>?_) (AllReadyH.cons rfl (fun K hK=>?_) AllReadyH.nil)))
   ·go_simp
    refine hK.out _ _ (trivial) (fun hHeld=>?_);clear hK K;refine rd2 10 12 (fun K hK=>?_) fun K hK=>?_
    ·go_simp
     refine hK.out _ _ (trivial) (fun hHeld=>?_);clear hK K;refine rd 12 fun K hK=>?_
     go_simp;refine (hbk _ hd2).mono ?_;rintro e wk ⟨rfl,hb⟩;have hd3:=hd2.trans (hb.mono hd2.size);obtain ⟨k4,k11,k12,k7⟩:=hc _ hd3;unfold backS;go_wp2_with fail;refine hK.out _ _ (trivial) (fun hHeld=>?_);clear hK K;refine rd 13 fun K hK=>?_
     go_simp;refine (hmv _ hd3).mono ?_;rintro e w2 ⟨rfl,vg2,hR⟩;go_wp2_with fail;refine hK.out _ _ (trivial) (fun hHeld=>?_);clear hK K
     (try simp only [Act.put,ZA,ZB,ZC,ZD,ZE,ZF])
     refine dn ?_;go_wp2;refine be ?_;exact ⟨rfl,_,_,_,(hof _ hd3).trans hR⟩
    ·go_simp
     refine (hbk _ hd2).mono ?_;rintro e wk ⟨rfl,hb⟩;have hd3:=hd2.trans (hb.mono hd2.size);obtain ⟨k4,k11,k12,k7⟩:=hc _ hd3;unfold backS;go_wp2_with fail;refine hK.out _ _ (trivial) (fun hHeld=>?_);clear hK K;refine rd 10 fun K hK=>?_
     go_simp;refine hK.out _ _ (trivial) (fun hHeld=>?_);clear hK K;refine rd 13 fun K hK=>?_
     go_simp;refine (hmv _ hd3).mono ?_;rintro e w2 ⟨rfl,vg2,hR⟩;go_wp2_with fail;refine hK.out _ _ (trivial) (fun hHeld=>?_);clear hK K
     (try simp only [Act.put,ZA,ZB,ZC,ZD,ZE,ZF])
     refine dn ?_;go_wp2;refine be ?_;exact ⟨rfl,_,_,_,(hof _ hd3).trans hR⟩
   ·go_simp
    refine hK.out _ _ (trivial) (fun hHeld=>?_);clear hK K;refine rd2 6 12 (fun K hK=>?_) fun K hK=>?_
    ·go_simp
     refine hK.out _ _ (trivial) (fun hHeld=>?_);clear hK K;refine rd 12 fun K hK=>?_
     go_simp;refine (hbk _ hd2).mono ?_;rintro e wk ⟨rfl,hb⟩;have hd3:=hd2.trans (hb.mono hd2.size);obtain ⟨k4,k11,k12,k7⟩:=hc _ hd3;unfold backS;go_wp2_with fail;refine hK.out _ _ (trivial) (fun hHeld=>?_);clear hK K;refine rd 13 fun K hK=>?_
     go_simp;refine (hmv _ hd3).mono ?_;rintro e w2 ⟨rfl,vg2,hR⟩;go_wp2_with fail;refine hK.out _ _ (trivial) (fun hHeld=>?_);clear hK K
     (try simp only [Act.put,ZA,ZB,ZC,ZD,ZE,ZF])
     refine dn ?_;go_wp2;refine be ?_;exact ⟨rfl,_,_,_,(hof _ hd3).trans hR⟩
    ·go_simp
     refine (hbk _ hd2).mono ?_;rintro e wk ⟨rfl,hb⟩;have hd3:=hd2.trans (hb.mono hd2.size);obtain ⟨k4,k11,k12,k7⟩:=hc _ hd3;unfold backS;go_wp2_with fail;refine hK.out _ _ (trivial) (fun hHeld=>?_);clear hK K;refine rd 6 fun K hK=>?_
     go_simp;refine hK.out _ _ (trivial) (fun hHeld=>?_);clear hK K;refine rd 13 fun K hK=>?_
     go_simp;refine (hmv _ hd3).mono ?_;rintro e w2 ⟨rfl,vg2,hR⟩;go_wp2_with fail;refine hK.out _ _ (trivial) (fun hHeld=>?_);clear hK K
     (try simp only [Act.put,ZA,ZB,ZC,ZD,ZE,ZF])
     refine dn ?_;go_wp2;refine be ?_;exact ⟨rfl,_,_,_,(hof _ hd3).trans hR⟩
   ·go_simp
    refine (hbk _ hd2).mono ?_;rintro e wk ⟨rfl,hb⟩;have hd3:=hd2.trans (hb.mono hd2.size);obtain ⟨k4,k11,k12,k7⟩:=hc _ hd3;unfold backS;go_wp2_with fail;refine hK.out _ _ (trivial) (fun hHeld=>?_);clear hK K;refine rd2 6 10 (fun K hK=>?_) fun K hK=>?_
    ·go_simp
     refine hK.out _ _ (trivial) (fun hHeld=>?_);clear hK K;refine rd 10 fun K hK=>?_
     go_simp;refine hK.out _ _ (trivial) (fun hHeld=>?_);clear hK K;refine rd 13 fun K hK=>?_
     go_simp;refine (hmv _ hd3).mono ?_;rintro e w2 ⟨rfl,vg2,hR⟩;go_wp2_with fail;refine hK.out _ _ (trivial) (fun hHeld=>?_);clear hK K
     (try simp only [Act.put,ZA,ZB,ZC,ZD,ZE,ZF])
     refine dn ?_;go_wp2;refine be ?_;exact ⟨rfl,_,_,_,(hof _ hd3).trans hR⟩
    ·go_simp
     refine hK.out _ _ (trivial) (fun hHeld=>?_);clear hK K;refine rd 6 fun K hK=>?_
     go_simp;refine hK.out _ _ (trivial) (fun hHeld=>?_);clear hK K;refine rd 13 fun K hK=>?_
     go_simp;refine (hmv _ hd3).mono ?_;rintro e w2 ⟨rfl,vg2,hR⟩;go_wp2_with fail;refine hK.out _ _ (trivial) (fun hHeld=>?_);clear hK K
     (try simp only [Act.put,ZA,ZB,ZC,ZD,ZE,ZF])
     refine dn ?_;go_wp2;refine be ?_;exact ⟨rfl,_,_,_,(hof _ hd3).trans hR⟩
  ·obtain ⟨q,hq⟩:∃ q,Hid (max 0 (t.row-1)=q):=⟨_,rfl⟩
   have hV:escapeT t 77={ ({ t with full:=false }:Te) with row:=q }:=by
    show (if t.row=t.top then _ else _)=_
    rw [if_neg hb,<- hq.out]
   rw [hV]
   have hqr:(t.row==t.top)=false:=by simp [hb]
   have hw:IntKind.i64.wrap (t.row-1)=t.row-1:=by simp [IntKind.wrap,IntKind.bits,IntKind.signed];omega
   have hmx:=fun W=>l1MaxG_any 0 (t.row-1) W
   rw [hq.out] at hmx
   have hR:=(show Hid _ from (h1.trans (h1.s.put (sCg B [.int .i64 q] 4 _) { ({ t with full:=false }:Te) with row:=q } (sCh B 35 [.int .i64 q] 4 _ _ h1.s.b) rfl rfl rfl rfl rfl)).below (bdr _));clear h full rt hbase h1 hV b1 b2 b3 r2 hb;go_enter Tryz.func143,Tryz.ntmps143;go_wp2;go_region;go_wp2_with fail;refine (hmx _).mono ?_;rintro e wk ⟨rfl,hw1⟩;subst hw1;go_wp2;refine be ?_;exact ⟨rfl,_,_,_,hR.out⟩
 by_cases r55:r=55
 ·subst r55
  have hV:escapeT t 55={ ({ t with full:=false }:Te) with sr:=t.row,sc:=t.col,ss:=t.st }:=rfl;rw [hV]
  have p1:=h1.s.put (sCg B [.int .i64 t.row] 17 _) ({ ({ t with full:=false }:Te) with sr:=t.row }) (sCh B 35 [.int .i64 t.row] 17 _ _ h1.s.b) rfl rfl rfl rfl rfl;have p2:=p1.s.put (sCg B [.int .i64 t.col] 18 _) ({ ({ t with full:=false }:Te) with sr:=t.row,sc:=t.col }) (sCh B 35 [.int .i64 t.col] 18 _ _ p1.s.b) rfl rfl rfl rfl rfl;have p3:=p2.s.put (sCg B [.int .i64 t.st.fore,.int .i64 t.st.back,.bool t.st.bold,.bool t.st.under,.bool t.st.turned] 19 _) ({ ({ t with full:=false }:Te) with sr:=t.row,sc:=t.col,ss:=t.st }) (sCh B 35 [.int .i64 t.st.fore,.int .i64 t.st.back,.bool t.st.bold,.bool t.st.under,.bool t.st.turned] 19 _ _ p2.s.b) rfl rfl rfl rfl rfl;have hR:=(show Hid _ from ((h1.trans p1).trans p2).trans p3);have c4:w.cell? ⟨B,4,none⟩=some (.int .i64 t.row):=h.cell 4;have c5:w.cell? ⟨B,5,none⟩=some (.int .i64 t.col):=h.cell 5;have c6:w.cell? ⟨B,6,none⟩=some (.int .i64 t.st.fore):=h.cell 6;have c7:w.cell? ⟨B,7,none⟩=some (.int .i64 t.st.back):=h.cell 7;have c8:w.cell? ⟨B,8,none⟩=some (.bool t.st.bold):=h.cell 8;have c9:w.cell? ⟨B,9,none⟩=some (.bool t.st.under):=h.cell 9;have c10:w.cell? ⟨B,10,none⟩=some (.bool t.st.turned):=h.cell 10;have c17:w.cell? ⟨B,17,none⟩=some (.int .i64 t.sr):=h.cell 17;have c18:w.cell? ⟨B,18,none⟩=some (.int .i64 t.sc):=h.cell 18;have c19:w.cell? ⟨B,19,none⟩=some (.int .i64 t.ss.fore):=h.cell 19;have c20:w.cell? ⟨B,20,none⟩=some (.int .i64 t.ss.back):=h.cell 20;have c21:w.cell? ⟨B,21,none⟩=some (.bool t.ss.bold):=h.cell 21;have c22:w.cell? ⟨B,22,none⟩=some (.bool t.ss.under):=h.cell 22;have c23:w.cell? ⟨B,23,none⟩=some (.bool t.ss.turned):=h.cell 23;have z17:w.frozen? ⟨B,17,none⟩=false:=h.frozen 17;have z18:w.frozen? ⟨B,18,none⟩=false:=h.frozen 18;have z19:w.frozen? ⟨B,19,none⟩=false:=h.frozen 19;have z20:w.frozen? ⟨B,20,none⟩=false:=h.frozen 20;have z21:w.frozen? ⟨B,21,none⟩=false:=h.frozen 21;have z22:w.frozen? ⟨B,22,none⟩=false:=h.frozen 22;have z23:w.frozen? ⟨B,23,none⟩=false:=h.frozen 23;clear h full rt hbase h1 hV p1 p2 p3;go_enter Tryz.func143,Tryz.ntmps143;go_wp2;refine be ?_;exact ⟨rfl,_,_,_,hR.out⟩
 by_cases r56:r=56
 ·subst r56
  have hV:escapeT t 56={ ({ t with full:=false }:Te) with row:=t.sr,col:=t.sc,st:=t.ss }:=rfl;rw [hV]
  have p1:=h1.s.put (sCg B [.int .i64 t.sr] 4 _) ({ ({ t with full:=false }:Te) with row:=t.sr }) (sCh B 35 [.int .i64 t.sr] 4 _ _ h1.s.b) rfl rfl rfl rfl rfl;have p2:=p1.s.put (sCg B [.int .i64 t.sc] 5 _) ({ ({ t with full:=false }:Te) with row:=t.sr,col:=t.sc }) (sCh B 35 [.int .i64 t.sc] 5 _ _ p1.s.b) rfl rfl rfl rfl rfl;have p3:=p2.s.put (sCg B [.int .i64 t.ss.fore,.int .i64 t.ss.back,.bool t.ss.bold,.bool t.ss.under,.bool t.ss.turned] 6 _) ({ ({ t with full:=false }:Te) with row:=t.sr,col:=t.sc,st:=t.ss }) (sCh B 35 [.int .i64 t.ss.fore,.int .i64 t.ss.back,.bool t.ss.bold,.bool t.ss.under,.bool t.ss.turned] 6 _ _ p2.s.b) rfl rfl rfl rfl rfl;have hR:=(show Hid _ from ((h1.trans p1).trans p2).trans p3);have c4:w.cell? ⟨B,4,none⟩=some (.int .i64 t.row):=h.cell 4;have c5:w.cell? ⟨B,5,none⟩=some (.int .i64 t.col):=h.cell 5;have c6:w.cell? ⟨B,6,none⟩=some (.int .i64 t.st.fore):=h.cell 6;have c7:w.cell? ⟨B,7,none⟩=some (.int .i64 t.st.back):=h.cell 7;have c8:w.cell? ⟨B,8,none⟩=some (.bool t.st.bold):=h.cell 8;have c9:w.cell? ⟨B,9,none⟩=some (.bool t.st.under):=h.cell 9;have c10:w.cell? ⟨B,10,none⟩=some (.bool t.st.turned):=h.cell 10;have c17:w.cell? ⟨B,17,none⟩=some (.int .i64 t.sr):=h.cell 17;have c18:w.cell? ⟨B,18,none⟩=some (.int .i64 t.sc):=h.cell 18;have c19:w.cell? ⟨B,19,none⟩=some (.int .i64 t.ss.fore):=h.cell 19;have c20:w.cell? ⟨B,20,none⟩=some (.int .i64 t.ss.back):=h.cell 20;have c21:w.cell? ⟨B,21,none⟩=some (.bool t.ss.bold):=h.cell 21;have c22:w.cell? ⟨B,22,none⟩=some (.bool t.ss.under):=h.cell 22;have c23:w.cell? ⟨B,23,none⟩=some (.bool t.ss.turned):=h.cell 23;have z4:w.frozen? ⟨B,4,none⟩=false:=h.frozen 4;have z5:w.frozen? ⟨B,5,none⟩=false:=h.frozen 5;have z6:w.frozen? ⟨B,6,none⟩=false:=h.frozen 6;have z7:w.frozen? ⟨B,7,none⟩=false:=h.frozen 7;have z8:w.frozen? ⟨B,8,none⟩=false:=h.frozen 8;have z9:w.frozen? ⟨B,9,none⟩=false:=h.frozen 9;have z10:w.frozen? ⟨B,10,none⟩=false:=h.frozen 10;clear h full rt hbase h1 hV p1 p2 p3;go_enter Tryz.func143,Tryz.ntmps143;go_wp2;refine be ?_;exact ⟨rfl,_,_,_,hR.out⟩
 have hV:escapeT t r=t:=by unfold escapeT;rw [if_neg r68,if_neg r69,if_neg r77,if_neg r55,if_neg r56,if_neg hr]
 rw [hV]
 have q68:(r==68)=false:=by simp [r68]
 have q69:(r==69)=false:=by simp [r69]
 have q77:(r==77)=false:=by simp [r77]
 have q55:(r==55)=false:=by simp [r55]
 have q56:(r==56)=false:=by simp [r56]
 have q99:(r==99)=false:=by simp [hr]
 have hR:=(show Hid _ from h1.trans (full _ _ t.full _ _ _ h1.s));clear h full rt hbase h1 hV r68 r69 r77 r55 r56 hr;go_enter Tryz.func143,Tryz.ntmps143;go_wp2;refine be ?_;exact ⟨rfl,_,_,_,hR.out⟩
theorem l7Escape_anew (cn N base B:Nat) (t:Te) (v:Tv) (vg vo:List Value) (w:World) (h:Scr w 35 base B [] t v vg vo) (hbase:base<=w.heap.size) (rt:RtW t cn N) :
  Calls Tryz.prog 143 #[.pointer (some ⟨B,0,none⟩),.int .i64 99] w fun e w'=>e=.returned (.tuple #[])/\∃ v' vg' vo',Res w w' 35 base B [] v vg vo (anewT t) v' vg' vo':=by
 have hV:anewT t={ newT cn N (newR cn N) with ti:=t.ti,pa:=t.pa,fe:=t.fe }:=by unfold anewT;rw [rt.gc,rt.n,Int.toNat_natCast]
 rw [hV]
 have hn1:=rt.n1;have hcc:=rt.c;have hNT:=fun W=>l7New_any cn N W (by omega) (by omega) (by omega)
 have hgc:=rt.gc;have hgl:=rt.n;obtain ⟨ga,gcp,hvg⟩:=slG_shp (SlG.of_own h.o.1.g);obtain ⟨oa,ocp,hvo⟩:=slG_shp (SlG.of_own h.o.2.1.g);obtain ⟨tia,tip,hti⟩:=(SlN.of_own h.o.2.2.2.head).shp;obtain ⟨ppa,ppp,hpp⟩:=(SlN.of_own h.o.2.2.2.tail.head).shp;obtain ⟨pta,ptp,hpt⟩:=(SlN.of_own h.o.2.2.2.tail.tail.head).shp;obtain ⟨q1,q2,q3,q4,q5⟩:=v;simp only at hvg hvo hti hpp hpt;subst hvg;subst hvo;subst hti;subst hpp;subst hpt;have h1:=h.put (sCg B [.bool false] 13 w) { t with full:=false } (sCh B 35 [.bool false] 13 w _ h.b) rfl rfl rfl rfl rfl;have bP:=bal' (w.setCell ⟨B,13,none⟩ (.bool false)) (Obj.cells #[.int .i64 t.pa.state,.slice ppa t.pa.params.length ppp,.int .i64 t.pa.mark,.slice pta t.pa.text.length ptp] 31);have bF:=bal' ((w.setCell ⟨B,13,none⟩ (.bool false)).alloc (Obj.cells #[.int .i64 t.pa.state,.slice ppa t.pa.params.length ppp,.int .i64 t.pa.mark,.slice pta t.pa.text.length ptp] 31)) (Obj.cells #[.string t.fe] 33);have hP:=(BlkC.new (w.setCell ⟨B,13,none⟩ (.bool false)) 31 [.int .i64 t.pa.state,.slice ppa t.pa.params.length ppp,.int .i64 t.pa.mark,.slice pta t.pa.text.length ptp]).below bF;have hF:=BlkC.new ((w.setCell ⟨B,13,none⟩ (.bool false)).alloc (Obj.cells #[.int .i64 t.pa.state,.slice ppa t.pa.params.length ppp,.int .i64 t.pa.mark,.slice pta t.pa.text.length ptp] 31)) 33 [.string t.fe];have z0:(w.setCell ⟨B,13,none⟩ (.bool false)).heap.size=w.heap.size:=by simp
 have z1:((w.setCell ⟨B,13,none⟩ (.bool false)).alloc (Obj.cells #[.int .i64 t.pa.state,.slice ppa t.pa.params.length ppp,.int .i64 t.pa.mark,.slice pta t.pa.text.length ptp] 31)).heap.size=w.heap.size+1:=by simp
 obtain ⟨W3,hW3⟩:∃ W3,W3=((w.setCell ⟨B,13,none⟩ (.bool false)).alloc (Obj.cells #[.int .i64 t.pa.state,.slice ppa t.pa.params.length ppp,.int .i64 t.pa.mark,.slice pta t.pa.text.length ptp] 31)).alloc (Obj.cells #[.string t.fe] 33):=⟨_,rfl⟩;have h3:Res w W3 35 base B [] ⟨.slice ga t.g.length gcp,.slice oa t.o.length ocp,.slice tia t.ti.length tip,.slice ppa t.pa.params.length ppp,.slice pta t.pa.text.length ptp⟩ vg vo { t with full:=false } ⟨.slice ga t.g.length gcp,.slice oa t.o.length ocp,.slice tia t.ti.length tip,.slice ppa t.pa.params.length ppp,.slice pta t.pa.text.length ptp⟩ vg vo:=by rw [hW3];exact (h1.below bP).below bF
 replace hP:BlkC W3 w.heap.size 31 [.int .i64 t.pa.state,.slice ppa t.pa.params.length ppp,.int .i64 t.pa.mark,.slice pta t.pa.text.length ptp]:=by rw [hW3,<- z0];exact hP
 replace hF:BlkC W3 (w.heap.size+1) 33 [.string t.fe]:=by rw [hW3,<- z1];exact hF
 have c13:w.cell? ⟨B,13,none⟩=some (.bool t.full):=h.cell 13;have z13:w.frozen? ⟨B,13,none⟩=false:=h.frozen 13;have c24:w.cell? ⟨B,24,none⟩=some (.slice tia t.ti.length tip):=h.cell 24;have c25:w.cell? ⟨B,25,none⟩=some (.int .i64 t.pa.state):=h.cell 25;have c26:w.cell? ⟨B,26,none⟩=some (.slice ppa t.pa.params.length ppp):=h.cell 26;have c27:w.cell? ⟨B,27,none⟩=some (.int .i64 t.pa.mark):=h.cell 27;have c28:w.cell? ⟨B,28,none⟩=some (.slice pta t.pa.text.length ptp):=h.cell 28;have c29:w.cell? ⟨B,29,none⟩=some (.string t.fe):=h.cell 29;have hlt:=h.lt;have hnP:w.heap.size≠B:=by omega
 have hnF:w.heap.size+1≠B:=by omega
 replace hW3:=(show Hid _ from hW3);replace h3:=(show Hid _ from h3);replace hgl:=(show Hid _ from hgl);replace hgc:=(show Hid _ from hgc);clear hV h1 bP bF z0 z1 rt;go_enter Tryz.func143,Tryz.ntmps143;go_wp2;rw [<- hW3.out]
 clear hW3 c13 z13 c24 c25 c26 c27 c28 c29;have hd:=bdr W3;have hB3:BlkC W3.drew B 35 ([]++(teCs { t with full:=false } ⟨.slice ga t.g.length gcp,.slice oa t.o.length ocp,.slice tia t.ti.length tip,.slice ppa t.pa.params.length ppp,.slice pta t.pa.text.length ptp⟩).toList):=BlkC.below h3.out.s.b hd;have hS3:=h3.out.s.o.below hd;have hP3:=hP.below hd;have hF3:=hF.below hd;have hw3:w.heap.size+2<=W3.heap.size:=by have:=hF.lt;omega
 have d0:W3.drew.cell? ⟨B,0,none⟩=some (.int .i64 (cn:Int)):=by rw [<- hgc.out];exact cAl hB3 0
 have d1:W3.drew.cell? ⟨B,1,none⟩=some (.slice ga N gcp):=by rw [<- hgl.out];exact cAl hB3 1
 refine wp_region_noPanic ?_;refine wp_region_held_drew (S:=(fun W=>W.cell? ⟨B,0,none⟩=some (.int .i64 (cn:Int)))) (by kernel_rfl) d0 (fun hHeld=>?_);refine tk 0 ?_;refine tk 1 ?_;refine tk 2 ?_;refine tk 3 ?_;refine tk 4 ?_;refine tk 5 ?_;refine tk 6 ?_;refine tk 7 ?_;refine tk 8 ?_;refine tk 9 ?_;refine rdo 10 fun K hK=>?_
 go_simp;refine hK.out _ _ d0 (fun hHeld=>?_);clear hK K;refine tk 11 ?_;refine rdo 12 fun K hK=>?_
 go_simp;refine (hNT _).mono ?_;rintro e w4 ⟨u6,u7,rfl,hO,hb⟩;have hm0:w.heap.size+2<=W3.drew.heap.size:=hw3;obtain ⟨c1,c2,c3,hO⟩:=hO;obtain ⟨vg6,vo6,hS6⟩:=RgT.own (show RgT _ _ c1 c2 c3 _ _ from hO);have hon:=hS6.sl.one;obtain ⟨m,hm,hS6⟩:∃ m,w.heap.size<=m/\OwnS w4 m _ _ vg6 vo6:=⟨_,by omega,hS6⟩;have hB4:BlkC w4 B 35 ([]++(teCs { t with full:=false } ⟨.slice ga t.g.length gcp,.slice oa t.o.length ocp,.slice tia t.ti.length tip,.slice ppa t.pa.params.length ppp,.slice pta t.pa.text.length ptp⟩).toList):=BlkC.below hB3 hb;have hd4:=hd.trans (hb.mono hd.size);have hS4:=hS3.below hb;have hP4:=hP3.below hb;have hF4:=hF3.below hb;have d4:w4.cell? ⟨B,0,none⟩=some (.int .i64 (cn:Int)):=by rw [<- hgc.out];exact cAl hB4 0
 go_wp2_with fail;refine hK.out _ _ d4 (fun hHeld=>?_);clear hK K hNT hO hb;refine tk 13 ?_;refine rdo 14 fun K hK=>?_
 refine wp_store_row 35 _ _ rfl B (teCs (newT cn N (newR cn N)) (tvN u6 u7)) rfl rfl 35 _ hB4 info_te (by rfl) (by rw [<- Array.all_toList];exact hon) ?_;have hg:=setRow_gr w4 B (teCs (newT cn N (newR cn N)) (tvN u6 u7));have hT5:BlkC (w4.setRow B (teCs (newT cn N (newR cn N)) (tvN u6 u7))) B 35 (teCs (newT cn N (newR cn N)) (tvN u6 u7)).toList:=setRow_heap _ _ _ _ _ _ hB4;refine hK.out _ _ (cAl hT5 0) (fun hHeld=>?_);clear hK K
 (try simp only [Act.put])
 refine dn ?_;generalize w4.setRow B (teCs (newT cn N (newR cn N)) (tvN u6 u7))=W5 at *;have hS5:=hS6.grown hg hB4 (by decide) (by decide) (by decide);have hL5:=hS4.grown hg hB4 (by decide) (by decide) (by decide);have hP5:=BlkC.kept hP4 hg (fun e=>hnP (Option.some.inj e).symm);have hF5:=BlkC.kept hF4 hg (fun e=>hnF (Option.some.inj e).symm);have n24:W5.cell? ⟨B,24,none⟩=some (.slice none 0 0):=cAl hT5 24;have y24:W5.frozen? ⟨B,24,none⟩=false:=frozen_of_row _ _ _ _ _ hT5;have n25:W5.cell? ⟨B,25,none⟩=some (.int .i64 1):=cAl hT5 25;have y25:W5.frozen? ⟨B,25,none⟩=false:=frozen_of_row _ _ _ _ _ hT5;have n26:W5.cell? ⟨B,26,none⟩=some (.slice none 0 0):=cAl hT5 26;have y26:W5.frozen? ⟨B,26,none⟩=false:=frozen_of_row _ _ _ _ _ hT5;have n27:W5.cell? ⟨B,27,none⟩=some (.int .i64 0):=cAl hT5 27;have y27:W5.frozen? ⟨B,27,none⟩=false:=frozen_of_row _ _ _ _ _ hT5;have n28:W5.cell? ⟨B,28,none⟩=some (.slice none 0 0):=cAl hT5 28;have y28:W5.frozen? ⟨B,28,none⟩=false:=frozen_of_row _ _ _ _ _ hT5;have n29:W5.cell? ⟨B,29,none⟩=some (.string ⟨#[]⟩):=cAl hT5 29;have y29:W5.frozen? ⟨B,29,none⟩=false:=frozen_of_row _ _ _ _ _ hT5;have p0:W5.cell? ⟨w.heap.size,0,none⟩=some (.int .i64 t.pa.state):=cAl hP5 0;have p1:W5.cell? ⟨w.heap.size,1,none⟩=some (.slice ppa t.pa.params.length ppp):=cAl hP5 1;have p2:W5.cell? ⟨w.heap.size,2,none⟩=some (.int .i64 t.pa.mark):=cAl hP5 2;have p3:W5.cell? ⟨w.heap.size,3,none⟩=some (.slice pta t.pa.text.length ptp):=cAl hP5 3;have f0:W5.cell? ⟨w.heap.size+1,0,none⟩=some (.string t.fe):=cAl hF5 0;have g24:=sCg B [.slice tia t.ti.length tip] 24 W5;have t24:=sCh B 35 [.slice tia t.ti.length tip] 24 W5 _ hT5;have g25:=sCg B [.int .i64 t.pa.state,.slice ppa t.pa.params.length ppp,.int .i64 t.pa.mark,.slice pta t.pa.text.length ptp] 25 (W5.setCells B 24 [.slice tia t.ti.length tip]);have t25:=sCh B 35 [.int .i64 t.pa.state,.slice ppa t.pa.params.length ppp,.int .i64 t.pa.mark,.slice pta t.pa.text.length ptp] 25 _ _ t24;have g29:=sCg B [.string t.fe] 29 ((W5.setCells B 24 [.slice tia t.ti.length tip]).setCells B 25 [.int .i64 t.pa.state,.slice ppa t.pa.params.length ppp,.int .i64 t.pa.mark,.slice pta t.pa.text.length ptp]);have t29:=sCh B 35 [.string t.fe] 29 _ _ t25;have gA:=grown_tr (grown_tr g24 g25) g29;have hS7:=hS5.grown gA hT5 (by decide) (by decide) (by decide);have hL7:=(hL5.grown gA hT5 (by decide) (by decide) (by decide)).2.2.2;have hO7:OwnS _ base { newT cn N (newR cn N) with ti:=t.ti,pa:=t.pa,fe:=t.fe } ⟨u6,u7,.slice tia t.ti.length tip,.slice ppa t.pa.params.length ppp,.slice pta t.pa.text.length ptp⟩ vg6 vo6:=⟨ownV_low hS7.1 (Nat.le_trans hbase hm),ownV_low hS7.2.1 (Nat.le_trans hbase hm),hS7.2.2.1,hL7⟩;have hB7:BlkC _ B 35 ([]++(teCs { newT cn N (newR cn N) with ti:=t.ti,pa:=t.pa,fe:=t.fe } ⟨u6,u7,.slice tia t.ti.length tip,.slice ppa t.pa.params.length ppp,.slice pta t.pa.text.length ptp⟩).toList):=t29;have hG7:GrP (Ft B ⟨.slice ga t.g.length gcp,.slice oa t.o.length ocp,.slice tia t.ti.length tip,.slice ppa t.pa.params.length ppp,.slice pta t.pa.text.length ptp⟩ vg vo) w _:=((h3.out.g.trans (GrP.of_below hd4)).trans (GrP.of_grown hg (fun g e=>by cases e;exact .inl rfl))).trans (GrP.of_grown gA (fun g e=>by cases e;exact .inl rfl))
 have hC7:∀ k,k<w.heap.size->Ft B ⟨u6,u7,.slice tia t.ti.length tip,.slice ppa t.pa.params.length ppp,.slice pta t.pa.text.length ptp⟩ vg6 vo6 k->Ft B ⟨.slice ga t.g.length gcp,.slice oa t.o.length ocp,.slice tia t.ti.length tip,.slice ppa t.pa.params.length ppp,.slice pta t.pa.text.length ptp⟩ vg vo k:=fun k hk c=>c.elim .inl (fun c=>c.elim (fun c=>absurd (GrS.bd hS7.1 c).1 (by omega)) (fun c=>absurd (GrS.bd hS7.2.1 c).1 (by omega)))
 have hR:=(show Hid (Res w _ 35 base B [] ⟨.slice ga t.g.length gcp,.slice oa t.o.length ocp,.slice tia t.ti.length tip,.slice ppa t.pa.params.length ppp,.slice pta t.pa.text.length ptp⟩ vg vo { newT cn N (newR cn N) with ti:=t.ti,pa:=t.pa,fe:=t.fe } ⟨u6,u7,.slice tia t.ti.length tip,.slice ppa t.pa.params.length ppp,.slice pta t.pa.text.length ptp⟩ vg6 vo6) from ⟨⟨hB7,hO7,h.n1,h.n2,h.n3,h.hb⟩,hG7,hC7,rfl,rfl⟩);clear g24 t24 g25 t25 g29 t29 gA hS7 hL7 hO7 hB7 hG7 hC7 hT5 hS5 hL5 hP5 hF5 hP4 hF4 hP3 hF3 hP hF hS3 hS4 hS6 hB3 hB4 hd hd4 h3 hg hHeld h d0 d1 d4 hon;go_wp2;refine be ?_;exact ⟨rfl,_,_,_,hR.out⟩
theorem l7Escape_any (cn N base B:Nat) (t:Te) (v:Tv) (vg vo:List Value) (w:World) (h:Scr w 35 base B [] t v vg vo) (hbase:base<=w.heap.size) (rt:RtW t cn N) (r:Int) :
  Calls Tryz.prog 143 #[.pointer (some ⟨B,0,none⟩),.int .i64 r] w fun e w'=>e=.returned (.tuple #[])/\∃ v' vg' vo',Res w w' 35 base B [] v vg vo (escapeT t r) v' vg' vo':=by
 by_cases hr:r=99
 ·subst hr
  exact l7Escape_anew cn N base B t v vg vo w h hbase rt
 ·exact l7Escape_most cn N base B t v vg vo w h hbase rt r hr
end Go.Proofs.YtgcnmjjlmcnllaaGreatDoor
