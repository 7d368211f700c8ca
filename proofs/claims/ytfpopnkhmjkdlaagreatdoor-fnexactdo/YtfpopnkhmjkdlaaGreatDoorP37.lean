import Derived.Test.YtfpopnkhmjkdlaaGreatDoorP32
import Derived.Test.YtfpopnkhmjkdlaaGreatDoorP33
set_option maxRecDepth 20000
set_option maxHeartbeats 16000000
namespace Go.Proofs.YtfpopnkhmjkdlaaGreatDoor
open Go.ChangeShapes Go.WideShapes Go.ChangeAt Go.RowKit
theorem Xgy (cn N base B:Nat) (x0 x1 x2 x3 x4 x5 pv x:Value) (k r m:Int) (t:Te) (v:Tv) (vg vo:List Value) (w:World) (hSp:Xo w) (hSb:0<base) (h:Scr w 98 base B [x0,x1,x2,x3,x4,x5] t v vg vo) (hbase:base<=w.heap.size) (rk:RtK t cn N) (hwr:Hid (false=t.wrap)) (h1:1<=wdV r) (h2:wdV r<=t.gc) :
  Calls Tryz.prog 122 #[.pointer (some ⟨B,0,none⟩),.agg (acA k r pv m x)] w fun e w'=>e=.returned (.tuple #[])/\∃ v' vg' vo',Res w w' 98 base B [x0,x1,x2,x3,x4,x5] v vg vo (Yy t r) v' vg' vo':=by
 obtain ⟨W,hW⟩:∃ W,W=w.alloc (Obj.cells #[.int .i64 k,.int .i64 r,pv,.int .i64 m,x] 37):=⟨_,rfl⟩;have hb0:Below w.heap.size w W:=by rw [hW];exact Xd _ _
 have hA:Xj W w.heap.size 37 [.int .i64 k,.int .i64 r,pv,.int .i64 m,x]:=by rw [hW];exact heap_alloc_new w _
 have hapA:ApF W B v vg vo (.slice (some ⟨w.heap.size,0,none⟩) 0 0):=fun g e=>by
  obtain rfl:w.heap.size=g:=by simpa [Value.ownBlock] using e
  refine ⟨hA.lt,fun c=>?_⟩;rcases c with c|c|c
  ·have:=h.lt;omega
  ·have:=(GrS.bd h.o.1 c).2;omega
  ·have:=(GrS.bd h.o.2.1 c).2;omega
 have hof:=Res.of_below h hb0;have hbase0:base<=W.heap.size:=Nat.le_trans hbase hb0.size;have hA1:W.cell? ⟨w.heap.size,1,none⟩=some (.int .i64 r):=cAl hA 1;have hSp0:=hSp.below hb0 hSp.lt;have hwd:=Yr r W hSp0;replace hW:=(show Hid _ from hW);obtain ⟨c,hc⟩:∃ c,Hid (wdV r=c):=⟨_,rfl⟩;rw [hc.out] at hwd
 have hgc:=rk.w.gc;have hcc:=rk.w.c;have hcol:=rk.w.col;unfold acA;have hcb:1<=c/\c<=2:=by have:=XG r;have:=hc.out;omega
 have q0:(c==0)=false:=by simp;omega
 have hcg:c<=t.gc:=by have:=hc.out;omega
 have q1:decide ((cn:Int)<c)=false:=decide_eq_false (by omega);go_enter Tryz.func122,Tryz.ntmps122;refine wp_seq_k (fun K hK=>?_);have hH:=(show Hid _ from hK);clear hK;go_wp2;refine hH.out _ _ ?_;rw [<- hW.out]
 clear hH hW;generalize w.heap.size=A at *;go_wp2_with fail;refine hwd.mono ?_;rintro e W0 ⟨rfl,hbw⟩;clear hwd hA1;replace hA:=hA.below hbw;replace hapA:=hapA.mono hbw.size;replace hof:=hof.below hbw;replace hbase0:=Nat.le_trans hbase0 hbw.size;replace hSp0:=hSp0.below hbw hSp0.lt;have hd0:=bdr W0;have cf:∀ W,Below W0.heap.size W0 W->W.cell? ⟨B,20,none⟩=some (.bool false)/\W.cell? ⟨B,19,none⟩=some (.bool t.full)/\W.cell? ⟨B,11,none⟩=some (.int .i64 t.col)/\W.cell? ⟨B,6,none⟩=some (.int .i64 t.gc):=fun W hb=>⟨by rw [(hof.s.below hb).cell 20];show some (Value.bool t.wrap)=_;rw [<- hwr.out],(hof.s.below hb).cell 19,(hof.s.below hb).cell 11,(hof.s.below hb).cell 6⟩
 have d6:W0.cell? ⟨B,6,none⟩=some (.int .i64 t.gc):=hof.s.cell 6;go_wp2;clear d6;refine wp_region_noPanic ?_;refine wp_region_held_drew (S:=(fun W=>W.cell? ⟨B,20,none⟩=some (.bool false)/\W.cell? ⟨B,19,none⟩=some (.bool t.full)/\W.cell? ⟨B,11,none⟩=some (.int .i64 t.col)/\W.cell? ⟨B,6,none⟩=some (.int .i64 t.gc))) (by kernel_rfl) (cf _ hd0) (fun Hh=>?_);refine tK 0 ?_;refine tK 1 ?_;refine tK 2 ?_;refine tK 3 ?_;refine tK 4 ?_;refine tK 5 ?_;refine sK 6 ?_;refine sK 7 ?_;refine sK 8 ?_;refine sK 9 ?_;refine sK 10 ?_;refine sK 11 ?_;refine sK 12 ?_;refine sK 13 ?_;refine sK 14 ?_;refine sK 15 ?_;refine sK 16 ?_;refine sK 17 ?_;refine sK 18 ?_;refine sK 19 ?_;refine sK 20 ?_;refine sK 21 ?_;refine sK 22 ?_;refine sK 23 ?_;refine sK 24 ?_;refine sK 25 ?_;refine sK 26 ?_;refine tk 27 ?_
 (try simp only [Act.put,ZA,ZB,ZC,ZD,ZE,ZF])
 refine dn ?_;clear cf;have hR1:=(show Hid _ from hof.below hd0);replace hA:=hA.below hd0;replace hapA:=hapA.mono hd0.size;have hSp1:=hSp0.below hd0 hSp0.lt;have hb1:=Nat.le_trans hbase0 hd0.size;have hg1:t.gc=(cn:Int):=hgc;have k1col:=rk.w.col;have k1row:=rk.w.row;have k1n:=rk.w.n;have k1gx:=rk.w.gx;have k1w:∀ q,0<=q/\q+c<=cn->X5 (Xb t.g t.row.toNat) q r t.st=X6 (Xb t.g t.row.toNat) q.toNat r t.st:=fun q hq=>rk.written _ q r rk.w.row (by rw [hc.out];exact hq) (by have:=hc.out;omega)
 clear hof hSp0 hbase0 hd0 h hbase rk hSp hb0 hbw;generalize W0.drew=W1 at *;have c6:W1.cell? ⟨B,6,none⟩=some (.int .i64 (cn:Int)):=by rw [<- hg1];exact hR1.out.s.cell 6
 have c11:W1.cell? ⟨B,11,none⟩=some (.int .i64 t.col):=hR1.out.s.cell 11;have z11:W1.frozen? ⟨B,11,none⟩=false:=hR1.out.s.frozen 11;obtain ⟨q,hq⟩:∃ q,Hid (min t.col (t.gc-c)=q):=⟨_,rfl⟩;have hq2:min t.col ((cn:Int)-c)=q:=by have:=hq.out;omega
 have hqb:0<=q/\q+c<=cn:=by have:=k1col;omega
 have hws:IntKind.i64.wrap ((cn:Int)-c)=(cn:Int)-c:=by simp [IntKind.wrap,IntKind.bits,IntKind.signed];omega
 have p5:=(hR1.out.s.put (sCg B [.int .i64 q] 11 W1) { t with col:=q } (sCh B 98 [.int .i64 q] 11 W1 _ hR1.out.s.b) rfl rfl rfl rfl rfl).below (bdr _);have s6:(W1.setCell ⟨B,11,none⟩ (.int .i64 q)).drew.cell? ⟨B,6,none⟩=some (.int .i64 (cn:Int)):=by rw [<- hg1];exact p5.s.cell 6
 replace p5:=(show Hid _ from p5);go_wp2;refine wp_region_noPanic ?_;refine wp_region_held_drew (S:=(fun W=>W.cell? ⟨B,6,none⟩=some (.int .i64 (cn:Int)))) (by kernel_rfl) (c6) (fun Hh=>?_);refine tK 0 ?_;refine tK 1 ?_;refine tK 2 ?_;refine tK 3 ?_;refine tK 4 ?_;refine tK 6 ?_;refine tK 7 ?_;refine tK 8 ?_;refine tK 9 ?_;refine tK 10 ?_;refine tK 11 ?_;refine tK 12 ?_;refine tk 13 ?_;refine rd 5 fun K hK=>?_
 go_simp;refine hK.out _ _ (Hh) (fun Hh=>?_);clear hK K;refine tK 14 ?_;refine tK 15 ?_;refine tK 16 ?_;refine tk 17 ?_;refine rd 18 fun K hK=>?_
 go_simp;refine hK.out _ _ (s6) (fun Hh=>?_);clear hK K
 (try simp only [Act.put,ZA,ZB,ZC,ZD,ZE,ZF])
 refine dn ?_;obtain ⟨W2,hW2⟩:∃ W2,W2=(W1.setCell ⟨B,11,none⟩ (.int .i64 q)).drew:=⟨_,rfl⟩;rw [<- hW2]
 have P5:Res W1 W2 98 base B [x0,x1,x2,x3,x4,x5] v vg vo { t with col:=q } v vg vo:=by rw [hW2];exact p5.out
 clear hW2 p5 s6 c6 c11 z11;have hR2:=(show Hid _ from hR1.out.trans P5);have hA2:=hA.grp P5.g (hapA A rfl).2;have hap2:ApF W2 B v vg vo (.slice (some ⟨A,0,none⟩) 0 0):=fun g e=>⟨Nat.lt_of_lt_of_le (hapA g e).1 P5.g.size,fun c=>(hapA g e).2 (P5.c g (hapA g e).1 c)⟩
 have hSp2:=hSp1.below (hR1.out.s.bel hb1 P5) hSb;have hb2:=Nat.le_trans hb1 P5.g.size;clear hA hapA hSp1 P5 hR1;obtain ⟨i,hri⟩:∃ i:Nat,t.row=(i:Int):=⟨t.row.toNat,by have:=k1row;omega⟩;have hi:i<N:=by have:=k1row;omega
 have hN:=k1n;have h2s:=hR2.out.s;rcases h2s.o.1.shape with ⟨_,hs⟩|⟨g,cap,hvg,hbg,hlg,hcap⟩
 ·rw [hs] at hN;simp at hN;omega
 rw [hN] at hvg hcap
 have ho:=h2s.o.1;have hro:=ho.2.2.1 i (by show i<t.g.length;omega);have hvl:=ho.1;rw [hvg] at ho
 have hci:=ho.cell hN i hi;obtain ⟨ra,rn,rc,hre⟩:=hro.isSl;rw [hre] at hci hro
 have hgx:=k1gx i hi;have hsl:SlC W2 (.slice ra rn rc) (Xb t.g i):=SlC.of_own hro;have hlt:=h2s.lt;have cf:∀ W,Below W2.heap.size W2 W->W.cell? ⟨B,7,none⟩=some (.slice (some ⟨g,0,none⟩) N cap)/\W.cell? ⟨B,10,none⟩=some (.int .i64 (i:Int))/\W.cell? ⟨B,11,none⟩=some (.int .i64 q)/\W.cell? ⟨A,1,none⟩=some (.int .i64 r)/\W.cell? ⟨B,12,none⟩=some (.int .i64 t.st.fore)/\W.cell? ⟨B,13,none⟩=some (.int .i64 t.st.back)/\W.cell? ⟨B,14,none⟩=some (.bool t.st.bold)/\W.cell? ⟨B,15,none⟩=some (.bool t.st.under)/\W.cell? ⟨B,16,none⟩=some (.bool t.st.turned):=fun W hb=>⟨by rw [(h2s.below hb).cell 7];show some v.g=_;rw [hvg],by rw [(h2s.below hb).cell 10];show some (Value.int .i64 t.row)=_;rw [hri],(h2s.below hb).cell 11,cAl (hA2.below hb) 1,(h2s.below hb).cell 12,(h2s.below hb).cell 13,(h2s.below hb).cell 14,(h2s.below hb).cell 15,(h2s.below hb).cell 16⟩
 have ci:∀ W,Below W2.heap.size W2 W->W.cell? ⟨g,i,none⟩=some (.slice ra rn rc):=fun W hb=>(hb.cell (p:=⟨g,i,none⟩) hlg).trans hci
 have zi:∀ W,Below W2.heap.size W2 W->W.frozen? ⟨g,i,none⟩=false:=fun W hb=>(ho.below hb).frozen hN i
 have hcd:=fun W (hb:Below W2.heap.size W2 W)=>Zr (.slice ra rn rc) (Xb t.g i) q r t.st W (hSp2.below hb hSp2.lt) (hsl.below hb) (by omega)
 obtain ⟨R,hR⟩:∃ R,Hid (X5 (Xb t.g i) q r t.st=R):=⟨_,rfl⟩;simp only [hR.out] at hcd;have hfin:∀ W u,Below W2.heap.size W2 W->Xl W W2.heap.size u R->Hid (Res W2 (W.setCell ⟨g,i,none⟩ u) 98 base B [x0,x1,x2,x3,x4,x5] v vg vo { ({ t with col:=q }:Te) with g:=t.g.set i R } v (vg.set i u) vo):=fun W u hb hu=>h2s.row hb2 hb hvg hN i hi u R hu
 have hsc:∀ W u,Below W2.heap.size W2 W->(W.setCell ⟨g,i,none⟩ u).cell? ⟨B,7,none⟩=some (.slice (some ⟨g,0,none⟩) N cap)/\(W.setCell ⟨g,i,none⟩ u).cell? ⟨B,10,none⟩=some (.int .i64 (i:Int))/\(W.setCell ⟨g,i,none⟩ u).cell? ⟨B,11,none⟩=some (.int .i64 q)/\(W.setCell ⟨g,i,none⟩ u).cell? ⟨A,1,none⟩=some (.int .i64 r)/\(W.setCell ⟨g,i,none⟩ u).cell? ⟨B,12,none⟩=some (.int .i64 t.st.fore)/\(W.setCell ⟨g,i,none⟩ u).cell? ⟨B,13,none⟩=some (.int .i64 t.st.back)/\(W.setCell ⟨g,i,none⟩ u).cell? ⟨B,14,none⟩=some (.bool t.st.bold)/\(W.setCell ⟨g,i,none⟩ u).cell? ⟨B,15,none⟩=some (.bool t.st.under)/\(W.setCell ⟨g,i,none⟩ u).cell? ⟨B,16,none⟩=some (.bool t.st.turned):=fun W u hb=>by
  have hne:g≠B:=fun e=>YA h2s.o.1 h2s.b h2s.n1 h2s.n2 (.inl (by rw [hvg,<- e];rfl))
  have hnA:g≠A:=fun e=>(hap2 A rfl).2 (.inr (.inl (.inl (by rw [hvg,<- e];rfl))))
  have hk:∀ k,(W.setCell ⟨g,i,none⟩ u).cell? ⟨B,k,none⟩=W.cell? ⟨B,k,none⟩:=fun k=>World.cell?_of_block (w:=W) ((sCc W g i u).block B (Nat.lt_of_lt_of_le hlt hb.size) (fun e=>hne (Option.some.inj e).symm))
  have hkA:∀ k,(W.setCell ⟨g,i,none⟩ u).cell? ⟨A,k,none⟩=W.cell? ⟨A,k,none⟩:=fun k=>World.cell?_of_block (w:=W) ((sCc W g i u).block A (Nat.lt_of_lt_of_le hA2.lt hb.size) (fun e=>hnA (Option.some.inj e).symm))
  rw [hk,hk,hk,hkA,hk,hk,hk,hk,hk]
  exact cf W hb
 have hRR:Hid (R=X6 (Xb t.g t.row.toNat) (min t.col (t.gc-wdV r)).toNat r t.st):=by
  show _=_
  have e:=k1w q hqb;have e1:=hR.out;rw [hri,Int.toNat_natCast] at e
  rw [<- e1,e,hc.out,hq.out,hri,Int.toNat_natCast]
 unfold stV at hcd;have hd:=bdr W2;have i0:(0:Int)<=(i:Int):=by omega
 have i1:(i:Int)<(N:Int):=by omega
 clear h2s ho hro hre hsl hgx hSp2 hvg hbg hcap hlt hvl hci hR hi hlg hA2 hap2 hN;go_wp2;refine wp_region_noPanic ?_;refine wp_region_held_drew (S:=(fun W=>W.cell? ⟨B,7,none⟩=some (.slice (some ⟨g,0,none⟩) N cap)/\W.cell? ⟨B,10,none⟩=some (.int .i64 (i:Int))/\W.cell? ⟨B,11,none⟩=some (.int .i64 q)/\W.cell? ⟨A,1,none⟩=some (.int .i64 r)/\W.cell? ⟨B,12,none⟩=some (.int .i64 t.st.fore)/\W.cell? ⟨B,13,none⟩=some (.int .i64 t.st.back)/\W.cell? ⟨B,14,none⟩=some (.bool t.st.bold)/\W.cell? ⟨B,15,none⟩=some (.bool t.st.under)/\W.cell? ⟨B,16,none⟩=some (.bool t.st.turned))) (by kernel_rfl) (cf _ hd) (fun Hh=>?_);have di:=ci _ hd;refine tK 0 ?_;refine tK 1 ?_;refine tK 2 ?_;refine tK 3 ?_;refine tK 4 ?_;refine tK 5 ?_;refine tK 6 ?_;refine tK 7 ?_;refine tK 8 ?_;refine tK 9 ?_;refine tK 10 ?_;refine tK 11 ?_;refine tK 12 ?_;refine tK 13 ?_;refine tK 14 ?_;refine tK 15 ?_;refine tK 16 ?_;refine tK 17 ?_;refine tK 18 ?_;refine tK 19 ?_;refine tK 20 ?_;refine tK 21 ?_;refine tK 22 ?_;refine tK 24 ?_;refine tK 25 ?_;refine tK 26 ?_;refine tK 27 ?_;refine tK 28 ?_;refine tK 29 ?_;refine tK 30 ?_;refine tK 31 ?_;refine tK 32 ?_;refine tK 33 ?_;refine tK 34 ?_;refine tk 35 ?_;refine rd 23 fun K hK=>?_
 go_simp;refine hK.out _ _ (Hh) (fun Hh=>?_);clear hK K;refine rd 36 fun K hK=>?_
 go_simp;refine (hcd _ hd).mono ?_;rintro e w6 ⟨u,rfl,hu,hbx⟩;have hu2:=hu.low hd.size;replace hd:=hd.trans (hbx.mono hd.size);obtain ⟨ua,un,uc,hue⟩:=hu2.isSl;subst hue;have di:=ci _ hd;have zj:=zi _ hd;go_wp2_with fail;refine hK.out _ _ (cf _ hd) (fun Hh=>?_);clear hK K;refine tk 37 ?_;refine rd 38 fun K hK=>?_
 go_simp;refine hK.out _ _ (hsc _ _ hd) (fun Hh=>?_);clear hK K
 (try simp only [Act.put,ZA,ZB,ZC,ZD,ZE,ZF])
 refine dn ?_;obtain ⟨W3,hW3⟩:∃ W3,W3=w6.setCell ⟨g,i,none⟩ (.slice ua un uc):=⟨_,rfl⟩;rw [<- hW3]
 have hR3:=(show Hid _ from hR2.out.trans (by have:=(hfin _ _ hd hu2).out;rw [<- hW3] at this;exact this));clear hfin hW3 hR2 di zj hd hu2 hcd hsc cf ci zi;have c11:W3.cell? ⟨B,11,none⟩=some (.int .i64 q):=hR3.out.s.cell 11;have z11:W3.frozen? ⟨B,11,none⟩=false:=hR3.out.s.frozen 11;obtain ⟨q',hq'⟩:∃ q',Hid (q+c=q'):=⟨_,rfl⟩;have hwa:IntKind.i64.wrap (q+c)=q':=by have:=hq'.out;simp [IntKind.wrap,IntKind.bits,IntKind.signed];omega
 have p7:=(show Hid _ from hR3.out.trans (hR3.out.s.put (sCg B [.int .i64 q'] 11 W3) { ({ t with col:=q' }:Te) with g:=t.g.set i R } (sCh B 98 [.int .i64 q'] 11 W3 _ hR3.out.s.b) rfl rfl rfl rfl rfl));obtain ⟨W4,hW4⟩:∃ W4,W4=W3.setCell ⟨B,11,none⟩ (.int .i64 q'):=⟨_,rfl⟩;have hR4:Hid (Res w W4 98 base B [x0,x1,x2,x3,x4,x5] v vg vo { ({ t with col:=q' }:Te) with g:=t.g.set i R } v (vg.set i (.slice ua un uc)) vo):=by rw [hW4];exact p7.out
 clear p7 hR3;have d11:W4.cell? ⟨B,11,none⟩=some (.int .i64 q'):=hR4.out.s.cell 11;have d19:W4.cell? ⟨B,19,none⟩=some (.bool t.full):=hR4.out.s.cell 19;have y19:W4.frozen? ⟨B,19,none⟩=false:=hR4.out.s.frozen 19;obtain ⟨b,hb⟩:∃ b,Hid (decide ((cn:Int)-1<q')=b):=⟨_,rfl⟩;have hb':decide ((cn:Int)-1<q')=b:=hb.out;have hla:=Yd B (cn:Int) W4.drew (by rw [<- hg1];exact hR4.out.s.cell 6) (by omega);have p8:=(show Hid _ from (hR4.out.trans (hR4.out.s.put (sCg B [.bool b] 19 W4) { ({ t with col:=q',full:=b }:Te) with g:=t.g.set i R } (sCh B 98 [.bool b] 19 W4 _ hR4.out.s.b) rfl rfl rfl rfl rfl)).below (bdr _));have s11:(W4.setCell ⟨B,19,none⟩ (.bool b)).drew.cell? ⟨B,11,none⟩=some (.int .i64 q'):=p8.out.s.cell 11;replace hW4:=(show Hid _ from hW4);go_wp2_with fail;rw [<- hW4.out]
 clear hW4 c11 z11;go_wp2;refine wp_region_noPanic ?_;refine wp_region_held_drew (S:=(fun W=>W.cell? ⟨B,11,none⟩=some (.int .i64 q'))) (by kernel_rfl) (d11) (fun Hh=>?_);refine tK 0 ?_;refine tK 1 ?_;refine tK 2 ?_;refine tK 3 ?_;refine tK 4 ?_;refine tK 5 ?_;refine tk 6 ?_;refine rd 7 fun K hK=>?_
 go_simp;refine hla.mono ?_;rintro e wk ⟨rfl,hw⟩;subst hw;go_wp2_with fail;refine hK.out _ _ (d11) (fun Hh=>?_);clear hK K;refine tK 8 ?_;refine tK 9 ?_;refine tK 10 ?_;refine tk 11 ?_;refine rd 12 fun K hK=>?_
 go_simp;refine hK.out _ _ (s11) (fun Hh=>?_);clear hK K
 (try simp only [Act.put,ZA,ZB,ZC,ZD,ZE,ZF])
 refine dn ?_;obtain ⟨W5,hW5⟩:∃ W5,W5=(W4.setCell ⟨B,19,none⟩ (.bool b)).drew:=⟨_,rfl⟩;rw [<- hW5]
 have hR5:Hid (Res w W5 98 base B [x0,x1,x2,x3,x4,x5] v vg vo { ({ t with col:=q',full:=b }:Te) with g:=t.g.set i R } v (vg.set i (.slice ua un uc)) vo):=by rw [hW5];exact p8.out
 clear p8 hW5 hR4 d11 d19 y19 s11 hla;have d11:W5.cell? ⟨B,11,none⟩=some (.int .i64 q'):=hR5.out.s.cell 11;have y11:W5.frozen? ⟨B,11,none⟩=false:=hR5.out.s.frozen 11;have hla:=Yd B (cn:Int) W5.drew (by rw [<- hg1];exact hR5.out.s.cell 6) (by omega);obtain ⟨q2,hq3⟩:∃ q2,Hid (min q' ((cn:Int)-1)=q2):=⟨_,rfl⟩;have hq4:min q' ((cn:Int)-1)=q2:=hq3.out;have p9:=(show Hid _ from (hR5.out.trans (hR5.out.s.put (sCg B [.int .i64 q2] 11 W5) { ({ t with col:=q2,full:=b }:Te) with g:=t.g.set i R } (sCh B 98 [.int .i64 q2] 11 W5 _ hR5.out.s.b) rfl rfl rfl rfl rfl)).below (bdr _))
 have hF:Hid (Res w (W5.setCell ⟨B,11,none⟩ (.int .i64 q2)).drew 98 base B [x0,x1,x2,x3,x4,x5] v vg vo (Yy t r) v (vg.set i (.slice ua un uc)) vo):=by
  have e:Yy t r={ ({ t with col:=q2,full:=b }:Te) with g:=t.g.set i R }:=by
   unfold Yy Ka;rw [<- hRR.out,hc.out,hq.out,hq'.out,hg1,hq4,hb',show t.row.toNat=i by omega]
  show Res _ _ _ _ _ _ _ _ _ _ _ _ _
  rw [e]
  exact p9.out
 clear p9 hR5 hRR;go_wp2;refine wp_region_noPanic ?_;refine wp_region_held_drew (S:=(fun _=>True)) (by kernel_rfl) (trivial) (fun Hh=>?_);refine tK 0 ?_;refine tK 1 ?_;refine tK 2 ?_;refine tK 3 ?_;refine tK 4 ?_;refine tk 6 ?_;refine rd2 5 7 (fun K hK=>?_) fun K hK=>?_
 ·go_simp
  refine hK.out _ _ (trivial) (fun Hh=>?_);clear hK K;refine rd 7 fun K hK=>?_
  go_simp;refine hla.mono ?_;rintro e wk ⟨rfl,hw⟩;subst hw;go_wp2_with fail;refine hK.out _ _ (trivial) (fun Hh=>?_);clear hK K;refine tK 8 ?_;refine tK 9 ?_;refine tK 10 ?_;refine tk 11 ?_;refine rd 12 fun K hK=>?_
  go_simp;refine hK.out _ _ (trivial) (fun Hh=>?_);clear hK K
  (try simp only [Act.put,ZA,ZB,ZC,ZD,ZE,ZF])
  refine dn ?_;go_wp2;refine be ?_;exact ⟨rfl,_,_,_,hF.out⟩
 ·go_simp
  refine hla.mono ?_;rintro e wk ⟨rfl,hw⟩;subst hw;go_wp2_with fail;refine hK.out _ _ (trivial) (fun Hh=>?_);clear hK K;refine rd 5 fun K hK=>?_
  go_simp;refine hK.out _ _ (trivial) (fun Hh=>?_);clear hK K;refine tK 8 ?_;refine tK 9 ?_;refine tK 10 ?_;refine tk 11 ?_;refine rd 12 fun K hK=>?_
  go_simp;refine hK.out _ _ (trivial) (fun Hh=>?_);clear hK K
  (try simp only [Act.put,ZA,ZB,ZC,ZD,ZE,ZF])
  refine dn ?_;go_wp2;refine be ?_;exact ⟨rfl,_,_,_,hF.out⟩
theorem Scr.grid {W0 W1 W':World} {T:TypeId} {base B:Nat} {X:List Value} {t:Te} {v:Tv} {vg vo:List Value} (h:Scr W0 T base B X t v vg vo) (hbase:base<=W0.heap.size) (hb:Below W0.heap.size W0 W1) (u:Value) (vs:List Value) (c:Int) (G:List (List Ce)) (hu:XF W1 W0.heap.size W1.heap.size u vs G) (hg:W1.grownBy W' (some B)) (hb':Xj W' B T (X++(Xg { t with gc:=c,g:=G } ⟨u,v.o,v.ti,v.pp,v.pt⟩).toList)):Res W0 W' T base B X v vg vo { t with gc:=c,g:=G } ⟨u,v.o,v.ti,v.pp,v.pt⟩ vs vo:=by
 have h1:=h.below hb
 have ho:Y2 W1 base { t with gc:=c,g:=G } ⟨u,v.o,v.ti,v.pp,v.pt⟩ vs vo:=⟨Zp hu hbase,h1.o.2.1,fun k a b=>by
  have:=(GrS.bd hu a).1;have:=(GrS.bd h.o.2.1 b).2;omega,h1.o.2.2.2⟩
 have ho2:=ho.grown hg h1.b h.n1 h.n2 h.n3;refine ⟨⟨hb',ho2,h.n1,h.n2,h.n3,h.hb⟩,(GrP.of_below hb).trans (GrP.of_grown hg (fun g e=>by cases e;exact .inl rfl)),fun k hk c=>?_,rfl,rfl⟩;rcases c with c|c|c
 ·exact .inl c
 ·have:=(GrS.bd hu c).1;omega
 ·exact .inr (.inr c)
theorem QZ (cn N base B:Nat) (pv:Value) (ps:List Int) (b:Bool) (t:Te) (v:Tv) (vg vo:List Value) (w:World) (h:Scr w 35 base B [] t v vg vo) (hbase:base<=w.heap.size) (rk:RtK t cn N) (hp:SlN w pv ps) (hl:ps.length<=1000) (hap:ApF w B v vg vo pv) :
  Calls Tryz.prog 145 #[.pointer (some ⟨B,0,none⟩),pv,.bool b] w fun e w'=>e=.returned (.tuple #[])/\∃ v' vg' vo',Res w w' 35 base B [] v vg vo (ps.foldl (XA b) t) v' vg' vo':=by
 have hfo:∀ j,Hid (j<ps.length->(ps.take (j+1)).foldl (XA b) t=XA b ((ps.take j).foldl (XA b) t) (ps.getD j 0)):=fun j=>fun hj=>by
  rw [List.take_succ_eq_append_getElem hj,List.foldl_append]
  simp [hj]
 obtain ⟨pa,pc,rfl⟩:=hp.shp;have hK:Hid (Res w w 35 base B [] v vg vo ((ps.take 0).foldl (XA b) t) v vg vo):=h.res;have hNw:=fun W=>XaR cn N W (by have:=rk.w.c;omega) (by have:=rk.w.n1;omega)
 unfold Yp at hNw;clear h;go_enter Tryz.func145,Tryz.ntmps145;go_wp2;go_loopw [6] (fun i wr=>∃ (j:Nat) (v':Tv) (vg' vo':List Value),i=.int .i64 j/\j<=ps.length/\Hid (Res w wr 35 base B [] v vg vo ((ps.take j).foldl (XA b) t) v' vg' vo')/\SlN wr (.slice pa ps.length pc) ps/\ApF wr B v' vg' vo' (.slice pa ps.length pc)/\base<=wr.heap.size) (fun i _=>ps.length-(intOf i).toNat)
 case atStart=>exact ⟨0,v,vg,vo,rfl,Nat.zero_le _,hK,hp,hap,hbase⟩
 case round =>
  clear hK hp hap hbase;obtain ⟨j,v',vg',vo',rfl,hj,hK,hp,hap,hbj⟩:=hrel
  by_cases hlt:j<ps.length
  ·have hji:(j:Int)<(ps.length:Int):=by omega
   have hj0:(0:Int)<=(j:Int):=by omega
   have rkj:=RtK.modes b (ps.take j) rk
   have hnx:=fun W2 v2 g2 o2 (r':Res wr W2 35 base B [] v' vg' vo' (XA b ((ps.take j).foldl (XA b) t) (ps.getD j 0)) v2 g2 o2)=>(show Hid (Res w W2 35 base B [] v vg vo ((ps.take (j+1)).foldl (XA b) t) v2 g2 o2)/\SlN W2 (.slice pa ps.length pc) ps/\ApF W2 B v2 g2 o2 (.slice pa ps.length pc)/\base<=W2.heap.size from by
    rw [<- (hfo j).out hlt] at r'
    have hr:=hp.res hap r';exact ⟨hK.out.trans r',hr.1,hr.2,Nat.le_trans hbj r'.g.size⟩)
   have hs:=hK.out.s;generalize (ps.take j).foldl (XA b) t=t' at *;obtain ⟨_,_,hpe,hpc,hpn,hpx⟩:=id hp
   obtain ⟨pb,po,rfl,hcc⟩:∃ b off,pa=some ⟨b,off,none⟩/\wr.cell? ⟨b,off+j,none⟩=some (.int .i64 (ps.getD j 0)):=by
    rcases hpx with hz|⟨b',off',he,_,hc⟩
    ·rw [hz] at hlt;simp at hlt
    ·injection hpe with e1
     exact ⟨b',off',by rw [e1];exact he,hc j hlt⟩
   clear hpe hpc hpn hpx hp hap hfo;generalize ps.getD j 0=y at *;have rkw:=rkj.w;have c14:wr.cell? ⟨B,14,none⟩=some (.bool t'.wrap):=hs.cell 14;have z14:wr.frozen? ⟨B,14,none⟩=false:=hs.frozen 14;have c16:wr.cell? ⟨B,16,none⟩=some (.bool t'.hid):=hs.cell 16;have z16:wr.frozen? ⟨B,16,none⟩=false:=hs.frozen 16;clear hK rkj rk
   by_cases y7:y=7
   ·subst y7
    obtain ⟨k1,k2,k3,k4⟩:=hnx _ _ _ _ (show Res wr (wr.setCell ⟨B,14,none⟩ (.bool b)) 35 base B [] v' vg' vo' (XA b t' 7) v' vg' vo' from hs.put (sCg B [.bool b] 14 wr) { t' with wrap:=b } (sCh B 35 [.bool b] 14 wr _ hs.b) rfl rfl rfl rfl rfl);clear hnx hs rkw hNw;go_wp2;go_roundw
    case rel=>exact ⟨j+1,_,_,_,by go_num,by omega,k1,k2,k3,k4⟩
    case measure=>simp [intOf];omega
   by_cases y25:y=25
   ·subst y25
    obtain ⟨k1,k2,k3,k4⟩:=hnx _ _ _ _ (show Res wr (wr.setCell ⟨B,16,none⟩ (.bool (!b))) 35 base B [] v' vg' vo' (XA b t' 25) v' vg' vo' from hs.put (sCg B [.bool (!b)] 16 wr) { t' with hid:=!b } (sCh B 35 [.bool (!b)] 16 wr _ hs.b) rfl rfl rfl rfl rfl);clear hnx hs rkw hNw y7;go_wp2;go_roundw
    case rel=>exact ⟨j+1,_,_,_,by go_num,by omega,k1,k2,k3,k4⟩
    case measure=>simp [intOf];omega
   by_cases y10:y=1049
   ·subst y10
    clear y7 y25 c14 z14 c16 z16;obtain ⟨a,ha⟩:∃ a,Hid (t'.away=a):=⟨_,rfl⟩;have c15:wr.cell? ⟨B,15,none⟩=some (.bool a):=by rw [<- ha.out];exact hs.cell 15
    have z15:wr.frozen? ⟨B,15,none⟩=false:=hs.frozen 15
    by_cases hab:a=b
    ·subst hab
     have hV:XA a t' 1049=t':=by unfold XA;rw [if_neg (by omega),if_neg (by omega),if_pos rfl,if_pos ha.out]
     rw [hV] at hnx
     obtain ⟨k1,k2,k3,k4⟩:=hnx _ _ _ _ hs.res;clear hnx hs rkw hNw ha hV z15
     cases a
     ·go_wp2
      go_roundw
      case rel=>exact ⟨j+1,_,_,_,by go_num,by omega,k1,k2,k3,k4⟩
      case measure=>simp [intOf];omega
     ·go_wp2
      go_roundw
      case rel=>exact ⟨j+1,_,_,_,by go_num,by omega,k1,k2,k3,k4⟩
      case measure=>simp [intOf];omega
    have hV:XA b t' 1049={ JT { t' with away:=b } with g:=if b=true then XB cn N else t'.o }:=by
     unfold XA JT;rw [if_neg (by omega),if_neg (by omega),if_pos rfl,if_neg (by rw [ha.out];exact hab),rkw.gc,rkw.n,Int.toNat_natCast]
    rw [hV] at hnx
    have hgc:=rkw.gc;have hgl:=rkw.n;have hoc:t'.gc=t'.oc:=by rw [rkw.gc,rkw.oc]
    clear hV;obtain ⟨ga,gcp,hvg⟩:=sGs (SlG.of_own hs.o.1.g);obtain ⟨oa,ocp,hvo⟩:=sGs (SlG.of_own hs.o.2.1.g);obtain ⟨q1,q2,q3,q4,q5⟩:=v';simp only at hvg hvo;subst hvg;subst hvo;have c0:wr.cell? ⟨B,0,none⟩=some (.int .i64 t'.gc):=hs.cell 0;have c1:wr.cell? ⟨B,1,none⟩=some (.slice ga t'.g.length gcp):=hs.cell 1;have c2:wr.cell? ⟨B,2,none⟩=some (.int .i64 t'.oc):=hs.cell 2;have c3:wr.cell? ⟨B,3,none⟩=some (.slice oa t'.o.length ocp):=hs.cell 3;have z0:wr.frozen? ⟨B,0,none⟩=false:=hs.frozen 0;have z1:wr.frozen? ⟨B,1,none⟩=false:=hs.frozen 1;have z2:wr.frozen? ⟨B,2,none⟩=false:=hs.frozen 2;have z3:wr.frozen? ⟨B,3,none⟩=false:=hs.frozen 3;have hlt':=hs.lt;have hnB:wr.heap.size≠B:=by omega
    have hnB':B≠wr.heap.size:=by omega
    have p2:=hs.swap (Xf (sCg B [.int .i64 t'.oc,.slice oa t'.o.length ocp] 0 wr) (sCg B [.int .i64 t'.gc,.slice ga t'.g.length gcp] 2 _)) (sCh B 35 [.int .i64 t'.gc,.slice ga t'.g.length gcp] 2 _ _ (sCh B 35 [.int .i64 t'.oc,.slice oa t'.o.length ocp] 0 _ _ hs.b));have p4:=(p2.trans (p2.s.put (sCg B [.bool b] 15 _) { JT t' with away:=b } (sCh B 35 [.bool b] 15 _ _ p2.s.b) rfl rfl rfl rfl rfl)).below (Xd _ (Obj.cells #[.int .i64 t'.gc,.slice ga t'.g.length gcp] 26))
    have hN3:∀ W,Calls Tryz.prog 138 #[.int .i64 t'.gc,.int .i64 (t'.g.length:Int)] W (fun e w'=>∃ u,e=.returned (.agg #[.int .i64 t'.gc,u])/\Yu w' W.heap.size w'.heap.size u (XB cn N)/\Below W.heap.size W w'):=by
     rw [hgc,hgl]
     exact hNw
    clear p2 hs hNw;replace hoc:=(show Hid _ from hoc);replace hgc:=(show Hid _ from hgc);replace hgl:=(show Hid _ from hgl)
    cases b
    ·obtain rfl:a=true:=by simpa using hab
     obtain ⟨k1,k2,k3,k4⟩:=hnx _ _ _ _ p4;clear hab ha rkw hN3 hnx p4;go_wp2;go_roundw
     case rel=>exact ⟨j+1,_,_,_,by go_num,by omega,k1,k2,k3,k4⟩
     case measure=>simp [intOf];omega
    ·obtain rfl:a=false:=by simpa using hab
     have e:({ JT { t' with away:=true } with gc:=t'.gc,g:=XB cn N }:Te)={ JT { t' with away:=true } with g:=if true=true then XB cn N else t'.o }:=by rw [hoc.out];rfl
     rw [<- e] at hnx
     clear hab ha rkw e;replace hnx:=(show Hid _ from hnx);replace p4:=(show Hid _ from p4);go_wp2_with fail;refine (hN3 _).mono ?_;rintro e w5 ⟨u,rfl,hO,hb⟩;have hs5:=p4.out.s.below hb;have d0:w5.cell? ⟨B,0,none⟩=some (.int .i64 t'.oc):=hs5.cell 0;have d1:w5.cell? ⟨B,1,none⟩=some (.slice oa t'.o.length ocp):=hs5.cell 1;have y0:w5.frozen? ⟨B,0,none⟩=false:=hs5.frozen 0;have y1:w5.frozen? ⟨B,1,none⟩=false:=hs5.frozen 1;obtain ⟨ua,ucp,rfl⟩:=sGs (SlG.of_own hO);obtain ⟨vs,hu⟩:=hO.v;have p5:=p4.out.trans (Scr.grid p4.out.s (Nat.le_trans hbj p4.out.g.size) hb (.slice ua (XB cn N).length ucp) vs t'.gc (XB cn N) hu (sCg B [.int .i64 t'.gc,.slice ua (XB cn N).length ucp] 0 w5) (sCh B 35 [.int .i64 t'.gc,.slice ua (XB cn N).length ucp] 0 w5 _ hs5.b));obtain ⟨k1,k2,k3,k4⟩:=hnx.out _ _ _ _ p5;clear hN3 hnx p4 p5 hs5 hu hb hO;go_wp2;go_roundw
     case rel=>exact ⟨j+1,_,_,_,by go_num,by omega,k1,k2,k3,k4⟩
     case measure=>simp [intOf];omega
   have hV:XA b t' y=t':=by unfold XA;rw [if_neg y7,if_neg y25,if_neg y10]
   rw [hV] at hnx
   have q7:(y==7)=false:=by simp [y7]
   have q25:(y==25)=false:=by simp [y25]
   have q10:(y==1049)=false:=by simp [y10]
   obtain ⟨k1,k2,k3,k4⟩:=hnx _ _ _ _ hs.res;clear hnx hs rkw hNw hV y7 y25 y10 c14 z14 c16 z16;go_wp2;go_roundw
   case rel=>exact ⟨j+1,_,_,_,by go_num,by omega,k1,k2,k3,k4⟩
   case measure=>simp [intOf];omega
  ·have hjn:¬ (j:Int)<(ps.length:Int):=by omega
   have hF:=(show Hid (Res w wr 35 base B [] v vg vo (ps.foldl (XA b) t) v' vg' vo') from by
    have e:ps.take j=ps:=List.take_of_length_le (by omega);rw [<- e]
    exact hK.out)
   clear hK hp hap hfo hNw;go_wp2;refine be ?_;exact ⟨rfl,_,_,_,hF.out⟩
