import Derived.Test.YtfpopnkhmjkdlaaGreatDoorP33
set_option maxRecDepth 20000
set_option maxHeartbeats 16000000
namespace Go.Proofs.YtfpopnkhmjkdlaaGreatDoor
open Go.ChangeShapes Go.WideShapes Go.ChangeAt Go.RowKit
theorem Xgz (cn N base B:Nat) (x0 x1 x2 x3 x4 x5 pv x:Value) (k r m:Int) (t:Te) (v:Tv) (vg vo:List Value) (w:World) (hSp:Xo w) (hSb:0<base) (h:Scr w 98 base B [x0,x1,x2,x3,x4,x5] t v vg vo) (hbase:base<=w.heap.size) (rk:RtK t cn N) (hwr:Hid (true=t.wrap)) (hfu:Hid (true=t.full)) (h1:1<=wdV r) (h2:wdV r<=t.gc) :
  Calls Tryz.prog 122 #[.pointer (some ⟨B,0,none⟩),.agg (acA k r pv m x)] w fun e w'=>e=.returned (.tuple #[])/\∃ v' vg' vo',Res w w' 98 base B [x0,x1,x2,x3,x4,x5] v vg vo (Yy { Xm t with col:=0 } r) v' vg' vo':=by
 obtain ⟨W,hW⟩:∃ W,W=w.alloc (Obj.cells #[.int .i64 k,.int .i64 r,pv,.int .i64 m,x] 37):=⟨_,rfl⟩;have hb0:Below w.heap.size w W:=by rw [hW];exact Xd _ _
 have hA:Xj W w.heap.size 37 [.int .i64 k,.int .i64 r,pv,.int .i64 m,x]:=by rw [hW];exact heap_alloc_new w _
 have hapA:ApF W B v vg vo (.slice (some ⟨w.heap.size,0,none⟩) 0 0):=fun g e=>by
  obtain rfl:w.heap.size=g:=by simpa [Value.ownBlock] using e
  refine ⟨hA.lt,fun c=>?_⟩;rcases c with c|c|c
  ·have:=h.lt;omega
  ·have:=(GrS.bd h.o.1 c).2;omega
  ·have:=(GrS.bd h.o.2.1 c).2;omega
 have hof:=Res.of_below h hb0;have hbase0:base<=W.heap.size:=Nat.le_trans hbase hb0.size;have hA1:W.cell? ⟨w.heap.size,1,none⟩=some (.int .i64 r):=cAl hA 1;have hSp0:=hSp.below hb0 hSp.lt;have hwd:=Yr r W hSp0;replace hW:=(show Hid _ from hW);obtain ⟨c,hc⟩:∃ c,Hid (wdV r=c):=⟨_,rfl⟩;rw [hc.out] at hwd
 have hgc:=rk.w.gc;have hcc:=rk.w.c;have hcol:=rk.w.col;unfold acA;have hcb:1<=c/\c<=2:=by have:=XG r;have:=hc.out;omega
 have q0:(c==0)=false:=by simp;omega
 have hcg:c<=t.gc:=by have:=hc.out;omega
 have q1:decide ((cn:Int)<c)=false:=decide_eq_false (by omega);go_enter Tryz.func122,Tryz.ntmps122;refine wp_seq_k (fun K hK=>?_);have hH:=(show Hid _ from hK);clear hK;go_wp2;refine hH.out _ _ ?_;rw [<- hW.out]
 clear hH hW;generalize w.heap.size=A at *;go_wp2_with fail;refine hwd.mono ?_;rintro e W0 ⟨rfl,hbw⟩;clear hwd hA1;replace hA:=hA.below hbw;replace hapA:=hapA.mono hbw.size;replace hof:=hof.below hbw;replace hbase0:=Nat.le_trans hbase0 hbw.size;replace hSp0:=hSp0.below hbw hSp0.lt;have hd0:=bdr W0;have cf:∀ W,Below W0.heap.size W0 W->W.cell? ⟨B,20,none⟩=some (.bool true)/\W.cell? ⟨B,19,none⟩=some (.bool true)/\W.cell? ⟨B,11,none⟩=some (.int .i64 t.col)/\W.cell? ⟨B,6,none⟩=some (.int .i64 t.gc):=fun W hb=>⟨by rw [(hof.s.below hb).cell 20];show some (Value.bool t.wrap)=_;rw [<- hwr.out],by rw [(hof.s.below hb).cell 19];show some (Value.bool t.full)=_;rw [<- hfu.out],(hof.s.below hb).cell 11,(hof.s.below hb).cell 6⟩
 have d6:W0.cell? ⟨B,6,none⟩=some (.int .i64 t.gc):=hof.s.cell 6;go_wp2;clear d6;refine wp_region_noPanic ?_;refine wp_region_held_drew (S:=(fun W=>W.cell? ⟨B,20,none⟩=some (.bool true)/\W.cell? ⟨B,19,none⟩=some (.bool true)/\W.cell? ⟨B,11,none⟩=some (.int .i64 t.col)/\W.cell? ⟨B,6,none⟩=some (.int .i64 t.gc))) (by kernel_rfl) (cf _ hd0) (fun Hh=>?_);refine tK 0 ?_;refine tK 1 ?_;refine tK 2 ?_;refine tK 3 ?_;refine tK 4 ?_;refine tK 5 ?_;refine tK 6 ?_;refine tK 7 ?_;refine tK 8 ?_;refine tK 9 ?_;refine tK 10 ?_;refine tK 11 ?_;refine sK 12 ?_;refine sK 13 ?_;refine sK 14 ?_;refine sK 15 ?_;refine sK 16 ?_;refine sK 17 ?_;refine sK 18 ?_;refine sK 19 ?_;refine sK 20 ?_;refine sK 21 ?_;refine sK 22 ?_;refine sK 23 ?_;refine sK 24 ?_;refine sK 25 ?_;refine tK 26 ?_;refine tk 27 ?_
 (try simp only [Act.put,ZA,ZB,ZC,ZD,ZE,ZF])
 refine dn ?_;clear cf;have hnl:=JN cn N base B x0 x1 x2 x3 x4 x5 t v vg vo W0.drew (hof.s.below hd0) (Nat.le_trans hbase0 hd0.size) rk.w;replace hof:=hof.below hd0;replace hA:=hA.below hd0;replace hapA:=hapA.mono hd0.size;replace hSp0:=hSp0.below hd0 hSp0.lt;replace hbase0:=Nat.le_trans hbase0 hd0.size;go_wp2_with fail;refine hnl.mono ?_;rintro e W1 ⟨rfl,v1,g1,o1,hN1⟩;have hR1:=(show Hid _ from hof.trans hN1);replace hA:=hA.grp hN1.g (hapA A rfl).2;replace hapA:ApF W1 B v1 g1 o1 (.slice (some ⟨A,0,none⟩) 0 0):=fun g e=>⟨Nat.lt_of_lt_of_le (hapA g e).1 hN1.g.size,fun c=>(hapA g e).2 (hN1.c g (hapA g e).1 c)⟩
 have hSp1:=hSp0.below (hof.s.bel hbase0 hN1) hSb;have hb1:=Nat.le_trans hbase0 hN1.g.size;have kk:=rk.print1;obtain ⟨t1,ht1⟩:∃ t1:Te,t1={ Xm t with col:=0 }:=⟨_,rfl⟩;rw [<- ht1] at hR1
 have hg1:t1.gc=(cn:Int):=by rw [ht1];exact kk.w.gc
 have k1col:0<=t1.col/\t1.col<cn:=by rw [ht1];exact kk.w.col
 have k1row:0<=t1.row/\t1.row<N:=by rw [ht1];exact kk.w.row
 have k1n:t1.g.length=N:=by rw [ht1];exact kk.w.n
 have k1gx:∀ i,i<N->(Xb t1.g i).length=cn:=by rw [ht1];exact kk.w.gx
 have k1w:∀ q,0<=q/\q+c<=cn->X5 (Xb t1.g t1.row.toNat) q r t1.st=X6 (Xb t1.g t1.row.toNat) q.toNat r t1.st:=fun q hq=>by rw [ht1];exact kk.written _ q r kk.w.row (by rw [hc.out];exact hq) (by have:=hc.out;omega)
 replace ht1:=(show Hid _ from ht1);clear kk hnl hof hN1 hSp0 hbase0 hd0 h hbase rk hSp hb0 hbw;have c6:W1.cell? ⟨B,6,none⟩=some (.int .i64 (cn:Int)):=by rw [<- hg1];exact hR1.out.s.cell 6
 have c11:W1.cell? ⟨B,11,none⟩=some (.int .i64 t1.col):=hR1.out.s.cell 11;have z11:W1.frozen? ⟨B,11,none⟩=false:=hR1.out.s.frozen 11;obtain ⟨q,hq⟩:∃ q,Hid (min t1.col (t1.gc-c)=q):=⟨_,rfl⟩;have hq2:min t1.col ((cn:Int)-c)=q:=by have:=hq.out;omega
 have hqb:0<=q/\q+c<=cn:=by have:=k1col;omega
 have hws:IntKind.i64.wrap ((cn:Int)-c)=(cn:Int)-c:=by simp [IntKind.wrap,IntKind.bits,IntKind.signed];omega
 have p5:=(hR1.out.s.put (sCg B [.int .i64 q] 11 W1) { t1 with col:=q } (sCh B 98 [.int .i64 q] 11 W1 _ hR1.out.s.b) rfl rfl rfl rfl rfl).below (bdr _);have s6:(W1.setCell ⟨B,11,none⟩ (.int .i64 q)).drew.cell? ⟨B,6,none⟩=some (.int .i64 (cn:Int)):=by rw [<- hg1];exact p5.s.cell 6
 replace p5:=(show Hid _ from p5);go_wp2;refine wp_region_noPanic ?_;refine wp_region_held_drew (S:=(fun W=>W.cell? ⟨B,6,none⟩=some (.int .i64 (cn:Int)))) (by kernel_rfl) (c6) (fun Hh=>?_);refine tK 0 ?_;refine tK 1 ?_;refine tK 2 ?_;refine tK 3 ?_;refine tK 4 ?_;refine tK 6 ?_;refine tK 7 ?_;refine tK 8 ?_;refine tK 9 ?_;refine tK 10 ?_;refine tK 11 ?_;refine tK 12 ?_;refine tk 13 ?_;refine rd 5 fun K hK=>?_
 go_simp;refine hK.out _ _ (Hh) (fun Hh=>?_);clear hK K;refine tK 14 ?_;refine tK 15 ?_;refine tK 16 ?_;refine tk 17 ?_;refine rd 18 fun K hK=>?_
 go_simp;refine hK.out _ _ (s6) (fun Hh=>?_);clear hK K
 (try simp only [Act.put,ZA,ZB,ZC,ZD,ZE,ZF])
 refine dn ?_;obtain ⟨W2,hW2⟩:∃ W2,W2=(W1.setCell ⟨B,11,none⟩ (.int .i64 q)).drew:=⟨_,rfl⟩;rw [<- hW2]
 have P5:Res W1 W2 98 base B [x0,x1,x2,x3,x4,x5] v1 g1 o1 { t1 with col:=q } v1 g1 o1:=by rw [hW2];exact p5.out
 clear hW2 p5 s6 c6 c11 z11;have hR2:=(show Hid _ from hR1.out.trans P5);have hA2:=hA.grp P5.g (hapA A rfl).2;have hap2:ApF W2 B v1 g1 o1 (.slice (some ⟨A,0,none⟩) 0 0):=fun g e=>⟨Nat.lt_of_lt_of_le (hapA g e).1 P5.g.size,fun c=>(hapA g e).2 (P5.c g (hapA g e).1 c)⟩
 have hSp2:=hSp1.below (hR1.out.s.bel hb1 P5) hSb;have hb2:=Nat.le_trans hb1 P5.g.size;clear hA hapA hSp1 P5 hR1;obtain ⟨i,hri⟩:∃ i:Nat,t1.row=(i:Int):=⟨t1.row.toNat,by have:=k1row;omega⟩;have hi:i<N:=by have:=k1row;omega
 have hN:=k1n;have h2s:=hR2.out.s;rcases h2s.o.1.shape with ⟨_,hs⟩|⟨g,cap,hvg,hbg,hlg,hcap⟩
 ·rw [hs] at hN;simp at hN;omega
 rw [hN] at hvg hcap
 have ho:=h2s.o.1;have hro:=ho.2.2.1 i (by show i<t1.g.length;omega);have hvl:=ho.1;rw [hvg] at ho
 have hci:=ho.cell hN i hi;obtain ⟨ra,rn,rc,hre⟩:=hro.isSl;rw [hre] at hci hro
 have hgx:=k1gx i hi;have hsl:SlC W2 (.slice ra rn rc) (Xb t1.g i):=SlC.of_own hro;have hlt:=h2s.lt;have cf:∀ W,Below W2.heap.size W2 W->W.cell? ⟨B,7,none⟩=some (.slice (some ⟨g,0,none⟩) N cap)/\W.cell? ⟨B,10,none⟩=some (.int .i64 (i:Int))/\W.cell? ⟨B,11,none⟩=some (.int .i64 q)/\W.cell? ⟨A,1,none⟩=some (.int .i64 r)/\W.cell? ⟨B,12,none⟩=some (.int .i64 t1.st.fore)/\W.cell? ⟨B,13,none⟩=some (.int .i64 t1.st.back)/\W.cell? ⟨B,14,none⟩=some (.bool t1.st.bold)/\W.cell? ⟨B,15,none⟩=some (.bool t1.st.under)/\W.cell? ⟨B,16,none⟩=some (.bool t1.st.turned):=fun W hb=>⟨by rw [(h2s.below hb).cell 7];show some v1.g=_;rw [hvg],by rw [(h2s.below hb).cell 10];show some (Value.int .i64 t1.row)=_;rw [hri],(h2s.below hb).cell 11,cAl (hA2.below hb) 1,(h2s.below hb).cell 12,(h2s.below hb).cell 13,(h2s.below hb).cell 14,(h2s.below hb).cell 15,(h2s.below hb).cell 16⟩
 have ci:∀ W,Below W2.heap.size W2 W->W.cell? ⟨g,i,none⟩=some (.slice ra rn rc):=fun W hb=>(hb.cell (p:=⟨g,i,none⟩) hlg).trans hci
 have zi:∀ W,Below W2.heap.size W2 W->W.frozen? ⟨g,i,none⟩=false:=fun W hb=>(ho.below hb).frozen hN i
 have hcd:=fun W (hb:Below W2.heap.size W2 W)=>Zr (.slice ra rn rc) (Xb t1.g i) q r t1.st W (hSp2.below hb hSp2.lt) (hsl.below hb) (by omega)
 obtain ⟨R,hR⟩:∃ R,Hid (X5 (Xb t1.g i) q r t1.st=R):=⟨_,rfl⟩;simp only [hR.out] at hcd;have hfin:∀ W u,Below W2.heap.size W2 W->Xl W W2.heap.size u R->Hid (Res W2 (W.setCell ⟨g,i,none⟩ u) 98 base B [x0,x1,x2,x3,x4,x5] v1 g1 o1 { ({ t1 with col:=q }:Te) with g:=t1.g.set i R } v1 (g1.set i u) o1):=fun W u hb hu=>h2s.row hb2 hb hvg hN i hi u R hu
 have hsc:∀ W u,Below W2.heap.size W2 W->(W.setCell ⟨g,i,none⟩ u).cell? ⟨B,7,none⟩=some (.slice (some ⟨g,0,none⟩) N cap)/\(W.setCell ⟨g,i,none⟩ u).cell? ⟨B,10,none⟩=some (.int .i64 (i:Int))/\(W.setCell ⟨g,i,none⟩ u).cell? ⟨B,11,none⟩=some (.int .i64 q)/\(W.setCell ⟨g,i,none⟩ u).cell? ⟨A,1,none⟩=some (.int .i64 r)/\(W.setCell ⟨g,i,none⟩ u).cell? ⟨B,12,none⟩=some (.int .i64 t1.st.fore)/\(W.setCell ⟨g,i,none⟩ u).cell? ⟨B,13,none⟩=some (.int .i64 t1.st.back)/\(W.setCell ⟨g,i,none⟩ u).cell? ⟨B,14,none⟩=some (.bool t1.st.bold)/\(W.setCell ⟨g,i,none⟩ u).cell? ⟨B,15,none⟩=some (.bool t1.st.under)/\(W.setCell ⟨g,i,none⟩ u).cell? ⟨B,16,none⟩=some (.bool t1.st.turned):=fun W u hb=>by
  have hne:g≠B:=fun e=>YA h2s.o.1 h2s.b h2s.n1 h2s.n2 (.inl (by rw [hvg,<- e];rfl))
  have hnA:g≠A:=fun e=>(hap2 A rfl).2 (.inr (.inl (.inl (by rw [hvg,<- e];rfl))))
  have hk:∀ k,(W.setCell ⟨g,i,none⟩ u).cell? ⟨B,k,none⟩=W.cell? ⟨B,k,none⟩:=fun k=>World.cell?_of_block (w:=W) ((sCc W g i u).block B (Nat.lt_of_lt_of_le hlt hb.size) (fun e=>hne (Option.some.inj e).symm))
  have hkA:∀ k,(W.setCell ⟨g,i,none⟩ u).cell? ⟨A,k,none⟩=W.cell? ⟨A,k,none⟩:=fun k=>World.cell?_of_block (w:=W) ((sCc W g i u).block A (Nat.lt_of_lt_of_le hA2.lt hb.size) (fun e=>hnA (Option.some.inj e).symm))
  rw [hk,hk,hk,hkA,hk,hk,hk,hk,hk]
  exact cf W hb
 have hRR:Hid (R=X6 (Xb t1.g t1.row.toNat) (min t1.col (t1.gc-wdV r)).toNat r t1.st):=by
  show _=_
  have e:=k1w q hqb;have e1:=hR.out;rw [hri,Int.toNat_natCast] at e
  rw [<- e1,e,hc.out,hq.out,hri,Int.toNat_natCast]
 unfold stV at hcd;have hd:=bdr W2;have i0:(0:Int)<=(i:Int):=by omega
 have i1:(i:Int)<(N:Int):=by omega
 clear h2s ho hro hre hsl hgx hSp2 hvg hbg hcap hlt hvl hci hR hi hlg hA2 hap2 hN;go_wp2;refine wp_region_noPanic ?_;refine wp_region_held_drew (S:=(fun W=>W.cell? ⟨B,7,none⟩=some (.slice (some ⟨g,0,none⟩) N cap)/\W.cell? ⟨B,10,none⟩=some (.int .i64 (i:Int))/\W.cell? ⟨B,11,none⟩=some (.int .i64 q)/\W.cell? ⟨A,1,none⟩=some (.int .i64 r)/\W.cell? ⟨B,12,none⟩=some (.int .i64 t1.st.fore)/\W.cell? ⟨B,13,none⟩=some (.int .i64 t1.st.back)/\W.cell? ⟨B,14,none⟩=some (.bool t1.st.bold)/\W.cell? ⟨B,15,none⟩=some (.bool t1.st.under)/\W.cell? ⟨B,16,none⟩=some (.bool t1.st.turned))) (by kernel_rfl) (cf _ hd) (fun Hh=>?_);have di:=ci _ hd;refine tK 0 ?_;refine tK 1 ?_;refine tK 2 ?_;refine tK 3 ?_;refine tK 4 ?_;refine tK 5 ?_;refine tK 6 ?_;refine tK 7 ?_;refine tK 8 ?_;refine tK 9 ?_;refine tK 10 ?_;refine tK 11 ?_;refine tK 12 ?_;refine tK 13 ?_;refine tK 14 ?_;refine tK 15 ?_;refine tK 16 ?_;refine tK 17 ?_;refine tK 18 ?_;refine tK 19 ?_;refine tK 20 ?_;refine tK 21 ?_;refine tK 22 ?_;refine tK 24 ?_;refine tK 25 ?_;refine tK 26 ?_;refine tK 27 ?_;refine tK 28 ?_;refine tK 29 ?_;refine tK 30 ?_;refine tK 31 ?_;refine tK 32 ?_;refine tK 33 ?_;refine tK 34 ?_;refine tk 35 ?_;refine rd 23 fun K hK=>?_
 go_simp;refine hK.out _ _ (Hh) (fun Hh=>?_);clear hK K;refine rd 36 fun K hK=>?_
 go_simp;refine (hcd _ hd).mono ?_;rintro e w6 ⟨u,rfl,hu,hbx⟩;have hu2:=hu.low hd.size;replace hd:=hd.trans (hbx.mono hd.size);obtain ⟨ua,un,uc,hue⟩:=hu2.isSl;subst hue;have di:=ci _ hd;have zj:=zi _ hd;go_wp2_with fail;refine hK.out _ _ (cf _ hd) (fun Hh=>?_);clear hK K;refine tk 37 ?_;refine rd 38 fun K hK=>?_
 go_simp;refine hK.out _ _ (hsc _ _ hd) (fun Hh=>?_);clear hK K
 (try simp only [Act.put,ZA,ZB,ZC,ZD,ZE,ZF])
 refine dn ?_;obtain ⟨W3,hW3⟩:∃ W3,W3=w6.setCell ⟨g,i,none⟩ (.slice ua un uc):=⟨_,rfl⟩;rw [<- hW3]
 have hR3:=(show Hid _ from hR2.out.trans (by have:=(hfin _ _ hd hu2).out;rw [<- hW3] at this;exact this));clear hfin hW3 hR2 di zj hd hu2 hcd hsc cf ci zi;have c11:W3.cell? ⟨B,11,none⟩=some (.int .i64 q):=hR3.out.s.cell 11;have z11:W3.frozen? ⟨B,11,none⟩=false:=hR3.out.s.frozen 11;obtain ⟨q',hq'⟩:∃ q',Hid (q+c=q'):=⟨_,rfl⟩;have hwa:IntKind.i64.wrap (q+c)=q':=by have:=hq'.out;simp [IntKind.wrap,IntKind.bits,IntKind.signed];omega
 have p7:=(show Hid _ from hR3.out.trans (hR3.out.s.put (sCg B [.int .i64 q'] 11 W3) { ({ t1 with col:=q' }:Te) with g:=t1.g.set i R } (sCh B 98 [.int .i64 q'] 11 W3 _ hR3.out.s.b) rfl rfl rfl rfl rfl));obtain ⟨W4,hW4⟩:∃ W4,W4=W3.setCell ⟨B,11,none⟩ (.int .i64 q'):=⟨_,rfl⟩;have hR4:Hid (Res w W4 98 base B [x0,x1,x2,x3,x4,x5] v vg vo { ({ t1 with col:=q' }:Te) with g:=t1.g.set i R } v1 (g1.set i (.slice ua un uc)) o1):=by rw [hW4];exact p7.out
 clear p7 hR3;have d11:W4.cell? ⟨B,11,none⟩=some (.int .i64 q'):=hR4.out.s.cell 11;have d19:W4.cell? ⟨B,19,none⟩=some (.bool t1.full):=hR4.out.s.cell 19;have y19:W4.frozen? ⟨B,19,none⟩=false:=hR4.out.s.frozen 19;obtain ⟨b,hb⟩:∃ b,Hid (decide ((cn:Int)-1<q')=b):=⟨_,rfl⟩;have hb':decide ((cn:Int)-1<q')=b:=hb.out;have hla:=Yd B (cn:Int) W4.drew (by rw [<- hg1];exact hR4.out.s.cell 6) (by omega);have p8:=(show Hid _ from (hR4.out.trans (hR4.out.s.put (sCg B [.bool b] 19 W4) { ({ t1 with col:=q',full:=b }:Te) with g:=t1.g.set i R } (sCh B 98 [.bool b] 19 W4 _ hR4.out.s.b) rfl rfl rfl rfl rfl)).below (bdr _));have s11:(W4.setCell ⟨B,19,none⟩ (.bool b)).drew.cell? ⟨B,11,none⟩=some (.int .i64 q'):=p8.out.s.cell 11;replace hW4:=(show Hid _ from hW4);go_wp2_with fail;rw [<- hW4.out]
 clear hW4 c11 z11;go_wp2;refine wp_region_noPanic ?_;refine wp_region_held_drew (S:=(fun W=>W.cell? ⟨B,11,none⟩=some (.int .i64 q'))) (by kernel_rfl) (d11) (fun Hh=>?_);refine tK 0 ?_;refine tK 1 ?_;refine tK 2 ?_;refine tK 3 ?_;refine tK 4 ?_;refine tK 5 ?_;refine tk 6 ?_;refine rd 7 fun K hK=>?_
 go_simp;refine hla.mono ?_;rintro e wk ⟨rfl,hw⟩;subst hw;go_wp2_with fail;refine hK.out _ _ (d11) (fun Hh=>?_);clear hK K;refine tK 8 ?_;refine tK 9 ?_;refine tK 10 ?_;refine tk 11 ?_;refine rd 12 fun K hK=>?_
 go_simp;refine hK.out _ _ (s11) (fun Hh=>?_);clear hK K
 (try simp only [Act.put,ZA,ZB,ZC,ZD,ZE,ZF])
 refine dn ?_;obtain ⟨W5,hW5⟩:∃ W5,W5=(W4.setCell ⟨B,19,none⟩ (.bool b)).drew:=⟨_,rfl⟩;rw [<- hW5]
 have hR5:Hid (Res w W5 98 base B [x0,x1,x2,x3,x4,x5] v vg vo { ({ t1 with col:=q',full:=b }:Te) with g:=t1.g.set i R } v1 (g1.set i (.slice ua un uc)) o1):=by rw [hW5];exact p8.out
 clear p8 hW5 hR4 d11 d19 y19 s11 hla;have d11:W5.cell? ⟨B,11,none⟩=some (.int .i64 q'):=hR5.out.s.cell 11;have y11:W5.frozen? ⟨B,11,none⟩=false:=hR5.out.s.frozen 11;have hla:=Yd B (cn:Int) W5.drew (by rw [<- hg1];exact hR5.out.s.cell 6) (by omega);obtain ⟨q2,hq3⟩:∃ q2,Hid (min q' ((cn:Int)-1)=q2):=⟨_,rfl⟩;have hq4:min q' ((cn:Int)-1)=q2:=hq3.out;have p9:=(show Hid _ from (hR5.out.trans (hR5.out.s.put (sCg B [.int .i64 q2] 11 W5) { ({ t1 with col:=q2,full:=b }:Te) with g:=t1.g.set i R } (sCh B 98 [.int .i64 q2] 11 W5 _ hR5.out.s.b) rfl rfl rfl rfl rfl)).below (bdr _))
 have hF:Hid (Res w (W5.setCell ⟨B,11,none⟩ (.int .i64 q2)).drew 98 base B [x0,x1,x2,x3,x4,x5] v vg vo (Yy t1 r) v1 (g1.set i (.slice ua un uc)) o1):=by
  have e:Yy t1 r={ ({ t1 with col:=q2,full:=b }:Te) with g:=t1.g.set i R }:=by
   unfold Yy Ka;rw [<- hRR.out,hc.out,hq.out,hq'.out,hg1,hq4,hb',show t1.row.toNat=i by omega]
  show Res _ _ _ _ _ _ _ _ _ _ _ _ _
  rw [e]
  exact p9.out
 clear p9 hR5 hRR;go_wp2;refine wp_region_noPanic ?_;refine wp_region_held_drew (S:=(fun _=>True)) (by kernel_rfl) (trivial) (fun Hh=>?_);refine tK 0 ?_;refine tK 1 ?_;refine tK 2 ?_;refine tK 3 ?_;refine tK 4 ?_;refine tk 6 ?_;refine rd2 5 7 (fun K hK=>?_) fun K hK=>?_
 ·go_simp
  refine hK.out _ _ (trivial) (fun Hh=>?_);clear hK K;refine rd 7 fun K hK=>?_
  go_simp;refine hla.mono ?_;rintro e wk ⟨rfl,hw⟩;subst hw;go_wp2_with fail;refine hK.out _ _ (trivial) (fun Hh=>?_);clear hK K;refine tK 8 ?_;refine tK 9 ?_;refine tK 10 ?_;refine tk 11 ?_;refine rd 12 fun K hK=>?_
  go_simp;refine hK.out _ _ (trivial) (fun Hh=>?_);clear hK K
  (try simp only [Act.put,ZA,ZB,ZC,ZD,ZE,ZF])
  refine dn ?_;go_wp2;refine be ?_;have ht2:=ht1.out;subst ht2;exact ⟨rfl,_,_,_,hF.out⟩
 ·go_simp
  refine hla.mono ?_;rintro e wk ⟨rfl,hw⟩;subst hw;go_wp2_with fail;refine hK.out _ _ (trivial) (fun Hh=>?_);clear hK K;refine rd 5 fun K hK=>?_
  go_simp;refine hK.out _ _ (trivial) (fun Hh=>?_);clear hK K;refine tK 8 ?_;refine tK 9 ?_;refine tK 10 ?_;refine tk 11 ?_;refine rd 12 fun K hK=>?_
  go_simp;refine hK.out _ _ (trivial) (fun Hh=>?_);clear hK K
  (try simp only [Act.put,ZA,ZB,ZC,ZD,ZE,ZF])
  refine dn ?_;go_wp2;refine be ?_;have ht2:=ht1.out;subst ht2;exact ⟨rfl,_,_,_,hF.out⟩
theorem Xdm (cn N base B:Nat) (t:Te) (v:Tv) (vg vo:List Value) (w:World) (h:Scr w 35 base B [] t v vg vo) (hbase:base<=w.heap.size) (rt:RtW t cn N) :
  Calls Tryz.prog 214 #[.pointer (some ⟨B,0,none⟩),.int .i64 0,.bool true] w fun e w'=>e=.returned (.tuple #[])/\∃ v' vg' vo',Res w w' 35 base B [] v vg vo (if true=true then ZJ t 0 else Zf t 0) v' vg' vo':=by
 have hrow:=rt.row;have hcol:=rt.col;have hcc:=rt.c;have hn1:=rt.n1;have c0:w.cell? ⟨B,0,none⟩=some (.int .i64 (cn:Int)):=by rw [<- rt.gc];exact h.cell 0
 have c4:w.cell? ⟨B,4,none⟩=some (.int .i64 t.row):=h.cell 4;have c5:w.cell? ⟨B,5,none⟩=some (.int .i64 t.col):=h.cell 5
 have hin:∀ (j:Nat) (wr:World) (v':Tv) (vg' vo':List Value),Res w wr 35 base B [] v vg vo { t with g:=eaG t 0 cn j } v' vg' vo'->wr.cell? ⟨B,4,none⟩=some (.int .i64 t.row)/\∃ a c,wr.cell? ⟨B,1,none⟩=some (.slice a N c):=fun j wr v' vg' vo' hr=>by
  refine ⟨hr.s.cell 4,?_⟩;obtain ⟨a,c,e⟩:=sGs (SlG.of_own hr.s.o.1.g);have en:(eaG t 0 cn j).length=N:=by rw [Yj];exact rt.n
  refine ⟨a,c,?_⟩;rw [hr.s.cell 1]
  show some v'.g=_
  rw [e]
  show some (Value.slice a (eaG t 0 cn j).length c)=_
  rw [en]
 have hE:X3 t t.row t.col (cn:Int)=Zf t 0:=by rw [<- rt.gc];rfl
 have hd:=bdr w;have hcl:=Ys cn N base B t v vg vo w.drew (h.below hd) (Nat.le_trans hbase hd.size) rt t.row t.col (cn:Int) (by omega) (by omega);rw [hE] at hcl
 have cf:∀ W,Below w.heap.size w W->W.cell? ⟨B,4,none⟩=some (.int .i64 t.row)/\W.cell? ⟨B,5,none⟩=some (.int .i64 t.col):=fun W hb=>⟨(h.below hb).cell 4,(h.below hb).cell 5⟩
 have cg:∀ W v1 vg1 vo1,Res w.drew W 35 base B [] v vg vo (Zf t 0) v1 vg1 vo1->W.cell? ⟨B,4,none⟩=some (.int .i64 t.row)/\W.cell? ⟨B,5,none⟩=some (.int .i64 t.col):=fun W v1 vg1 vo1 r=>by
  rw [<- hE] at r
  exact ⟨r.s.cell 4,r.s.cell 5⟩
 clear hE;go_enter Tryz.func214,Tryz.ntmps214;go_wp2;clear c0 c4 c5;refine wp_region_noPanic ?_;refine wp_region_held_drew (S:=(fun W=>W.cell? ⟨B,4,none⟩=some (.int .i64 t.row)/\W.cell? ⟨B,5,none⟩=some (.int .i64 t.col))) (by kernel_rfl) (cf _ hd) (fun Hh=>?_);refine tK 0 ?_;refine tK 1 ?_;refine tK 2 ?_;refine tK 3 ?_;refine tK 4 ?_;refine tK 5 ?_;refine tK 6 ?_;refine tK 7 ?_;refine tK 8 ?_;refine tk 9 ?_;refine rd 10 fun K hK=>?_
 go_simp;refine hcl.mono ?_;rintro e w1 ⟨rfl,v1,vg1,vo1,hR⟩;go_wp2_with fail;refine hK.out _ _ (cg _ _ _ _ hR) (fun Hh=>?_);clear hK K
 (try simp only [Act.put,ZA,ZB,ZC,ZD,ZE,ZF])
 refine dn ?_;replace hR:=(Res.of_below h hd).trans hR;clear hcl cf cg hd Hh;have hK:=(show Hid (Res w _ 35 base B [] v vg vo { t with g:=eaG t 0 cn 0 } _ _ _) from by rw [Y5];exact hR);clear hR;go_wp2;go_loopw [7] (fun i wr=>∃ (j:Nat) (v':Tv) (vg' vo':List Value),i=.int .i64 j/\j<=N/\Hid (true=false->j=0)/\Hid (Res w wr 35 base B [] v vg vo { t with g:=eaG t 0 cn j } v' vg' vo')) (fun i _=>N-(intOf i).toNat)
 case atStart=>exact ⟨0,_,_,_,rfl,Nat.zero_le _,(fun _=>rfl),hK⟩
 case round =>
  clear hK;obtain ⟨j,v',vg',vo',rfl,hj,hz,hK⟩:=hrel;obtain ⟨c4,la,lc,hlc⟩:=hin j wr v' vg' vo' hK.out;have hla:=Yn B la N lc wr hlc (by omega);have hj0:(0:Int)<=(j:Int):=by omega
  by_cases hlt:j<N
  ·have hle:(j:Int)<=(N:Int)-1:=by omega
   have hbj:base<=wr.heap.size:=Nat.le_trans hbase hK.out.g.size
   by_cases hc:t.row<(j:Int)
   ·have hcl:=Ys cn N base B { t with g:=eaG t 0 cn j } v' vg' vo' wr hK.out.s hbj (rt.ea 0 j) (j:Int) 0 (cn:Int) (by omega) (by omega)
    rw [QG t 0 cn j (by rw [rt.n];exact hlt) (.inr (.inl ⟨rfl,hc⟩))] at hcl
    have hnx:=fun W v2 g2 o2 (r:Res wr W 35 base B [] v' vg' vo' { t with g:=eaG t 0 cn (j+1) } v2 g2 o2)=>(show Hid (Res w W 35 base B [] v vg vo { t with g:=eaG t 0 cn (j+1) } v2 g2 o2) from hK.out.trans r)
    clear hK hin hz hbj rt hbase h hlc;go_wp2_with fail;refine hla.mono ?_;rintro e wk ⟨rfl,hw⟩;subst hw;clear hla;go_wp2_with fail;refine hcl.mono ?_;rintro e w2 ⟨rfl,v2,g2,o2,hR⟩;have hF:=hnx _ _ _ _ hR;clear hcl hnx hR c4;go_wp2;go_roundw
    case rel=>exact ⟨j+1,v2,g2,o2,by go_num,by omega,(fun e=>by simp at e),hF⟩
    case measure=>simp [intOf];omega
   ·rw [<- QF t 0 cn j (fun e=>by unfold eaP at e;omega)] at hK
    clear hin hz hbj rt hbase h hlc;go_wp2_with fail;refine hla.mono ?_;rintro e wk ⟨rfl,hw⟩;subst hw;clear hla;go_wp2;go_roundw
    case rel=>exact ⟨j+1,_,_,_,by go_num,by omega,(fun e=>by simp at e),hK⟩
    case measure=>simp [intOf];omega
  ·have hle:¬ (j:Int)<=(N:Int)-1:=by omega
   obtain rfl:j=N:=by omega
   rw [Qw rt 0] at hK
   clear hin hz;go_wp2_with fail;refine hla.mono ?_;rintro e wk ⟨rfl,hw⟩;subst hw;clear hla hlc c4;go_wp2;refine be ?_;exact ⟨rfl,_,_,_,hK.out⟩
