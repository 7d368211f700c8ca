/- Parts of the proof. -/
import Derived.Test.YtgcnmjjlmcnllaaGreatDoorP1
import Derived.Test.YtgcnmjjlmcnllaaGreatDoorP11
import Derived.Test.YtgcnmjjlmcnllaaGreatDoorP13
import Derived.Test.YtgcnmjjlmcnllaaGreatDoorP14
import Derived.Test.YtgcnmjjlmcnllaaGreatDoorP16
namespace Go.Proofs.YtgcnmjjlmcnllaaGreatDoor
set_option maxRecDepth 20000
set_option maxHeartbeats 16000000
open Go.ChangeShapes Go.WideShapes Go.ChangeAt Go.RowKit
theorem l7Clear_any (cn N base B:Nat) (t:Te) (v:Tv) (vg vo:List Value) (w:World) (h:Scr w 35 base B [] t v vg vo) (hbase:base<=w.heap.size) (rt:RtW t cn N) (r p q:Int) (hr:0<=r/\r<N) (hpq:0<=p/\p<=q/\q<=cn) :
  Calls Tryz.prog 217 #[.pointer (some ⟨B,0,none⟩),.int .i64 r,.int .i64 p,.int .i64 q] w fun e w'=>e=.returned (.tuple #[])/\∃ v' vg' vo',Res w w' 35 base B [] v vg vo (clearT t r p q) v' vg' vo':=by
 have hN:=rt.n;have hn2:=rt.n1;have hcl:=rt.c;obtain ⟨i,rfl⟩:∃ i:Nat,r=(i:Int):=⟨r.toNat,by omega⟩;obtain ⟨a,rfl⟩:∃ i:Nat,p=(i:Int):=⟨p.toNat,by omega⟩;obtain ⟨b,rfl⟩:∃ i:Nat,q=(i:Int):=⟨q.toNat,by omega⟩;have hi:i<N:=by omega
 have hV:clearT t i a b=rowT t i (clearL (rowX t.g i) a b (backS t.st)):=by unfold clearT;rw [Int.toNat_natCast,Int.toNat_natCast,Int.toNat_natCast]
 rw [hV]
 rcases h.o.1.shape with ⟨_,hs⟩|⟨g,cap,hvg,hbg,hlg,hcap⟩
 ·rw [hs] at hN;simp at hN;omega
 rw [hN] at hvg hcap
 have ho:=h.o.1;have hro:=ho.2.2.1 i (by omega);have hvl:=ho.1;rw [hvg] at ho
 have hci:=ho.cell hN i hi;obtain ⟨ra,rn,rc,hre⟩:=hro.isSl;rw [hre] at hci hro
 have hgx:=rt.gx i hi;have hsl:SlC w (.slice ra rn rc) (rowX t.g i):=SlC.of_own hro;have hlt:=h.lt;have c1:∀ W,Below w.heap.size w W->W.cell? ⟨B,1,none⟩=some (.slice (some ⟨g,0,none⟩) N cap):=fun W hb=>by rw [(h.below hb).cell 1];show some v.g=_;rw [hvg]
 have ci:∀ W,Below w.heap.size w W->W.cell? ⟨g,i,none⟩=some (.slice ra rn rc):=fun W hb=>(hb.cell (p:=⟨g,i,none⟩) hlg).trans hci
 have zi:∀ W,Below w.heap.size w W->W.frozen? ⟨g,i,none⟩=false:=fun W hb=>(ho.below hb).frozen hN i
 have hbk:=fun W (hb:Below w.heap.size w W)=>l7Back_any B t.st W ((h.below hb).cell 7) (Nat.lt_of_lt_of_le hlt hb.size)
 have hcd:=fun W (hb:Below w.heap.size w W)=>l4Cleared_any (.slice ra rn rc) (rowX t.g i) a b (backS t.st) W (hsl.below hb) (by omega) (by omega) (by omega)
 obtain ⟨R,hR⟩:∃ R,Hid (clearL (rowX t.g i) a b (backS t.st)=R):=⟨_,rfl⟩;simp only [hR.out] at hcd ⊢
 have hfin:∀ W r,Below w.heap.size w W->OwnC W w.heap.size r R->Res w (W.setCell ⟨g,i,none⟩ r) 35 base B [] v vg vo (rowT t i R) v (vg.set i r) vo:=fun W r hb hr=>by
  have:=h.row hbase hb hvg hN i hi r R hr;unfold rowT;rw [Int.toNat_natCast]
  exact this
 have hsc:∀ W r,Below w.heap.size w W->(W.setCell ⟨g,i,none⟩ r).cell? ⟨B,1,none⟩=some (.slice (some ⟨g,0,none⟩) N cap):=fun W r hb=>by
  have hne:g≠B:=fun e=>grS_not h.o.1 h.b h.n1 h.n2 (.inl (by rw [hvg,<- e];rfl))
  rw [<- c1 W hb]
  exact World.cell?_of_block (w:=W) ((sCc W g i r).block B (Nat.lt_of_lt_of_le hlt hb.size) (fun e=>hne (Option.some.inj e).symm))
 unfold stV at hbk hcd;have hd:=bdr w;have i0:(0:Int)<=(i:Int):=by omega
 have i1:(i:Int)<(N:Int):=by omega
 clear h hbase rt ho hro hre hsl hgx hvg hbg hcap hlt hvl hci hR hV;go_enter Tryz.func217,Tryz.ntmps217;go_wp2;refine wp_region_noPanic ?_;refine wp_region_held_drew (S:=(fun W=>W.cell? ⟨B,1,none⟩=some (.slice (some ⟨g,0,none⟩) N cap))) (by kernel_rfl) (c1 _ hd) (fun Hh=>?_);have di:=ci _ hd;refine' wpAnyH_take (i:=0) (v:=_) rfl (by kernel_rfl) (by kernel_rfl) (by kernel_rfl) (fun _ _ _ h=>h) (Or.inl ⟨by rfl,?hy1001⟩) Hh ?hr1001
 case hy1001=>(intro w hSw;(try dsimp only at hSw);go_simp;(try with_reducible rfl))
 simp only [Act.put,ZA,ZB,ZC,ZD,ZE];refine' wpAnyH_take (i:=1) (v:=_) rfl (by kernel_rfl) (by kernel_rfl) (by kernel_rfl) (fun _ _ _ h=>h) (Or.inl ⟨by rfl,?hy1002⟩) Hh ?hr1002
 case hy1002=>(intro w hSw;(try dsimp only at hSw);go_simp;(try with_reducible rfl))
 simp only [Act.put,ZA,ZB,ZC,ZD,ZE,ZF];refine' wpAnyH_take (i:=2) (v:=_) rfl (by kernel_rfl) (by kernel_rfl) (by kernel_rfl) (fun _ _ _ h=>h) (Or.inl ⟨by rfl,?hy1003⟩) Hh ?hr1003
 case hy1003=>(intro w hSw;(try dsimp only at hSw);go_simp;(try with_reducible rfl))
 simp only [Act.put,ZA,ZB,ZC,ZD,ZE,ZF];refine' wpAnyH_take (i:=3) (v:=_) rfl (by kernel_rfl) (by kernel_rfl) (by kernel_rfl) (fun _ _ _ h=>h) (Or.inl ⟨by rfl,?hy1004⟩) Hh ?hr1004
 case hy1004=>(intro w hSw;(try dsimp only at hSw);go_simp;(try with_reducible rfl))
 simp only [Act.put,ZA,ZB,ZC,ZD,ZE,ZF];refine' wpAnyH_take (i:=4) (v:=_) rfl (by kernel_rfl) (by kernel_rfl) (by kernel_rfl) (fun _ _ _ h=>h) (Or.inl ⟨by rfl,?hy1005⟩) Hh ?hr1005
 case hy1005=>(intro w hSw;(try dsimp only at hSw);go_simp;(try with_reducible rfl))
 simp only [Act.put,ZA,ZB,ZC,ZD,ZE,ZF];refine' wpAnyH_take (i:=5) (v:=_) rfl (by kernel_rfl) (by kernel_rfl) (by kernel_rfl) (fun _ _ _ h=>h) (Or.inl ⟨by rfl,?hy1006⟩) Hh ?hr1006
 case hy1006=>(intro w hSw;(try dsimp only at hSw);go_simp;(try with_reducible rfl))
 simp only [Act.put,ZA,ZB,ZC,ZD,ZE,ZF];refine' wpAnyH_take (i:=6) (v:=_) rfl (by kernel_rfl) (by kernel_rfl) (by kernel_rfl) (fun _ _ _ h=>h) (Or.inl ⟨by rfl,?hy1007⟩) Hh ?hr1007
 case hy1007=>(intro w hSw;(try dsimp only at hSw);go_simp;(try with_reducible rfl))
 simp only [Act.put,ZA,ZB,ZC,ZD,ZE,ZF];refine' wpAnyH_take (i:=7) (v:=_) rfl (by kernel_rfl) (by kernel_rfl) (by kernel_rfl) (fun _ _ _ h=>h) (Or.inl ⟨by rfl,?hy1008⟩) Hh ?hr1008
 case hy1008=>(intro w hSw;(try dsimp only at hSw);go_simp;(try with_reducible rfl))
 simp only [Act.put,ZA,ZB,ZC,ZD,ZE,ZF];refine' wpAnyH_take (i:=8) (v:=_) rfl (by kernel_rfl) (by kernel_rfl) (by kernel_rfl) (fun _ _ _ h=>h) (Or.inl ⟨by rfl,?hy1009⟩) Hh ?hr1009
 case hy1009=>(intro w hSw;(try dsimp only at hSw);go_simp;(try with_reducible rfl))
 simp only [Act.put,ZA,ZB,ZC,ZD,ZE,ZF];refine' wpAnyH_take (i:=9) (v:=_) rfl (by kernel_rfl) (by kernel_rfl) (by kernel_rfl) (fun _ _ _ h=>h) (Or.inl ⟨by rfl,?hy1010⟩) Hh ?hr1010
 case hy1010=>(intro w hSw;(try dsimp only at hSw);go_simp;(try with_reducible rfl))
 simp only [Act.put,ZA,ZB,ZC,ZD,ZE,ZF];refine' wpAnyH_take (i:=10) (v:=_) rfl (by kernel_rfl) (by kernel_rfl) (by kernel_rfl) (fun _ _ _ h=>h) (Or.inl ⟨by rfl,?hy1011⟩) Hh ?hr1011
 case hy1011=>(intro w hSw;(try dsimp only at hSw);go_simp;(try with_reducible rfl))
 simp only [Act.put,ZA,ZB,ZC,ZD,ZE,ZF];refine' wpAnyH_take (i:=11) (v:=_) rfl (by kernel_rfl) (by kernel_rfl) (by kernel_rfl) (fun _ _ _ h=>h) (Or.inl ⟨by rfl,?hy1012⟩) Hh ?hr1012
 case hy1012=>(intro w hSw;(try dsimp only at hSw);go_simp;(try with_reducible rfl))
 simp only [Act.put,ZA,ZB,ZC,ZD,ZE,ZF];refine' wpAnyH_take (i:=12) (v:=_) rfl (by kernel_rfl) (by kernel_rfl) (by kernel_rfl) (fun _ _ _ h=>h) (Or.inl ⟨by rfl,?hy1013⟩) Hh ?hr1013
 case hy1013=>(intro w hSw;(try dsimp only at hSw);go_simp;(try with_reducible rfl))
 simp only [Act.put,ZA,ZB,ZC,ZD,ZE,ZF];refine' wpAnyH_take (i:=14) (v:=_) rfl (by kernel_rfl) (by kernel_rfl) (by kernel_rfl) (fun _ _ _ h=>h) (Or.inl ⟨by rfl,?hy1014⟩) Hh ?hr1014
 case hy1014=>(intro w hSw;(try dsimp only at hSw);go_simp;(try with_reducible rfl))
 simp only [Act.put,ZA,ZB,ZC,ZD,ZE,ZF];refine' wpAnyH_take (i:=15) (v:=_) rfl (by kernel_rfl) (by kernel_rfl) (by kernel_rfl) (fun _ _ _ h=>h) (Or.inl ⟨by rfl,?hy1015⟩) Hh ?hr1015
 case hy1015=>(intro w hSw;(try dsimp only at hSw);go_simp;(try with_reducible rfl))
 simp only [Act.put,ZA,ZB,ZC,ZD,ZE,ZF];refine' wpAnyH_take (i:=16) (v:=_) rfl (by kernel_rfl) (by kernel_rfl) (by kernel_rfl) (fun _ _ _ h=>h) (Or.inl ⟨by rfl,?hy1016⟩) Hh ?hr1016
 case hy1016=>(intro w hSw;(try dsimp only at hSw);go_simp;(try with_reducible rfl))
 refine rd2 13 17 (fun K hK=>?_) fun K hK=>?_
 ·go_simp
  refine hK.out _ _ (Hh) (fun Hh=>?_);clear hK K;refine rd 17 fun K hK=>?_
  go_simp;refine (hbk _ hd).mono ?_;rintro e wk ⟨rfl,hb⟩;replace hd:=hd.trans (hb.mono hd.size);have di:=ci _ hd;unfold backS;go_wp2_with fail;refine hK.out _ _ (c1 _ hd) (fun Hh=>?_);clear hK K;refine rd 18 fun K hK=>?_
  go_simp;refine (hcd _ hd).mono ?_;rintro e w2 ⟨u,rfl,hu,hb⟩;have hu2:=hu.low hd.size;replace hd:=hd.trans (hb.mono hd.size);obtain ⟨ua,un,uc,hue⟩:=hu2.isSl;subst hue;have di:=ci _ hd;have zj:=zi _ hd;go_wp2_with fail;refine hK.out _ _ (c1 _ hd) (fun Hh=>?_);clear hK K
  (try simp only [Act.put,ZA,ZB,ZC,ZD,ZE,ZF])
  refine' wpAnyH_take (i:=19) (v:=_) rfl (by kernel_rfl) (by kernel_rfl) (by kernel_rfl) (fun _ _ _ h=>h) (Or.inl ⟨by rfl,?hy1017⟩) Hh ?hr1017
  case hy1017=>(intro w hSw;(try dsimp only at hSw);go_simp;(try with_reducible rfl))
  refine rd 20 fun K hK=>?_
  go_simp;refine hK.out _ _ (hsc _ _ hd) (fun Hh=>?_);clear hK K
  (try simp only [Act.put,ZA,ZB,ZC,ZD,ZE,ZF])
  refine dn ?_;go_wp2;refine be ?_;exact ⟨rfl,_,_,_,hfin _ _ hd hu2⟩
 ·go_simp
  refine (hbk _ hd).mono ?_;rintro e wk ⟨rfl,hb⟩;replace hd:=hd.trans (hb.mono hd.size);have di:=ci _ hd;unfold backS;go_wp2_with fail;refine hK.out _ _ (c1 _ hd) (fun Hh=>?_);clear hK K;refine rd 13 fun K hK=>?_
  go_simp;refine hK.out _ _ (Hh) (fun Hh=>?_);clear hK K;refine rd 18 fun K hK=>?_
  go_simp;refine (hcd _ hd).mono ?_;rintro e w2 ⟨u,rfl,hu,hb⟩;have hu2:=hu.low hd.size;replace hd:=hd.trans (hb.mono hd.size);obtain ⟨ua,un,uc,hue⟩:=hu2.isSl;subst hue;have di:=ci _ hd;have zj:=zi _ hd;go_wp2_with fail;refine hK.out _ _ (c1 _ hd) (fun Hh=>?_);clear hK K
  (try simp only [Act.put,ZA,ZB,ZC,ZD,ZE,ZF])
  refine' wpAnyH_take (i:=19) (v:=_) rfl (by kernel_rfl) (by kernel_rfl) (by kernel_rfl) (fun _ _ _ h=>h) (Or.inl ⟨by rfl,?hy1018⟩) Hh ?hr1018
  case hy1018=>(intro w hSw;(try dsimp only at hSw);go_simp;(try with_reducible rfl))
  refine rd 20 fun K hK=>?_
  go_simp;refine hK.out _ _ (hsc _ _ hd) (fun Hh=>?_);clear hK K
  (try simp only [Act.put,ZA,ZB,ZC,ZD,ZE,ZF])
  refine dn ?_;go_wp2;refine be ?_;exact ⟨rfl,_,_,_,hfin _ _ hd hu2⟩
theorem l7Go_any (cn N base B:Nat) (t:Te) (v:Tv) (vg vo:List Value) (w:World) (h:Scr w 35 base B [] t v vg vo) (_hbase:base<=w.heap.size) (rt:RtW t cn N) (r c:Int) :
  Calls Tryz.prog 213 #[.pointer (some ⟨B,0,none⟩),.int .i64 r,.int .i64 c] w fun e w'=>e=.returned (.tuple #[])/\∃ v' vg' vo',Res w w' 35 base B [] v vg vo (goT t r c) v' vg' vo':=by
 obtain ⟨ga,gc,hvg⟩:∃ a c,v.g=.slice a N c:=by
  obtain ⟨a,c,e⟩:=sGs (SlG.of_own h.o.1.g);rw [rt.n] at e
  exact ⟨a,c,e⟩
 have hn2:=rt.n1;have hcl:=rt.c;have hgc:=rt.gc;have hN:=rt.n;have hla:=l7Last_any B ga N gc w (by rw [h.cell 1];show some v.g=_;rw [hvg]) (by omega);have hmn:=fun a b W=>l1Min_any a b W
 have hmx:=fun a b W=>l1MaxG_any a b W
 obtain ⟨q1,e1⟩:∃ q,Hid (max 0 (min ((t.g.length:Int)-1) r)=q):=⟨_,rfl⟩;obtain ⟨q2,e2⟩:∃ q,Hid (max 0 (min (t.gc-1) c)=q):=⟨_,rfl⟩;have hV:goT t r c={ t with row:=q1,col:=q2 }:=by unfold goT;rw [e1.out,e2.out]
 rw [hV]
 have m1:max 0 (min ((N:Int)-1) r)=q1:=by rw [<- hN];exact e1.out
 have m2:max 0 (min ((cn:Int)-1) c)=q2:=by rw [<- hgc];exact e2.out
 have hw:IntKind.i64.wrap ((cn:Int)-1)=(cn:Int)-1:=by simp [IntKind.wrap,IntKind.bits,IntKind.signed];omega
 have p1:=h.put (sCg B [.int .i64 q1] 4 w) { t with row:=q1 } (sCh B 35 [.int .i64 q1] 4 w _ h.b) rfl rfl rfl rfl rfl;have p2:=p1.s.put (sCg B [.int .i64 q2] 5 _) { t with row:=q1,col:=q2 } (sCh B 35 [.int .i64 q2] 5 _ _ p1.s.b) rfl rfl rfl rfl rfl;have hR:=(show Hid _ from p1.trans p2);have c4:w.cell? ⟨B,4,none⟩=some (.int .i64 t.row):=h.cell 4;have c5:w.cell? ⟨B,5,none⟩=some (.int .i64 t.col):=h.cell 5;have c0:w.cell? ⟨B,0,none⟩=some (.int .i64 (cn:Int)):=by rw [<- hgc];exact h.cell 0
 have z4:w.frozen? ⟨B,4,none⟩=false:=h.frozen 4;have z5:w.frozen? ⟨B,5,none⟩=false:=h.frozen 5;clear h rt hvg hV p1 p2 hgc hN e1 e2;go_enter Tryz.func213,Tryz.ntmps213;go_wp2_with fail;refine hla.mono ?_;rintro e wk ⟨rfl,hw1⟩;subst hw1;go_wp2_with fail;refine (hmn _ _ _).mono ?_;rintro e wk ⟨rfl,hw1⟩;subst hw1;go_wp2_with fail;refine (hmx _ _ _).mono ?_;rintro e wk ⟨rfl,hw1⟩;subst hw1;rw [m1]
 go_wp2_with fail;refine (hmn _ _ _).mono ?_;rintro e wk ⟨rfl,hw1⟩;subst hw1;go_wp2_with fail;refine (hmx _ _ _).mono ?_;rintro e wk ⟨rfl,hw1⟩;subst hw1;rw [m2]
 go_wp2;refine be ?_;exact ⟨rfl,_,_,_,hR.out⟩
theorem l7Escape_most (cn N base B:Nat) (t:Te) (v:Tv) (vg vo:List Value) (w:World) (h:Scr w 35 base B [] t v vg vo) (hbase:base<=w.heap.size) (rt:RtW t cn N) (r:Int) (hr:r≠99) :
  Calls Tryz.prog 143 #[.pointer (some ⟨B,0,none⟩),.int .i64 r] w fun e w'=>e=.returned (.tuple #[])/\∃ v' vg' vo',Res w w' 35 base B [] v vg vo (escapeT t r) v' vg' vo':=by
 have full:∀ (W1:World) (t1:Te) (b:Bool) (v1:Tv) (g1 o1:List Value),Scr W1 35 base B [] t1 v1 g1 o1->Res W1 (W1.setCell ⟨B,13,none⟩ (.bool b)) 35 base B [] v1 g1 o1 { t1 with full:=b } v1 g1 o1 :=
  fun W1 t1 b v1 g1 o1 h1=>h1.put (sCg B [.bool b] 13 W1) _ (sCh B 35 [.bool b] 13 W1 _ h1.b) rfl rfl rfl rfl rfl
 have c13:w.cell? ⟨B,13,none⟩=some (.bool t.full):=h.cell 13;have z13:w.frozen? ⟨B,13,none⟩=false:=h.frozen 13;have h1:=full w t false v vg vo h
 by_cases r68:r=68
 ·subst r68
  have hV:escapeT t 68=lineT { t with full:=false }:=by rw [lineT_full];rfl
  rw [hV]
  have hfl:=l7Line_any cn N base B { t with full:=false } v vg vo _ h1.s (Nat.le_trans hbase h1.g.size) (rt.full false);clear h full rt hbase hV;replace h1:=(show Hid _ from h1);go_enter Tryz.func143,Tryz.ntmps143;go_wp2_with fail;refine hfl.mono ?_;rintro e w2 ⟨rfl,v2,g2,o2,hR2⟩;replace hR2:=(show Hid _ from h1.out.trans hR2);clear hfl h1;go_wp2;refine be ?_;exact ⟨rfl,_,_,_,hR2.out⟩
 by_cases r69:r=69
 ·subst r69
  have hV:escapeT t 69={ lineT { t with full:=false } with col:=0 }:=by rw [lineT_full];rfl
  rw [hV]
  have hfl:=l7Line_any cn N base B { t with full:=false } v vg vo _ h1.s (Nat.le_trans hbase h1.g.size) (rt.full false);clear h full rt hbase hV;replace h1:=(show Hid _ from h1);go_enter Tryz.func143,Tryz.ntmps143;go_wp2_with fail;refine hfl.mono ?_;rintro e w2 ⟨rfl,v2,g2,o2,hR2⟩;have c5:w2.cell? ⟨B,5,none⟩=some (.int .i64 (lineT { t with full:=false }).col):=hR2.s.cell 5;have z5:w2.frozen? ⟨B,5,none⟩=false:=hR2.s.frozen 5;replace hR2:=(show Hid _ from h1.out.trans (hR2.trans (hR2.s.put (sCg B [.int .i64 0] 5 w2) { lineT { t with full:=false } with col:=0 } (sCh B 35 [.int .i64 0] 5 w2 _ hR2.s.b) rfl rfl rfl rfl rfl)));clear hfl h1;go_wp2;refine be ?_;exact ⟨rfl,_,_,_,hR2.out⟩
 by_cases r77:r=77
 ·subst r77
  have c4:w.cell? ⟨B,4,none⟩=some (.int .i64 t.row):=h.cell 4;have c11:w.cell? ⟨B,11,none⟩=some (.int .i64 t.top):=h.cell 11;have z4:w.frozen? ⟨B,4,none⟩=false:=h.frozen 4;obtain ⟨r1,r2⟩:=rt.row;obtain ⟨b1,b2,b3⟩:=rt.tb;have hn2:=rt.n1.2
  by_cases hb:t.row=t.top
  ·have hV:escapeT t 77=moveT { t with full:=false } t.top t.bot (-1):=by
    show (if t.row=t.top then _ else _)=_
    rw [if_pos hb];rfl
   rw [hV]
   obtain ⟨w1,hw1⟩:∃ w1,w1=w.setCell ⟨B,13,none⟩ (.bool false):=⟨_,rfl⟩;have h1':Res w w1 35 base B [] v vg vo { t with full:=false } v vg vo:=by rw [hw1];exact h1
   have hs1:=h1'.s;have hbase1:base<=w1.heap.size:=Nat.le_trans hbase h1'.g.size;have rt1:=rt.full false;have hmv:=fun W (hbW:Below w1.heap.size w1 W)=>moveS_any cn N base B { t with full:=false } v vg vo W (hs1.below hbW) (Nat.le_trans hbase1 hbW.size) rt1 t.top.toNat t.bot.toNat (-1) (by omega) (by omega) (by omega)
   rw [show ((t.top.toNat:Nat):Int)=t.top by omega,show ((t.bot.toNat:Nat):Int)=t.bot by omega] at hmv
   have hc:∀ W,Below w1.heap.size w1 W->(W.cell? ⟨B,4,none⟩=some (.int .i64 t.top)/\W.cell? ⟨B,11,none⟩=some (.int .i64 t.top)/\W.cell? ⟨B,12,none⟩=some (.int .i64 t.bot)/\W.cell? ⟨B,7,none⟩=some (.int .i64 t.st.back)):=fun W hbb=>⟨by rw [<- hb];exact (hs1.below hbb).cell 4,(hs1.below hbb).cell 11,(hs1.below hbb).cell 12,(hs1.below hbb).cell 7⟩
   have hlt:=hs1.lt;have hbk:=fun W (hbW:Below w1.heap.size w1 W)=>l7Back_any B t.st W (hc W hbW).2.2.2 (Nat.lt_of_lt_of_le hlt hbW.size)
   unfold stV at hmv hbk;have hof:=fun W (hbW:Below w1.heap.size w1 W)=>h1'.trans (Res.of_below hs1 hbW)
   obtain ⟨e4,e11,e12,e7⟩:=hc _ (Below.refl _ _);have hd:=bdr w1;obtain ⟨d4,d11,d12,d7⟩:=hc _ hd;have hd2:=hd.trans ((bdr w1.drew).mono hd.size);have d9:=hc _ hd2;replace hw1:=(show Hid _ from hw1);clear rt hbase r1 r2 b1 b2 b3 hn2 hV h hlt full h1 hs1 hbase1 rt1 h1' hb;go_enter Tryz.func143,Tryz.ntmps143;refine wp_seq_k (fun K0 hK0=>?_);have hH:=(show Hid _ from hK0);clear hK0;go_wp2;refine hH.out _ _ ?_;clear hH;refine wp_seq_k (fun K0 hK0=>?_);have hH:=(show Hid _ from hK0);clear hK0;go_wp2;refine hH.out _ _ ?_;rw [<- hw1.out]
   clear hH hw1 c4 c11 z4 c13 z13;go_wp2;go_region;go_wp2;obtain ⟨g4,g11,g12,g7⟩:=d9;refine wp_region_noPanic ?_;refine wp_region_held_drew (S:=(fun _=>True)) (by kernel_rfl) (trivial) (fun Hh=>?_);refine' wpAnyH_take (i:=0) (v:=_) rfl (by kernel_rfl) (by kernel_rfl) (by kernel_rfl) (fun _ _ _ h=>h) (Or.inl ⟨by rfl,?hy1001⟩) Hh ?hr1001
   case hy1001=>(intro w hSw;(try dsimp only at hSw);go_simp;(try with_reducible rfl))
   simp only [Act.put,ZA,ZB,ZC,ZD,ZE];refine' wpAnyH_take (i:=1) (v:=_) rfl (by kernel_rfl) (by kernel_rfl) (by kernel_rfl) (fun _ _ _ h=>h) (Or.inl ⟨by rfl,?hy1002⟩) Hh ?hr1002
   case hy1002=>(intro w hSw;(try dsimp only at hSw);go_simp;(try with_reducible rfl))
   simp only [Act.put,ZA,ZB,ZC,ZD,ZE,ZF];refine' wpAnyH_take (i:=2) (v:=_) rfl (by kernel_rfl) (by kernel_rfl) (by kernel_rfl) (fun _ _ _ h=>h) (Or.inl ⟨by rfl,?hy1003⟩) Hh ?hr1003
   case hy1003=>(intro w hSw;(try dsimp only at hSw);go_simp;(try with_reducible rfl))
   simp only [Act.put,ZA,ZB,ZC,ZD,ZE,ZF];refine' wpAnyH_take (i:=3) (v:=_) rfl (by kernel_rfl) (by kernel_rfl) (by kernel_rfl) (fun _ _ _ h=>h) (Or.inl ⟨by rfl,?hy1004⟩) Hh ?hr1004
   case hy1004=>(intro w hSw;(try dsimp only at hSw);go_simp;(try with_reducible rfl))
   simp only [Act.put,ZA,ZB,ZC,ZD,ZE,ZF];refine' wpAnyH_take (i:=4) (v:=_) rfl (by kernel_rfl) (by kernel_rfl) (by kernel_rfl) (fun _ _ _ h=>h) (Or.inl ⟨by rfl,?hy1005⟩) Hh ?hr1005
   case hy1005=>(intro w hSw;(try dsimp only at hSw);go_simp;(try with_reducible rfl))
   simp only [Act.put,ZA,ZB,ZC,ZD,ZE,ZF];refine' wpAnyH_take (i:=5) (v:=_) rfl (by kernel_rfl) (by kernel_rfl) (by kernel_rfl) (fun _ _ _ h=>h) (Or.inl ⟨by rfl,?hy1006⟩) Hh ?hr1006
   case hy1006=>(intro w hSw;(try dsimp only at hSw);go_simp;(try with_reducible rfl))
   simp only [Act.put,ZA,ZB,ZC,ZD,ZE,ZF];refine' wpAnyH_take (i:=7) (v:=_) rfl (by kernel_rfl) (by kernel_rfl) (by kernel_rfl) (fun _ _ _ h=>h) (Or.inl ⟨by rfl,?hy1007⟩) Hh ?hr1007
   case hy1007=>(intro w hSw;(try dsimp only at hSw);go_simp;(try with_reducible rfl))
   simp only [Act.put,ZA,ZB,ZC,ZD,ZE,ZF];refine' wpAnyH_take (i:=8) (v:=_) rfl (by kernel_rfl) (by kernel_rfl) (by kernel_rfl) (fun _ _ _ h=>h) (Or.inl ⟨by rfl,?hy1008⟩) Hh ?hr1008
   case hy1008=>(intro w hSw;(try dsimp only at hSw);go_simp;(try with_reducible rfl))
   simp only [Act.put,ZA,ZB,ZC,ZD,ZE,ZF];refine' wpAnyH_take (i:=9) (v:=_) rfl (by kernel_rfl) (by kernel_rfl) (by kernel_rfl) (fun _ _ _ h=>h) (Or.inl ⟨by rfl,?hy1009⟩) Hh ?hr1009
   case hy1009=>(intro w hSw;(try dsimp only at hSw);go_simp;(try with_reducible rfl))
   simp only [Act.put,ZA,ZB,ZC,ZD,ZE,ZF];refine' wpAnyH_take (i:=11) (v:=_) rfl (by kernel_rfl) (by kernel_rfl) (by kernel_rfl) (fun _ _ _ h=>h) (Or.inl ⟨by rfl,?hy1010⟩) Hh ?hr1010
   case hy1010=>(intro w hSw;(try dsimp only at hSw);go_simp;(try with_reducible rfl))
   simp only [Act.put,ZA,ZB,ZC,ZD,ZE,ZF];refine wpAnyH_ready (rs:=[6,10,12]) (by kernel_rfl) (by simp) (AllReadyH.cons rfl (fun K hK=>?_) (AllReadyH.cons rfl (fun K hK=>?_) (AllReadyH.cons rfl (fun K hK=>?_) AllReadyH.nil)))
   ·go_simp
    refine hK.out _ _ (trivial) (fun Hh=>?_);clear hK K;refine rd2 10 12 (fun K hK=>?_) fun K hK=>?_
    ·go_simp
     refine hK.out _ _ (trivial) (fun Hh=>?_);clear hK K;refine rd 12 fun K hK=>?_
     go_simp;refine (hbk _ hd2).mono ?_;rintro e wk ⟨rfl,hb⟩;have hd3:=hd2.trans (hb.mono hd2.size);obtain ⟨k4,k11,k12,k7⟩:=hc _ hd3;unfold backS;go_wp2_with fail;refine hK.out _ _ (trivial) (fun Hh=>?_);clear hK K;refine rd 13 fun K hK=>?_
     go_simp;refine (hmv _ hd3).mono ?_;rintro e w2 ⟨rfl,vg2,hR⟩;go_wp2_with fail;refine hK.out _ _ (trivial) (fun Hh=>?_);clear hK K
     (try simp only [Act.put,ZA,ZB,ZC,ZD,ZE,ZF])
     refine dn ?_;go_wp2;refine be ?_;exact ⟨rfl,_,_,_,(hof _ hd3).trans hR⟩
    ·go_simp
     refine (hbk _ hd2).mono ?_;rintro e wk ⟨rfl,hb⟩;have hd3:=hd2.trans (hb.mono hd2.size);obtain ⟨k4,k11,k12,k7⟩:=hc _ hd3;unfold backS;go_wp2_with fail;refine hK.out _ _ (trivial) (fun Hh=>?_);clear hK K;refine rd 10 fun K hK=>?_
     go_simp;refine hK.out _ _ (trivial) (fun Hh=>?_);clear hK K;refine rd 13 fun K hK=>?_
     go_simp;refine (hmv _ hd3).mono ?_;rintro e w2 ⟨rfl,vg2,hR⟩;go_wp2_with fail;refine hK.out _ _ (trivial) (fun Hh=>?_);clear hK K
     (try simp only [Act.put,ZA,ZB,ZC,ZD,ZE,ZF])
     refine dn ?_;go_wp2;refine be ?_;exact ⟨rfl,_,_,_,(hof _ hd3).trans hR⟩
   ·go_simp
    refine hK.out _ _ (trivial) (fun Hh=>?_);clear hK K;refine rd2 6 12 (fun K hK=>?_) fun K hK=>?_
    ·go_simp
     refine hK.out _ _ (trivial) (fun Hh=>?_);clear hK K;refine rd 12 fun K hK=>?_
     go_simp;refine (hbk _ hd2).mono ?_;rintro e wk ⟨rfl,hb⟩;have hd3:=hd2.trans (hb.mono hd2.size);obtain ⟨k4,k11,k12,k7⟩:=hc _ hd3;unfold backS;go_wp2_with fail;refine hK.out _ _ (trivial) (fun Hh=>?_);clear hK K;refine rd 13 fun K hK=>?_
     go_simp;refine (hmv _ hd3).mono ?_;rintro e w2 ⟨rfl,vg2,hR⟩;go_wp2_with fail;refine hK.out _ _ (trivial) (fun Hh=>?_);clear hK K
     (try simp only [Act.put,ZA,ZB,ZC,ZD,ZE,ZF])
     refine dn ?_;go_wp2;refine be ?_;exact ⟨rfl,_,_,_,(hof _ hd3).trans hR⟩
    ·go_simp
     refine (hbk _ hd2).mono ?_;rintro e wk ⟨rfl,hb⟩;have hd3:=hd2.trans (hb.mono hd2.size);obtain ⟨k4,k11,k12,k7⟩:=hc _ hd3;unfold backS;go_wp2_with fail;refine hK.out _ _ (trivial) (fun Hh=>?_);clear hK K;refine rd 6 fun K hK=>?_
     go_simp;refine hK.out _ _ (trivial) (fun Hh=>?_);clear hK K;refine rd 13 fun K hK=>?_
     go_simp;refine (hmv _ hd3).mono ?_;rintro e w2 ⟨rfl,vg2,hR⟩;go_wp2_with fail;refine hK.out _ _ (trivial) (fun Hh=>?_);clear hK K
     (try simp only [Act.put,ZA,ZB,ZC,ZD,ZE,ZF])
     refine dn ?_;go_wp2;refine be ?_;exact ⟨rfl,_,_,_,(hof _ hd3).trans hR⟩
   ·go_simp
    refine (hbk _ hd2).mono ?_;rintro e wk ⟨rfl,hb⟩;have hd3:=hd2.trans (hb.mono hd2.size);obtain ⟨k4,k11,k12,k7⟩:=hc _ hd3;unfold backS;go_wp2_with fail;refine hK.out _ _ (trivial) (fun Hh=>?_);clear hK K;refine rd2 6 10 (fun K hK=>?_) fun K hK=>?_
    ·go_simp
     refine hK.out _ _ (trivial) (fun Hh=>?_);clear hK K;refine rd 10 fun K hK=>?_
     go_simp;refine hK.out _ _ (trivial) (fun Hh=>?_);clear hK K;refine rd 13 fun K hK=>?_
     go_simp;refine (hmv _ hd3).mono ?_;rintro e w2 ⟨rfl,vg2,hR⟩;go_wp2_with fail;refine hK.out _ _ (trivial) (fun Hh=>?_);clear hK K
     (try simp only [Act.put,ZA,ZB,ZC,ZD,ZE,ZF])
     refine dn ?_;go_wp2;refine be ?_;exact ⟨rfl,_,_,_,(hof _ hd3).trans hR⟩
    ·go_simp
     refine hK.out _ _ (trivial) (fun Hh=>?_);clear hK K;refine rd 6 fun K hK=>?_
     go_simp;refine hK.out _ _ (trivial) (fun Hh=>?_);clear hK K;refine rd 13 fun K hK=>?_
     go_simp;refine (hmv _ hd3).mono ?_;rintro e w2 ⟨rfl,vg2,hR⟩;go_wp2_with fail;refine hK.out _ _ (trivial) (fun Hh=>?_);clear hK K
     (try simp only [Act.put,ZA,ZB,ZC,ZD,ZE,ZF])
     refine dn ?_;go_wp2;refine be ?_;exact ⟨rfl,_,_,_,(hof _ hd3).trans hR⟩
  ·obtain ⟨q,hq⟩:∃ q,Hid (max 0 (t.row-1)=q):=⟨_,rfl⟩
   have hV:escapeT t 77={ ({ t with full:=false }:Te) with row:=q }:=by
    show (if t.row=t.top then _ else _)=_
    rw [if_neg hb,<- hq.out]
   rw [hV]
   have hqr:(t.row==t.top)=false:=by simp [hb]
   have hw:IntKind.i64.wrap (t.row-1)=t.row-1:=by simp [IntKind.wrap,IntKind.bits,IntKind.signed];omega
   have hmx:=fun W=>l1MaxG_any 0 (t.row-1) W
   rw [hq.out] at hmx
   have hR:=(show Hid _ from (h1.trans (h1.s.put (sCg B [.int .i64 q] 4 _) { ({ t with full:=false }:Te) with row:=q } (sCh B 35 [.int .i64 q] 4 _ _ h1.s.b) rfl rfl rfl rfl rfl)).below (bdr _));clear h full rt hbase h1 hV b1 b2 b3 r2 hb;go_enter Tryz.func143,Tryz.ntmps143;go_wp2;go_region;go_wp2_with fail;refine (hmx _).mono ?_;rintro e wk ⟨rfl,hw1⟩;subst hw1;go_wp2;refine be ?_;exact ⟨rfl,_,_,_,hR.out⟩
 by_cases r55:r=55
 ·subst r55
  have hV:escapeT t 55={ ({ t with full:=false }:Te) with sr:=t.row,sc:=t.col,ss:=t.st }:=rfl;rw [hV]
  have p1:=h1.s.put (sCg B [.int .i64 t.row] 17 _) ({ ({ t with full:=false }:Te) with sr:=t.row }) (sCh B 35 [.int .i64 t.row] 17 _ _ h1.s.b) rfl rfl rfl rfl rfl;have p2:=p1.s.put (sCg B [.int .i64 t.col] 18 _) ({ ({ t with full:=false }:Te) with sr:=t.row,sc:=t.col }) (sCh B 35 [.int .i64 t.col] 18 _ _ p1.s.b) rfl rfl rfl rfl rfl;have p3:=p2.s.put (sCg B [.int .i64 t.st.fore,.int .i64 t.st.back,.bool t.st.bold,.bool t.st.under,.bool t.st.turned] 19 _) ({ ({ t with full:=false }:Te) with sr:=t.row,sc:=t.col,ss:=t.st }) (sCh B 35 [.int .i64 t.st.fore,.int .i64 t.st.back,.bool t.st.bold,.bool t.st.under,.bool t.st.turned] 19 _ _ p2.s.b) rfl rfl rfl rfl rfl;have hR:=(show Hid _ from ((h1.trans p1).trans p2).trans p3);have c4:w.cell? ⟨B,4,none⟩=some (.int .i64 t.row):=h.cell 4;have c5:w.cell? ⟨B,5,none⟩=some (.int .i64 t.col):=h.cell 5;have c6:w.cell? ⟨B,6,none⟩=some (.int .i64 t.st.fore):=h.cell 6;have c7:w.cell? ⟨B,7,none⟩=some (.int .i64 t.st.back):=h.cell 7;have c8:w.cell? ⟨B,8,none⟩=some (.bool t.st.bold):=h.cell 8;have c9:w.cell? ⟨B,9,none⟩=some (.bool t.st.under):=h.cell 9;have c10:w.cell? ⟨B,10,none⟩=some (.bool t.st.turned):=h.cell 10;have c17:w.cell? ⟨B,17,none⟩=some (.int .i64 t.sr):=h.cell 17;have c18:w.cell? ⟨B,18,none⟩=some (.int .i64 t.sc):=h.cell 18;have c19:w.cell? ⟨B,19,none⟩=some (.int .i64 t.ss.fore):=h.cell 19;have c20:w.cell? ⟨B,20,none⟩=some (.int .i64 t.ss.back):=h.cell 20;have c21:w.cell? ⟨B,21,none⟩=some (.bool t.ss.bold):=h.cell 21;have c22:w.cell? ⟨B,22,none⟩=some (.bool t.ss.under):=h.cell 22;have c23:w.cell? ⟨B,23,none⟩=some (.bool t.ss.turned):=h.cell 23;have z17:w.frozen? ⟨B,17,none⟩=false:=h.frozen 17;have z18:w.frozen? ⟨B,18,none⟩=false:=h.frozen 18;have z19:w.frozen? ⟨B,19,none⟩=false:=h.frozen 19;have z20:w.frozen? ⟨B,20,none⟩=false:=h.frozen 20;have z21:w.frozen? ⟨B,21,none⟩=false:=h.frozen 21;have z22:w.frozen? ⟨B,22,none⟩=false:=h.frozen 22;have z23:w.frozen? ⟨B,23,none⟩=false:=h.frozen 23;clear h full rt hbase h1 hV p1 p2 p3;go_enter Tryz.func143,Tryz.ntmps143;go_wp2;refine be ?_;exact ⟨rfl,_,_,_,hR.out⟩
 by_cases r56:r=56
 ·subst r56
  have hV:escapeT t 56={ ({ t with full:=false }:Te) with row:=t.sr,col:=t.sc,st:=t.ss }:=rfl;rw [hV]
  have p1:=h1.s.put (sCg B [.int .i64 t.sr] 4 _) ({ ({ t with full:=false }:Te) with row:=t.sr }) (sCh B 35 [.int .i64 t.sr] 4 _ _ h1.s.b) rfl rfl rfl rfl rfl;have p2:=p1.s.put (sCg B [.int .i64 t.sc] 5 _) ({ ({ t with full:=false }:Te) with row:=t.sr,col:=t.sc }) (sCh B 35 [.int .i64 t.sc] 5 _ _ p1.s.b) rfl rfl rfl rfl rfl;have p3:=p2.s.put (sCg B [.int .i64 t.ss.fore,.int .i64 t.ss.back,.bool t.ss.bold,.bool t.ss.under,.bool t.ss.turned] 6 _) ({ ({ t with full:=false }:Te) with row:=t.sr,col:=t.sc,st:=t.ss }) (sCh B 35 [.int .i64 t.ss.fore,.int .i64 t.ss.back,.bool t.ss.bold,.bool t.ss.under,.bool t.ss.turned] 6 _ _ p2.s.b) rfl rfl rfl rfl rfl;have hR:=(show Hid _ from ((h1.trans p1).trans p2).trans p3);have c4:w.cell? ⟨B,4,none⟩=some (.int .i64 t.row):=h.cell 4;have c5:w.cell? ⟨B,5,none⟩=some (.int .i64 t.col):=h.cell 5;have c6:w.cell? ⟨B,6,none⟩=some (.int .i64 t.st.fore):=h.cell 6;have c7:w.cell? ⟨B,7,none⟩=some (.int .i64 t.st.back):=h.cell 7;have c8:w.cell? ⟨B,8,none⟩=some (.bool t.st.bold):=h.cell 8;have c9:w.cell? ⟨B,9,none⟩=some (.bool t.st.under):=h.cell 9;have c10:w.cell? ⟨B,10,none⟩=some (.bool t.st.turned):=h.cell 10;have c17:w.cell? ⟨B,17,none⟩=some (.int .i64 t.sr):=h.cell 17;have c18:w.cell? ⟨B,18,none⟩=some (.int .i64 t.sc):=h.cell 18;have c19:w.cell? ⟨B,19,none⟩=some (.int .i64 t.ss.fore):=h.cell 19;have c20:w.cell? ⟨B,20,none⟩=some (.int .i64 t.ss.back):=h.cell 20;have c21:w.cell? ⟨B,21,none⟩=some (.bool t.ss.bold):=h.cell 21;have c22:w.cell? ⟨B,22,none⟩=some (.bool t.ss.under):=h.cell 22;have c23:w.cell? ⟨B,23,none⟩=some (.bool t.ss.turned):=h.cell 23;have z4:w.frozen? ⟨B,4,none⟩=false:=h.frozen 4;have z5:w.frozen? ⟨B,5,none⟩=false:=h.frozen 5;have z6:w.frozen? ⟨B,6,none⟩=false:=h.frozen 6;have z7:w.frozen? ⟨B,7,none⟩=false:=h.frozen 7;have z8:w.frozen? ⟨B,8,none⟩=false:=h.frozen 8;have z9:w.frozen? ⟨B,9,none⟩=false:=h.frozen 9;have z10:w.frozen? ⟨B,10,none⟩=false:=h.frozen 10;clear h full rt hbase h1 hV p1 p2 p3;go_enter Tryz.func143,Tryz.ntmps143;go_wp2;refine be ?_;exact ⟨rfl,_,_,_,hR.out⟩
 have hV:escapeT t r=t:=by unfold escapeT;rw [if_neg r68,if_neg r69,if_neg r77,if_neg r55,if_neg r56,if_neg hr]
 rw [hV]
 have q68:(r==68)=false:=by simp [r68]
 have q69:(r==69)=false:=by simp [r69]
 have q77:(r==77)=false:=by simp [r77]
 have q55:(r==55)=false:=by simp [r55]
 have q56:(r==56)=false:=by simp [r56]
 have q99:(r==99)=false:=by simp [hr]
 have hR:=(show Hid _ from h1.trans (full _ _ t.full _ _ _ h1.s));clear h full rt hbase h1 hV r68 r69 r77 r55 r56 hr;go_enter Tryz.func143,Tryz.ntmps143;go_wp2;refine be ?_;exact ⟨rfl,_,_,_,hR.out⟩
end Go.Proofs.YtgcnmjjlmcnllaaGreatDoor
