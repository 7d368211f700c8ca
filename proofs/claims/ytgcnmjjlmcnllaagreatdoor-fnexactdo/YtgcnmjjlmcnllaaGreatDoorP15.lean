/- Parts of the proof. -/
import Derived.Test.YtgcnmjjlmcnllaaGreatDoorP1
import Derived.Test.YtgcnmjjlmcnllaaGreatDoorP11
import Derived.Test.YtgcnmjjlmcnllaaGreatDoorP12
import Derived.Test.YtgcnmjjlmcnllaaGreatDoorP13
import Derived.Test.YtgcnmjjlmcnllaaGreatDoorP14
namespace Go.Proofs.YtgcnmjjlmcnllaaGreatDoor
set_option maxRecDepth 20000
set_option maxHeartbeats 16000000
open Go.ChangeShapes Go.WideShapes Go.ChangeAt Go.RowKit
theorem l7Back_any (B:Nat) (s:St) (w:World) (hc:w.cell? ⟨B,7,none⟩=some (.int .i64 s.back)) (hlt:B<w.heap.size) :
  Calls Tryz.prog 210 #[.pointer (some ⟨B,0,none⟩)] w fun e w'=>e=.returned (stV (backS s))/\Below w.heap.size w w':=by
 have hb:=bal' w (Obj.cells #[Value.int IntKind.i64 0,Value.int IntKind.i64 s.back,Value.bool false,Value.bool false,Value.bool false] 28);go_enter Tryz.func210,Tryz.ntmps210;go_wp2;exact bodyPost_ret (v:=.agg #[Value.int IntKind.i64 0,Value.int IntKind.i64 s.back,Value.bool false,Value.bool false,Value.bool false]) (by simp [results,Tryz.results210,go_sem]) rfl ⟨rfl,hb⟩
theorem l7Last_any (B:Nat) (a:Option Addr) (n c:Nat) (w:World) (hc:w.cell? ⟨B,1,none⟩=some (.slice a n c)) (hn:n<=1000) :
  Calls Tryz.prog 212 #[.pointer (some ⟨B,0,none⟩)] w fun e w'=>e=.returned (.int .i64 ((n:Int)-1))/\w'=w:=by
 go_enter Tryz.func212,Tryz.ntmps212;go_wp2;go_ret;exact ⟨rfl,rfl⟩
theorem moveS_any (cn N base B:Nat) (t:Te) (v:Tv) (vg vo:List Value) (w:World) (h:Scr w 35 base B [] t v vg vo) (hbase:base<=w.heap.size) (rt:RtW t cn N) (a b:Nat) (n:Int) (hab:a<=b) (hb:b<N) (hn:-10000<=n/\n<=10000) :
  Calls Tryz.prog 209 #[.pointer (some ⟨B,0,none⟩),.int .i64 (a:Int),.int .i64 (b:Int),.int .i64 n,stV (backS t.st)] w fun e w'=>e=.returned (.tuple #[])/\∃ vg',Res w w' 35 base B [] v vg vo (moveT t a b n) v vg' vo:=by
 have hG:GrW w B cn v.g:=⟨h.lt,⟨by rw [<- rt.gc];exact h.cell 0,h.cell 1⟩,⟨h.frozen 0,h.frozen 1⟩⟩;have hne:v.g.ownBlock≠some B:=fun e=>grS_not h.o.1 h.b h.n1 h.n2 (.inl e)
 have hN:=rt.n;have hn1:=rt.n1;have hc:=rt.c;refine (l5Move_s B base w.heap.size cn v.g vg t.g a b n (backS t.st) w hG h.o.1 hne (Nat.le_refl _) hbase hab (by omega) hn (by omega) (by omega)).mono ?_;rintro e w' ⟨rfl,⟨vs',hv,hc'⟩,hg⟩;refine ⟨rfl,vs',?_⟩;have hr:=h.rows hbase vs' (moveR cn t.g a b n (backS t.st)) hv (hg.mono (fun k _ c=>.inl c)) (fun k hk c=>c.elim .inl (fun c=>.inr (hc' k hk c)))
 have em:moveT t a b n={ t with g:=moveR cn t.g a b n (backS t.st) }:=by
  unfold moveT;rw [rt.gc,Int.toNat_natCast,Int.toNat_natCast,Int.toNat_natCast]
 rw [em]
 exact hr
theorem l7Line_any (cn N base B:Nat) (t:Te) (v:Tv) (vg vo:List Value) (w:World) (h:Scr w 35 base B [] t v vg vo) (hbase:base<=w.heap.size) (rt:RtW t cn N) :
  Calls Tryz.prog 207 #[.pointer (some ⟨B,0,none⟩)] w fun e w'=>e=.returned (.tuple #[])/\∃ v' vg' vo',Res w w' 35 base B [] v vg vo (lineT t) v' vg' vo':=by
 have hc:∀ W,Below w.heap.size w W->(W.cell? ⟨B,4,none⟩=some (.int .i64 t.row)/\W.cell? ⟨B,11,none⟩=some (.int .i64 t.top)/\W.cell? ⟨B,12,none⟩=some (.int .i64 t.bot)/\W.cell? ⟨B,7,none⟩=some (.int .i64 t.st.back)):=fun W hb=>⟨(h.below hb).cell 4,(h.below hb).cell 11,(h.below hb).cell 12,(h.below hb).cell 7⟩
 obtain ⟨r1,r2⟩:=rt.row;obtain ⟨b1,b2,b3⟩:=rt.tb;have hn2:=rt.n1.2;have hlt:=h.lt;have hd:=bdr w;obtain ⟨d4,d11,d12,d7⟩:=hc _ hd
 by_cases hb:t.row=t.bot
 ·have hmv:=fun W (hbW:Below w.heap.size w W)=>moveS_any cn N base B t v vg vo W (h.below hbW) (Nat.le_trans hbase hbW.size) rt t.top.toNat t.bot.toNat 1 (by omega) (by omega) (by omega)
  rw [show ((t.top.toNat:Nat):Int)=t.top by omega,show ((t.bot.toNat:Nat):Int)=t.bot by omega] at hmv
  have hbk:=fun W (hbW:Below w.heap.size w W)=>l7Back_any B t.st W (hc W hbW).2.2.2 (Nat.lt_of_lt_of_le hlt hbW.size)
  unfold stV at hmv hbk;have hV:Hid (lineT t=moveT t t.top t.bot 1):=by show _=_;unfold lineT;rw [if_pos hb]
  rw [hV.out]
  have hof:=fun W (hbW:Below w.heap.size w W)=>Res.of_below h hbW
  rw [hb] at d4
  have hd2:=hd.trans ((bdr w.drew).mono hd.size);have d9:=hc _ hd2;clear rt hbase r1 r2 b1 b2 b3 hn2 hV h hlt;go_enter Tryz.func207,Tryz.ntmps207;go_wp2;go_region;go_wp2;obtain ⟨g4,g11,g12,g7⟩:=d9;refine wp_region_noPanic ?_;refine wp_region_held_drew (S:=(fun _=>True)) (by kernel_rfl) (trivial) (fun Hh=>?_);refine' wpAnyH_take (i:=0) (v:=_) rfl (by kernel_rfl) (by kernel_rfl) (by kernel_rfl) (fun _ _ _ h=>h) (Or.inl ⟨by rfl,?hy1001⟩) Hh ?hr1001
  case hy1001=>(intro w hSw;(try dsimp only at hSw);go_simp;(try with_reducible rfl))
  simp only [Act.put,ZA,ZB,ZC,ZD,ZE];refine' wpAnyH_take (i:=1) (v:=_) rfl (by kernel_rfl) (by kernel_rfl) (by kernel_rfl) (fun _ _ _ h=>h) (Or.inl ⟨by rfl,?hy1002⟩) Hh ?hr1002
  case hy1002=>(intro w hSw;(try dsimp only at hSw);go_simp;(try with_reducible rfl))
  simp only [Act.put,ZA,ZB,ZC,ZD,ZE,ZF];refine' wpAnyH_take (i:=2) (v:=_) rfl (by kernel_rfl) (by kernel_rfl) (by kernel_rfl) (fun _ _ _ h=>h) (Or.inl ⟨by rfl,?hy1003⟩) Hh ?hr1003
  case hy1003=>(intro w hSw;(try dsimp only at hSw);go_simp;(try with_reducible rfl))
  simp only [Act.put,ZA,ZB,ZC,ZD,ZE,ZF];refine' wpAnyH_take (i:=3) (v:=_) rfl (by kernel_rfl) (by kernel_rfl) (by kernel_rfl) (fun _ _ _ h=>h) (Or.inl ⟨by rfl,?hy1004⟩) Hh ?hr1004
  case hy1004=>(intro w hSw;(try dsimp only at hSw);go_simp;(try with_reducible rfl))
  simp only [Act.put,ZA,ZB,ZC,ZD,ZE,ZF];refine' wpAnyH_take (i:=4) (v:=_) rfl (by kernel_rfl) (by kernel_rfl) (by kernel_rfl) (fun _ _ _ h=>h) (Or.inl ⟨by rfl,?hy1005⟩) Hh ?hr1005
  case hy1005=>(intro w hSw;(try dsimp only at hSw);go_simp;(try with_reducible rfl))
  simp only [Act.put,ZA,ZB,ZC,ZD,ZE,ZF];refine' wpAnyH_take (i:=5) (v:=_) rfl (by kernel_rfl) (by kernel_rfl) (by kernel_rfl) (fun _ _ _ h=>h) (Or.inl ⟨by rfl,?hy1006⟩) Hh ?hr1006
  case hy1006=>(intro w hSw;(try dsimp only at hSw);go_simp;(try with_reducible rfl))
  simp only [Act.put,ZA,ZB,ZC,ZD,ZE,ZF];refine' wpAnyH_take (i:=7) (v:=_) rfl (by kernel_rfl) (by kernel_rfl) (by kernel_rfl) (fun _ _ _ h=>h) (Or.inl ⟨by rfl,?hy1007⟩) Hh ?hr1007
  case hy1007=>(intro w hSw;(try dsimp only at hSw);go_simp;(try with_reducible rfl))
  simp only [Act.put,ZA,ZB,ZC,ZD,ZE,ZF];refine' wpAnyH_take (i:=8) (v:=_) rfl (by kernel_rfl) (by kernel_rfl) (by kernel_rfl) (fun _ _ _ h=>h) (Or.inl ⟨by rfl,?hy1008⟩) Hh ?hr1008
  case hy1008=>(intro w hSw;(try dsimp only at hSw);go_simp;(try with_reducible rfl))
  simp only [Act.put,ZA,ZB,ZC,ZD,ZE,ZF];refine' wpAnyH_take (i:=9) (v:=_) rfl (by kernel_rfl) (by kernel_rfl) (by kernel_rfl) (fun _ _ _ h=>h) (Or.inl ⟨by rfl,?hy1009⟩) Hh ?hr1009
  case hy1009=>(intro w hSw;(try dsimp only at hSw);go_simp;(try with_reducible rfl))
  simp only [Act.put,ZA,ZB,ZC,ZD,ZE,ZF];refine' wpAnyH_take (i:=11) (v:=_) rfl (by kernel_rfl) (by kernel_rfl) (by kernel_rfl) (fun _ _ _ h=>h) (Or.inl ⟨by rfl,?hy1010⟩) Hh ?hr1010
  case hy1010=>(intro w hSw;(try dsimp only at hSw);go_simp;(try with_reducible rfl))
  simp only [Act.put,ZA,ZB,ZC,ZD,ZE,ZF];refine wpAnyH_ready (rs:=[6,10,12]) (by kernel_rfl) (by simp) (AllReadyH.cons rfl (fun K hK=>?_) (AllReadyH.cons rfl (fun K hK=>?_) (AllReadyH.cons rfl (fun K hK=>?_) AllReadyH.nil)))
  ·go_simp
   refine hK.out _ _ (trivial) (fun Hh=>?_);clear hK K;refine rd2 10 12 (fun K hK=>?_) fun K hK=>?_
   ·go_simp
    refine hK.out _ _ (trivial) (fun Hh=>?_);clear hK K;refine rd 12 fun K hK=>?_
    go_simp;refine (hbk _ hd2).mono ?_;rintro e wk ⟨rfl,hb⟩;have hd3:=hd2.trans (hb.mono hd2.size);obtain ⟨k4,k11,k12,k7⟩:=hc _ hd3;unfold backS;go_wp2_with fail;refine hK.out _ _ (trivial) (fun Hh=>?_);clear hK K;refine rd 13 fun K hK=>?_
    go_simp;refine (hmv _ hd3).mono ?_;rintro e w2 ⟨rfl,vg2,hR⟩;go_wp2_with fail;refine hK.out _ _ (trivial) (fun Hh=>?_);clear hK K
    (try simp only [Act.put,ZA,ZB,ZC,ZD,ZE,ZF])
    refine dn ?_;go_wp2;refine be ?_;exact ⟨rfl,_,_,_,(hof _ hd3).trans hR⟩
   ·go_simp
    refine (hbk _ hd2).mono ?_;rintro e wk ⟨rfl,hb⟩;have hd3:=hd2.trans (hb.mono hd2.size);obtain ⟨k4,k11,k12,k7⟩:=hc _ hd3;unfold backS;go_wp2_with fail;refine hK.out _ _ (trivial) (fun Hh=>?_);clear hK K;refine rd 10 fun K hK=>?_
    go_simp;refine hK.out _ _ (trivial) (fun Hh=>?_);clear hK K;refine rd 13 fun K hK=>?_
    go_simp;refine (hmv _ hd3).mono ?_;rintro e w2 ⟨rfl,vg2,hR⟩;go_wp2_with fail;refine hK.out _ _ (trivial) (fun Hh=>?_);clear hK K
    (try simp only [Act.put,ZA,ZB,ZC,ZD,ZE,ZF])
    refine dn ?_;go_wp2;refine be ?_;exact ⟨rfl,_,_,_,(hof _ hd3).trans hR⟩
  ·go_simp
   refine hK.out _ _ (trivial) (fun Hh=>?_);clear hK K;refine rd2 6 12 (fun K hK=>?_) fun K hK=>?_
   ·go_simp
    refine hK.out _ _ (trivial) (fun Hh=>?_);clear hK K;refine rd 12 fun K hK=>?_
    go_simp;refine (hbk _ hd2).mono ?_;rintro e wk ⟨rfl,hb⟩;have hd3:=hd2.trans (hb.mono hd2.size);obtain ⟨k4,k11,k12,k7⟩:=hc _ hd3;unfold backS;go_wp2_with fail;refine hK.out _ _ (trivial) (fun Hh=>?_);clear hK K;refine rd 13 fun K hK=>?_
    go_simp;refine (hmv _ hd3).mono ?_;rintro e w2 ⟨rfl,vg2,hR⟩;go_wp2_with fail;refine hK.out _ _ (trivial) (fun Hh=>?_);clear hK K
    (try simp only [Act.put,ZA,ZB,ZC,ZD,ZE,ZF])
    refine dn ?_;go_wp2;refine be ?_;exact ⟨rfl,_,_,_,(hof _ hd3).trans hR⟩
   ·go_simp
    refine (hbk _ hd2).mono ?_;rintro e wk ⟨rfl,hb⟩;have hd3:=hd2.trans (hb.mono hd2.size);obtain ⟨k4,k11,k12,k7⟩:=hc _ hd3;unfold backS;go_wp2_with fail;refine hK.out _ _ (trivial) (fun Hh=>?_);clear hK K;refine rd 6 fun K hK=>?_
    go_simp;refine hK.out _ _ (trivial) (fun Hh=>?_);clear hK K;refine rd 13 fun K hK=>?_
    go_simp;refine (hmv _ hd3).mono ?_;rintro e w2 ⟨rfl,vg2,hR⟩;go_wp2_with fail;refine hK.out _ _ (trivial) (fun Hh=>?_);clear hK K
    (try simp only [Act.put,ZA,ZB,ZC,ZD,ZE,ZF])
    refine dn ?_;go_wp2;refine be ?_;exact ⟨rfl,_,_,_,(hof _ hd3).trans hR⟩
  ·go_simp
   refine (hbk _ hd2).mono ?_;rintro e wk ⟨rfl,hb⟩;have hd3:=hd2.trans (hb.mono hd2.size);obtain ⟨k4,k11,k12,k7⟩:=hc _ hd3;unfold backS;go_wp2_with fail;refine hK.out _ _ (trivial) (fun Hh=>?_);clear hK K;refine rd2 6 10 (fun K hK=>?_) fun K hK=>?_
   ·go_simp
    refine hK.out _ _ (trivial) (fun Hh=>?_);clear hK K;refine rd 10 fun K hK=>?_
    go_simp;refine hK.out _ _ (trivial) (fun Hh=>?_);clear hK K;refine rd 13 fun K hK=>?_
    go_simp;refine (hmv _ hd3).mono ?_;rintro e w2 ⟨rfl,vg2,hR⟩;go_wp2_with fail;refine hK.out _ _ (trivial) (fun Hh=>?_);clear hK K
    (try simp only [Act.put,ZA,ZB,ZC,ZD,ZE,ZF])
    refine dn ?_;go_wp2;refine be ?_;exact ⟨rfl,_,_,_,(hof _ hd3).trans hR⟩
   ·go_simp
    refine hK.out _ _ (trivial) (fun Hh=>?_);clear hK K;refine rd 6 fun K hK=>?_
    go_simp;refine hK.out _ _ (trivial) (fun Hh=>?_);clear hK K;refine rd 13 fun K hK=>?_
    go_simp;refine (hmv _ hd3).mono ?_;rintro e w2 ⟨rfl,vg2,hR⟩;go_wp2_with fail;refine hK.out _ _ (trivial) (fun Hh=>?_);clear hK K
    (try simp only [Act.put,ZA,ZB,ZC,ZD,ZE,ZF])
    refine dn ?_;go_wp2;refine be ?_;exact ⟨rfl,_,_,_,(hof _ hd3).trans hR⟩
 ·have hq:(t.row==t.bot)=false:=by simp [hb]
  obtain ⟨ga,gc,hvg⟩:∃ a c,v.g=.slice a N c:=by
   obtain ⟨a,c,e⟩:=sGs (SlG.of_own h.o.1.g);rw [rt.n] at e
   exact ⟨a,c,e⟩
  have hc1:∀ W,Below w.heap.size w W->W.cell? ⟨B,1,none⟩=some (.slice ga N gc):=fun W hb=>by rw [(h.below hb).cell 1];show some v.g=_;rw [hvg]
  have hll:=fun W (hbW:Below w.heap.size w W)=>l7Last_any B ga N gc W (hc1 W hbW) (by omega)
  have hN:=rt.n;have hd2:=hd.trans ((bdr w.drew).mono hd.size);obtain ⟨g4,_,_,_⟩:=hc _ hd2
  by_cases hl:t.row<(N:Int)-1
  ·have hV:Hid (lineT t={ t with row:=t.row+1 }):=by show _=_;unfold lineT;rw [if_neg hb,if_pos (by omega)]
   rw [hV.out]
   have hs2:=h.below hd2;have z4:w.drew.drew.frozen? ⟨B,4,none⟩=false:=hs2.frozen 4
   have hR:Hid (Res w (w.drew.drew.setCell ⟨B,4,none⟩ (.int .i64 (t.row+1))) 35 base B [] v vg vo { t with row:=t.row+1 } v vg vo) :=
    (Res.of_below h hd2).trans (hs2.put (sCg B [.int .i64 (t.row+1)] 4 w.drew.drew) _ (sCh B 35 [.int .i64 (t.row+1)] 4 w.drew.drew _ hs2.b) rfl rfl rfl rfl rfl)
   have hr2:t.row<=30:=by omega
   clear rt hbase hvg hV h hN b1 b2 b3 r2 hc hc1 hlt hs2 d11 d7;go_enter Tryz.func207,Tryz.ntmps207;go_wp2;go_region;go_wp2;refine wp_region_noPanic ?_;refine wp_region_held_drew (S:=(fun _=>True)) (by kernel_rfl) (trivial) (fun Hh=>?_);refine' wpAnyH_take (i:=0) (v:=_) rfl (by kernel_rfl) (by kernel_rfl) (by kernel_rfl) (fun _ _ _ h=>h) (Or.inl ⟨by rfl,?hy1011⟩) Hh ?hr1011
   case hy1011=>(intro w hSw;(try dsimp only at hSw);go_simp;(try with_reducible rfl))
   simp only [Act.put,ZA,ZB,ZC,ZD,ZE];refine' wpAnyH_take (i:=1) (v:=_) rfl (by kernel_rfl) (by kernel_rfl) (by kernel_rfl) (fun _ _ _ h=>h) (Or.inl ⟨by rfl,?hy1012⟩) Hh ?hr1012
   case hy1012=>(intro w hSw;(try dsimp only at hSw);go_simp;(try with_reducible rfl))
   simp only [Act.put,ZA,ZB,ZC,ZD,ZE,ZF];refine' wpAnyH_take (i:=2) (v:=_) rfl (by kernel_rfl) (by kernel_rfl) (by kernel_rfl) (fun _ _ _ h=>h) (Or.inl ⟨by rfl,?hy1013⟩) Hh ?hr1013
   case hy1013=>(intro w hSw;(try dsimp only at hSw);go_simp;(try with_reducible rfl))
   simp only [Act.put,ZA,ZB,ZC,ZD,ZE,ZF];refine' wpAnyH_take (i:=4) (v:=_) rfl (by kernel_rfl) (by kernel_rfl) (by kernel_rfl) (fun _ _ _ h=>h) (Or.inl ⟨by rfl,?hy1014⟩) Hh ?hr1014
   case hy1014=>(intro w hSw;(try dsimp only at hSw);go_simp;(try with_reducible rfl))
   refine rd2 3 5 (fun K hK=>?_) fun K hK=>?_
   ·go_simp
    refine hK.out _ _ (trivial) (fun Hh=>?_);clear hK K;refine rd 5 fun K hK=>?_
    go_simp;refine (hll _ hd2).mono ?_;rintro e wk ⟨rfl,hw⟩;subst hw;go_wp2_with fail;refine hK.out _ _ (trivial) (fun Hh=>?_);clear hK K
    (try simp only [Act.put,ZA,ZB,ZC,ZD,ZE,ZF])
    refine' wpAnyH_take (i:=6) (v:=_) rfl (by kernel_rfl) (by kernel_rfl) (by kernel_rfl) (fun _ _ _ h=>h) (Or.inl ⟨by rfl,?hy1015⟩) Hh ?hr1015
    case hy1015=>(intro w hSw;(try dsimp only at hSw);go_simp;(try with_reducible rfl))
    simp only [Act.put,ZA,ZB,ZC,ZD,ZE,ZF];refine' wpAnyH_take (i:=7) (v:=_) rfl (by kernel_rfl) (by kernel_rfl) (by kernel_rfl) (fun _ _ _ h=>h) (Or.inl ⟨by rfl,?hy1016⟩) Hh ?hr1016
    case hy1016=>(intro w hSw;(try dsimp only at hSw);go_simp;(try with_reducible rfl))
    simp only [Act.put,ZA,ZB,ZC,ZD,ZE,ZF];refine dn ?_;go_wp2;refine be ?_;exact ⟨rfl,_,_,_,hR.out⟩
   ·go_simp
    refine (hll _ hd2).mono ?_;rintro e wk ⟨rfl,hw⟩;subst hw;go_wp2_with fail;refine hK.out _ _ (trivial) (fun Hh=>?_);clear hK K;refine rd 3 fun K hK=>?_
    go_simp;refine hK.out _ _ (trivial) (fun Hh=>?_);clear hK K
    (try simp only [Act.put,ZA,ZB,ZC,ZD,ZE,ZF])
    refine' wpAnyH_take (i:=6) (v:=_) rfl (by kernel_rfl) (by kernel_rfl) (by kernel_rfl) (fun _ _ _ h=>h) (Or.inl ⟨by rfl,?hy1017⟩) Hh ?hr1017
    case hy1017=>(intro w hSw;(try dsimp only at hSw);go_simp;(try with_reducible rfl))
    simp only [Act.put,ZA,ZB,ZC,ZD,ZE,ZF];refine' wpAnyH_take (i:=7) (v:=_) rfl (by kernel_rfl) (by kernel_rfl) (by kernel_rfl) (fun _ _ _ h=>h) (Or.inl ⟨by rfl,?hy1018⟩) Hh ?hr1018
    case hy1018=>(intro w hSw;(try dsimp only at hSw);go_simp;(try with_reducible rfl))
    simp only [Act.put,ZA,ZB,ZC,ZD,ZE,ZF];refine dn ?_;go_wp2;refine be ?_;exact ⟨rfl,_,_,_,hR.out⟩
  ·have hV:Hid (lineT t=t):=by show _=_;unfold lineT;rw [if_neg hb,if_neg (by omega)]
   rw [hV.out]
   have hR:=Res.of_below h hd2;clear rt hbase hvg hV h hN b1 b2 b3 r2 hc hc1 hlt d11 d7;go_enter Tryz.func207,Tryz.ntmps207;go_wp2;go_region;go_wp2;refine wp_region_noPanic ?_;refine wp_region_held_drew (S:=(fun _=>True)) (by kernel_rfl) (trivial) (fun Hh=>?_);refine' wpAnyH_take (i:=0) (v:=_) rfl (by kernel_rfl) (by kernel_rfl) (by kernel_rfl) (fun _ _ _ h=>h) (Or.inl ⟨by rfl,?hy1019⟩) Hh ?hr1019
   case hy1019=>(intro w hSw;(try dsimp only at hSw);go_simp;(try with_reducible rfl))
   simp only [Act.put,ZA,ZB,ZC,ZD,ZE];refine' wpAnyH_take (i:=1) (v:=_) rfl (by kernel_rfl) (by kernel_rfl) (by kernel_rfl) (fun _ _ _ h=>h) (Or.inl ⟨by rfl,?hy1020⟩) Hh ?hr1020
   case hy1020=>(intro w hSw;(try dsimp only at hSw);go_simp;(try with_reducible rfl))
   simp only [Act.put,ZA,ZB,ZC,ZD,ZE,ZF];refine' wpAnyH_take (i:=2) (v:=_) rfl (by kernel_rfl) (by kernel_rfl) (by kernel_rfl) (fun _ _ _ h=>h) (Or.inl ⟨by rfl,?hy1021⟩) Hh ?hr1021
   case hy1021=>(intro w hSw;(try dsimp only at hSw);go_simp;(try with_reducible rfl))
   simp only [Act.put,ZA,ZB,ZC,ZD,ZE,ZF];refine' wpAnyH_take (i:=4) (v:=_) rfl (by kernel_rfl) (by kernel_rfl) (by kernel_rfl) (fun _ _ _ h=>h) (Or.inl ⟨by rfl,?hy1022⟩) Hh ?hr1022
   case hy1022=>(intro w hSw;(try dsimp only at hSw);go_simp;(try with_reducible rfl))
   refine rd2 3 5 (fun K hK=>?_) fun K hK=>?_
   ·go_simp
    refine hK.out _ _ (trivial) (fun Hh=>?_);clear hK K;refine rd 5 fun K hK=>?_
    go_simp;refine (hll _ hd2).mono ?_;rintro e wk ⟨rfl,hw⟩;subst hw;go_wp2_with fail;refine hK.out _ _ (trivial) (fun Hh=>?_);clear hK K
    (try simp only [Act.put,ZA,ZB,ZC,ZD,ZE,ZF])
    refine' wpAnyH_take (i:=6) (v:=_) rfl (by kernel_rfl) (by kernel_rfl) (by kernel_rfl) (fun _ _ _ h=>h) (Or.inl ⟨by rfl,?hy1023⟩) Hh ?hr1023
    case hy1023=>(intro w hSw;(try dsimp only at hSw);go_simp;(try with_reducible rfl))
    simp only [Act.put,ZA,ZB,ZC,ZD,ZE,ZF];refine' wpAnyH_take (i:=7) (v:=_) rfl (by kernel_rfl) (by kernel_rfl) (by kernel_rfl) (fun _ _ _ h=>h) (Or.inl ⟨by rfl,?hy1024⟩) Hh ?hr1024
    case hy1024=>(intro w hSw;(try dsimp only at hSw);go_simp;(try with_reducible rfl))
    simp only [Act.put,ZA,ZB,ZC,ZD,ZE,ZF];refine dn ?_;go_wp2;refine be ?_;exact ⟨rfl,_,_,_,hR⟩
   ·go_simp
    refine (hll _ hd2).mono ?_;rintro e wk ⟨rfl,hw⟩;subst hw;go_wp2_with fail;refine hK.out _ _ (trivial) (fun Hh=>?_);clear hK K;refine rd 3 fun K hK=>?_
    go_simp;refine hK.out _ _ (trivial) (fun Hh=>?_);clear hK K
    (try simp only [Act.put,ZA,ZB,ZC,ZD,ZE,ZF])
    refine' wpAnyH_take (i:=6) (v:=_) rfl (by kernel_rfl) (by kernel_rfl) (by kernel_rfl) (fun _ _ _ h=>h) (Or.inl ⟨by rfl,?hy1025⟩) Hh ?hr1025
    case hy1025=>(intro w hSw;(try dsimp only at hSw);go_simp;(try with_reducible rfl))
    simp only [Act.put,ZA,ZB,ZC,ZD,ZE,ZF];refine' wpAnyH_take (i:=7) (v:=_) rfl (by kernel_rfl) (by kernel_rfl) (by kernel_rfl) (fun _ _ _ h=>h) (Or.inl ⟨by rfl,?hy1026⟩) Hh ?hr1026
    case hy1026=>(intro w hSw;(try dsimp only at hSw);go_simp;(try with_reducible rfl))
    simp only [Act.put,ZA,ZB,ZC,ZD,ZE,ZF];refine dn ?_;go_wp2;refine be ?_;exact ⟨rfl,_,_,_,hR⟩
end Go.Proofs.YtgcnmjjlmcnllaaGreatDoor
