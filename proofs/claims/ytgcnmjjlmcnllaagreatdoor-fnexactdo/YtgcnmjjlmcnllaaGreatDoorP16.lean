/- Parts of the proof. -/
import Derived.Test.YtgcnmjjlmcnllaaGreatDoorP1
import Derived.Test.YtgcnmjjlmcnllaaGreatDoorP2
import Derived.Test.YtgcnmjjlmcnllaaGreatDoorP3
import Derived.Test.YtgcnmjjlmcnllaaGreatDoorP4
import Derived.Test.YtgcnmjjlmcnllaaGreatDoorP5
import Derived.Test.YtgcnmjjlmcnllaaGreatDoorP8
import Derived.Test.YtgcnmjjlmcnllaaGreatDoorP12
import Derived.Test.YtgcnmjjlmcnllaaGreatDoorP13
import Derived.Test.YtgcnmjjlmcnllaaGreatDoorP14
import Derived.Test.YtgcnmjjlmcnllaaGreatDoorP15
namespace Go.Proofs.YtgcnmjjlmcnllaaGreatDoor
set_option maxRecDepth 20000
set_option maxHeartbeats 16000000
open Go.ChangeShapes Go.WideShapes Go.ChangeAt Go.RowKit
theorem lineT_full (t:Te) (b:Bool):lineT { t with full:=b }={ lineT t with full:=b }:=by
 unfold lineT moveT;split
 ·rfl
 ·split<;>rfl
theorem RtW.full {t:Te} {cn N:Nat} (h:RtW t cn N) (b:Bool):RtW { t with full:=b } cn N:=⟨h.gc,h.oc,h.c,h.n,h.m,h.n1,h.gx,h.ox,h.row,h.col,h.tb⟩
theorem l7Control_any (cn N base B:Nat) (t:Te) (v:Tv) (vg vo:List Value) (w:World) (h:Scr w 35 base B [] t v vg vo) (hbase:base<=w.heap.size) (rt:RtW t cn N) (r:Int) :
  Calls Tryz.prog 142 #[.pointer (some ⟨B,0,none⟩),.int .i64 r] w fun e w'=>e=.returned (.tuple #[])/\∃ v' vg' vo',Res w w' 35 base B [] v vg vo (controlT t r) v' vg' vo':=by
 obtain ⟨k1,k2⟩:=rt.col;have hc:=rt.c
 have full:∀ (W1:World) (t1:Te) (b:Bool) (v1:Tv) (g1 o1:List Value),Scr W1 35 base B [] t1 v1 g1 o1->Res W1 (W1.setCell ⟨B,13,none⟩ (.bool b)) 35 base B [] v1 g1 o1 { t1 with full:=b } v1 g1 o1 :=
  fun W1 t1 b v1 g1 o1 h1=>h1.put (sCg B [.bool b] 13 W1) _ (sCh B 35 [.bool b] 13 W1 _ h1.b) rfl rfl rfl rfl rfl
 have colp:∀ (W1:World) (t1:Te) (c:Int) (v1:Tv) (g1 o1:List Value),Scr W1 35 base B [] t1 v1 g1 o1->Res W1 (W1.setCell ⟨B,5,none⟩ (.int .i64 c)) 35 base B [] v1 g1 o1 { t1 with col:=c } v1 g1 o1 :=
  fun W1 t1 c v1 g1 o1 h1=>h1.put (sCg B [.int .i64 c] 5 W1) _ (sCh B 35 [.int .i64 c] 5 W1 _ h1.b) rfl rfl rfl rfl rfl
 have c0:w.cell? ⟨B,0,none⟩=some (.int .i64 t.gc):=h.cell 0;have c5:w.cell? ⟨B,5,none⟩=some (.int .i64 t.col):=h.cell 5;have z5:w.frozen? ⟨B,5,none⟩=false:=h.frozen 5;have c13:w.cell? ⟨B,13,none⟩=some (.bool t.full):=h.cell 13;have z13:w.frozen? ⟨B,13,none⟩=false:=h.frozen 13;have h1:=full w t false v vg vo h
 by_cases r8:r=8
 ·subst r8
  obtain ⟨q,hq⟩:∃ q,Hid (max 0 (t.col-1)=q):=⟨_,rfl⟩;have hV:controlT t 8={ { t with full:=false } with col:=q }:=by rw [<- hq.out];rfl
  rw [hV]
  have hR:=(show Hid _ from h1.trans (colp _ _ q _ _ _ h1.s));have hw:IntKind.i64.wrap (t.col-1)=t.col-1:=by simp [IntKind.wrap,IntKind.bits,IntKind.signed];omega
  have hmx:=fun W=>l1MaxG_any 0 (t.col-1) W
  rw [hq.out] at hmx
  clear h full colp rt hbase h1 hV;go_enter Tryz.func142,Tryz.ntmps142;go_wp2_with fail;refine (hmx _).mono ?_;rintro e w1 ⟨rfl,hw1⟩;subst hw1;go_wp2;refine be ?_;exact ⟨rfl,_,_,_,hR.out⟩
 by_cases r13:r=13
 ·subst r13
  have hV:controlT t 13={ { t with full:=false } with col:=0 }:=rfl;rw [hV]
  have hR:=(show Hid _ from h1.trans (colp _ _ 0 _ _ _ h1.s));clear h full colp rt hbase h1 hV r8;go_enter Tryz.func142,Tryz.ntmps142;go_wp2;refine be ?_;exact ⟨rfl,_,_,_,hR.out⟩
 by_cases r10:r=10
 ·subst r10
  have hV:controlT t 10=lineT { t with full:=false }:=by rw [lineT_full];rfl
  rw [hV]
  have hfl:=l7Line_any cn N base B { t with full:=false } v vg vo _ h1.s (Nat.le_trans hbase h1.g.size) (rt.full false);clear h full colp rt hbase hV c0 c5 z5;replace h1:=(show Hid _ from h1);go_enter Tryz.func142,Tryz.ntmps142;go_wp2_with fail;refine hfl.mono ?_;rintro e w2 ⟨rfl,v2,g2,o2,hR2⟩;replace hR2:=(show Hid _ from h1.out.trans hR2);clear hfl h1;go_wp2;refine be ?_;exact ⟨rfl,_,_,_,hR2.out⟩
 by_cases r11:r=11
 ·subst r11
  have hV:controlT t 11=lineT { t with full:=false }:=by rw [lineT_full];rfl
  rw [hV]
  have hfl:=l7Line_any cn N base B { t with full:=false } v vg vo _ h1.s (Nat.le_trans hbase h1.g.size) (rt.full false);clear h full colp rt hbase hV c0 c5 z5;replace h1:=(show Hid _ from h1);go_enter Tryz.func142,Tryz.ntmps142;go_wp2_with fail;refine hfl.mono ?_;rintro e w2 ⟨rfl,v2,g2,o2,hR2⟩;replace hR2:=(show Hid _ from h1.out.trans hR2);clear hfl h1;go_wp2;refine be ?_;exact ⟨rfl,_,_,_,hR2.out⟩
 by_cases r12:r=12
 ·subst r12
  have hV:controlT t 12=lineT { t with full:=false }:=by rw [lineT_full];rfl
  rw [hV]
  have hfl:=l7Line_any cn N base B { t with full:=false } v vg vo _ h1.s (Nat.le_trans hbase h1.g.size) (rt.full false);clear h full colp rt hbase hV c0 c5 z5;replace h1:=(show Hid _ from h1);go_enter Tryz.func142,Tryz.ntmps142;go_wp2_with fail;refine hfl.mono ?_;rintro e w2 ⟨rfl,v2,g2,o2,hR2⟩;replace hR2:=(show Hid _ from h1.out.trans hR2);clear hfl h1;go_wp2;refine be ?_;exact ⟨rfl,_,_,_,hR2.out⟩
 by_cases r9:r=9
 ·subst r9
  obtain ⟨q,hq⟩:∃ q,Hid (min (t.gc-1) (t.col / 8*8+8)=q):=⟨_,rfl⟩;have hV:controlT t 9={ { t with full:=false } with col:=q }:=by rw [<- hq.out];rfl
  rw [hV]
  have hR:=(show Hid _ from (h1.trans (colp _ _ q _ _ _ h1.s)).below (bdr _));have hgc:=rt.gc;have e0:IntKind.i64.wrap (t.gc-1)=t.gc-1:=by simp [IntKind.wrap,IntKind.bits,IntKind.signed];omega
  have hmn:∀ W,Calls Tryz.prog 158 #[.int .i64 (IntKind.i64.wrap (t.gc-1)),.int .i64 (IntKind.i64.wrap (IntKind.i64.wrap (IntKind.i64.wrap (t.col.tdiv 8)*8)+8))] W fun e w'=>e=.returned (.int .i64 q)/\w'=W:=by
   intro W;have e1:t.col.tdiv 8=t.col / 8:=Int.tdiv_eq_ediv_of_nonneg k1;have e2:IntKind.i64.wrap (t.col / 8)=t.col / 8:=by simp [IntKind.wrap,IntKind.bits,IntKind.signed];omega
   have e3:IntKind.i64.wrap (t.col / 8*8)=t.col / 8*8:=by simp [IntKind.wrap,IntKind.bits,IntKind.signed];omega
   have e4:IntKind.i64.wrap (t.col / 8*8+8)=t.col / 8*8+8:=by simp [IntKind.wrap,IntKind.bits,IntKind.signed];omega
   rw [e0,e1,e2,e3,e4,<- hq.out]
   exact l1Min_any _ _ W
  clear h full colp rt hbase h1 hV r8 r13 e0 hgc;go_enter Tryz.func142,Tryz.ntmps142;go_wp2;refine wp_region_noPanic ?_;refine wp_region_held_drew (S:=(fun _=>True)) (by kernel_rfl) (trivial) (fun Hh=>?_);refine' wpAnyH_take (i:=0) (v:=_) rfl (by kernel_rfl) (by kernel_rfl) (by kernel_rfl) (fun _ _ _ h=>h) (Or.inl ⟨by rfl,?hy1001⟩) Hh ?hr1001
  case hy1001=>(intro w hSw;(try dsimp only at hSw);go_simp;(try with_reducible rfl))
  simp only [Act.put,ZA,ZB,ZC,ZD,ZE];refine' wpAnyH_take (i:=1) (v:=_) rfl (by kernel_rfl) (by kernel_rfl) (by kernel_rfl) (fun _ _ _ h=>h) (Or.inl ⟨by rfl,?hy1002⟩) Hh ?hr1002
  case hy1002=>(intro w hSw;(try dsimp only at hSw);go_simp;(try with_reducible rfl))
  simp only [Act.put,ZA,ZB,ZC,ZD,ZE,ZF];refine' wpAnyH_take (i:=2) (v:=_) rfl (by kernel_rfl) (by kernel_rfl) (by kernel_rfl) (fun _ _ _ h=>h) (Or.inl ⟨by rfl,?hy1003⟩) Hh ?hr1003
  case hy1003=>(intro w hSw;(try dsimp only at hSw);go_simp;(try with_reducible rfl))
  simp only [Act.put,ZA,ZB,ZC,ZD,ZE,ZF];refine' wpAnyH_take (i:=3) (v:=_) rfl (by kernel_rfl) (by kernel_rfl) (by kernel_rfl) (fun _ _ _ h=>h) (Or.inl ⟨by rfl,?hy1004⟩) Hh ?hr1004
  case hy1004=>(intro w hSw;(try dsimp only at hSw);go_simp;(try with_reducible rfl))
  simp only [Act.put,ZA,ZB,ZC,ZD,ZE,ZF];refine' wpAnyH_take (i:=4) (v:=_) rfl (by kernel_rfl) (by kernel_rfl) (by kernel_rfl) (fun _ _ _ h=>h) (Or.inl ⟨by rfl,?hy1005⟩) Hh ?hr1005
  case hy1005=>(intro w hSw;(try dsimp only at hSw);go_simp;(try with_reducible rfl))
  simp only [Act.put,ZA,ZB,ZC,ZD,ZE,ZF];refine' wpAnyH_take (i:=7) (v:=_) rfl (by kernel_rfl) (by kernel_rfl) (by kernel_rfl) (fun _ _ _ h=>h) (Or.inl ⟨by rfl,?hy1006⟩) Hh ?hr1006
  case hy1006=>(intro w hSw;(try dsimp only at hSw);go_simp;(try with_reducible rfl))
  simp only [Act.put,ZA,ZB,ZC,ZD,ZE,ZF];refine' wpAnyH_take (i:=8) (v:=_) rfl (by kernel_rfl) (by kernel_rfl) (by kernel_rfl) (fun _ _ _ h=>h) (Or.inl ⟨by rfl,?hy1007⟩) Hh ?hr1007
  case hy1007=>(intro w hSw;(try dsimp only at hSw);go_simp;(try with_reducible rfl))
  simp only [Act.put,ZA,ZB,ZC,ZD,ZE,ZF];refine' wpAnyH_take (i:=9) (v:=_) rfl (by kernel_rfl) (by kernel_rfl) (by kernel_rfl) (fun _ _ _ h=>h) (Or.inl ⟨by rfl,?hy1008⟩) Hh ?hr1008
  case hy1008=>(intro w hSw;(try dsimp only at hSw);go_simp;(try with_reducible rfl))
  refine rd2 5 10 (fun K hK=>?_) fun K hK=>?_
  ·go_simp
   refine hK.out _ _ (trivial) (fun Hh=>?_);clear hK K
   (try simp only [Act.put,ZA,ZB,ZC,ZD,ZE,ZF])
   refine' wpAnyH_take (i:=6) (v:=_) rfl (by kernel_rfl) (by kernel_rfl) (by kernel_rfl) (fun _ _ _ h=>h) (Or.inl ⟨by rfl,?hy1009⟩) Hh ?hr1009
   case hy1009=>(intro w hSw;(try dsimp only at hSw);go_simp;(try with_reducible rfl))
   refine rd 10 fun K hK=>?_
   go_simp;refine hK.out _ _ (trivial) (fun Hh=>?_);clear hK K
   (try simp only [Act.put,ZA,ZB,ZC,ZD,ZE,ZF])
   refine' wpAnyH_take (i:=11) (v:=_) rfl (by kernel_rfl) (by kernel_rfl) (by kernel_rfl) (fun _ _ _ h=>h) (Or.inl ⟨by rfl,?hy1010⟩) Hh ?hr1010
   case hy1010=>(intro w hSw;(try dsimp only at hSw);go_simp;(try with_reducible rfl))
   simp only [Act.put,ZA,ZB,ZC,ZD,ZE,ZF];refine' wpAnyH_take (i:=12) (v:=_) rfl (by kernel_rfl) (by kernel_rfl) (by kernel_rfl) (fun _ _ _ h=>h) (Or.inl ⟨by rfl,?hy1011⟩) Hh ?hr1011
   case hy1011=>(intro w hSw;(try dsimp only at hSw);go_simp;(try with_reducible rfl))
   simp only [Act.put,ZA,ZB,ZC,ZD,ZE,ZF];refine' wpAnyH_take (i:=13) (v:=_) rfl (by kernel_rfl) (by kernel_rfl) (by kernel_rfl) (fun _ _ _ h=>h) (Or.inl ⟨by rfl,?hy1012⟩) Hh ?hr1012
   case hy1012=>(intro w hSw;(try dsimp only at hSw);go_simp;(try with_reducible rfl))
   refine rd 14 fun K hK=>?_
   go_simp;refine (hmn _).mono ?_;rintro e wk ⟨rfl,hw⟩;subst hw;go_wp2_with fail;refine hK.out _ _ (trivial) (fun Hh=>?_);clear hK K
   (try simp only [Act.put,ZA,ZB,ZC,ZD,ZE,ZF])
   refine' wpAnyH_take (i:=15) (v:=_) rfl (by kernel_rfl) (by kernel_rfl) (by kernel_rfl) (fun _ _ _ h=>h) (Or.inl ⟨by rfl,?hy1013⟩) Hh ?hr1013
   case hy1013=>(intro w hSw;(try dsimp only at hSw);go_simp;(try with_reducible rfl))
   simp only [Act.put,ZA,ZB,ZC,ZD,ZE,ZF];refine' wpAnyH_take (i:=16) (v:=_) rfl (by kernel_rfl) (by kernel_rfl) (by kernel_rfl) (fun _ _ _ h=>h) (Or.inl ⟨by rfl,?hy1014⟩) Hh ?hr1014
   case hy1014=>(intro w hSw;(try dsimp only at hSw);go_simp;(try with_reducible rfl))
   refine rd 17 fun K hK=>?_
   go_simp;refine hK.out _ _ (trivial) (fun Hh=>?_);clear hK K
   (try simp only [Act.put,ZA,ZB,ZC,ZD,ZE,ZF])
   refine dn ?_;go_wp2;refine be ?_;exact ⟨rfl,_,_,_,hR.out⟩
  ·go_simp
   refine hK.out _ _ (trivial) (fun Hh=>?_);clear hK K
   (try simp only [Act.put,ZA,ZB,ZC,ZD,ZE,ZF])
   refine' wpAnyH_take (i:=11) (v:=_) rfl (by kernel_rfl) (by kernel_rfl) (by kernel_rfl) (fun _ _ _ h=>h) (Or.inl ⟨by rfl,?hy1015⟩) Hh ?hr1015
   case hy1015=>(intro w hSw;(try dsimp only at hSw);go_simp;(try with_reducible rfl))
   simp only [Act.put,ZA,ZB,ZC,ZD,ZE,ZF];refine' wpAnyH_take (i:=12) (v:=_) rfl (by kernel_rfl) (by kernel_rfl) (by kernel_rfl) (fun _ _ _ h=>h) (Or.inl ⟨by rfl,?hy1016⟩) Hh ?hr1016
   case hy1016=>(intro w hSw;(try dsimp only at hSw);go_simp;(try with_reducible rfl))
   simp only [Act.put,ZA,ZB,ZC,ZD,ZE,ZF];refine' wpAnyH_take (i:=13) (v:=_) rfl (by kernel_rfl) (by kernel_rfl) (by kernel_rfl) (fun _ _ _ h=>h) (Or.inl ⟨by rfl,?hy1017⟩) Hh ?hr1017
   case hy1017=>(intro w hSw;(try dsimp only at hSw);go_simp;(try with_reducible rfl))
   refine rd 5 fun K hK=>?_
   go_simp;refine hK.out _ _ (trivial) (fun Hh=>?_);clear hK K
   (try simp only [Act.put,ZA,ZB,ZC,ZD,ZE,ZF])
   refine' wpAnyH_take (i:=6) (v:=_) rfl (by kernel_rfl) (by kernel_rfl) (by kernel_rfl) (fun _ _ _ h=>h) (Or.inl ⟨by rfl,?hy1018⟩) Hh ?hr1018
   case hy1018=>(intro w hSw;(try dsimp only at hSw);go_simp;(try with_reducible rfl))
   refine rd 14 fun K hK=>?_
   go_simp;refine (hmn _).mono ?_;rintro e wk ⟨rfl,hw⟩;subst hw;go_wp2_with fail;refine hK.out _ _ (trivial) (fun Hh=>?_);clear hK K
   (try simp only [Act.put,ZA,ZB,ZC,ZD,ZE,ZF])
   refine' wpAnyH_take (i:=15) (v:=_) rfl (by kernel_rfl) (by kernel_rfl) (by kernel_rfl) (fun _ _ _ h=>h) (Or.inl ⟨by rfl,?hy1019⟩) Hh ?hr1019
   case hy1019=>(intro w hSw;(try dsimp only at hSw);go_simp;(try with_reducible rfl))
   simp only [Act.put,ZA,ZB,ZC,ZD,ZE,ZF];refine' wpAnyH_take (i:=16) (v:=_) rfl (by kernel_rfl) (by kernel_rfl) (by kernel_rfl) (fun _ _ _ h=>h) (Or.inl ⟨by rfl,?hy1020⟩) Hh ?hr1020
   case hy1020=>(intro w hSw;(try dsimp only at hSw);go_simp;(try with_reducible rfl))
   refine rd 17 fun K hK=>?_
   go_simp;refine hK.out _ _ (trivial) (fun Hh=>?_);clear hK K
   (try simp only [Act.put,ZA,ZB,ZC,ZD,ZE,ZF])
   refine dn ?_;go_wp2;refine be ?_;exact ⟨rfl,_,_,_,hR.out⟩
 have hV:controlT t r=t:=by unfold controlT;rw [if_neg r8,if_neg r9,if_neg (by omega),if_neg r13]
 rw [hV]
 have q8:(r==8)=false:=by simp [r8]
 have q9:(r==9)=false:=by simp [r9]
 have q10:(r==10)=false:=by simp [r10]
 have q11:(r==11)=false:=by simp [r11]
 have q12:(r==12)=false:=by simp [r12]
 have q13:(r==13)=false:=by simp [r13]
 have hR:=(show Hid _ from h1.trans (full _ _ t.full _ _ _ h1.s));clear h full colp rt hbase h1 hV r8 r9 r10 r11 r12 r13;go_enter Tryz.func142,Tryz.ntmps142;go_wp2;refine be ?_;exact ⟨rfl,_,_,_,hR.out⟩
theorem lineT_gc (t:Te):(lineT t).gc=t.gc:=by unfold lineT moveT;(split;rfl;split<;>rfl)
def p1T (t:Te):Te:=if t.full=true/\t.wrap=true then lineT { t with full:=false,col:=0 } else { t with full:=false }
def p2T (u:Te) (g r:Int):Te:=if g<u.col+wdV r then (if u.wrap=true then lineT { u with col:=0 } else { u with col:=g-wdV r }) else u
def p3T (u:Te) (g r:Int):Te:=if g<=u.col+wdV r then { Go.Proofs.YtgcnmjjlmcnllaaGreatDoor.rowT u u.row (writeL (rowX u.g u.row.toNat) u.col.toNat r u.st) with col:=g-1,full:=true } else { Go.Proofs.YtgcnmjjlmcnllaaGreatDoor.rowT u u.row (writeL (rowX u.g u.row.toNat) u.col.toNat r u.st) with col:=u.col+wdV r }
theorem printT_eq (t:Te) (r:Int) (h1:1<=wdV r) (h2:wdV r<=t.gc):printT t r=p3T (p2T (p1T t) t.gc r) t.gc r:=by
 unfold printT;rw [if_neg (by omega)]
 rfl
theorem te_pa {t:Te} {p:Pa} (h:t.pa=p):({ t with pa:=p }:Te)=t:=by subst h;rfl
def doR (t:Te) (a:Ac):Te:=if termOkB t=true then (if actB a=true then doT t a else t) else teZ
theorem implDo_any (t:Te) (v:Tv) (a:Ac) (pv x:Value) (w:World) (hSp:SpansAt w) (h:SlT w t v) (hz:SzT 1048576 t) (hp:SlN w pv a.params) (hx:SlN w x a.text) (hl:a.params.length<=1048576) (ht:a.text.length<=1048576) (hpb:∀ g,pv.ownBlock=some g->g<w.heap.size) :
  Calls Tryz.prog 10 #[.agg (teCs t v),.agg (acA a.kind a.rune pv a.mark x)] w fun e w'=>∃ v' vg vo,e=.returned (.agg (teCs (doR t a) v'))/\OwnS w' w.heap.size (doR t a) v' vg vo/\Below w.heap.size w w':=by
 obtain ⟨Rt,eR⟩:∃ R,Hid (doR t a=R):=⟨_,rfl⟩;rw [eR.out]
 obtain ⟨w3,hw3⟩:∃ w3,w3=((w.alloc (Obj.cells (teCs t v) 35)).alloc (Obj.cells (acA a.kind a.rune pv a.mark x) 37)).alloc (Obj.cells #[.int .i64 0,.slice none 0 0,.int .i64 0,.slice none 0 0,.int .i64 0,.int .i64 0,.int .i64 0,.int .i64 0,.bool false,.bool false,.bool false,.int .i64 0,.int .i64 0,.bool false,.bool false,.bool false,.bool false,.int .i64 0,.int .i64 0,.int .i64 0,.int .i64 0,.bool false,.bool false,.bool false,.slice none 0 0,.int .i64 0,.slice none 0 0,.int .i64 0,.slice none 0 0,.string ⟨#[]⟩] 35):=⟨_,rfl⟩;have b1:=bal' w (Obj.cells (teCs t v) 35);have b2:=bal' (w.alloc (Obj.cells (teCs t v) 35)) (Obj.cells (acA a.kind a.rune pv a.mark x) 37);have b3:=bal' ((w.alloc (Obj.cells (teCs t v) 35)).alloc (Obj.cells (acA a.kind a.rune pv a.mark x) 37)) (Obj.cells #[.int .i64 0,.slice none 0 0,.int .i64 0,.slice none 0 0,.int .i64 0,.int .i64 0,.int .i64 0,.int .i64 0,.bool false,.bool false,.bool false,.int .i64 0,.int .i64 0,.bool false,.bool false,.bool false,.bool false,.int .i64 0,.int .i64 0,.int .i64 0,.int .i64 0,.bool false,.bool false,.bool false,.slice none 0 0,.int .i64 0,.slice none 0 0,.int .i64 0,.slice none 0 0,.string ⟨#[]⟩] 35);have hX:=((TeB.new w 35 t v).below b2).below b3;have hA:=BlkC.below (BlkC.new (w.alloc (Obj.cells (teCs t v) 35)) 37 (acA a.kind a.rune pv a.mark x).toList) b3;have hR:=TB.new ((w.alloc (Obj.cells (teCs t v) 35)).alloc (Obj.cells (acA a.kind a.rune pv a.mark x) 37)) [.int .i64 0,.slice none 0 0,.int .i64 0,.slice none 0 0,.int .i64 0,.int .i64 0,.int .i64 0,.int .i64 0,.bool false,.bool false,.bool false,.int .i64 0,.int .i64 0,.bool false,.bool false,.bool false,.bool false,.int .i64 0,.int .i64 0,.int .i64 0,.int .i64 0,.bool false,.bool false,.bool false,.slice none 0 0,.int .i64 0,.slice none 0 0,.int .i64 0,.slice none 0 0,.string ⟨#[]⟩];have z1:(w.alloc (Obj.cells (teCs t v) 35)).heap.size=w.heap.size+1:=by simp
 have z2:((w.alloc (Obj.cells (teCs t v) 35)).alloc (Obj.cells (acA a.kind a.rune pv a.mark x) 37)).heap.size=w.heap.size+2:=by simp
 have kb:=(b1.trans (b2.mono b1.size)).trans (b3.mono (b1.trans (b2.mono b1.size)).size);rw [z1] at hA
 rw [z2] at hR
 rw [<- hw3] at kb
 replace hX:TeB w3 w.heap.size 35 t v:=by rw [hw3];exact hX
 replace hA:BlkC w3 (w.heap.size+1) 37 [.int .i64 a.kind,.int .i64 a.rune,pv,.int .i64 a.mark,x]:=by rw [hw3];exact hA
 replace hR:TB w3 (w.heap.size+2) [.int .i64 0,.slice none 0 0,.int .i64 0,.slice none 0 0,.int .i64 0,.int .i64 0,.int .i64 0,.int .i64 0,.bool false,.bool false,.bool false,.int .i64 0,.int .i64 0,.bool false,.bool false,.bool false,.bool false,.int .i64 0,.int .i64 0,.int .i64 0,.int .i64 0,.bool false,.bool false,.bool false,.slice none 0 0,.int .i64 0,.slice none 0 0,.int .i64 0,.slice none 0 0,.string ⟨#[]⟩]:=by rw [hw3];exact hR
 replace hw3:=(show Hid _ from hw3);have hT:=implTermOk_any t v w3 (h.below kb) (hSp.below kb hSp.lt) hz;obtain ⟨bT,eT⟩:∃ b,Hid (termOkB t=b):=⟨_,rfl⟩;rw [eT.out] at hT
 unfold teV at hT;unfold acA at hw3 ⊢
 clear b1 b2 b3 z1 z2;go_enter Tryz.func10,Tryz.ntmps10;refine wp_seq_k (fun K hK=>?_);have hH:=(show Hid _ from hK);clear hK;go_wp2;refine hH.out _ _ ?_;rw [<- hw3.out]
 clear hH hw3;go_wp2_with (refine load_te hX (by rfl) _ (by rfl) (by rfl) ?_);refine hT.mono ?_;rintro e w4 ⟨rfl,hb⟩;clear hT;replace kb:=kb.trans (hb.mono kb.size);replace hX:=hX.below hb;replace hA:=hA.below hb;replace hR:=BlkC.below hR hb;clear hb
 cases bT
 case false =>
  obtain rfl:Rt=teZ:=by rw [<- eR.out];unfold doR;rw [if_neg (by rw [eT.out];simp)]
  clear hX hA hp hx;go_wp2_with (refine store_T (cs:=(teCs teZ (tvN (.slice none 0 0) (.slice none 0 0)))) (by rfl) 35 _ _ (by rfl) info_te (by rfl) (by rfl) hR (by rfl) (by rfl) ?_;intro w5 hg hR5 hz5);have hO:=RgT.own (show RgT w5 w.heap.size w.heap.size w.heap.size w.heap.size teZ (tvN (.slice none 0 0) (.slice none 0 0)) from ⟨ownR_none w5 _ (by have:=kb.size;omega),ownR_none w5 _ (by have:=kb.size;omega),(LiOk.nil _ _).nilc.nilc.nilc,Nat.le_refl _,Nat.le_refl _,Nat.le_refl _,by have:=kb.size;omega⟩);obtain ⟨vg,vo,hO⟩:=hO;exact bodyPost_ret (v:=.agg (teCs teZ (tvN (.slice none 0 0) (.slice none 0 0)))) (results_cell_row Tryz.results10 _ _ _ _ _ _ _ rfl hR5 Tryz.underlying35 rfl info_te) rfl ⟨_,vg,vo,rfl,hO,kb.grown hg kb.size (fun g e=>by cases e;omega)⟩
 have hok:=eT.out;have rk:=rtK_of hok;obtain ⟨gc0,_,_,_,_,_,hRt⟩:=termOk_sizes hok
 have hfe:t.fe.size<=281474976710656:=by
  have:=rk.fe
  by_cases h3:t.fe.size<=3
  ·omega
  ·rw [feedOk_big t.fe h3] at this;cases this
 have hsc:=screenOf_any t v w4 (h.below kb) hRt hfe;go_wp2_with (refine load_te hX (by rfl) _ (by rfl) (by rfl) ?_);refine hsc.mono ?_;rintro e w5 ⟨B,v5,vg5,vo5,rfl,hSB,hO5,hBw,hb⟩;have hz4:w.heap.size+3<=w4.heap.size:=by have:=BlkC.lt hR;omega
 have kb4:=kb;have hScr:Scr w5 98 (w4.heap.size+1) B [.int .i64 t.pa.state,v5.pp,.int .i64 t.pa.mark,v5.pt,.slice none 0 0,.slice none 0 0] t v5 vg5 vo5:=⟨hSB,hO5,by decide,by decide,by decide,hBw⟩;replace kb:=kb.trans (hb.mono kb.size);replace hA:=hA.below hb;replace hR:=BlkC.below hR hb;have hbs5:w4.heap.size+1<=w5.heap.size:=by have:=hScr.lt;omega
 have hao:=actionOk_any a.kind a.rune a.mark pv x a.params a.text w5 (hp.below kb) (hx.below kb) hl ht;obtain ⟨bA,eA⟩:∃ b,Hid ((decide (1<=a.kind/\a.kind<=5) && actB a)=b):=⟨_,rfl⟩;rw [show (decide (1<=a.kind/\a.kind<=5) && actB ⟨a.kind,a.rune,a.params,a.mark,a.text⟩)=bA from eA.out] at hao
 unfold acA at hao;clear hX hb hsc hSB hO5;have d0:w5.cell? ⟨w.heap.size+1,0,none⟩=some (.int .i64 a.kind):=cAl hA 0;have d1:w5.cell? ⟨w.heap.size+1,1,none⟩=some (.int .i64 a.rune):=cAl hA 1;have d2:w5.cell? ⟨w.heap.size+1,2,none⟩=some pv:=cAl hA 2;have d3:w5.cell? ⟨w.heap.size+1,3,none⟩=some (.int .i64 a.mark):=cAl hA 3;have d4:w5.cell? ⟨w.heap.size+1,4,none⟩=some x:=cAl hA 4;go_wp2_with fail;refine hao.mono ?_;rintro e w6 ⟨rfl,hb⟩;clear d0 d1 d2 d3 d4 hao;replace kb:=kb.trans (hb.mono kb.size);replace hA:=hA.below hb;replace hR:=BlkC.below hR hb;replace hScr:=hScr.below hb;have hbs6:=Nat.le_trans hbs5 hb.size;clear hb
 cases bA
 case false =>
  obtain rfl:t=Rt:=by
   symm
   rw [<- eR.out];unfold doR;rw [if_pos hok]
   by_cases hac:actB a=true
   ·rw [if_pos hac]
    refine doT_out t a (fun hk=>?_);have:=eA.out;rw [decide_eq_true hk,hac] at this
    cases this
   ·rw [if_neg hac]
  have ht2:t.pa=t.pa:=rfl;have hS7:=hScr;clear hScr eA hp hx hA;obtain ⟨ga,gcp,s1⟩:=sGs (SlG.of_own hS7.o.1.g);obtain ⟨oa,ocp,s2⟩:=sGs (SlG.of_own hS7.o.2.1.g);obtain ⟨ta,tcp,s3⟩:=(SlN.of_own hS7.o.2.2.2.head).shp;obtain ⟨pa,pcp,s4⟩:=(SlN.of_own hS7.o.2.2.2.tail.head).shp;obtain ⟨qa,qcp,s5⟩:=(SlN.of_own hS7.o.2.2.2.tail.tail.head).shp;obtain ⟨g7,o7,ti7,pp7,pt7⟩:=v5;simp only at s1 s2 s3 s4 s5;subst s1;subst s2;subst s3;subst s4;subst s5;have hSB7:=hS7.b;have hsn:=seen_any B t.pa (.slice none 0 0) (.slice none 0 0) t ga oa ta pa qa _ _ _ _ _ gcp ocp tcp pcp qcp _ _ w6 hSB7;rw [te_pa ht2] at hsn
  clear ht2;have hO7:=hS7.o;have hB7:=hS7.b;have hlB:w.heap.size<B:=by have:=kb4.size;omega
  have hne:B≠w.heap.size+2:=by have:=hz4;omega
  have hone:=hO7.sl.one;clear hS7;go_wp2_with fail;refine hsn.mono ?_;rintro e w8 ⟨rfl,hSB8,hg8⟩;have hO8:=hO7.grown hg8 hB7 (by decide) (by decide) (by decide);have hR8:=BlkC.kept hR hg8 (fun e=>hne (Option.some.inj e));have kb8:=kb.grown hg8 kb.size (fun g e=>by cases e;omega);clear hsn hg8 hO7 hB7 hR kb;go_wp2_with (refine store_T (cs:=teCs t ⟨.slice ga _ gcp,.slice oa _ ocp,.slice ta _ tcp,.slice pa _ pcp,.slice qa _ qcp⟩) (by rfl) 35 _ _ (by rfl) info_te (by rfl) hone hR8 (by rfl) (by rfl) ?_;intro w9 hg9 hR9 hz9);have hO9:=(hO8.grown hg9 hR8 (by decide) (by decide) (by decide)).low (show w.heap.size<=w4.heap.size+1 by have:=kb4.size;omega);exact bodyPost_ret (v:=.agg (teCs t _)) (results_cell_row Tryz.results10 _ _ _ _ _ _ _ rfl hR9 Tryz.underlying35 rfl info_te) rfl ⟨_,_,_,rfl,hO9,kb8.grown hg9 kb8.size (fun g e=>by cases e;omega)⟩
 obtain ⟨hk,hac⟩:(1<=a.kind/\a.kind<=5)/\actB a=true:=by
  have:=eA.out;rw [Bool.and_eq_true,decide_eq_true_eq] at this
  exact this
 obtain rfl:Rt=doT t a:=by rw [<- eR.out];unfold doR;rw [if_pos hok,if_pos hac]
 have hap:ApF w6 B v5 vg5 vo5 pv:=fun g e=>⟨by have:=hpb g e;have:=kb.size;omega,fun c=>by have:=hScr.ftb c;have:=hpb g e;have:=kb4.size;omega⟩
 have hdo:=do_any t.gc.toNat t.g.length (w4.heap.size+1) B _ _ _ _ _ _ pv x a t v5 vg5 vo5 w6 (hSp.below kb hSp.lt) (by have:=hSp.lt;have:=kb4.size;omega) hScr hbs6 rk (hp.below kb) (hx.below kb) hap hk hac;have d0:w6.cell? ⟨w.heap.size+1,0,none⟩=some (.int .i64 a.kind):=cAl hA 0;have d1:w6.cell? ⟨w.heap.size+1,1,none⟩=some (.int .i64 a.rune):=cAl hA 1;have d2:w6.cell? ⟨w.heap.size+1,2,none⟩=some pv:=cAl hA 2;have d3:w6.cell? ⟨w.heap.size+1,3,none⟩=some (.int .i64 a.mark):=cAl hA 3;have d4:w6.cell? ⟨w.heap.size+1,4,none⟩=some x:=cAl hA 4;have ht2:=doT_pa t a;obtain ⟨T2,hT2⟩:∃ T2,doT t a=T2:=⟨_,rfl⟩;rw [hT2] at ht2 hdo
 unfold acA at hdo;go_wp2_with fail;refine hdo.mono ?_;rintro e w7 ⟨rfl,v7,vg7,vo7,hr7⟩;have hS7:=hr7.s;have hR7:TB w7 (w.heap.size+2) _:=BlkC.grp hR hr7.g (fun c=>by have:=hScr.ftb c;omega);have kb7:=kb.trans ((hScr.bel hbs6 hr7).mono (by have:=kb4.size;omega));have hqq:=hr7.p;have hqr:=hr7.q;clear hScr eA hp hx hA hr7 hdo hap hR kb d0 d1 d2 d3 d4;have hq1:=hqq;have hq2:=hqr;obtain ⟨ga,gcp,s1⟩:=sGs (SlG.of_own hS7.o.1.g);obtain ⟨oa,ocp,s2⟩:=sGs (SlG.of_own hS7.o.2.1.g);obtain ⟨ta,tcp,s3⟩:=(SlN.of_own hS7.o.2.2.2.head).shp;obtain ⟨pa,pcp,s4⟩:=(SlN.of_own hS7.o.2.2.2.tail.head).shp;obtain ⟨qa,qcp,s5⟩:=(SlN.of_own hS7.o.2.2.2.tail.tail.head).shp;obtain ⟨g7,o7,ti7,pp7,pt7⟩:=v7;simp only at s1 s2 s3 s4 s5 hq1 hq2;subst s1;subst s2;subst s3;subst s4;subst s5;have hSB7:=hS7.b;rw [<- hq1,<- hq2] at hSB7
 clear hq1 hq2 hqq hqr;have hsn:=seen_any B t.pa (.slice none 0 0) (.slice none 0 0) T2 ga oa ta pa qa _ _ _ _ _ gcp ocp tcp pcp qcp _ _ w7 hSB7;rw [te_pa ht2] at hsn
 clear ht2;have hO7:=hS7.o;have hB7:=hS7.b;have hlB:w.heap.size<B:=by have:=kb4.size;omega
 have hne:B≠w.heap.size+2:=by have:=hz4;omega
 have hone:=hO7.sl.one;clear hS7;go_wp2_with fail;refine hsn.mono ?_;rintro e w8 ⟨rfl,hSB8,hg8⟩;have hO8:=hO7.grown hg8 hB7 (by decide) (by decide) (by decide);have hR8:=BlkC.kept hR7 hg8 (fun e=>hne (Option.some.inj e));have kb8:=kb7.grown hg8 kb7.size (fun g e=>by cases e;omega);clear hsn hg8 hO7 hB7 hR7 kb7;go_wp2_with (refine store_T (cs:=teCs T2 ⟨.slice ga _ gcp,.slice oa _ ocp,.slice ta _ tcp,.slice pa _ pcp,.slice qa _ qcp⟩) (by rfl) 35 _ _ (by rfl) info_te (by rfl) hone hR8 (by rfl) (by rfl) ?_;intro w9 hg9 hR9 hz9);have hO9:=(hO8.grown hg9 hR8 (by decide) (by decide) (by decide)).low (show w.heap.size<=w4.heap.size+1 by have:=kb4.size;omega);subst hT2;exact bodyPost_ret (v:=.agg (teCs (doT t a) _)) (results_cell_row Tryz.results10 _ _ _ _ _ _ _ rfl hR9 Tryz.underlying35 rfl info_te) rfl ⟨_,_,_,rfl,hO9,kb8.grown hg9 kb8.size (fun g e=>by cases e;omega)⟩
end Go.Proofs.YtgcnmjjlmcnllaaGreatDoor
