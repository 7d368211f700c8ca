/- Parts of the proof. -/
import Derived.Test.YtgcnmjjlmcnllaaGreatDoorP1
import Derived.Test.YtgcnmjjlmcnllaaGreatDoorP5
import Derived.Test.YtgcnmjjlmcnllaaGreatDoorP8
import Derived.Test.YtgcnmjjlmcnllaaGreatDoorP11
import Derived.Test.YtgcnmjjlmcnllaaGreatDoorP13
import Derived.Test.YtgcnmjjlmcnllaaGreatDoorP20
import Derived.Test.YtgcnmjjlmcnllaaGreatDoorP21
import Derived.Test.YtgcnmjjlmcnllaaGreatDoorP22
import Derived.Test.YtgcnmjjlmcnllaaGreatDoorP23
import Derived.Test.YtgcnmjjlmcnllaaGreatDoorP24
namespace Go.Proofs.YtgcnmjjlmcnllaaGreatDoor
set_option maxRecDepth 20000
set_option maxHeartbeats 16000000
open Go.ChangeShapes Go.WideShapes Go.ChangeAt Go.RowKit
theorem l7Print_D11 (cn N base B:Nat) (t:Te) (v:Tv) (vg vo:List Value) (w:World) (h:Scr w 35 base B [] t v vg vo) (hbase:base<=w.heap.size) (rk:RtK t cn N) (r:Int) (hw1:1<=wdV r) (hw2:wdV r<=t.gc) (hf:t.full=true) (hwr:t.wrap=false) (hov:¬ t.gc<t.col+wdV r) (hend:t.gc<=t.col+wdV r) :
  Calls Tryz.prog 141 #[.pointer (some ⟨B,0,none⟩),.int .i64 r] w fun e w'=>e=.returned (.tuple #[])/\∃ v' vg' vo',Res w w' 35 base B [] v vg vo (printT t r) v' vg' vo':=by
 have rt:=rk.w;have hcc:=rt.c;have hgc:=rt.gc;have hcol:=rt.col;have hwb:=widthV_bd r;have hwd:=sWa r w;obtain ⟨u,hu⟩:∃ u,Hid (u=({ t with full:=false }:Te)):=⟨_,rfl⟩
 have hV:printT t r=p3T u t.gc r:=by
  have e1:p1T t=({ t with full:=false }:Te):=by unfold p1T;rw [if_neg (by simp [hwr])]
  have e2:p2T ({ t with full:=false }:Te) t.gc r=({ t with full:=false }:Te):=by unfold p2T;rw [if_neg hov]
  rw [printT_eq t r hw1 hw2,hu.out,e1,e2]
 have rku:RtK u cn N:=by rw [hu.out];exact rk.nofull
 have hug:u.gc=t.gc:=by rw [hu.out]
 have huc:u.col=t.col:=by rw [hu.out]
 rw [hV]
 clear hV;have c13:w.cell? ⟨B,13,none⟩=some (.bool t.full):=h.cell 13;have c0:w.cell? ⟨B,0,none⟩=some (.int .i64 t.gc):=h.cell 0;have z13:w.frozen? ⟨B,13,none⟩=false:=h.frozen 13;have h1:Res w (w.setCell ⟨B,13,none⟩ (.bool false)) 35 base B [] v vg vo { t with full:=false } v vg vo:=h.put (sCg B [.bool false] 13 w) _ (sCh B 35 [.bool false] 13 w _ h.b) rfl rfl rfl rfl rfl;have hb1:=Nat.le_trans hbase h1.g.size;obtain ⟨W1,hW1⟩:∃ W1,Hid (W1=w.setCell ⟨B,13,none⟩ (.bool false)):=⟨_,rfl⟩;rw [<- hW1.out] at h1 hb1
 have f14w:w.cell? ⟨B,14,none⟩=some (.bool t.wrap):=h.cell 14;have f14:W1.cell? ⟨B,14,none⟩=some (.bool t.wrap):=h1.s.cell 14;have f5:W1.cell? ⟨B,5,none⟩=some (.int .i64 t.col):=h1.s.cell 5;have f0:W1.cell? ⟨B,0,none⟩=some (.int .i64 t.gc):=h1.s.cell 0;have z5:W1.frozen? ⟨B,5,none⟩=false:=h1.s.frozen 5;have f5w:w.cell? ⟨B,5,none⟩=some (.int .i64 t.col):=h.cell 5;have z5w:w.frozen? ⟨B,5,none⟩=false:=h.frozen 5;rw [hf] at c13
 rw [hwr] at f14 f14w
 obtain ⟨wd,hwde⟩:∃ wd,Hid (wdV r=wd):=⟨_,rfl⟩;have hwdo:=hwde.out;rw [hwdo] at hwd hw1 hw2 hwb hov hend
 try rw [hwdo] at huc
 have q0:(wd==0)=false:=by simp;omega
 have q1:¬ t.gc<wd:=by omega
 obtain ⟨sx,hsx⟩:∃ sx,Hid (t.col+wd=sx):=⟨_,rfl⟩;have esx:IntKind.i64.wrap (t.col+wd)=sx:=by rw [<- hsx.out];simp [IntKind.wrap,IntKind.bits,IntKind.signed];omega
 have hov2:¬ t.gc<sx:=by rw [<- hsx.out];exact hov
 have hqu:u.col+wdV r<=cn:=by rw [hwdo,huc];omega
 obtain ⟨sy,hsy⟩:∃ sy,Hid (u.col+wd=sy):=⟨_,rfl⟩;have hend2:t.gc<=sy:=by rw [<- hsy.out,huc];exact hend
 have hw1r:1<=wdV r:=by rw [hwdo];exact hw1
 clear hwb;replace h1:=(show Hid _ from h1);replace rku:=(show Hid _ from rku);replace hb1:=(show Hid _ from hb1);clear h rt rk hbase hcc hcol hgc;go_enter Tryz.func141,Tryz.ntmps141;go_wp2_with fail;refine hwd.mono ?_;rintro e wk ⟨rfl,hk⟩;replace hk:=hk.symm;subst hk;clear hwd;go_wp2;rw [<- hW1.out]
 go_quiet (fail);go_wp2;have hZ:=h1.out.below (drwP W1 nq);have hbz:base<=(W1.drewN nq).heap.size:=hb1.out;obtain ⟨Wz,hWz⟩:∃ Wz,Hid (Wz=W1.drewN nq):=⟨_,rfl⟩;rw [<- hWz.out] at hZ hbz
 have hd:Below Wz.heap.size Wz (W1.drewN (nq+1)):=by rw [hWz.out];exact ⟨rfl,rfl,rfl,Nat.le_refl _,fun _ _=>rfl⟩
 obtain ⟨g,cap,i,a,ra,rn,rc,R,hie,hae,hiN,hRe,cf,ci,zi,hcd,hfr,hsc⟩:=print_facts cn N base B u _ _ _ Wz (by rw [hu.out];exact hZ.s) hbz rku.out.w r hw1r hqu;unfold PrC at cf hsc;replace hZ:=(show Hid _ from hZ);replace hRe:=(show Hid _ from hRe);replace hie:=(show Hid _ from hie);have esy:IntKind.i64.wrap ((a:Int)+wd)=sy:=by rw [<- hae,hsy.out];have h9:=hsy.out;have h8:=rku.out.w.col;have h7:=rku.out.w.c;simp [IntKind.wrap,IntKind.bits,IntKind.signed];omega
 have egc:IntKind.i64.wrap (t.gc-1)=t.gc-1:=by have h8:=rku.out.w.gc;have h7:=rku.out.w.c;simp [IntKind.wrap,IntKind.bits,IntKind.signed];omega
 replace hae:=(show Hid _ from hae);have i0:(0:Int)<=(i:Int):=by omega
 have i1:(i:Int)<(N:Int):=by omega
 have di:=ci _ hd;clear rku hqu;refine wp_region_noPanic ?_;refine wp_region_held_drew (S:=(fun W=>W.cell? ⟨B,1,none⟩=some (.slice (some ⟨g,0,none⟩) N cap)/\W.cell? ⟨B,4,none⟩=some (.int .i64 (i:Int))/\W.cell? ⟨B,5,none⟩=some (.int .i64 (a:Int))/\W.cell? ⟨B,6,none⟩=some (.int .i64 u.st.fore)/\W.cell? ⟨B,7,none⟩=some (.int .i64 u.st.back)/\W.cell? ⟨B,8,none⟩=some (.bool u.st.bold)/\W.cell? ⟨B,9,none⟩=some (.bool u.st.under)/\W.cell? ⟨B,10,none⟩=some (.bool u.st.turned))) (by kernel_rfl) (cf _ hd) (fun Hh=>?_);refine' wpAnyH_take (i:=0) (v:=_) rfl (by kernel_rfl) (by kernel_rfl) (by kernel_rfl) (fun _ _ _ h=>h) (Or.inl ⟨by rfl,?hy1262⟩) Hh ?hr1262
 case hy1262=>(intro w hSw;(try dsimp only at hSw);go_simp;(try with_reducible rfl))
 simp only [Act.put,ZA,ZB,ZC,ZD,ZE];refine' wpAnyH_take (i:=1) (v:=_) rfl (by kernel_rfl) (by kernel_rfl) (by kernel_rfl) (fun _ _ _ h=>h) (Or.inl ⟨by rfl,?hy1263⟩) Hh ?hr1263
 case hy1263=>(intro w hSw;(try dsimp only at hSw);go_simp;(try with_reducible rfl))
 simp only [Act.put,ZA,ZB,ZC,ZD,ZE,ZF];refine' wpAnyH_take (i:=2) (v:=_) rfl (by kernel_rfl) (by kernel_rfl) (by kernel_rfl) (fun _ _ _ h=>h) (Or.inl ⟨by rfl,?hy1264⟩) Hh ?hr1264
 case hy1264=>(intro w hSw;(try dsimp only at hSw);go_simp;(try with_reducible rfl))
 simp only [Act.put,ZA,ZB,ZC,ZD,ZE,ZF];refine' wpAnyH_take (i:=3) (v:=_) rfl (by kernel_rfl) (by kernel_rfl) (by kernel_rfl) (fun _ _ _ h=>h) (Or.inl ⟨by rfl,?hy1265⟩) Hh ?hr1265
 case hy1265=>(intro w hSw;(try dsimp only at hSw);go_simp;(try with_reducible rfl))
 simp only [Act.put,ZA,ZB,ZC,ZD,ZE,ZF];refine' wpAnyH_take (i:=4) (v:=_) rfl (by kernel_rfl) (by kernel_rfl) (by kernel_rfl) (fun _ _ _ h=>h) (Or.inl ⟨by rfl,?hy1266⟩) Hh ?hr1266
 case hy1266=>(intro w hSw;(try dsimp only at hSw);go_simp;(try with_reducible rfl))
 simp only [Act.put,ZA,ZB,ZC,ZD,ZE,ZF];refine' wpAnyH_take (i:=5) (v:=_) rfl (by kernel_rfl) (by kernel_rfl) (by kernel_rfl) (fun _ _ _ h=>h) (Or.inl ⟨by rfl,?hy1267⟩) Hh ?hr1267
 case hy1267=>(intro w hSw;(try dsimp only at hSw);go_simp;(try with_reducible rfl))
 simp only [Act.put,ZA,ZB,ZC,ZD,ZE,ZF];refine' wpAnyH_take (i:=6) (v:=_) rfl (by kernel_rfl) (by kernel_rfl) (by kernel_rfl) (fun _ _ _ h=>h) (Or.inl ⟨by rfl,?hy1268⟩) Hh ?hr1268
 case hy1268=>(intro w hSw;(try dsimp only at hSw);go_simp;(try with_reducible rfl))
 simp only [Act.put,ZA,ZB,ZC,ZD,ZE,ZF];refine' wpAnyH_take (i:=7) (v:=_) rfl (by kernel_rfl) (by kernel_rfl) (by kernel_rfl) (fun _ _ _ h=>h) (Or.inl ⟨by rfl,?hy1269⟩) Hh ?hr1269
 case hy1269=>(intro w hSw;(try dsimp only at hSw);go_simp;(try with_reducible rfl))
 simp only [Act.put,ZA,ZB,ZC,ZD,ZE,ZF];refine' wpAnyH_take (i:=8) (v:=_) rfl (by kernel_rfl) (by kernel_rfl) (by kernel_rfl) (fun _ _ _ h=>h) (Or.inl ⟨by rfl,?hy1270⟩) Hh ?hr1270
 case hy1270=>(intro w hSw;(try dsimp only at hSw);go_simp;(try with_reducible rfl))
 simp only [Act.put,ZA,ZB,ZC,ZD,ZE,ZF];refine' wpAnyH_take (i:=9) (v:=_) rfl (by kernel_rfl) (by kernel_rfl) (by kernel_rfl) (fun _ _ _ h=>h) (Or.inl ⟨by rfl,?hy1271⟩) Hh ?hr1271
 case hy1271=>(intro w hSw;(try dsimp only at hSw);go_simp;(try with_reducible rfl))
 simp only [Act.put,ZA,ZB,ZC,ZD,ZE,ZF];refine' wpAnyH_take (i:=10) (v:=_) rfl (by kernel_rfl) (by kernel_rfl) (by kernel_rfl) (fun _ _ _ h=>h) (Or.inl ⟨by rfl,?hy1272⟩) Hh ?hr1272
 case hy1272=>(intro w hSw;(try dsimp only at hSw);go_simp;(try with_reducible rfl))
 simp only [Act.put,ZA,ZB,ZC,ZD,ZE,ZF];refine' wpAnyH_take (i:=11) (v:=_) rfl (by kernel_rfl) (by kernel_rfl) (by kernel_rfl) (fun _ _ _ h=>h) (Or.inl ⟨by rfl,?hy1273⟩) Hh ?hr1273
 case hy1273=>(intro w hSw;(try dsimp only at hSw);go_simp;(try with_reducible rfl))
 simp only [Act.put,ZA,ZB,ZC,ZD,ZE,ZF];refine' wpAnyH_take (i:=12) (v:=_) rfl (by kernel_rfl) (by kernel_rfl) (by kernel_rfl) (fun _ _ _ h=>h) (Or.inl ⟨by rfl,?hy1274⟩) Hh ?hr1274
 case hy1274=>(intro w hSw;(try dsimp only at hSw);go_simp;(try with_reducible rfl))
 simp only [Act.put,ZA,ZB,ZC,ZD,ZE,ZF];refine' wpAnyH_take (i:=13) (v:=_) rfl (by kernel_rfl) (by kernel_rfl) (by kernel_rfl) (fun _ _ _ h=>h) (Or.inl ⟨by rfl,?hy1275⟩) Hh ?hr1275
 case hy1275=>(intro w hSw;(try dsimp only at hSw);go_simp;(try with_reducible rfl))
 simp only [Act.put,ZA,ZB,ZC,ZD,ZE,ZF];refine' wpAnyH_take (i:=14) (v:=_) rfl (by kernel_rfl) (by kernel_rfl) (by kernel_rfl) (fun _ _ _ h=>h) (Or.inl ⟨by rfl,?hy1276⟩) Hh ?hr1276
 case hy1276=>(intro w hSw;(try dsimp only at hSw);go_simp;(try with_reducible rfl))
 simp only [Act.put,ZA,ZB,ZC,ZD,ZE,ZF];refine' wpAnyH_take (i:=15) (v:=_) rfl (by kernel_rfl) (by kernel_rfl) (by kernel_rfl) (fun _ _ _ h=>h) (Or.inl ⟨by rfl,?hy1277⟩) Hh ?hr1277
 case hy1277=>(intro w hSw;(try dsimp only at hSw);go_simp;(try with_reducible rfl))
 simp only [Act.put,ZA,ZB,ZC,ZD,ZE,ZF];refine' wpAnyH_take (i:=16) (v:=_) rfl (by kernel_rfl) (by kernel_rfl) (by kernel_rfl) (fun _ _ _ h=>h) (Or.inl ⟨by rfl,?hy1278⟩) Hh ?hr1278
 case hy1278=>(intro w hSw;(try dsimp only at hSw);go_simp;(try with_reducible rfl))
 simp only [Act.put,ZA,ZB,ZC,ZD,ZE,ZF];refine' wpAnyH_take (i:=17) (v:=_) rfl (by kernel_rfl) (by kernel_rfl) (by kernel_rfl) (fun _ _ _ h=>h) (Or.inl ⟨by rfl,?hy1279⟩) Hh ?hr1279
 case hy1279=>(intro w hSw;(try dsimp only at hSw);go_simp;(try with_reducible rfl))
 simp only [Act.put,ZA,ZB,ZC,ZD,ZE,ZF];refine' wpAnyH_take (i:=18) (v:=_) rfl (by kernel_rfl) (by kernel_rfl) (by kernel_rfl) (fun _ _ _ h=>h) (Or.inl ⟨by rfl,?hy1280⟩) Hh ?hr1280
 case hy1280=>(intro w hSw;(try dsimp only at hSw);go_simp;(try with_reducible rfl))
 simp only [Act.put,ZA,ZB,ZC,ZD,ZE,ZF];refine' wpAnyH_take (i:=20) (v:=_) rfl (by kernel_rfl) (by kernel_rfl) (by kernel_rfl) (fun _ _ _ h=>h) (Or.inl ⟨by rfl,?hy1281⟩) Hh ?hr1281
 case hy1281=>(intro w hSw;(try dsimp only at hSw);go_simp;(try with_reducible rfl))
 simp only [Act.put,ZA,ZB,ZC,ZD,ZE,ZF];refine' wpAnyH_take (i:=21) (v:=_) rfl (by kernel_rfl) (by kernel_rfl) (by kernel_rfl) (fun _ _ _ h=>h) (Or.inl ⟨by rfl,?hy1282⟩) Hh ?hr1282
 case hy1282=>(intro w hSw;(try dsimp only at hSw);go_simp;(try with_reducible rfl))
 simp only [Act.put,ZA,ZB,ZC,ZD,ZE,ZF];refine' wpAnyH_take (i:=22) (v:=_) rfl (by kernel_rfl) (by kernel_rfl) (by kernel_rfl) (fun _ _ _ h=>h) (Or.inl ⟨by rfl,?hy1283⟩) Hh ?hr1283
 case hy1283=>(intro w hSw;(try dsimp only at hSw);go_simp;(try with_reducible rfl))
 simp only [Act.put,ZA,ZB,ZC,ZD,ZE,ZF];refine' wpAnyH_take (i:=23) (v:=_) rfl (by kernel_rfl) (by kernel_rfl) (by kernel_rfl) (fun _ _ _ h=>h) (Or.inl ⟨by rfl,?hy1284⟩) Hh ?hr1284
 case hy1284=>(intro w hSw;(try dsimp only at hSw);go_simp;(try with_reducible rfl))
 simp only [Act.put,ZA,ZB,ZC,ZD,ZE,ZF];refine' wpAnyH_take (i:=24) (v:=_) rfl (by kernel_rfl) (by kernel_rfl) (by kernel_rfl) (fun _ _ _ h=>h) (Or.inl ⟨by rfl,?hy1285⟩) Hh ?hr1285
 case hy1285=>(intro w hSw;(try dsimp only at hSw);go_simp;(try with_reducible rfl))
 simp only [Act.put,ZA,ZB,ZC,ZD,ZE,ZF];refine' wpAnyH_take (i:=25) (v:=_) rfl (by kernel_rfl) (by kernel_rfl) (by kernel_rfl) (fun _ _ _ h=>h) (Or.inl ⟨by rfl,?hy1286⟩) Hh ?hr1286
 case hy1286=>(intro w hSw;(try dsimp only at hSw);go_simp;(try with_reducible rfl))
 simp only [Act.put,ZA,ZB,ZC,ZD,ZE,ZF];refine' wpAnyH_take (i:=26) (v:=_) rfl (by kernel_rfl) (by kernel_rfl) (by kernel_rfl) (fun _ _ _ h=>h) (Or.inl ⟨by rfl,?hy1287⟩) Hh ?hr1287
 case hy1287=>(intro w hSw;(try dsimp only at hSw);go_simp;(try with_reducible rfl))
 simp only [Act.put,ZA,ZB,ZC,ZD,ZE,ZF];refine' wpAnyH_take (i:=27) (v:=_) rfl (by kernel_rfl) (by kernel_rfl) (by kernel_rfl) (fun _ _ _ h=>h) (Or.inl ⟨by rfl,?hy1288⟩) Hh ?hr1288
 case hy1288=>(intro w hSw;(try dsimp only at hSw);go_simp;(try with_reducible rfl))
 simp only [Act.put,ZA,ZB,ZC,ZD,ZE,ZF];refine' wpAnyH_take (i:=28) (v:=_) rfl (by kernel_rfl) (by kernel_rfl) (by kernel_rfl) (fun _ _ _ h=>h) (Or.inl ⟨by rfl,?hy1289⟩) Hh ?hr1289
 case hy1289=>(intro w hSw;(try dsimp only at hSw);go_simp;(try with_reducible rfl))
 refine rdo 19 fun K hK=>?_
 go_simp;refine hK.out _ _ (Hh) (fun Hh=>?_);clear hK K;refine rdo 29 fun K hK=>?_
 go_simp;refine (hcd _ hd).mono ?_;rintro e w2 ⟨x,rfl,hx,hb⟩;have hx2:=hx.low hd.size;replace hd:=hd.trans (hb.mono hd.size);obtain ⟨ua,un,uc,hue⟩:=hx2.isSl;subst hue;have di:=ci _ hd;have zj:=zi _ hd;go_wp2_with fail;refine hK.out _ _ (cf _ hd) (fun Hh=>?_);clear hK K
 (try simp only [Act.put,ZA,ZB,ZC,ZD,ZE,ZF])
 refine' wpAnyH_take (i:=30) (v:=_) rfl (by kernel_rfl) (by kernel_rfl) (by kernel_rfl) (fun _ _ _ h=>h) (Or.inl ⟨by rfl,?hy1290⟩) Hh ?hr1290
 case hy1290=>(intro w hSw;(try dsimp only at hSw);go_simp;(try with_reducible rfl))
 refine rdo 31 fun K hK=>?_
 go_simp;refine hK.out _ _ (hsc _ _ hd) (fun Hh=>?_);clear hK K
 (try simp only [Act.put,ZA,ZB,ZC,ZD,ZE,ZF])
 refine dn ?_;have hRow:=hZ.out.trans (hfr _ _ hd hx2);clear hfr hcd cf hsc ci zi di zj hd hx hx2 hb Hh hZ;generalize w2.setCell ⟨g,i,none⟩ (.slice ua un uc)=Wq at *;have y5:Wq.cell? ⟨B,5,none⟩=some (.int .i64 (a:Int)):=by rw [<- hae.out];exact hRow.s.cell 5
 have y0:Wq.cell? ⟨B,0,none⟩=some (.int .i64 t.gc):=by rw [<- hug];exact hRow.s.cell 0
 have x5:Wq.frozen? ⟨B,5,none⟩=false:=hRow.s.frozen 5;have x13:Wq.frozen? ⟨B,13,none⟩=false:=hRow.s.frozen 13;have y13:∃ bb,Wq.cell? ⟨B,13,none⟩=some (.bool bb):=⟨_,hRow.s.cell 13⟩;obtain ⟨bb,y13⟩:=y13;have hfin:=fun q=>print_end base B u v _ vg vo _ _ w Wq R t.gc r hRow hRe.out (by rw [hwdo,hsy.out];omega) q
 rw [hwdo,hsy.out] at hfin
 replace hfin:=(show Hid _ from hfin);clear hRow hug hwdo huc;go_wp2;go_quiet (fail);go_wp2;refine be ?_;exact ⟨rfl,_,_,_,hfin.out _⟩
theorem l7Print_any (cn N base B:Nat) (t:Te) (v:Tv) (vg vo:List Value) (w:World) (h:Scr w 35 base B [] t v vg vo) (hbase:base<=w.heap.size) (rk:RtK t cn N) (r:Int) :
  Calls Tryz.prog 141 #[.pointer (some ⟨B,0,none⟩),.int .i64 r] w fun e w'=>e=.returned (.tuple #[])/\∃ v' vg' vo',Res w w' 35 base B [] v vg vo (printT t r) v' vg' vo':=by
 have hwb:=widthV_bd r;have hwd:=sWa r w;have c0:w.cell? ⟨B,0,none⟩=some (.int .i64 t.gc):=h.cell 0
 by_cases hz:wdV r=0
 ·have hV:printT t r=t:=by unfold printT;rw [if_pos (.inl hz)]
  rw [hV]
  rw [hz] at hwd
  have hr:=h.res;replace hr:=(show Hid _ from hr);clear hV h rk hbase hwb hz;go_enter Tryz.func141,Tryz.ntmps141;go_wp2_with fail;refine hwd.mono ?_;rintro e wk ⟨rfl,hk⟩;replace hk:=hk.symm;subst hk;go_wp2;exact bodyPost_ret (results_none rfl _ _ _) rfl ⟨rfl,_,_,_,hr.out⟩
 by_cases hg:t.gc<wdV r
 ·have hV:printT t r=t:=by unfold printT;rw [if_pos (.inr hg)]
  rw [hV]
  obtain ⟨wd,hwde⟩:∃ wd,Hid (wdV r=wd):=⟨_,rfl⟩;rw [hwde.out] at hwd hz hg
  have q0:(wd==0)=false:=by simp;omega
  have hr:=h.res;replace hr:=(show Hid _ from hr);clear hV h rk hbase hwb;go_enter Tryz.func141,Tryz.ntmps141;go_wp2_with fail;refine hwd.mono ?_;rintro e wk ⟨rfl,hk⟩;replace hk:=hk.symm;subst hk;go_wp2;exact bodyPost_ret (results_none rfl _ _ _) rfl ⟨rfl,_,_,_,hr.out⟩
 clear hwd c0;have hw1:1<=wdV r:=by omega
 have hw2:wdV r<=t.gc:=by omega
 cases hf:t.full with
 | true =>
  cases hwr:t.wrap with
  | true =>
   by_cases he:t.gc<=0+wdV r
   ·exact l7Print_A1 cn N base B t v vg vo w h hbase rk r hw1 hw2 hf hwr he
   ·exact l7Print_A0 cn N base B t v vg vo w h hbase rk r hw1 hw2 hf hwr he
  | false =>
   by_cases hov:t.gc<t.col+wdV r
   ·exact l7Print_C1 cn N base B t v vg vo w h hbase rk r hw1 hw2 hf hwr hov
   ·by_cases he:t.gc<=t.col+wdV r
    ·exact l7Print_D11 cn N base B t v vg vo w h hbase rk r hw1 hw2 hf hwr hov he
    ·exact l7Print_D10 cn N base B t v vg vo w h hbase rk r hw1 hw2 hf hwr hov he
 | false =>
  by_cases hov:t.gc<t.col+wdV r
  ·cases hwr:t.wrap with
   | true =>
    by_cases he:t.gc<=0+wdV r
    ·exact l7Print_B1 cn N base B t v vg vo w h hbase rk r hw1 hw2 hf hwr hov he
    ·exact l7Print_B0 cn N base B t v vg vo w h hbase rk r hw1 hw2 hf hwr hov he
   | false=>exact l7Print_C0 cn N base B t v vg vo w h hbase rk r hw1 hw2 hf hwr hov
  ·by_cases he:t.gc<=t.col+wdV r
   ·exact l7Print_D01 cn N base B t v vg vo w h hbase rk r hw1 hw2 hf hov he
   ·exact l7Print_D00 cn N base B t v vg vo w h hbase rk r hw1 hw2 hf hov he
theorem l1Max_any (a b:Int) (w:World) :
  Calls Tryz.prog 157 #[.int .i64 a,.int .i64 b] w fun e w'=>e=.returned (.int .i64 (max a b))/\w'=w:=by
 by_cases h:b<a
 ·have hm:Hid (max a b=a):=by show _=_;omega
  go_enter Tryz.func157,Tryz.ntmps157;go_wp2;go_ret;exact ⟨by rw [hm.out];rfl,rfl⟩
 ·have hm:Hid (max a b=b):=by show _=_;omega
  go_enter Tryz.func157,Tryz.ntmps157;go_wp2;go_ret;exact ⟨by rw [hm.out];rfl,rfl⟩
theorem l7Sign_65 (cn N base B:Nat) (pv:Value) (ps:List Int) (t:Te) (v:Tv) (vg vo:List Value) (w:World) (h:Scr w 35 base B [] t v vg vo) (hbase:base<=w.heap.size) (rt:RtW t cn N) (hp:SlN w pv ps) (hl:ps.length<=1000) (hap:ApF w B v vg vo pv) (hb:∀ x∈ps,0<=x/\x<=9999) :
  Calls Tryz.prog 144 #[.pointer (some ⟨B,0,none⟩),.int .i64 65,pv] w fun e w'=>e=.returned (.tuple #[])/\∃ v' vg' vo',Res w w' 35 base B [] v vg vo (listT t 65 ps) v' vg' vo':=by
 have hpn:Calls Tryz.prog 211 #[pv,.int .i64 0,.int .i64 1] w (fun e w'=>e=.returned (.int .i64 (parN ps 0 1))/\w'=w):=lPa pv ps 0 1 w hp hl;have hph:Calls Tryz.prog 211 #[pv,.int .i64 0,.int .i64 0] w (fun e w'=>e=.returned (.int .i64 (parN ps 0 0))/\w'=w):=lPa pv ps 0 0 w hp hl;have hnb:=parN_bd hb 0 1 (by omega);have hcc:=rt.c;have c0:w.cell? ⟨B,0,none⟩=some (.int .i64 t.gc):=h.cell 0;have c4:w.cell? ⟨B,4,none⟩=some (.int .i64 t.row):=h.cell 4;have c5:w.cell? ⟨B,5,none⟩=some (.int .i64 t.col):=h.cell 5;have c13:w.cell? ⟨B,13,none⟩=some (.bool t.full):=h.cell 13;have z13:w.frozen? ⟨B,13,none⟩=false:=h.frozen 13;have h1:Res w (w.setCell ⟨B,13,none⟩ (.bool false)) 35 base B [] v vg vo { t with full:=false } v vg vo:=h.put (sCg B [.bool false] 13 w) _ (sCh B 35 [.bool false] 13 w _ h.b) rfl rfl rfl rfl rfl;have hb1:=Nat.le_trans hbase h1.g.size;have hp1:=(hp.res hap h1).1;obtain ⟨W1,hW1⟩:∃ W1,Hid (W1=w.setCell ⟨B,13,none⟩ (.bool false)):=⟨_,rfl⟩;rw [<- hW1.out] at h1 hp1
 have f4:W1.cell? ⟨B,4,none⟩=some (.int .i64 t.row):=h1.s.cell 4;have f11:W1.cell? ⟨B,11,none⟩=some (.int .i64 t.top):=h1.s.cell 11;have z4:W1.frozen? ⟨B,4,none⟩=false:=h1.s.frozen 4;have hrow:=rt.row;have hlen:=rt.n1;have hN:=rt.n;obtain ⟨x,hx⟩:∃ x,Hid (t.row-parN ps 0 1=x):=⟨_,rfl⟩;have hw:IntKind.i64.wrap (t.row-parN ps 0 1)=x:=by rw [<- hx.out];simp [IntKind.wrap,IntKind.bits,IntKind.signed];omega
 have hfin:∀ (q:Nat) (y:Int),Res w ((W1.drewN q).setCell ⟨B,4,none⟩ (.int .i64 y)) 35 base B [] v vg vo { t with full:=false,row:=y } v vg vo:=fun q y=>by
  have hd:Below W1.heap.size W1 (W1.drewN q):=⟨rfl,rfl,rfl,Nat.le_refl _,fun _ _=>rfl⟩;exact (h1.below hd).trans ((h1.s.below hd).put (sCg B [.int .i64 y] 4 _) _ (sCh B 35 [.int .i64 y] 4 _ _ (h1.s.below hd).b) rfl rfl rfl rfl rfl)
 replace hfin:=(show Hid _ from hfin)
 by_cases hcmp:t.top<=t.row
 ·have hV:listT t 65 ps={ t with full:=false,row:=max (t.top) x }:=by
   rw [<- hx.out]
   simp [listT,hcmp]
  rw [hV]
  clear hV;clear h h1 rt hbase hb1 hp1 hp hap hb hnb hcc hrow hlen hN;generalize parN ps 0 1=n at *;generalize parN ps 0 0=how at *;go_enter Tryz.func144,Tryz.ntmps144;go_wp2_with fail;refine hpn.mono ?_;rintro e wk ⟨rfl,hk⟩;subst hk;clear hpn;go_wp2_with fail;refine hph.mono ?_;rintro e wk ⟨rfl,hk⟩;subst hk;clear hph;go_wp2;rw [<- hW1.out]
  go_quiet (fail);go_wp2_with fail;refine (l1Max_any _ _ _).mono ?_;rintro e wk ⟨rfl,hk⟩;subst hk;go_wp2;refine be ?_;exact ⟨rfl,_,_,_,hfin.out _ _⟩
 ·have hV:listT t 65 ps={ t with full:=false,row:=max (0) x }:=by
   rw [<- hx.out]
   simp [listT,hcmp]
  rw [hV]
  clear hV;clear h h1 rt hbase hb1 hp1 hp hap hb hnb hcc hrow hlen hN;generalize parN ps 0 1=n at *;generalize parN ps 0 0=how at *;go_enter Tryz.func144,Tryz.ntmps144;go_wp2_with fail;refine hpn.mono ?_;rintro e wk ⟨rfl,hk⟩;subst hk;clear hpn;go_wp2_with fail;refine hph.mono ?_;rintro e wk ⟨rfl,hk⟩;subst hk;clear hph;go_wp2;rw [<- hW1.out]
  go_quiet (fail);go_wp2_with fail;refine (l1Max_any _ _ _).mono ?_;rintro e wk ⟨rfl,hk⟩;subst hk;go_wp2;refine be ?_;exact ⟨rfl,_,_,_,hfin.out _ _⟩
theorem l7Sign_66 (cn N base B:Nat) (pv:Value) (ps:List Int) (t:Te) (v:Tv) (vg vo:List Value) (w:World) (h:Scr w 35 base B [] t v vg vo) (hbase:base<=w.heap.size) (rt:RtW t cn N) (hp:SlN w pv ps) (hl:ps.length<=1000) (hap:ApF w B v vg vo pv) (hb:∀ x∈ps,0<=x/\x<=9999) :
  Calls Tryz.prog 144 #[.pointer (some ⟨B,0,none⟩),.int .i64 66,pv] w fun e w'=>e=.returned (.tuple #[])/\∃ v' vg' vo',Res w w' 35 base B [] v vg vo (listT t 66 ps) v' vg' vo':=by
 have hpn:Calls Tryz.prog 211 #[pv,.int .i64 0,.int .i64 1] w (fun e w'=>e=.returned (.int .i64 (parN ps 0 1))/\w'=w):=lPa pv ps 0 1 w hp hl;have hph:Calls Tryz.prog 211 #[pv,.int .i64 0,.int .i64 0] w (fun e w'=>e=.returned (.int .i64 (parN ps 0 0))/\w'=w):=lPa pv ps 0 0 w hp hl;have hnb:=parN_bd hb 0 1 (by omega);have hcc:=rt.c;have c0:w.cell? ⟨B,0,none⟩=some (.int .i64 t.gc):=h.cell 0;have c4:w.cell? ⟨B,4,none⟩=some (.int .i64 t.row):=h.cell 4;have c5:w.cell? ⟨B,5,none⟩=some (.int .i64 t.col):=h.cell 5;have c13:w.cell? ⟨B,13,none⟩=some (.bool t.full):=h.cell 13;have z13:w.frozen? ⟨B,13,none⟩=false:=h.frozen 13;have h1:Res w (w.setCell ⟨B,13,none⟩ (.bool false)) 35 base B [] v vg vo { t with full:=false } v vg vo:=h.put (sCg B [.bool false] 13 w) _ (sCh B 35 [.bool false] 13 w _ h.b) rfl rfl rfl rfl rfl;have hb1:=Nat.le_trans hbase h1.g.size;have hp1:=(hp.res hap h1).1;obtain ⟨W1,hW1⟩:∃ W1,Hid (W1=w.setCell ⟨B,13,none⟩ (.bool false)):=⟨_,rfl⟩;rw [<- hW1.out] at h1 hp1
 have f4:W1.cell? ⟨B,4,none⟩=some (.int .i64 t.row):=h1.s.cell 4;have f11:W1.cell? ⟨B,12,none⟩=some (.int .i64 t.bot):=h1.s.cell 12;have z4:W1.frozen? ⟨B,4,none⟩=false:=h1.s.frozen 4;have hrow:=rt.row;have hlen:=rt.n1;have hN:=rt.n;obtain ⟨x,hx⟩:∃ x,Hid (t.row+parN ps 0 1=x):=⟨_,rfl⟩;have hw:IntKind.i64.wrap (t.row+parN ps 0 1)=x:=by rw [<- hx.out];simp [IntKind.wrap,IntKind.bits,IntKind.signed];omega
 rcases h1.s.o.1.shape with ⟨_,hs⟩|⟨gb,gcap,hvg,_,_,_⟩
 ·rw [hs] at hN;simp at hN;omega
 have f1:W1.cell? ⟨B,1,none⟩=some (.slice (some ⟨gb,0,none⟩) t.g.length gcap):=by rw [h1.s.cell 1];show some v.g=_;rw [hvg]
 have hla:Calls Tryz.prog 212 #[.pointer (some ⟨B,0,none⟩)] W1 (fun e w'=>e=.returned (.int .i64 ((t.g.length:Int)-1))/\w'=W1):=l7Last_any B _ _ _ W1 f1 (by omega)
 have hfin:∀ (q:Nat) (y:Int),Res w ((W1.drewN q).setCell ⟨B,4,none⟩ (.int .i64 y)) 35 base B [] v vg vo { t with full:=false,row:=y } v vg vo:=fun q y=>by
  have hd:Below W1.heap.size W1 (W1.drewN q):=⟨rfl,rfl,rfl,Nat.le_refl _,fun _ _=>rfl⟩;exact (h1.below hd).trans ((h1.s.below hd).put (sCg B [.int .i64 y] 4 _) _ (sCh B 35 [.int .i64 y] 4 _ _ (h1.s.below hd).b) rfl rfl rfl rfl rfl)
 replace hfin:=(show Hid _ from hfin)
 by_cases hcmp:t.row<=t.bot
 ·have hV:listT t 66 ps={ t with full:=false,row:=min (t.bot) x }:=by
   rw [<- hx.out]
   simp [listT,hcmp]
  rw [hV]
  clear hV;clear h h1 rt hbase hb1 hp1 hp hap hb hnb hcc hrow hlen hN;generalize parN ps 0 1=n at *;generalize parN ps 0 0=how at *;go_enter Tryz.func144,Tryz.ntmps144;go_wp2_with fail;refine hpn.mono ?_;rintro e wk ⟨rfl,hk⟩;subst hk;clear hpn;go_wp2_with fail;refine hph.mono ?_;rintro e wk ⟨rfl,hk⟩;subst hk;clear hph;go_wp2_with fail;rw [<- hW1.out]
  refine hla.mono ?_;rintro e wk ⟨rfl,hk⟩;subst hk;clear hla;go_wp2;go_quiet (fail);go_wp2_with fail;refine (l1Min_any _ _ _).mono ?_;rintro e wk ⟨rfl,hk⟩;subst hk;go_wp2;refine be ?_;exact ⟨rfl,_,_,_,hfin.out _ _⟩
 ·have hV:listT t 66 ps={ t with full:=false,row:=min (((t.g.length:Int)-1)) x }:=by
   rw [<- hx.out]
   simp [listT,hcmp]
  rw [hV]
  clear hV;clear h h1 rt hbase hb1 hp1 hp hap hb hnb hcc hrow hlen hN;generalize parN ps 0 1=n at *;generalize parN ps 0 0=how at *;go_enter Tryz.func144,Tryz.ntmps144;go_wp2_with fail;refine hpn.mono ?_;rintro e wk ⟨rfl,hk⟩;subst hk;clear hpn;go_wp2_with fail;refine hph.mono ?_;rintro e wk ⟨rfl,hk⟩;subst hk;clear hph;go_wp2_with fail;rw [<- hW1.out]
  refine hla.mono ?_;rintro e wk ⟨rfl,hk⟩;subst hk;clear hla;go_wp2;go_quiet (fail);go_wp2_with fail;refine (l1Min_any _ _ _).mono ?_;rintro e wk ⟨rfl,hk⟩;subst hk;go_wp2;refine be ?_;exact ⟨rfl,_,_,_,hfin.out _ _⟩
theorem l7Sign_67 (cn N base B:Nat) (pv:Value) (ps:List Int) (t:Te) (v:Tv) (vg vo:List Value) (w:World) (h:Scr w 35 base B [] t v vg vo) (hbase:base<=w.heap.size) (rt:RtW t cn N) (hp:SlN w pv ps) (hl:ps.length<=1000) (hap:ApF w B v vg vo pv) (hb:∀ x∈ps,0<=x/\x<=9999) :
  Calls Tryz.prog 144 #[.pointer (some ⟨B,0,none⟩),.int .i64 67,pv] w fun e w'=>e=.returned (.tuple #[])/\∃ v' vg' vo',Res w w' 35 base B [] v vg vo (listT t 67 ps) v' vg' vo':=by
 have hpn:Calls Tryz.prog 211 #[pv,.int .i64 0,.int .i64 1] w (fun e w'=>e=.returned (.int .i64 (parN ps 0 1))/\w'=w):=lPa pv ps 0 1 w hp hl;have hph:Calls Tryz.prog 211 #[pv,.int .i64 0,.int .i64 0] w (fun e w'=>e=.returned (.int .i64 (parN ps 0 0))/\w'=w):=lPa pv ps 0 0 w hp hl;have hnb:=parN_bd hb 0 1 (by omega);have hcc:=rt.c;have c0:w.cell? ⟨B,0,none⟩=some (.int .i64 t.gc):=h.cell 0;have c4:w.cell? ⟨B,4,none⟩=some (.int .i64 t.row):=h.cell 4;have c5:w.cell? ⟨B,5,none⟩=some (.int .i64 t.col):=h.cell 5;have c13:w.cell? ⟨B,13,none⟩=some (.bool t.full):=h.cell 13;have z13:w.frozen? ⟨B,13,none⟩=false:=h.frozen 13;have h1:Res w (w.setCell ⟨B,13,none⟩ (.bool false)) 35 base B [] v vg vo { t with full:=false } v vg vo:=h.put (sCg B [.bool false] 13 w) _ (sCh B 35 [.bool false] 13 w _ h.b) rfl rfl rfl rfl rfl;have hb1:=Nat.le_trans hbase h1.g.size;have hp1:=(hp.res hap h1).1;have hw:IntKind.i64.wrap (t.col+parN ps 0 1)=t.col+parN ps 0 1:=by have:=rt.col;simp [IntKind.wrap,IntKind.bits,IntKind.signed];omega
 have hd:=bdr (w.setCell ⟨B,13,none⟩ (.bool false));have hcl:=l7Go_any cn N base B { t with full:=false } v vg vo _ (h1.s.below hd) (Nat.le_trans hb1 hd.size) (rt.full false) t.row (t.col+parN ps 0 1);have cf:∀ W,Below (w.setCell ⟨B,13,none⟩ (.bool false)).heap.size (w.setCell ⟨B,13,none⟩ (.bool false)) W->W.cell? ⟨B,4,none⟩=some (.int .i64 t.row)/\W.cell? ⟨B,5,none⟩=some (.int .i64 t.col):=fun W hb=>⟨(h1.s.below hb).cell 4,(h1.s.below hb).cell 5⟩
 have hV:listT t 67 ps=goT { t with full:=false } t.row (t.col+parN ps 0 1):=rfl;rw [hV]
 clear hV;replace h1:=(show Hid _ from h1);clear h rt hbase hb1 hp1 hp hap hb;generalize parN ps 0 1=n at *;generalize parN ps 0 0=how at *;go_enter Tryz.func144,Tryz.ntmps144;go_wp2_with fail;refine hpn.mono ?_;rintro e wk ⟨rfl,hk⟩;subst hk;clear hpn;go_wp2_with fail;refine hph.mono ?_;rintro e wk ⟨rfl,hk⟩;subst hk;clear hph;go_wp2;obtain ⟨f4,f5⟩:=cf _ hd;refine wp_region_noPanic ?_;refine wp_region_held_drew (S:=(fun _=>True)) (by kernel_rfl) (trivial) (fun Hh=>?_);refine' wpAnyH_take (i:=0) (v:=_) rfl (by kernel_rfl) (by kernel_rfl) (by kernel_rfl) (fun _ _ _ h=>h) (Or.inl ⟨by rfl,?hy1001⟩) Hh ?hr1001
 case hy1001=>(intro w hSw;(try dsimp only at hSw);go_simp;(try with_reducible rfl))
 simp only [Act.put,ZA,ZB,ZC,ZD,ZE];refine' wpAnyH_take (i:=1) (v:=_) rfl (by kernel_rfl) (by kernel_rfl) (by kernel_rfl) (fun _ _ _ h=>h) (Or.inl ⟨by rfl,?hy1002⟩) Hh ?hr1002
 case hy1002=>(intro w hSw;(try dsimp only at hSw);go_simp;(try with_reducible rfl))
 simp only [Act.put,ZA,ZB,ZC,ZD,ZE,ZF];refine' wpAnyH_take (i:=2) (v:=_) rfl (by kernel_rfl) (by kernel_rfl) (by kernel_rfl) (fun _ _ _ h=>h) (Or.inl ⟨by rfl,?hy1003⟩) Hh ?hr1003
 case hy1003=>(intro w hSw;(try dsimp only at hSw);go_simp;(try with_reducible rfl))
 simp only [Act.put,ZA,ZB,ZC,ZD,ZE,ZF];refine' wpAnyH_take (i:=3) (v:=_) rfl (by kernel_rfl) (by kernel_rfl) (by kernel_rfl) (fun _ _ _ h=>h) (Or.inl ⟨by rfl,?hy1004⟩) Hh ?hr1004
 case hy1004=>(intro w hSw;(try dsimp only at hSw);go_simp;(try with_reducible rfl))
 simp only [Act.put,ZA,ZB,ZC,ZD,ZE,ZF];refine' wpAnyH_take (i:=5) (v:=_) rfl (by kernel_rfl) (by kernel_rfl) (by kernel_rfl) (fun _ _ _ h=>h) (Or.inl ⟨by rfl,?hy1005⟩) Hh ?hr1005
 case hy1005=>(intro w hSw;(try dsimp only at hSw);go_simp;(try with_reducible rfl))
 simp only [Act.put,ZA,ZB,ZC,ZD,ZE,ZF];refine' wpAnyH_take (i:=6) (v:=_) rfl (by kernel_rfl) (by kernel_rfl) (by kernel_rfl) (fun _ _ _ h=>h) (Or.inl ⟨by rfl,?hy1006⟩) Hh ?hr1006
 case hy1006=>(intro w hSw;(try dsimp only at hSw);go_simp;(try with_reducible rfl))
 simp only [Act.put,ZA,ZB,ZC,ZD,ZE,ZF];refine' wpAnyH_take (i:=7) (v:=_) rfl (by kernel_rfl) (by kernel_rfl) (by kernel_rfl) (fun _ _ _ h=>h) (Or.inl ⟨by rfl,?hy1007⟩) Hh ?hr1007
 case hy1007=>(intro w hSw;(try dsimp only at hSw);go_simp;(try with_reducible rfl))
 simp only [Act.put,ZA,ZB,ZC,ZD,ZE,ZF];refine' wpAnyH_take (i:=9) (v:=_) rfl (by kernel_rfl) (by kernel_rfl) (by kernel_rfl) (fun _ _ _ h=>h) (Or.inl ⟨by rfl,?hy1008⟩) Hh ?hr1008
 case hy1008=>(intro w hSw;(try dsimp only at hSw);go_simp;(try with_reducible rfl))
 refine rd2 4 8 (fun K hK=>?_) fun K hK=>?_
 ·go_simp
  refine hK.out _ _ (Hh) (fun Hh=>?_);clear hK K;refine rd 8 fun K hK=>?_
  go_simp;refine hK.out _ _ (Hh) (fun Hh=>?_);clear hK K
  (try simp only [Act.put,ZA,ZB,ZC,ZD,ZE,ZF])
  refine' wpAnyH_take (i:=10) (v:=_) rfl (by kernel_rfl) (by kernel_rfl) (by kernel_rfl) (fun _ _ _ h=>h) (Or.inl ⟨by rfl,?hy1009⟩) Hh ?hr1009
  case hy1009=>(intro w hSw;(try dsimp only at hSw);go_simp;(try with_reducible rfl))
  refine rd 11 fun K hK=>?_
  go_simp;refine hcl.mono ?_;rintro e w2 ⟨rfl,v2,g2,o2,hR⟩;go_wp2_with fail;refine hK.out _ _ (trivial) (fun Hh=>?_);clear hK K
  (try simp only [Act.put,ZA,ZB,ZC,ZD,ZE,ZF])
  refine dn ?_;have hF:=(show Hid _ from (h1.out.below hd).trans hR);clear hcl hR h1 Hh cf hd;go_wp2;refine be ?_;exact ⟨rfl,_,_,_,hF.out⟩
 ·go_simp
  refine hK.out _ _ (Hh) (fun Hh=>?_);clear hK K
  (try simp only [Act.put,ZA,ZB,ZC,ZD,ZE,ZF])
  refine' wpAnyH_take (i:=10) (v:=_) rfl (by kernel_rfl) (by kernel_rfl) (by kernel_rfl) (fun _ _ _ h=>h) (Or.inl ⟨by rfl,?hy1010⟩) Hh ?hr1010
  case hy1010=>(intro w hSw;(try dsimp only at hSw);go_simp;(try with_reducible rfl))
  refine rd 4 fun K hK=>?_
  go_simp;refine hK.out _ _ (Hh) (fun Hh=>?_);clear hK K;refine rd 11 fun K hK=>?_
  go_simp;refine hcl.mono ?_;rintro e w2 ⟨rfl,v2,g2,o2,hR⟩;go_wp2_with fail;refine hK.out _ _ (trivial) (fun Hh=>?_);clear hK K
  (try simp only [Act.put,ZA,ZB,ZC,ZD,ZE,ZF])
  refine dn ?_;have hF:=(show Hid _ from (h1.out.below hd).trans hR);clear hcl hR h1 Hh cf hd;go_wp2;refine be ?_;exact ⟨rfl,_,_,_,hF.out⟩
end Go.Proofs.YtgcnmjjlmcnllaaGreatDoor
