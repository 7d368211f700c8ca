/- Parts of the proof. -/
import Derived.Test.YtgcnmjjlmcnllaaGreatDoorP1
import Derived.Test.YtgcnmjjlmcnllaaGreatDoorP20
namespace Go.Proofs.YtgcnmjjlmcnllaaGreatDoor
set_option maxRecDepth 20000
set_option maxHeartbeats 16000000
open Go.ChangeShapes Go.WideShapes Go.ChangeAt Go.RowKit
theorem l7Print_C1 (cn N base B:Nat) (t:Te) (v:Tv) (vg vo:List Value) (w:World) (h:Scr w 35 base B [] t v vg vo) (hbase:base<=w.heap.size) (rk:RtK t cn N) (r:Int) (hw1:1<=wdV r) (hw2:wdV r<=t.gc) (hf:t.full=true) (hwr:t.wrap=false) (hov:t.gc<t.col+wdV r) :
  Calls Tryz.prog 141 #[.pointer (some ⟨B,0,none⟩),.int .i64 r] w fun e w'=>e=.returned (.tuple #[])/\∃ v' vg' vo',Res w w' 35 base B [] v vg vo (printT t r) v' vg' vo':=by
 have rt:=rk.w;have hcc:=rt.c;have hgc:=rt.gc;have hcol:=rt.col;have hwb:=widthV_bd r;have hwd:=sWa r w;obtain ⟨u,hu⟩:∃ u,Hid (u=({ t with full:=false,col:=t.gc-wdV r }:Te)):=⟨_,rfl⟩
 have hV:printT t r=p3T u t.gc r:=by
  have e1:p1T t=({ t with full:=false }:Te):=by unfold p1T;rw [if_neg (by simp [hwr])]
  have e2:p2T ({ t with full:=false }:Te) t.gc r=({ t with full:=false,col:=t.gc-wdV r }:Te):=by unfold p2T;rw [if_pos hov,if_neg (by simp [hwr])]
  rw [printT_eq t r hw1 hw2,hu.out,e1,e2]
 have rku:RtK u cn N:=by rw [hu.out];exact (rk.nofull.colp (t.gc-wdV r) (by omega) rfl)
 have hug:u.gc=t.gc:=by rw [hu.out]
 have huc:u.col=(t.gc-wdV r):=by rw [hu.out]
 rw [hV]
 clear hV;have c13:w.cell? ⟨B,13,none⟩=some (.bool t.full):=h.cell 13;have c0:w.cell? ⟨B,0,none⟩=some (.int .i64 t.gc):=h.cell 0;have z13:w.frozen? ⟨B,13,none⟩=false:=h.frozen 13;have h1:Res w (w.setCell ⟨B,13,none⟩ (.bool false)) 35 base B [] v vg vo { t with full:=false } v vg vo:=h.put (sCg B [.bool false] 13 w) _ (sCh B 35 [.bool false] 13 w _ h.b) rfl rfl rfl rfl rfl;have hb1:=Nat.le_trans hbase h1.g.size;obtain ⟨W1,hW1⟩:∃ W1,Hid (W1=w.setCell ⟨B,13,none⟩ (.bool false)):=⟨_,rfl⟩;rw [<- hW1.out] at h1 hb1
 have f14w:w.cell? ⟨B,14,none⟩=some (.bool t.wrap):=h.cell 14;have f14:W1.cell? ⟨B,14,none⟩=some (.bool t.wrap):=h1.s.cell 14;have f5:W1.cell? ⟨B,5,none⟩=some (.int .i64 t.col):=h1.s.cell 5;have f0:W1.cell? ⟨B,0,none⟩=some (.int .i64 t.gc):=h1.s.cell 0;have z5:W1.frozen? ⟨B,5,none⟩=false:=h1.s.frozen 5;have f5w:w.cell? ⟨B,5,none⟩=some (.int .i64 t.col):=h.cell 5;have z5w:w.frozen? ⟨B,5,none⟩=false:=h.frozen 5;rw [hf] at c13
 rw [hwr] at f14 f14w
 obtain ⟨wd,hwde⟩:∃ wd,Hid (wdV r=wd):=⟨_,rfl⟩;have hwdo:=hwde.out;rw [hwdo] at hwd hw1 hw2 hwb hov
 try rw [hwdo] at huc
 have q0:(wd==0)=false:=by simp;omega
 have q1:¬ t.gc<wd:=by omega
 obtain ⟨sx,hsx⟩:∃ sx,Hid (t.col+wd=sx):=⟨_,rfl⟩;have esx:IntKind.i64.wrap (t.col+wd)=sx:=by rw [<- hsx.out];simp [IntKind.wrap,IntKind.bits,IntKind.signed];omega
 have hov2:t.gc<sx:=by rw [<- hsx.out];exact hov
 have hqu:u.col+wdV r<=cn:=by rw [hwdo,huc];omega
 obtain ⟨sy,hsy⟩:∃ sy,Hid (u.col+wd=sy):=⟨_,rfl⟩;have hend2:t.gc<=sy:=by rw [<- hsy.out,huc];omega
 have hw1r:1<=wdV r:=by rw [hwdo];exact hw1
 clear hwb;obtain ⟨sc,hsc0⟩:∃ sc,Hid (t.gc-wd=sc):=⟨_,rfl⟩;have esc:IntKind.i64.wrap (t.gc-wd)=sc:=by rw [<- hsc0.out];simp [IntKind.wrap,IntKind.bits,IntKind.signed];omega
 have hu2:Hid (u=({ t with full:=false,col:=sc }:Te)):=by show _=_;rw [<- hsc0.out,<- hwdo];exact hu.out
 clear hu;have hu:=hu2;have hbw:=hbase;replace hbw:=(show Hid _ from hbw);clear hu2;replace h1:=(show Hid _ from h1);replace rku:=(show Hid _ from rku);replace hb1:=(show Hid _ from hb1);clear h rt rk hbase hcc hcol hgc;go_enter Tryz.func141,Tryz.ntmps141;go_wp2_with fail;refine hwd.mono ?_;rintro e wk ⟨rfl,hk⟩;replace hk:=hk.symm;subst hk;clear hwd;go_wp2;rw [<- hW1.out]
 go_quiet (fail);have h1d:=h1.out.below (drwP W1 nq);have hZ:Res w ((W1.drewN nq).setCell ⟨B,5,none⟩ (.int .i64 sc)) 35 base B [] v vg vo { t with full:=false,col:=sc } v vg vo:=h1d.trans (h1d.s.put (sCg B [.int .i64 sc] 5 _) { t with full:=false,col:=sc } (sCh B 35 [.int .i64 sc] 5 _ _ h1d.s.b) rfl rfl rfl rfl rfl);have hbz:base<=((W1.drewN nq).setCell ⟨B,5,none⟩ (.int .i64 sc)).heap.size:=Nat.le_trans hbw.out hZ.g.size;replace hZ:=(show Hid _ from hZ);replace hbz:=(show Hid _ from hbz);clear h1d;go_wp2;obtain ⟨Wz,hWz⟩:∃ Wz,Hid (Wz=(W1.drewN nq).setCell ⟨B,5,none⟩ (.int .i64 sc)):=⟨_,rfl⟩;replace hZ:=hZ.out;replace hbz:=hbz.out;rw [<- hWz.out] at hZ hbz
 rw [<- hWz.out]
 have hd:Below Wz.heap.size Wz Wz.drew:=⟨rfl,rfl,rfl,Nat.le_refl _,fun _ _=>rfl⟩;obtain ⟨g,cap,i,a,ra,rn,rc,R,hie,hae,hiN,hRe,cf,ci,zi,hcd,hfr,hsc⟩:=print_facts cn N base B u _ _ _ Wz (by rw [hu.out];exact hZ.s) hbz rku.out.w r hw1r hqu;unfold PrC at cf hsc;replace hZ:=(show Hid _ from hZ);replace hRe:=(show Hid _ from hRe);replace hie:=(show Hid _ from hie);have esy:IntKind.i64.wrap ((a:Int)+wd)=sy:=by rw [<- hae,hsy.out];have h9:=hsy.out;have h8:=rku.out.w.col;have h7:=rku.out.w.c;simp [IntKind.wrap,IntKind.bits,IntKind.signed];omega
 have egc:IntKind.i64.wrap (t.gc-1)=t.gc-1:=by have h8:=rku.out.w.gc;have h7:=rku.out.w.c;simp [IntKind.wrap,IntKind.bits,IntKind.signed];omega
 replace hae:=(show Hid _ from hae);have i0:(0:Int)<=(i:Int):=by omega
 have i1:(i:Int)<(N:Int):=by omega
 have di:=ci _ hd;clear rku hqu;refine wp_region_noPanic ?_;refine wp_region_held_drew (S:=(fun W=>W.cell? ⟨B,1,none⟩=some (.slice (some ⟨g,0,none⟩) N cap)/\W.cell? ⟨B,4,none⟩=some (.int .i64 (i:Int))/\W.cell? ⟨B,5,none⟩=some (.int .i64 (a:Int))/\W.cell? ⟨B,6,none⟩=some (.int .i64 u.st.fore)/\W.cell? ⟨B,7,none⟩=some (.int .i64 u.st.back)/\W.cell? ⟨B,8,none⟩=some (.bool u.st.bold)/\W.cell? ⟨B,9,none⟩=some (.bool u.st.under)/\W.cell? ⟨B,10,none⟩=some (.bool u.st.turned))) (by kernel_rfl) (cf _ hd) (fun Hh=>?_);refine' wpAnyH_take (i:=0) (v:=_) rfl (by kernel_rfl) (by kernel_rfl) (by kernel_rfl) (fun _ _ _ h=>h) (Or.inl ⟨by rfl,?hy1146⟩) Hh ?hr1146
 case hy1146=>(intro w hSw;(try dsimp only at hSw);go_simp;(try with_reducible rfl))
 simp only [Act.put,ZA,ZB,ZC,ZD,ZE];refine' wpAnyH_take (i:=1) (v:=_) rfl (by kernel_rfl) (by kernel_rfl) (by kernel_rfl) (fun _ _ _ h=>h) (Or.inl ⟨by rfl,?hy1147⟩) Hh ?hr1147
 case hy1147=>(intro w hSw;(try dsimp only at hSw);go_simp;(try with_reducible rfl))
 simp only [Act.put,ZA,ZB,ZC,ZD,ZE,ZF];refine' wpAnyH_take (i:=2) (v:=_) rfl (by kernel_rfl) (by kernel_rfl) (by kernel_rfl) (fun _ _ _ h=>h) (Or.inl ⟨by rfl,?hy1148⟩) Hh ?hr1148
 case hy1148=>(intro w hSw;(try dsimp only at hSw);go_simp;(try with_reducible rfl))
 simp only [Act.put,ZA,ZB,ZC,ZD,ZE,ZF];refine' wpAnyH_take (i:=3) (v:=_) rfl (by kernel_rfl) (by kernel_rfl) (by kernel_rfl) (fun _ _ _ h=>h) (Or.inl ⟨by rfl,?hy1149⟩) Hh ?hr1149
 case hy1149=>(intro w hSw;(try dsimp only at hSw);go_simp;(try with_reducible rfl))
 simp only [Act.put,ZA,ZB,ZC,ZD,ZE,ZF];refine' wpAnyH_take (i:=4) (v:=_) rfl (by kernel_rfl) (by kernel_rfl) (by kernel_rfl) (fun _ _ _ h=>h) (Or.inl ⟨by rfl,?hy1150⟩) Hh ?hr1150
 case hy1150=>(intro w hSw;(try dsimp only at hSw);go_simp;(try with_reducible rfl))
 simp only [Act.put,ZA,ZB,ZC,ZD,ZE,ZF];refine' wpAnyH_take (i:=5) (v:=_) rfl (by kernel_rfl) (by kernel_rfl) (by kernel_rfl) (fun _ _ _ h=>h) (Or.inl ⟨by rfl,?hy1151⟩) Hh ?hr1151
 case hy1151=>(intro w hSw;(try dsimp only at hSw);go_simp;(try with_reducible rfl))
 simp only [Act.put,ZA,ZB,ZC,ZD,ZE,ZF];refine' wpAnyH_take (i:=6) (v:=_) rfl (by kernel_rfl) (by kernel_rfl) (by kernel_rfl) (fun _ _ _ h=>h) (Or.inl ⟨by rfl,?hy1152⟩) Hh ?hr1152
 case hy1152=>(intro w hSw;(try dsimp only at hSw);go_simp;(try with_reducible rfl))
 simp only [Act.put,ZA,ZB,ZC,ZD,ZE,ZF];refine' wpAnyH_take (i:=7) (v:=_) rfl (by kernel_rfl) (by kernel_rfl) (by kernel_rfl) (fun _ _ _ h=>h) (Or.inl ⟨by rfl,?hy1153⟩) Hh ?hr1153
 case hy1153=>(intro w hSw;(try dsimp only at hSw);go_simp;(try with_reducible rfl))
 simp only [Act.put,ZA,ZB,ZC,ZD,ZE,ZF];refine' wpAnyH_take (i:=8) (v:=_) rfl (by kernel_rfl) (by kernel_rfl) (by kernel_rfl) (fun _ _ _ h=>h) (Or.inl ⟨by rfl,?hy1154⟩) Hh ?hr1154
 case hy1154=>(intro w hSw;(try dsimp only at hSw);go_simp;(try with_reducible rfl))
 simp only [Act.put,ZA,ZB,ZC,ZD,ZE,ZF];refine' wpAnyH_take (i:=9) (v:=_) rfl (by kernel_rfl) (by kernel_rfl) (by kernel_rfl) (fun _ _ _ h=>h) (Or.inl ⟨by rfl,?hy1155⟩) Hh ?hr1155
 case hy1155=>(intro w hSw;(try dsimp only at hSw);go_simp;(try with_reducible rfl))
 simp only [Act.put,ZA,ZB,ZC,ZD,ZE,ZF];refine' wpAnyH_take (i:=10) (v:=_) rfl (by kernel_rfl) (by kernel_rfl) (by kernel_rfl) (fun _ _ _ h=>h) (Or.inl ⟨by rfl,?hy1156⟩) Hh ?hr1156
 case hy1156=>(intro w hSw;(try dsimp only at hSw);go_simp;(try with_reducible rfl))
 simp only [Act.put,ZA,ZB,ZC,ZD,ZE,ZF];refine' wpAnyH_take (i:=11) (v:=_) rfl (by kernel_rfl) (by kernel_rfl) (by kernel_rfl) (fun _ _ _ h=>h) (Or.inl ⟨by rfl,?hy1157⟩) Hh ?hr1157
 case hy1157=>(intro w hSw;(try dsimp only at hSw);go_simp;(try with_reducible rfl))
 simp only [Act.put,ZA,ZB,ZC,ZD,ZE,ZF];refine' wpAnyH_take (i:=12) (v:=_) rfl (by kernel_rfl) (by kernel_rfl) (by kernel_rfl) (fun _ _ _ h=>h) (Or.inl ⟨by rfl,?hy1158⟩) Hh ?hr1158
 case hy1158=>(intro w hSw;(try dsimp only at hSw);go_simp;(try with_reducible rfl))
 simp only [Act.put,ZA,ZB,ZC,ZD,ZE,ZF];refine' wpAnyH_take (i:=13) (v:=_) rfl (by kernel_rfl) (by kernel_rfl) (by kernel_rfl) (fun _ _ _ h=>h) (Or.inl ⟨by rfl,?hy1159⟩) Hh ?hr1159
 case hy1159=>(intro w hSw;(try dsimp only at hSw);go_simp;(try with_reducible rfl))
 simp only [Act.put,ZA,ZB,ZC,ZD,ZE,ZF];refine' wpAnyH_take (i:=14) (v:=_) rfl (by kernel_rfl) (by kernel_rfl) (by kernel_rfl) (fun _ _ _ h=>h) (Or.inl ⟨by rfl,?hy1160⟩) Hh ?hr1160
 case hy1160=>(intro w hSw;(try dsimp only at hSw);go_simp;(try with_reducible rfl))
 simp only [Act.put,ZA,ZB,ZC,ZD,ZE,ZF];refine' wpAnyH_take (i:=15) (v:=_) rfl (by kernel_rfl) (by kernel_rfl) (by kernel_rfl) (fun _ _ _ h=>h) (Or.inl ⟨by rfl,?hy1161⟩) Hh ?hr1161
 case hy1161=>(intro w hSw;(try dsimp only at hSw);go_simp;(try with_reducible rfl))
 simp only [Act.put,ZA,ZB,ZC,ZD,ZE,ZF];refine' wpAnyH_take (i:=16) (v:=_) rfl (by kernel_rfl) (by kernel_rfl) (by kernel_rfl) (fun _ _ _ h=>h) (Or.inl ⟨by rfl,?hy1162⟩) Hh ?hr1162
 case hy1162=>(intro w hSw;(try dsimp only at hSw);go_simp;(try with_reducible rfl))
 simp only [Act.put,ZA,ZB,ZC,ZD,ZE,ZF];refine' wpAnyH_take (i:=17) (v:=_) rfl (by kernel_rfl) (by kernel_rfl) (by kernel_rfl) (fun _ _ _ h=>h) (Or.inl ⟨by rfl,?hy1163⟩) Hh ?hr1163
 case hy1163=>(intro w hSw;(try dsimp only at hSw);go_simp;(try with_reducible rfl))
 simp only [Act.put,ZA,ZB,ZC,ZD,ZE,ZF];refine' wpAnyH_take (i:=18) (v:=_) rfl (by kernel_rfl) (by kernel_rfl) (by kernel_rfl) (fun _ _ _ h=>h) (Or.inl ⟨by rfl,?hy1164⟩) Hh ?hr1164
 case hy1164=>(intro w hSw;(try dsimp only at hSw);go_simp;(try with_reducible rfl))
 simp only [Act.put,ZA,ZB,ZC,ZD,ZE,ZF];refine' wpAnyH_take (i:=20) (v:=_) rfl (by kernel_rfl) (by kernel_rfl) (by kernel_rfl) (fun _ _ _ h=>h) (Or.inl ⟨by rfl,?hy1165⟩) Hh ?hr1165
 case hy1165=>(intro w hSw;(try dsimp only at hSw);go_simp;(try with_reducible rfl))
 simp only [Act.put,ZA,ZB,ZC,ZD,ZE,ZF];refine' wpAnyH_take (i:=21) (v:=_) rfl (by kernel_rfl) (by kernel_rfl) (by kernel_rfl) (fun _ _ _ h=>h) (Or.inl ⟨by rfl,?hy1166⟩) Hh ?hr1166
 case hy1166=>(intro w hSw;(try dsimp only at hSw);go_simp;(try with_reducible rfl))
 simp only [Act.put,ZA,ZB,ZC,ZD,ZE,ZF];refine' wpAnyH_take (i:=22) (v:=_) rfl (by kernel_rfl) (by kernel_rfl) (by kernel_rfl) (fun _ _ _ h=>h) (Or.inl ⟨by rfl,?hy1167⟩) Hh ?hr1167
 case hy1167=>(intro w hSw;(try dsimp only at hSw);go_simp;(try with_reducible rfl))
 simp only [Act.put,ZA,ZB,ZC,ZD,ZE,ZF];refine' wpAnyH_take (i:=23) (v:=_) rfl (by kernel_rfl) (by kernel_rfl) (by kernel_rfl) (fun _ _ _ h=>h) (Or.inl ⟨by rfl,?hy1168⟩) Hh ?hr1168
 case hy1168=>(intro w hSw;(try dsimp only at hSw);go_simp;(try with_reducible rfl))
 simp only [Act.put,ZA,ZB,ZC,ZD,ZE,ZF];refine' wpAnyH_take (i:=24) (v:=_) rfl (by kernel_rfl) (by kernel_rfl) (by kernel_rfl) (fun _ _ _ h=>h) (Or.inl ⟨by rfl,?hy1169⟩) Hh ?hr1169
 case hy1169=>(intro w hSw;(try dsimp only at hSw);go_simp;(try with_reducible rfl))
 simp only [Act.put,ZA,ZB,ZC,ZD,ZE,ZF];refine' wpAnyH_take (i:=25) (v:=_) rfl (by kernel_rfl) (by kernel_rfl) (by kernel_rfl) (fun _ _ _ h=>h) (Or.inl ⟨by rfl,?hy1170⟩) Hh ?hr1170
 case hy1170=>(intro w hSw;(try dsimp only at hSw);go_simp;(try with_reducible rfl))
 simp only [Act.put,ZA,ZB,ZC,ZD,ZE,ZF];refine' wpAnyH_take (i:=26) (v:=_) rfl (by kernel_rfl) (by kernel_rfl) (by kernel_rfl) (fun _ _ _ h=>h) (Or.inl ⟨by rfl,?hy1171⟩) Hh ?hr1171
 case hy1171=>(intro w hSw;(try dsimp only at hSw);go_simp;(try with_reducible rfl))
 simp only [Act.put,ZA,ZB,ZC,ZD,ZE,ZF];refine' wpAnyH_take (i:=27) (v:=_) rfl (by kernel_rfl) (by kernel_rfl) (by kernel_rfl) (fun _ _ _ h=>h) (Or.inl ⟨by rfl,?hy1172⟩) Hh ?hr1172
 case hy1172=>(intro w hSw;(try dsimp only at hSw);go_simp;(try with_reducible rfl))
 simp only [Act.put,ZA,ZB,ZC,ZD,ZE,ZF];refine' wpAnyH_take (i:=28) (v:=_) rfl (by kernel_rfl) (by kernel_rfl) (by kernel_rfl) (fun _ _ _ h=>h) (Or.inl ⟨by rfl,?hy1173⟩) Hh ?hr1173
 case hy1173=>(intro w hSw;(try dsimp only at hSw);go_simp;(try with_reducible rfl))
 refine rdo 19 fun K hK=>?_
 go_simp;refine hK.out _ _ (Hh) (fun Hh=>?_);clear hK K;refine rdo 29 fun K hK=>?_
 go_simp;refine (hcd _ hd).mono ?_;rintro e w2 ⟨x,rfl,hx,hb⟩;have hx2:=hx.low hd.size;replace hd:=hd.trans (hb.mono hd.size);obtain ⟨ua,un,uc,hue⟩:=hx2.isSl;subst hue;have di:=ci _ hd;have zj:=zi _ hd;go_wp2_with fail;refine hK.out _ _ (cf _ hd) (fun Hh=>?_);clear hK K
 (try simp only [Act.put,ZA,ZB,ZC,ZD,ZE,ZF])
 refine' wpAnyH_take (i:=30) (v:=_) rfl (by kernel_rfl) (by kernel_rfl) (by kernel_rfl) (fun _ _ _ h=>h) (Or.inl ⟨by rfl,?hy1174⟩) Hh ?hr1174
 case hy1174=>(intro w hSw;(try dsimp only at hSw);go_simp;(try with_reducible rfl))
 refine rdo 31 fun K hK=>?_
 go_simp;refine hK.out _ _ (hsc _ _ hd) (fun Hh=>?_);clear hK K
 (try simp only [Act.put,ZA,ZB,ZC,ZD,ZE,ZF])
 refine dn ?_;have hRow:=hZ.out.trans (hfr _ _ hd hx2);clear hfr hcd cf hsc ci zi di zj hd hx hx2 hb Hh hZ;generalize w2.setCell ⟨g,i,none⟩ (.slice ua un uc)=Wq at *;have y5:Wq.cell? ⟨B,5,none⟩=some (.int .i64 (a:Int)):=by rw [<- hae.out];exact hRow.s.cell 5
 have y0:Wq.cell? ⟨B,0,none⟩=some (.int .i64 t.gc):=by rw [<- hug];exact hRow.s.cell 0
 have x5:Wq.frozen? ⟨B,5,none⟩=false:=hRow.s.frozen 5;have x13:Wq.frozen? ⟨B,13,none⟩=false:=hRow.s.frozen 13;have y13:∃ bb,Wq.cell? ⟨B,13,none⟩=some (.bool bb):=⟨_,hRow.s.cell 13⟩;obtain ⟨bb,y13⟩:=y13;have hfin:=fun q=>print_end base B u v _ vg vo _ _ w Wq R t.gc r hRow hRe.out (by rw [hwdo,hsy.out];omega) q
 rw [hwdo,hsy.out] at hfin
 replace hfin:=(show Hid _ from hfin);clear hRow hug hwdo huc;go_wp2;go_quiet (fail);go_wp2;refine be ?_;exact ⟨rfl,_,_,_,hfin.out _⟩
theorem l7Print_D00 (cn N base B:Nat) (t:Te) (v:Tv) (vg vo:List Value) (w:World) (h:Scr w 35 base B [] t v vg vo) (hbase:base<=w.heap.size) (rk:RtK t cn N) (r:Int) (hw1:1<=wdV r) (hw2:wdV r<=t.gc) (hf:t.full=false) (hov:¬ t.gc<t.col+wdV r) (hend:¬ t.gc<=t.col+wdV r) :
  Calls Tryz.prog 141 #[.pointer (some ⟨B,0,none⟩),.int .i64 r] w fun e w'=>e=.returned (.tuple #[])/\∃ v' vg' vo',Res w w' 35 base B [] v vg vo (printT t r) v' vg' vo':=by
 have rt:=rk.w;have hcc:=rt.c;have hgc:=rt.gc;have hcol:=rt.col;have hwb:=widthV_bd r;have hwd:=sWa r w;obtain ⟨u,hu⟩:∃ u,Hid (u=({ t with full:=false }:Te)):=⟨_,rfl⟩
 have hV:printT t r=p3T u t.gc r:=by
  have e1:p1T t=({ t with full:=false }:Te):=by unfold p1T;rw [if_neg (by simp [hf])]
  have e2:p2T ({ t with full:=false }:Te) t.gc r=({ t with full:=false }:Te):=by unfold p2T;rw [if_neg hov]
  rw [printT_eq t r hw1 hw2,hu.out,e1,e2]
 have rku:RtK u cn N:=by rw [hu.out];exact rk.nofull
 have hug:u.gc=t.gc:=by rw [hu.out]
 have huc:u.col=t.col:=by rw [hu.out]
 rw [hV]
 clear hV;have c13:w.cell? ⟨B,13,none⟩=some (.bool t.full):=h.cell 13;have c0:w.cell? ⟨B,0,none⟩=some (.int .i64 t.gc):=h.cell 0;have z13:w.frozen? ⟨B,13,none⟩=false:=h.frozen 13;have h1:Res w (w.setCell ⟨B,13,none⟩ (.bool false)) 35 base B [] v vg vo { t with full:=false } v vg vo:=h.put (sCg B [.bool false] 13 w) _ (sCh B 35 [.bool false] 13 w _ h.b) rfl rfl rfl rfl rfl;have hb1:=Nat.le_trans hbase h1.g.size;obtain ⟨W1,hW1⟩:∃ W1,Hid (W1=w.setCell ⟨B,13,none⟩ (.bool false)):=⟨_,rfl⟩;rw [<- hW1.out] at h1 hb1
 have f14w:w.cell? ⟨B,14,none⟩=some (.bool t.wrap):=h.cell 14;have f14:W1.cell? ⟨B,14,none⟩=some (.bool t.wrap):=h1.s.cell 14;have f5:W1.cell? ⟨B,5,none⟩=some (.int .i64 t.col):=h1.s.cell 5;have f0:W1.cell? ⟨B,0,none⟩=some (.int .i64 t.gc):=h1.s.cell 0;have z5:W1.frozen? ⟨B,5,none⟩=false:=h1.s.frozen 5;have f5w:w.cell? ⟨B,5,none⟩=some (.int .i64 t.col):=h.cell 5;have z5w:w.frozen? ⟨B,5,none⟩=false:=h.frozen 5;rw [hf] at c13
 skip
 obtain ⟨wd,hwde⟩:∃ wd,Hid (wdV r=wd):=⟨_,rfl⟩;have hwdo:=hwde.out;rw [hwdo] at hwd hw1 hw2 hwb hov hend
 try rw [hwdo] at huc
 have q0:(wd==0)=false:=by simp;omega
 have q1:¬ t.gc<wd:=by omega
 obtain ⟨sx,hsx⟩:∃ sx,Hid (t.col+wd=sx):=⟨_,rfl⟩;have esx:IntKind.i64.wrap (t.col+wd)=sx:=by rw [<- hsx.out];simp [IntKind.wrap,IntKind.bits,IntKind.signed];omega
 have hov2:¬ t.gc<sx:=by rw [<- hsx.out];exact hov
 have hqu:u.col+wdV r<=cn:=by rw [hwdo,huc];omega
 obtain ⟨sy,hsy⟩:∃ sy,Hid (u.col+wd=sy):=⟨_,rfl⟩;have hend2:¬ t.gc<=sy:=by rw [<- hsy.out,huc];exact hend
 have hw1r:1<=wdV r:=by rw [hwdo];exact hw1
 clear hwb;replace h1:=(show Hid _ from h1);replace rku:=(show Hid _ from rku);replace hb1:=(show Hid _ from hb1);clear h rt rk hbase hcc hcol hgc;go_enter Tryz.func141,Tryz.ntmps141;go_wp2_with fail;refine hwd.mono ?_;rintro e wk ⟨rfl,hk⟩;replace hk:=hk.symm;subst hk;clear hwd;go_wp2;rw [<- hW1.out]
 go_quiet (fail);go_wp2;have hZ:=h1.out.below (drwP W1 nq);have hbz:base<=(W1.drewN nq).heap.size:=hb1.out;obtain ⟨Wz,hWz⟩:∃ Wz,Hid (Wz=W1.drewN nq):=⟨_,rfl⟩;rw [<- hWz.out] at hZ hbz
 have hd:Below Wz.heap.size Wz (W1.drewN (nq+1)):=by rw [hWz.out];exact ⟨rfl,rfl,rfl,Nat.le_refl _,fun _ _=>rfl⟩
 obtain ⟨g,cap,i,a,ra,rn,rc,R,hie,hae,hiN,hRe,cf,ci,zi,hcd,hfr,hsc⟩:=print_facts cn N base B u _ _ _ Wz (by rw [hu.out];exact hZ.s) hbz rku.out.w r hw1r hqu;unfold PrC at cf hsc;replace hZ:=(show Hid _ from hZ);replace hRe:=(show Hid _ from hRe);replace hie:=(show Hid _ from hie);have esy:IntKind.i64.wrap ((a:Int)+wd)=sy:=by rw [<- hae,hsy.out];have h9:=hsy.out;have h8:=rku.out.w.col;have h7:=rku.out.w.c;simp [IntKind.wrap,IntKind.bits,IntKind.signed];omega
 have egc:IntKind.i64.wrap (t.gc-1)=t.gc-1:=by have h8:=rku.out.w.gc;have h7:=rku.out.w.c;simp [IntKind.wrap,IntKind.bits,IntKind.signed];omega
 replace hae:=(show Hid _ from hae);have i0:(0:Int)<=(i:Int):=by omega
 have i1:(i:Int)<(N:Int):=by omega
 have di:=ci _ hd;clear rku hqu;refine wp_region_noPanic ?_;refine wp_region_held_drew (S:=(fun W=>W.cell? ⟨B,1,none⟩=some (.slice (some ⟨g,0,none⟩) N cap)/\W.cell? ⟨B,4,none⟩=some (.int .i64 (i:Int))/\W.cell? ⟨B,5,none⟩=some (.int .i64 (a:Int))/\W.cell? ⟨B,6,none⟩=some (.int .i64 u.st.fore)/\W.cell? ⟨B,7,none⟩=some (.int .i64 u.st.back)/\W.cell? ⟨B,8,none⟩=some (.bool u.st.bold)/\W.cell? ⟨B,9,none⟩=some (.bool u.st.under)/\W.cell? ⟨B,10,none⟩=some (.bool u.st.turned))) (by kernel_rfl) (cf _ hd) (fun Hh=>?_);refine' wpAnyH_take (i:=0) (v:=_) rfl (by kernel_rfl) (by kernel_rfl) (by kernel_rfl) (fun _ _ _ h=>h) (Or.inl ⟨by rfl,?hy1175⟩) Hh ?hr1175
 case hy1175=>(intro w hSw;(try dsimp only at hSw);go_simp;(try with_reducible rfl))
 simp only [Act.put,ZA,ZB,ZC,ZD,ZE];refine' wpAnyH_take (i:=1) (v:=_) rfl (by kernel_rfl) (by kernel_rfl) (by kernel_rfl) (fun _ _ _ h=>h) (Or.inl ⟨by rfl,?hy1176⟩) Hh ?hr1176
 case hy1176=>(intro w hSw;(try dsimp only at hSw);go_simp;(try with_reducible rfl))
 simp only [Act.put,ZA,ZB,ZC,ZD,ZE,ZF];refine' wpAnyH_take (i:=2) (v:=_) rfl (by kernel_rfl) (by kernel_rfl) (by kernel_rfl) (fun _ _ _ h=>h) (Or.inl ⟨by rfl,?hy1177⟩) Hh ?hr1177
 case hy1177=>(intro w hSw;(try dsimp only at hSw);go_simp;(try with_reducible rfl))
 simp only [Act.put,ZA,ZB,ZC,ZD,ZE,ZF];refine' wpAnyH_take (i:=3) (v:=_) rfl (by kernel_rfl) (by kernel_rfl) (by kernel_rfl) (fun _ _ _ h=>h) (Or.inl ⟨by rfl,?hy1178⟩) Hh ?hr1178
 case hy1178=>(intro w hSw;(try dsimp only at hSw);go_simp;(try with_reducible rfl))
 simp only [Act.put,ZA,ZB,ZC,ZD,ZE,ZF];refine' wpAnyH_take (i:=4) (v:=_) rfl (by kernel_rfl) (by kernel_rfl) (by kernel_rfl) (fun _ _ _ h=>h) (Or.inl ⟨by rfl,?hy1179⟩) Hh ?hr1179
 case hy1179=>(intro w hSw;(try dsimp only at hSw);go_simp;(try with_reducible rfl))
 simp only [Act.put,ZA,ZB,ZC,ZD,ZE,ZF];refine' wpAnyH_take (i:=5) (v:=_) rfl (by kernel_rfl) (by kernel_rfl) (by kernel_rfl) (fun _ _ _ h=>h) (Or.inl ⟨by rfl,?hy1180⟩) Hh ?hr1180
 case hy1180=>(intro w hSw;(try dsimp only at hSw);go_simp;(try with_reducible rfl))
 simp only [Act.put,ZA,ZB,ZC,ZD,ZE,ZF];refine' wpAnyH_take (i:=6) (v:=_) rfl (by kernel_rfl) (by kernel_rfl) (by kernel_rfl) (fun _ _ _ h=>h) (Or.inl ⟨by rfl,?hy1181⟩) Hh ?hr1181
 case hy1181=>(intro w hSw;(try dsimp only at hSw);go_simp;(try with_reducible rfl))
 simp only [Act.put,ZA,ZB,ZC,ZD,ZE,ZF];refine' wpAnyH_take (i:=7) (v:=_) rfl (by kernel_rfl) (by kernel_rfl) (by kernel_rfl) (fun _ _ _ h=>h) (Or.inl ⟨by rfl,?hy1182⟩) Hh ?hr1182
 case hy1182=>(intro w hSw;(try dsimp only at hSw);go_simp;(try with_reducible rfl))
 simp only [Act.put,ZA,ZB,ZC,ZD,ZE,ZF];refine' wpAnyH_take (i:=8) (v:=_) rfl (by kernel_rfl) (by kernel_rfl) (by kernel_rfl) (fun _ _ _ h=>h) (Or.inl ⟨by rfl,?hy1183⟩) Hh ?hr1183
 case hy1183=>(intro w hSw;(try dsimp only at hSw);go_simp;(try with_reducible rfl))
 simp only [Act.put,ZA,ZB,ZC,ZD,ZE,ZF];refine' wpAnyH_take (i:=9) (v:=_) rfl (by kernel_rfl) (by kernel_rfl) (by kernel_rfl) (fun _ _ _ h=>h) (Or.inl ⟨by rfl,?hy1184⟩) Hh ?hr1184
 case hy1184=>(intro w hSw;(try dsimp only at hSw);go_simp;(try with_reducible rfl))
 simp only [Act.put,ZA,ZB,ZC,ZD,ZE,ZF];refine' wpAnyH_take (i:=10) (v:=_) rfl (by kernel_rfl) (by kernel_rfl) (by kernel_rfl) (fun _ _ _ h=>h) (Or.inl ⟨by rfl,?hy1185⟩) Hh ?hr1185
 case hy1185=>(intro w hSw;(try dsimp only at hSw);go_simp;(try with_reducible rfl))
 simp only [Act.put,ZA,ZB,ZC,ZD,ZE,ZF];refine' wpAnyH_take (i:=11) (v:=_) rfl (by kernel_rfl) (by kernel_rfl) (by kernel_rfl) (fun _ _ _ h=>h) (Or.inl ⟨by rfl,?hy1186⟩) Hh ?hr1186
 case hy1186=>(intro w hSw;(try dsimp only at hSw);go_simp;(try with_reducible rfl))
 simp only [Act.put,ZA,ZB,ZC,ZD,ZE,ZF];refine' wpAnyH_take (i:=12) (v:=_) rfl (by kernel_rfl) (by kernel_rfl) (by kernel_rfl) (fun _ _ _ h=>h) (Or.inl ⟨by rfl,?hy1187⟩) Hh ?hr1187
 case hy1187=>(intro w hSw;(try dsimp only at hSw);go_simp;(try with_reducible rfl))
 simp only [Act.put,ZA,ZB,ZC,ZD,ZE,ZF];refine' wpAnyH_take (i:=13) (v:=_) rfl (by kernel_rfl) (by kernel_rfl) (by kernel_rfl) (fun _ _ _ h=>h) (Or.inl ⟨by rfl,?hy1188⟩) Hh ?hr1188
 case hy1188=>(intro w hSw;(try dsimp only at hSw);go_simp;(try with_reducible rfl))
 simp only [Act.put,ZA,ZB,ZC,ZD,ZE,ZF];refine' wpAnyH_take (i:=14) (v:=_) rfl (by kernel_rfl) (by kernel_rfl) (by kernel_rfl) (fun _ _ _ h=>h) (Or.inl ⟨by rfl,?hy1189⟩) Hh ?hr1189
 case hy1189=>(intro w hSw;(try dsimp only at hSw);go_simp;(try with_reducible rfl))
 simp only [Act.put,ZA,ZB,ZC,ZD,ZE,ZF];refine' wpAnyH_take (i:=15) (v:=_) rfl (by kernel_rfl) (by kernel_rfl) (by kernel_rfl) (fun _ _ _ h=>h) (Or.inl ⟨by rfl,?hy1190⟩) Hh ?hr1190
 case hy1190=>(intro w hSw;(try dsimp only at hSw);go_simp;(try with_reducible rfl))
 simp only [Act.put,ZA,ZB,ZC,ZD,ZE,ZF];refine' wpAnyH_take (i:=16) (v:=_) rfl (by kernel_rfl) (by kernel_rfl) (by kernel_rfl) (fun _ _ _ h=>h) (Or.inl ⟨by rfl,?hy1191⟩) Hh ?hr1191
 case hy1191=>(intro w hSw;(try dsimp only at hSw);go_simp;(try with_reducible rfl))
 simp only [Act.put,ZA,ZB,ZC,ZD,ZE,ZF];refine' wpAnyH_take (i:=17) (v:=_) rfl (by kernel_rfl) (by kernel_rfl) (by kernel_rfl) (fun _ _ _ h=>h) (Or.inl ⟨by rfl,?hy1192⟩) Hh ?hr1192
 case hy1192=>(intro w hSw;(try dsimp only at hSw);go_simp;(try with_reducible rfl))
 simp only [Act.put,ZA,ZB,ZC,ZD,ZE,ZF];refine' wpAnyH_take (i:=18) (v:=_) rfl (by kernel_rfl) (by kernel_rfl) (by kernel_rfl) (fun _ _ _ h=>h) (Or.inl ⟨by rfl,?hy1193⟩) Hh ?hr1193
 case hy1193=>(intro w hSw;(try dsimp only at hSw);go_simp;(try with_reducible rfl))
 simp only [Act.put,ZA,ZB,ZC,ZD,ZE,ZF];refine' wpAnyH_take (i:=20) (v:=_) rfl (by kernel_rfl) (by kernel_rfl) (by kernel_rfl) (fun _ _ _ h=>h) (Or.inl ⟨by rfl,?hy1194⟩) Hh ?hr1194
 case hy1194=>(intro w hSw;(try dsimp only at hSw);go_simp;(try with_reducible rfl))
 simp only [Act.put,ZA,ZB,ZC,ZD,ZE,ZF];refine' wpAnyH_take (i:=21) (v:=_) rfl (by kernel_rfl) (by kernel_rfl) (by kernel_rfl) (fun _ _ _ h=>h) (Or.inl ⟨by rfl,?hy1195⟩) Hh ?hr1195
 case hy1195=>(intro w hSw;(try dsimp only at hSw);go_simp;(try with_reducible rfl))
 simp only [Act.put,ZA,ZB,ZC,ZD,ZE,ZF];refine' wpAnyH_take (i:=22) (v:=_) rfl (by kernel_rfl) (by kernel_rfl) (by kernel_rfl) (fun _ _ _ h=>h) (Or.inl ⟨by rfl,?hy1196⟩) Hh ?hr1196
 case hy1196=>(intro w hSw;(try dsimp only at hSw);go_simp;(try with_reducible rfl))
 simp only [Act.put,ZA,ZB,ZC,ZD,ZE,ZF];refine' wpAnyH_take (i:=23) (v:=_) rfl (by kernel_rfl) (by kernel_rfl) (by kernel_rfl) (fun _ _ _ h=>h) (Or.inl ⟨by rfl,?hy1197⟩) Hh ?hr1197
 case hy1197=>(intro w hSw;(try dsimp only at hSw);go_simp;(try with_reducible rfl))
 simp only [Act.put,ZA,ZB,ZC,ZD,ZE,ZF];refine' wpAnyH_take (i:=24) (v:=_) rfl (by kernel_rfl) (by kernel_rfl) (by kernel_rfl) (fun _ _ _ h=>h) (Or.inl ⟨by rfl,?hy1198⟩) Hh ?hr1198
 case hy1198=>(intro w hSw;(try dsimp only at hSw);go_simp;(try with_reducible rfl))
 simp only [Act.put,ZA,ZB,ZC,ZD,ZE,ZF];refine' wpAnyH_take (i:=25) (v:=_) rfl (by kernel_rfl) (by kernel_rfl) (by kernel_rfl) (fun _ _ _ h=>h) (Or.inl ⟨by rfl,?hy1199⟩) Hh ?hr1199
 case hy1199=>(intro w hSw;(try dsimp only at hSw);go_simp;(try with_reducible rfl))
 simp only [Act.put,ZA,ZB,ZC,ZD,ZE,ZF];refine' wpAnyH_take (i:=26) (v:=_) rfl (by kernel_rfl) (by kernel_rfl) (by kernel_rfl) (fun _ _ _ h=>h) (Or.inl ⟨by rfl,?hy1200⟩) Hh ?hr1200
 case hy1200=>(intro w hSw;(try dsimp only at hSw);go_simp;(try with_reducible rfl))
 simp only [Act.put,ZA,ZB,ZC,ZD,ZE,ZF];refine' wpAnyH_take (i:=27) (v:=_) rfl (by kernel_rfl) (by kernel_rfl) (by kernel_rfl) (fun _ _ _ h=>h) (Or.inl ⟨by rfl,?hy1201⟩) Hh ?hr1201
 case hy1201=>(intro w hSw;(try dsimp only at hSw);go_simp;(try with_reducible rfl))
 simp only [Act.put,ZA,ZB,ZC,ZD,ZE,ZF];refine' wpAnyH_take (i:=28) (v:=_) rfl (by kernel_rfl) (by kernel_rfl) (by kernel_rfl) (fun _ _ _ h=>h) (Or.inl ⟨by rfl,?hy1202⟩) Hh ?hr1202
 case hy1202=>(intro w hSw;(try dsimp only at hSw);go_simp;(try with_reducible rfl))
 refine rdo 19 fun K hK=>?_
 go_simp;refine hK.out _ _ (Hh) (fun Hh=>?_);clear hK K;refine rdo 29 fun K hK=>?_
 go_simp;refine (hcd _ hd).mono ?_;rintro e w2 ⟨x,rfl,hx,hb⟩;have hx2:=hx.low hd.size;replace hd:=hd.trans (hb.mono hd.size);obtain ⟨ua,un,uc,hue⟩:=hx2.isSl;subst hue;have di:=ci _ hd;have zj:=zi _ hd;go_wp2_with fail;refine hK.out _ _ (cf _ hd) (fun Hh=>?_);clear hK K
 (try simp only [Act.put,ZA,ZB,ZC,ZD,ZE,ZF])
 refine' wpAnyH_take (i:=30) (v:=_) rfl (by kernel_rfl) (by kernel_rfl) (by kernel_rfl) (fun _ _ _ h=>h) (Or.inl ⟨by rfl,?hy1203⟩) Hh ?hr1203
 case hy1203=>(intro w hSw;(try dsimp only at hSw);go_simp;(try with_reducible rfl))
 refine rdo 31 fun K hK=>?_
 go_simp;refine hK.out _ _ (hsc _ _ hd) (fun Hh=>?_);clear hK K
 (try simp only [Act.put,ZA,ZB,ZC,ZD,ZE,ZF])
 refine dn ?_;have hRow:=hZ.out.trans (hfr _ _ hd hx2);clear hfr hcd cf hsc ci zi di zj hd hx hx2 hb Hh hZ;generalize w2.setCell ⟨g,i,none⟩ (.slice ua un uc)=Wq at *;have y5:Wq.cell? ⟨B,5,none⟩=some (.int .i64 (a:Int)):=by rw [<- hae.out];exact hRow.s.cell 5
 have y0:Wq.cell? ⟨B,0,none⟩=some (.int .i64 t.gc):=by rw [<- hug];exact hRow.s.cell 0
 have x5:Wq.frozen? ⟨B,5,none⟩=false:=hRow.s.frozen 5;have x13:Wq.frozen? ⟨B,13,none⟩=false:=hRow.s.frozen 13;have y13:∃ bb,Wq.cell? ⟨B,13,none⟩=some (.bool bb):=⟨_,hRow.s.cell 13⟩;obtain ⟨bb,y13⟩:=y13;have hfin:=fun q=>print_on base B u v _ vg vo _ _ w Wq R t.gc r hRow hRe.out (by rw [hwdo,hsy.out];omega) q
 rw [hwdo,hsy.out] at hfin
 replace hfin:=(show Hid _ from hfin);clear hRow hug hwdo huc;go_wp2;go_quiet (fail);go_wp2;refine be ?_;exact ⟨rfl,_,_,_,hfin.out _⟩
end Go.Proofs.YtgcnmjjlmcnllaaGreatDoor
