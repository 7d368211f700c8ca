import Derived.Test.YtfpopnkhmjkdlaaGreatDoorP43
set_option maxRecDepth 20000
set_option maxHeartbeats 16000000
namespace Go.Proofs.YtfpopnkhmjkdlaaGreatDoor
open Go.ChangeShapes Go.WideShapes Go.ChangeAt Go.RowKit
theorem Xdv (cn N base B:Nat) (t:Te) (v:Tv) (vg vo:List Value) (w:World) (h:Scr w 35 base B [] t v vg vo) (hbase:base<=w.heap.size) (rk:RtK t cn N) (r:Int) (hw1:1<=wdV r) (hw2:wdV r<=t.gc) (hf:t.full=false) (hwr:t.wrap=true) (hov:t.gc<t.col+wdV r) (hend:¬ t.gc<=0+wdV r) :
  Calls Tryz.prog 141 #[.pointer (some ⟨B,0,none⟩),.int .i64 r] w fun e w'=>e=.returned (.tuple #[])/\∃ v' vg' vo',Res w w' 35 base B [] v vg vo (XJ t r) v' vg' vo':=by
 have rt:=rk.w;have hcc:=rt.c;have hgc:=rt.gc;have hcol:=rt.col;have hwb:=XG r;have hwd:=sWa r w;obtain ⟨u,hu⟩:∃ u,Hid (u=Xm { t with full:=false,col:=0 }):=⟨_,rfl⟩
 have hV:XJ t r=p3T u t.gc r:=by
  have e1:p1T t=({ t with full:=false }:Te):=by unfold p1T;rw [if_neg (by simp [hf])]
  have e2:p2T ({ t with full:=false }:Te) t.gc r=Xm { t with full:=false,col:=0 }:=by unfold p2T;rw [if_pos hov,if_pos hwr]
  rw [YC t r hw1 hw2,hu.out,e1,e2]
 have rku:RtK u cn N:=by rw [hu.out];exact ((rk.nofull.colp 0 (by omega) rfl).line)
 have hug:u.gc=t.gc:=by rw [hu.out];exact Kz _
 have huc:u.col=0:=by rw [hu.out,Za { t with full:=false } 0]
 rw [hV]
 clear hV;have c13:w.cell? ⟨B,13,none⟩=some (.bool t.full):=h.cell 13;have c0:w.cell? ⟨B,0,none⟩=some (.int .i64 t.gc):=h.cell 0;have z13:w.frozen? ⟨B,13,none⟩=false:=h.frozen 13;have h1:Res w (w.setCell ⟨B,13,none⟩ (.bool false)) 35 base B [] v vg vo { t with full:=false } v vg vo:=h.put (sCg B [.bool false] 13 w) _ (sCh B 35 [.bool false] 13 w _ h.b) rfl rfl rfl rfl rfl;have hb1:=Nat.le_trans hbase h1.g.size;obtain ⟨W1,hW1⟩:∃ W1,Hid (W1=w.setCell ⟨B,13,none⟩ (.bool false)):=⟨_,rfl⟩;rw [<- hW1.out] at h1 hb1
 have f14w:w.cell? ⟨B,14,none⟩=some (.bool t.wrap):=h.cell 14;have f14:W1.cell? ⟨B,14,none⟩=some (.bool t.wrap):=h1.s.cell 14;have f5:W1.cell? ⟨B,5,none⟩=some (.int .i64 t.col):=h1.s.cell 5;have f0:W1.cell? ⟨B,0,none⟩=some (.int .i64 t.gc):=h1.s.cell 0;have z5:W1.frozen? ⟨B,5,none⟩=false:=h1.s.frozen 5;have f5w:w.cell? ⟨B,5,none⟩=some (.int .i64 t.col):=h.cell 5;have z5w:w.frozen? ⟨B,5,none⟩=false:=h.frozen 5;rw [hf] at c13
 rw [hwr] at f14 f14w
 obtain ⟨wd,hwde⟩:∃ wd,Hid (wdV r=wd):=⟨_,rfl⟩;have hwdo:=hwde.out;rw [hwdo] at hwd hw1 hw2 hwb hov hend
 try rw [hwdo] at huc
 have q0:(wd==0)=false:=by simp;omega
 have q1:¬ t.gc<wd:=by omega
 obtain ⟨sx,hsx⟩:∃ sx,Hid (t.col+wd=sx):=⟨_,rfl⟩;have esx:IntKind.i64.wrap (t.col+wd)=sx:=by rw [<- hsx.out];simp [IntKind.wrap,IntKind.bits,IntKind.signed];omega
 have hov2:t.gc<sx:=by rw [<- hsx.out];exact hov
 have hqu:u.col+wdV r<=cn:=by rw [hwdo,huc];omega
 obtain ⟨sy,hsy⟩:∃ sy,Hid (u.col+wd=sy):=⟨_,rfl⟩;have hend2:¬ t.gc<=sy:=by rw [<- hsy.out,huc];exact hend
 have hw1r:1<=wdV r:=by rw [hwdo];exact hw1
 clear hwb;replace h1:=(show Hid _ from h1);replace rku:=(show Hid _ from rku);replace hb1:=(show Hid _ from hb1);have rt2:=(rk.nofull.colp 0 (by omega) rfl).w;have hli:=fun W2 (h2:Scr W2 35 base B [] { t with full:=false,col:=0 } v vg vo) (hb2:base<=W2.heap.size)=>YY cn N base B { t with full:=false,col:=0 } v vg vo W2 h2 hb2 rt2
 replace hli:=(show Hid _ from hli);have hbw:=hbase;replace hbw:=(show Hid _ from hbw);clear rt2 hb1;clear h rt rk hbase hcc hcol hgc;go_enter Tryz.func141,Tryz.ntmps141;go_wp2_with fail;refine hwd.mono ?_;rintro e wk ⟨rfl,hk⟩;replace hk:=hk.symm;subst hk;clear hwd;go_wp2;rw [<- hW1.out]
 go_quiet (fail);have h1d:=h1.out.below (Ut W1 nq);have h2:Res w ((W1.drewN nq).setCell ⟨B,5,none⟩ (.int .i64 0)) 35 base B [] v vg vo { t with full:=false,col:=0 } v vg vo:=h1d.trans (h1d.s.put (sCg B [.int .i64 0] 5 _) { t with full:=false,col:=0 } (sCh B 35 [.int .i64 0] 5 _ _ h1d.s.b) rfl rfl rfl rfl rfl);have hli2:=hli.out _ h2.s (Nat.le_trans hbw.out h2.g.size);replace h2:=(show Hid _ from h2);clear h1d hli;go_wp2_with fail;refine hli2.mono ?_;rintro e w3 ⟨rfl,v3,vg3,vo3,hR3⟩;have hZ:=h2.out.trans hR3;have hbz:base<=w3.heap.size:=Nat.le_trans hbw.out hZ.g.size;obtain ⟨Wz,hWz⟩:∃ Wz,Hid (Wz=w3):=⟨_,rfl⟩;rw [<- hWz.out] at hZ hbz
 have hd:Below Wz.heap.size Wz w3.drew:=by rw [hWz.out];exact ⟨rfl,rfl,rfl,Nat.le_refl _,fun _ _=>rfl⟩
 clear hli2 hR3 h2;go_wp2;obtain ⟨g,cap,i,a,ra,rn,rc,R,hie,hae,hiN,hRe,cf,ci,zi,hcd,hfr,hsc⟩:=Yt cn N base B u _ _ _ Wz (by rw [hu.out];exact hZ.s) hbz rku.out.w r hw1r hqu;unfold PrC at cf hsc;replace hZ:=(show Hid _ from hZ);replace hRe:=(show Hid _ from hRe);replace hie:=(show Hid _ from hie);have esy:IntKind.i64.wrap ((a:Int)+wd)=sy:=by rw [<- hae,hsy.out];have h9:=hsy.out;have h8:=rku.out.w.col;have h7:=rku.out.w.c;simp [IntKind.wrap,IntKind.bits,IntKind.signed];omega
 have egc:IntKind.i64.wrap (t.gc-1)=t.gc-1:=by have h8:=rku.out.w.gc;have h7:=rku.out.w.c;simp [IntKind.wrap,IntKind.bits,IntKind.signed];omega
 replace hae:=(show Hid _ from hae);have i0:(0:Int)<=(i:Int):=by omega
 have i1:(i:Int)<(N:Int):=by omega
 have di:=ci _ hd;clear rku hqu;refine wp_region_noPanic ?_;refine wp_region_held_drew (S:=(fun W=>W.cell? ⟨B,1,none⟩=some (.slice (some ⟨g,0,none⟩) N cap)/\W.cell? ⟨B,4,none⟩=some (.int .i64 (i:Int))/\W.cell? ⟨B,5,none⟩=some (.int .i64 (a:Int))/\W.cell? ⟨B,6,none⟩=some (.int .i64 u.st.fore)/\W.cell? ⟨B,7,none⟩=some (.int .i64 u.st.back)/\W.cell? ⟨B,8,none⟩=some (.bool u.st.bold)/\W.cell? ⟨B,9,none⟩=some (.bool u.st.under)/\W.cell? ⟨B,10,none⟩=some (.bool u.st.turned))) (by kernel_rfl) (cf _ hd) (fun Hh=>?_);refine tK 0 ?_;refine tK 1 ?_;refine tK 2 ?_;refine tK 3 ?_;refine tK 4 ?_;refine tK 5 ?_;refine tK 6 ?_;refine tK 7 ?_;refine tK 8 ?_;refine tK 9 ?_;refine tK 10 ?_;refine tK 11 ?_;refine tK 12 ?_;refine tK 13 ?_;refine tK 14 ?_;refine tK 15 ?_;refine tK 16 ?_;refine tK 17 ?_;refine tK 18 ?_;refine tK 20 ?_;refine tK 21 ?_;refine tK 22 ?_;refine tK 23 ?_;refine tK 24 ?_;refine tK 25 ?_;refine tK 26 ?_;refine tK 27 ?_;refine tk 28 ?_;refine rdo 19 fun K hK=>?_
 go_simp;refine hK.out _ _ (Hh) (fun Hh=>?_);clear hK K;refine rdo 29 fun K hK=>?_
 go_simp;refine (hcd _ hd).mono ?_;rintro e w2 ⟨x,rfl,hx,hb⟩;have hx2:=hx.low hd.size;replace hd:=hd.trans (hb.mono hd.size);obtain ⟨ua,un,uc,hue⟩:=hx2.isSl;subst hue;have di:=ci _ hd;have zj:=zi _ hd;go_wp2_with fail;refine hK.out _ _ (cf _ hd) (fun Hh=>?_);clear hK K;refine tk 30 ?_;refine rdo 31 fun K hK=>?_
 go_simp;refine hK.out _ _ (hsc _ _ hd) (fun Hh=>?_);clear hK K
 (try simp only [Act.put,ZA,ZB,ZC,ZD,ZE,ZF])
 refine dn ?_;have hRow:=hZ.out.trans (hfr _ _ hd hx2);clear hfr hcd cf hsc ci zi di zj hd hx hx2 hb Hh hZ;generalize w2.setCell ⟨g,i,none⟩ (.slice ua un uc)=Wq at *;have y5:Wq.cell? ⟨B,5,none⟩=some (.int .i64 (a:Int)):=by rw [<- hae.out];exact hRow.s.cell 5
 have y0:Wq.cell? ⟨B,0,none⟩=some (.int .i64 t.gc):=by rw [<- hug];exact hRow.s.cell 0
 have x5:Wq.frozen? ⟨B,5,none⟩=false:=hRow.s.frozen 5;have x13:Wq.frozen? ⟨B,13,none⟩=false:=hRow.s.frozen 13;have y13:∃ bb,Wq.cell? ⟨B,13,none⟩=some (.bool bb):=⟨_,hRow.s.cell 13⟩;obtain ⟨bb,y13⟩:=y13;have hfin:=fun q=>UE base B u v _ vg vo _ _ w Wq R t.gc r hRow hRe.out (by rw [hwdo,hsy.out];omega) q
 rw [hwdo,hsy.out] at hfin
 replace hfin:=(show Hid _ from hfin);clear hRow hug hwdo huc;go_wp2;go_quiet (fail);go_wp2;refine be ?_;exact ⟨rfl,_,_,_,hfin.out _⟩
theorem Xdw (cn N base B:Nat) (t:Te) (v:Tv) (vg vo:List Value) (w:World) (h:Scr w 35 base B [] t v vg vo) (hbase:base<=w.heap.size) (rk:RtK t cn N) (r:Int) (hw1:1<=wdV r) (hw2:wdV r<=t.gc) (hf:t.full=false) (hwr:t.wrap=true) (hov:t.gc<t.col+wdV r) (hend:t.gc<=0+wdV r) :
  Calls Tryz.prog 141 #[.pointer (some ⟨B,0,none⟩),.int .i64 r] w fun e w'=>e=.returned (.tuple #[])/\∃ v' vg' vo',Res w w' 35 base B [] v vg vo (XJ t r) v' vg' vo':=by
 have rt:=rk.w;have hcc:=rt.c;have hgc:=rt.gc;have hcol:=rt.col;have hwb:=XG r;have hwd:=sWa r w;obtain ⟨u,hu⟩:∃ u,Hid (u=Xm { t with full:=false,col:=0 }):=⟨_,rfl⟩
 have hV:XJ t r=p3T u t.gc r:=by
  have e1:p1T t=({ t with full:=false }:Te):=by unfold p1T;rw [if_neg (by simp [hf])]
  have e2:p2T ({ t with full:=false }:Te) t.gc r=Xm { t with full:=false,col:=0 }:=by unfold p2T;rw [if_pos hov,if_pos hwr]
  rw [YC t r hw1 hw2,hu.out,e1,e2]
 have rku:RtK u cn N:=by rw [hu.out];exact ((rk.nofull.colp 0 (by omega) rfl).line)
 have hug:u.gc=t.gc:=by rw [hu.out];exact Kz _
 have huc:u.col=0:=by rw [hu.out,Za { t with full:=false } 0]
 rw [hV]
 clear hV;have c13:w.cell? ⟨B,13,none⟩=some (.bool t.full):=h.cell 13;have c0:w.cell? ⟨B,0,none⟩=some (.int .i64 t.gc):=h.cell 0;have z13:w.frozen? ⟨B,13,none⟩=false:=h.frozen 13;have h1:Res w (w.setCell ⟨B,13,none⟩ (.bool false)) 35 base B [] v vg vo { t with full:=false } v vg vo:=h.put (sCg B [.bool false] 13 w) _ (sCh B 35 [.bool false] 13 w _ h.b) rfl rfl rfl rfl rfl;have hb1:=Nat.le_trans hbase h1.g.size;obtain ⟨W1,hW1⟩:∃ W1,Hid (W1=w.setCell ⟨B,13,none⟩ (.bool false)):=⟨_,rfl⟩;rw [<- hW1.out] at h1 hb1
 have f14w:w.cell? ⟨B,14,none⟩=some (.bool t.wrap):=h.cell 14;have f14:W1.cell? ⟨B,14,none⟩=some (.bool t.wrap):=h1.s.cell 14;have f5:W1.cell? ⟨B,5,none⟩=some (.int .i64 t.col):=h1.s.cell 5;have f0:W1.cell? ⟨B,0,none⟩=some (.int .i64 t.gc):=h1.s.cell 0;have z5:W1.frozen? ⟨B,5,none⟩=false:=h1.s.frozen 5;have f5w:w.cell? ⟨B,5,none⟩=some (.int .i64 t.col):=h.cell 5;have z5w:w.frozen? ⟨B,5,none⟩=false:=h.frozen 5;rw [hf] at c13
 rw [hwr] at f14 f14w
 obtain ⟨wd,hwde⟩:∃ wd,Hid (wdV r=wd):=⟨_,rfl⟩;have hwdo:=hwde.out;rw [hwdo] at hwd hw1 hw2 hwb hov hend
 try rw [hwdo] at huc
 have q0:(wd==0)=false:=by simp;omega
 have q1:¬ t.gc<wd:=by omega
 obtain ⟨sx,hsx⟩:∃ sx,Hid (t.col+wd=sx):=⟨_,rfl⟩;have esx:IntKind.i64.wrap (t.col+wd)=sx:=by rw [<- hsx.out];simp [IntKind.wrap,IntKind.bits,IntKind.signed];omega
 have hov2:t.gc<sx:=by rw [<- hsx.out];exact hov
 have hqu:u.col+wdV r<=cn:=by rw [hwdo,huc];omega
 obtain ⟨sy,hsy⟩:∃ sy,Hid (u.col+wd=sy):=⟨_,rfl⟩;have hend2:t.gc<=sy:=by rw [<- hsy.out,huc];exact hend
 have hw1r:1<=wdV r:=by rw [hwdo];exact hw1
 clear hwb;replace h1:=(show Hid _ from h1);replace rku:=(show Hid _ from rku);replace hb1:=(show Hid _ from hb1);have rt2:=(rk.nofull.colp 0 (by omega) rfl).w;have hli:=fun W2 (h2:Scr W2 35 base B [] { t with full:=false,col:=0 } v vg vo) (hb2:base<=W2.heap.size)=>YY cn N base B { t with full:=false,col:=0 } v vg vo W2 h2 hb2 rt2
 replace hli:=(show Hid _ from hli);have hbw:=hbase;replace hbw:=(show Hid _ from hbw);clear rt2 hb1;clear h rt rk hbase hcc hcol hgc;go_enter Tryz.func141,Tryz.ntmps141;go_wp2_with fail;refine hwd.mono ?_;rintro e wk ⟨rfl,hk⟩;replace hk:=hk.symm;subst hk;clear hwd;go_wp2;rw [<- hW1.out]
 go_quiet (fail);have h1d:=h1.out.below (Ut W1 nq);have h2:Res w ((W1.drewN nq).setCell ⟨B,5,none⟩ (.int .i64 0)) 35 base B [] v vg vo { t with full:=false,col:=0 } v vg vo:=h1d.trans (h1d.s.put (sCg B [.int .i64 0] 5 _) { t with full:=false,col:=0 } (sCh B 35 [.int .i64 0] 5 _ _ h1d.s.b) rfl rfl rfl rfl rfl);have hli2:=hli.out _ h2.s (Nat.le_trans hbw.out h2.g.size);replace h2:=(show Hid _ from h2);clear h1d hli;go_wp2_with fail;refine hli2.mono ?_;rintro e w3 ⟨rfl,v3,vg3,vo3,hR3⟩;have hZ:=h2.out.trans hR3;have hbz:base<=w3.heap.size:=Nat.le_trans hbw.out hZ.g.size;obtain ⟨Wz,hWz⟩:∃ Wz,Hid (Wz=w3):=⟨_,rfl⟩;rw [<- hWz.out] at hZ hbz
 have hd:Below Wz.heap.size Wz w3.drew:=by rw [hWz.out];exact ⟨rfl,rfl,rfl,Nat.le_refl _,fun _ _=>rfl⟩
 clear hli2 hR3 h2;go_wp2;obtain ⟨g,cap,i,a,ra,rn,rc,R,hie,hae,hiN,hRe,cf,ci,zi,hcd,hfr,hsc⟩:=Yt cn N base B u _ _ _ Wz (by rw [hu.out];exact hZ.s) hbz rku.out.w r hw1r hqu;unfold PrC at cf hsc;replace hZ:=(show Hid _ from hZ);replace hRe:=(show Hid _ from hRe);replace hie:=(show Hid _ from hie);have esy:IntKind.i64.wrap ((a:Int)+wd)=sy:=by rw [<- hae,hsy.out];have h9:=hsy.out;have h8:=rku.out.w.col;have h7:=rku.out.w.c;simp [IntKind.wrap,IntKind.bits,IntKind.signed];omega
 have egc:IntKind.i64.wrap (t.gc-1)=t.gc-1:=by have h8:=rku.out.w.gc;have h7:=rku.out.w.c;simp [IntKind.wrap,IntKind.bits,IntKind.signed];omega
 replace hae:=(show Hid _ from hae);have i0:(0:Int)<=(i:Int):=by omega
 have i1:(i:Int)<(N:Int):=by omega
 have di:=ci _ hd;clear rku hqu;refine wp_region_noPanic ?_;refine wp_region_held_drew (S:=(fun W=>W.cell? ⟨B,1,none⟩=some (.slice (some ⟨g,0,none⟩) N cap)/\W.cell? ⟨B,4,none⟩=some (.int .i64 (i:Int))/\W.cell? ⟨B,5,none⟩=some (.int .i64 (a:Int))/\W.cell? ⟨B,6,none⟩=some (.int .i64 u.st.fore)/\W.cell? ⟨B,7,none⟩=some (.int .i64 u.st.back)/\W.cell? ⟨B,8,none⟩=some (.bool u.st.bold)/\W.cell? ⟨B,9,none⟩=some (.bool u.st.under)/\W.cell? ⟨B,10,none⟩=some (.bool u.st.turned))) (by kernel_rfl) (cf _ hd) (fun Hh=>?_);refine tK 0 ?_;refine tK 1 ?_;refine tK 2 ?_;refine tK 3 ?_;refine tK 4 ?_;refine tK 5 ?_;refine tK 6 ?_;refine tK 7 ?_;refine tK 8 ?_;refine tK 9 ?_;refine tK 10 ?_;refine tK 11 ?_;refine tK 12 ?_;refine tK 13 ?_;refine tK 14 ?_;refine tK 15 ?_;refine tK 16 ?_;refine tK 17 ?_;refine tK 18 ?_;refine tK 20 ?_;refine tK 21 ?_;refine tK 22 ?_;refine tK 23 ?_;refine tK 24 ?_;refine tK 25 ?_;refine tK 26 ?_;refine tK 27 ?_;refine tk 28 ?_;refine rdo 19 fun K hK=>?_
 go_simp;refine hK.out _ _ (Hh) (fun Hh=>?_);clear hK K;refine rdo 29 fun K hK=>?_
 go_simp;refine (hcd _ hd).mono ?_;rintro e w2 ⟨x,rfl,hx,hb⟩;have hx2:=hx.low hd.size;replace hd:=hd.trans (hb.mono hd.size);obtain ⟨ua,un,uc,hue⟩:=hx2.isSl;subst hue;have di:=ci _ hd;have zj:=zi _ hd;go_wp2_with fail;refine hK.out _ _ (cf _ hd) (fun Hh=>?_);clear hK K;refine tk 30 ?_;refine rdo 31 fun K hK=>?_
 go_simp;refine hK.out _ _ (hsc _ _ hd) (fun Hh=>?_);clear hK K
 (try simp only [Act.put,ZA,ZB,ZC,ZD,ZE,ZF])
 refine dn ?_;have hRow:=hZ.out.trans (hfr _ _ hd hx2);clear hfr hcd cf hsc ci zi di zj hd hx hx2 hb Hh hZ;generalize w2.setCell ⟨g,i,none⟩ (.slice ua un uc)=Wq at *;have y5:Wq.cell? ⟨B,5,none⟩=some (.int .i64 (a:Int)):=by rw [<- hae.out];exact hRow.s.cell 5
 have y0:Wq.cell? ⟨B,0,none⟩=some (.int .i64 t.gc):=by rw [<- hug];exact hRow.s.cell 0
 have x5:Wq.frozen? ⟨B,5,none⟩=false:=hRow.s.frozen 5;have x13:Wq.frozen? ⟨B,13,none⟩=false:=hRow.s.frozen 13;have y13:∃ bb,Wq.cell? ⟨B,13,none⟩=some (.bool bb):=⟨_,hRow.s.cell 13⟩;obtain ⟨bb,y13⟩:=y13;have hfin:=fun q=>Kt base B u v _ vg vo _ _ w Wq R t.gc r hRow hRe.out (by rw [hwdo,hsy.out];omega) q
 rw [hwdo,hsy.out] at hfin
 replace hfin:=(show Hid _ from hfin);clear hRow hug hwdo huc;go_wp2;go_quiet (fail);go_wp2;refine be ?_;exact ⟨rfl,_,_,_,hfin.out _⟩
theorem Xdy (cn N base B:Nat) (t:Te) (v:Tv) (vg vo:List Value) (w:World) (h:Scr w 35 base B [] t v vg vo) (hbase:base<=w.heap.size) (rk:RtK t cn N) (r:Int) (hw1:1<=wdV r) (hw2:wdV r<=t.gc) (hf:t.full=true) (hwr:t.wrap=false) (hov:t.gc<t.col+wdV r) :
  Calls Tryz.prog 141 #[.pointer (some ⟨B,0,none⟩),.int .i64 r] w fun e w'=>e=.returned (.tuple #[])/\∃ v' vg' vo',Res w w' 35 base B [] v vg vo (XJ t r) v' vg' vo':=by
 have rt:=rk.w;have hcc:=rt.c;have hgc:=rt.gc;have hcol:=rt.col;have hwb:=XG r;have hwd:=sWa r w;obtain ⟨u,hu⟩:∃ u,Hid (u=({ t with full:=false,col:=t.gc-wdV r }:Te)):=⟨_,rfl⟩
 have hV:XJ t r=p3T u t.gc r:=by
  have e1:p1T t=({ t with full:=false }:Te):=by unfold p1T;rw [if_neg (by simp [hwr])]
  have e2:p2T ({ t with full:=false }:Te) t.gc r=({ t with full:=false,col:=t.gc-wdV r }:Te):=by unfold p2T;rw [if_pos hov,if_neg (by simp [hwr])]
  rw [YC t r hw1 hw2,hu.out,e1,e2]
 have rku:RtK u cn N:=by rw [hu.out];exact (rk.nofull.colp (t.gc-wdV r) (by omega) rfl)
 have hug:u.gc=t.gc:=by rw [hu.out]
 have huc:u.col=(t.gc-wdV r):=by rw [hu.out]
 rw [hV]
 clear hV;have c13:w.cell? ⟨B,13,none⟩=some (.bool t.full):=h.cell 13;have c0:w.cell? ⟨B,0,none⟩=some (.int .i64 t.gc):=h.cell 0;have z13:w.frozen? ⟨B,13,none⟩=false:=h.frozen 13;have h1:Res w (w.setCell ⟨B,13,none⟩ (.bool false)) 35 base B [] v vg vo { t with full:=false } v vg vo:=h.put (sCg B [.bool false] 13 w) _ (sCh B 35 [.bool false] 13 w _ h.b) rfl rfl rfl rfl rfl;have hb1:=Nat.le_trans hbase h1.g.size;obtain ⟨W1,hW1⟩:∃ W1,Hid (W1=w.setCell ⟨B,13,none⟩ (.bool false)):=⟨_,rfl⟩;rw [<- hW1.out] at h1 hb1
 have f14w:w.cell? ⟨B,14,none⟩=some (.bool t.wrap):=h.cell 14;have f14:W1.cell? ⟨B,14,none⟩=some (.bool t.wrap):=h1.s.cell 14;have f5:W1.cell? ⟨B,5,none⟩=some (.int .i64 t.col):=h1.s.cell 5;have f0:W1.cell? ⟨B,0,none⟩=some (.int .i64 t.gc):=h1.s.cell 0;have z5:W1.frozen? ⟨B,5,none⟩=false:=h1.s.frozen 5;have f5w:w.cell? ⟨B,5,none⟩=some (.int .i64 t.col):=h.cell 5;have z5w:w.frozen? ⟨B,5,none⟩=false:=h.frozen 5;rw [hf] at c13
 rw [hwr] at f14 f14w
 obtain ⟨wd,hwde⟩:∃ wd,Hid (wdV r=wd):=⟨_,rfl⟩;have hwdo:=hwde.out;rw [hwdo] at hwd hw1 hw2 hwb hov
 try rw [hwdo] at huc
 have q0:(wd==0)=false:=by simp;omega
 have q1:¬ t.gc<wd:=by omega
 obtain ⟨sx,hsx⟩:∃ sx,Hid (t.col+wd=sx):=⟨_,rfl⟩;have esx:IntKind.i64.wrap (t.col+wd)=sx:=by rw [<- hsx.out];simp [IntKind.wrap,IntKind.bits,IntKind.signed];omega
 have hov2:t.gc<sx:=by rw [<- hsx.out];exact hov
 have hqu:u.col+wdV r<=cn:=by rw [hwdo,huc];omega
 obtain ⟨sy,hsy⟩:∃ sy,Hid (u.col+wd=sy):=⟨_,rfl⟩;have hend2:t.gc<=sy:=by rw [<- hsy.out,huc];omega
 have hw1r:1<=wdV r:=by rw [hwdo];exact hw1
 clear hwb;obtain ⟨sc,hsc0⟩:∃ sc,Hid (t.gc-wd=sc):=⟨_,rfl⟩;have esc:IntKind.i64.wrap (t.gc-wd)=sc:=by rw [<- hsc0.out];simp [IntKind.wrap,IntKind.bits,IntKind.signed];omega
 have hu2:Hid (u=({ t with full:=false,col:=sc }:Te)):=by show _=_;rw [<- hsc0.out,<- hwdo];exact hu.out
 clear hu;have hu:=hu2;have hbw:=hbase;replace hbw:=(show Hid _ from hbw);clear hu2;replace h1:=(show Hid _ from h1);replace rku:=(show Hid _ from rku);replace hb1:=(show Hid _ from hb1);clear h rt rk hbase hcc hcol hgc;go_enter Tryz.func141,Tryz.ntmps141;go_wp2_with fail;refine hwd.mono ?_;rintro e wk ⟨rfl,hk⟩;replace hk:=hk.symm;subst hk;clear hwd;go_wp2;rw [<- hW1.out]
 go_quiet (fail);have h1d:=h1.out.below (Ut W1 nq);have hZ:Res w ((W1.drewN nq).setCell ⟨B,5,none⟩ (.int .i64 sc)) 35 base B [] v vg vo { t with full:=false,col:=sc } v vg vo:=h1d.trans (h1d.s.put (sCg B [.int .i64 sc] 5 _) { t with full:=false,col:=sc } (sCh B 35 [.int .i64 sc] 5 _ _ h1d.s.b) rfl rfl rfl rfl rfl);have hbz:base<=((W1.drewN nq).setCell ⟨B,5,none⟩ (.int .i64 sc)).heap.size:=Nat.le_trans hbw.out hZ.g.size;replace hZ:=(show Hid _ from hZ);replace hbz:=(show Hid _ from hbz);clear h1d;go_wp2;obtain ⟨Wz,hWz⟩:∃ Wz,Hid (Wz=(W1.drewN nq).setCell ⟨B,5,none⟩ (.int .i64 sc)):=⟨_,rfl⟩;replace hZ:=hZ.out;replace hbz:=hbz.out;rw [<- hWz.out] at hZ hbz
 rw [<- hWz.out]
 have hd:Below Wz.heap.size Wz Wz.drew:=⟨rfl,rfl,rfl,Nat.le_refl _,fun _ _=>rfl⟩;obtain ⟨g,cap,i,a,ra,rn,rc,R,hie,hae,hiN,hRe,cf,ci,zi,hcd,hfr,hsc⟩:=Yt cn N base B u _ _ _ Wz (by rw [hu.out];exact hZ.s) hbz rku.out.w r hw1r hqu;unfold PrC at cf hsc;replace hZ:=(show Hid _ from hZ);replace hRe:=(show Hid _ from hRe);replace hie:=(show Hid _ from hie);have esy:IntKind.i64.wrap ((a:Int)+wd)=sy:=by rw [<- hae,hsy.out];have h9:=hsy.out;have h8:=rku.out.w.col;have h7:=rku.out.w.c;simp [IntKind.wrap,IntKind.bits,IntKind.signed];omega
 have egc:IntKind.i64.wrap (t.gc-1)=t.gc-1:=by have h8:=rku.out.w.gc;have h7:=rku.out.w.c;simp [IntKind.wrap,IntKind.bits,IntKind.signed];omega
 replace hae:=(show Hid _ from hae);have i0:(0:Int)<=(i:Int):=by omega
 have i1:(i:Int)<(N:Int):=by omega
 have di:=ci _ hd;clear rku hqu;refine wp_region_noPanic ?_;refine wp_region_held_drew (S:=(fun W=>W.cell? ⟨B,1,none⟩=some (.slice (some ⟨g,0,none⟩) N cap)/\W.cell? ⟨B,4,none⟩=some (.int .i64 (i:Int))/\W.cell? ⟨B,5,none⟩=some (.int .i64 (a:Int))/\W.cell? ⟨B,6,none⟩=some (.int .i64 u.st.fore)/\W.cell? ⟨B,7,none⟩=some (.int .i64 u.st.back)/\W.cell? ⟨B,8,none⟩=some (.bool u.st.bold)/\W.cell? ⟨B,9,none⟩=some (.bool u.st.under)/\W.cell? ⟨B,10,none⟩=some (.bool u.st.turned))) (by kernel_rfl) (cf _ hd) (fun Hh=>?_);refine tK 0 ?_;refine tK 1 ?_;refine tK 2 ?_;refine tK 3 ?_;refine tK 4 ?_;refine tK 5 ?_;refine tK 6 ?_;refine tK 7 ?_;refine tK 8 ?_;refine tK 9 ?_;refine tK 10 ?_;refine tK 11 ?_;refine tK 12 ?_;refine tK 13 ?_;refine tK 14 ?_;refine tK 15 ?_;refine tK 16 ?_;refine tK 17 ?_;refine tK 18 ?_;refine tK 20 ?_;refine tK 21 ?_;refine tK 22 ?_;refine tK 23 ?_;refine tK 24 ?_;refine tK 25 ?_;refine tK 26 ?_;refine tK 27 ?_;refine tk 28 ?_;refine rdo 19 fun K hK=>?_
 go_simp;refine hK.out _ _ (Hh) (fun Hh=>?_);clear hK K;refine rdo 29 fun K hK=>?_
 go_simp;refine (hcd _ hd).mono ?_;rintro e w2 ⟨x,rfl,hx,hb⟩;have hx2:=hx.low hd.size;replace hd:=hd.trans (hb.mono hd.size);obtain ⟨ua,un,uc,hue⟩:=hx2.isSl;subst hue;have di:=ci _ hd;have zj:=zi _ hd;go_wp2_with fail;refine hK.out _ _ (cf _ hd) (fun Hh=>?_);clear hK K;refine tk 30 ?_;refine rdo 31 fun K hK=>?_
 go_simp;refine hK.out _ _ (hsc _ _ hd) (fun Hh=>?_);clear hK K
 (try simp only [Act.put,ZA,ZB,ZC,ZD,ZE,ZF])
 refine dn ?_;have hRow:=hZ.out.trans (hfr _ _ hd hx2);clear hfr hcd cf hsc ci zi di zj hd hx hx2 hb Hh hZ;generalize w2.setCell ⟨g,i,none⟩ (.slice ua un uc)=Wq at *;have y5:Wq.cell? ⟨B,5,none⟩=some (.int .i64 (a:Int)):=by rw [<- hae.out];exact hRow.s.cell 5
 have y0:Wq.cell? ⟨B,0,none⟩=some (.int .i64 t.gc):=by rw [<- hug];exact hRow.s.cell 0
 have x5:Wq.frozen? ⟨B,5,none⟩=false:=hRow.s.frozen 5;have x13:Wq.frozen? ⟨B,13,none⟩=false:=hRow.s.frozen 13;have y13:∃ bb,Wq.cell? ⟨B,13,none⟩=some (.bool bb):=⟨_,hRow.s.cell 13⟩;obtain ⟨bb,y13⟩:=y13;have hfin:=fun q=>Kt base B u v _ vg vo _ _ w Wq R t.gc r hRow hRe.out (by rw [hwdo,hsy.out];omega) q
 rw [hwdo,hsy.out] at hfin
 replace hfin:=(show Hid _ from hfin);clear hRow hug hwdo huc;go_wp2;go_quiet (fail);go_wp2;refine be ?_;exact ⟨rfl,_,_,_,hfin.out _⟩
theorem Xa3 {t:Te} (h:Xk t=true):Xx t.g t.g.length<=60000/\Xx t.o t.o.length<=60000/\t.g.length<=30/\t.o.length<=30/\t.ti.length<=40/\t.pa.params.length<=16/\t.pa.text.length<=40:=by
 obtain ⟨gc,f1,f2,f3,f4,_,f6⟩:=Jo h;obtain ⟨⟨g1,g2⟩,⟨l1,l1'⟩,x1⟩:=YP f3;obtain ⟨_,⟨l2,l2'⟩,x2⟩:=YP f4;have s1:=XbQ _ 60 (fun i hi=>by rw [(x1 i hi).1];omega) _ (Nat.le_refl t.g.length);have s2:=XbQ _ 60 (fun i hi=>by rw [(x2 i hi).1];omega) _ (Nat.le_refl t.o.length);have m1:=Nat.mul_le_mul_right 60 l1';have m2:=Nat.mul_le_mul_right 60 l2';exact ⟨by omega,by omega,l1',l2',f6.2.2.2.2.1,f6.2.2.2.2.2.1,f6.2.2.2.2.2.2⟩
theorem Xf9 (t:Te) (a:Ac):Xx (doR t a).g (doR t a).g.length<=60000/\Xx (doR t a).o (doR t a).o.length<=60000/\(doR t a).g.length<=30/\(doR t a).o.length<=30/\(doR t a).ti.length<=40/\(doR t a).pa.params.length<=16/\(doR t a).pa.text.length<=40:=by
 unfold doR
 by_cases h:Xk t=true
 ·rw [if_pos h]
  by_cases ha:Jw a=true
  ·rw [if_pos ha];exact Xa3 ((XdT h).doT a ha).ok
  ·rw [if_neg ha];exact Xa3 h
 ·rw [if_neg h];simp [teZ,Xx]
theorem XhI (t:Te) (a:Ac):SzT 1048576 (doR t a):=by
 obtain ⟨h1,h2,h3,h4,h5,h6,h7⟩:=Xf9 t a;exact ⟨by omega,fun i hi=>by have:=UJ (doR t a).g hi;omega,by omega,fun i hi=>by have:=UJ (doR t a).o hi;omega,by omega,by omega,by omega⟩
section
variable {H : Type} {enc : TypeId × Value → H} {w : World} {base : Nat} {spare : Nat → Bool} {held : Bool}
theorem XbY {b0:Nat} {r:Reach} {v:Value} {d:DataW H} {p:List MemPlace} (hv:Value.okWide Tryz.prog w r b0 66 v) (h:DataW.Trod enc Tryz.prog w base spare held 66 v d p) :
  ∃ (q:Ac) (pv tv:Value),v=.agg (acA q.kind q.rune pv q.mark tv)/\SlN w pv q.params/\SlN w tv q.text/\q.params.length<=maxLen/\q.text.length<=maxLen:=by
 obtain ⟨cs,rfl,hsz⟩:=okWide_struct Tryz.underlying66 hv;obtain ⟨fuel,hf⟩:=h;obtain ⟨xs,n,_,_,hl,hlen,hfs⟩:=DataW.trod_struct Tryz.underlying66 hf;have e:Tryz.prog.cellsOf 66=5:=by kernel_rfl
 have ei:Tryz.prog.cellsOf 2=1:=by kernel_rfl
 have er:Tryz.prog.cellsOf 29=1:=by kernel_rfl
 obtain ⟨l⟩:=cs
 match l,hsz.trans e,xs,hlen with
 | [c0,c1,c2,c3,c4],_,[x0,x1,x2,x3,x4],_ =>
  have h0:=hfs 0 _ rfl;have h1:=hfs 1 _ rfl;have h2:=hfs 2 _ rfl;have h3:=hfs 3 _ rfl;have h4:=hfs 4 _ rfl;simp [Value.cells,ei,er] at h0 h1 h2 h3 h4;obtain ⟨k0,q0,_,_⟩:=DataW.trod_int Tryz.underlying2 h0;obtain ⟨k1,q1,_,_⟩:=DataW.trod_int Tryz.underlying2 h1;obtain ⟨u2,y2,q2,s2,l2⟩:=Uy h2;obtain ⟨k3,q3,_,_⟩:=DataW.trod_int Tryz.underlying2 h3;obtain ⟨u4,y4,q4,s4,l4⟩:=Uy h4;simp at q0 q1 q2 q3 q4;subst q0;subst q1;subst q2;subst q3;subst q4;exact ⟨⟨k0,k1,y2,k3,y4⟩,_,_,rfl,s2,s4,l2,l4⟩
end
