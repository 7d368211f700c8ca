import Derived.Test.YtfpopnkhmjkdlaaGreatDoorP43
set_option maxRecDepth 20000
set_option maxHeartbeats 16000000
namespace Go.Proofs.YtfpopnkhmjkdlaaGreatDoor
open Go.ChangeShapes Go.WideShapes Go.ChangeAt Go.RowKit
theorem Xcn (cn N base B:Nat) (t:Te) (v:Tv) (vg vo:List Value) (w:World) (h:Scr w 35 base B [] t v vg vo) (hbase:base<=w.heap.size) (rk:RtK t cn N) (r:Int) (hw1:1<=wdV r) (hw2:wdV r<=t.gc) (hf:t.full=false) (hov:¬ t.gc<t.col+wdV r) (hend:¬ t.gc<=t.col+wdV r) :
  Calls Tryz.prog 141 #[.pointer (some ⟨B,0,none⟩),.int .i64 r] w fun e w'=>e=.returned (.tuple #[])/\∃ v' vg' vo',Res w w' 35 base B [] v vg vo (XJ t r) v' vg' vo':=by
 have rt:=rk.w;have hcc:=rt.c;have hgc:=rt.gc;have hcol:=rt.col;have hwb:=XG r;have hwd:=sWa r w;obtain ⟨u,hu⟩:∃ u,Hid (u=({ t with full:=false }:Te)):=⟨_,rfl⟩
 have hV:XJ t r=p3T u t.gc r:=by
  have e1:p1T t=({ t with full:=false }:Te):=by unfold p1T;rw [if_neg (by simp [hf])]
  have e2:p2T ({ t with full:=false }:Te) t.gc r=({ t with full:=false }:Te):=by unfold p2T;rw [if_neg hov]
  rw [YC t r hw1 hw2,hu.out,e1,e2]
 have rku:RtK u cn N:=by rw [hu.out];exact rk.nofull
 have hug:u.gc=t.gc:=by rw [hu.out]
 have huc:u.col=t.col:=by rw [hu.out]
 rw [hV]
 clear hV;have c13:w.cell? ⟨B,13,none⟩=some (.bool t.full):=h.cell 13;have c0:w.cell? ⟨B,0,none⟩=some (.int .i64 t.gc):=h.cell 0;have z13:w.frozen? ⟨B,13,none⟩=false:=h.frozen 13;have h1:Res w (w.setCell ⟨B,13,none⟩ (.bool false)) 35 base B [] v vg vo { t with full:=false } v vg vo:=h.put (sCg B [.bool false] 13 w) _ (sCh B 35 [.bool false] 13 w _ h.b) rfl rfl rfl rfl rfl;have hb1:=Nat.le_trans hbase h1.g.size;obtain ⟨W1,hW1⟩:∃ W1,Hid (W1=w.setCell ⟨B,13,none⟩ (.bool false)):=⟨_,rfl⟩;rw [<- hW1.out] at h1 hb1
 have f14w:w.cell? ⟨B,14,none⟩=some (.bool t.wrap):=h.cell 14;have f14:W1.cell? ⟨B,14,none⟩=some (.bool t.wrap):=h1.s.cell 14;have f5:W1.cell? ⟨B,5,none⟩=some (.int .i64 t.col):=h1.s.cell 5;have f0:W1.cell? ⟨B,0,none⟩=some (.int .i64 t.gc):=h1.s.cell 0;have z5:W1.frozen? ⟨B,5,none⟩=false:=h1.s.frozen 5;have f5w:w.cell? ⟨B,5,none⟩=some (.int .i64 t.col):=h.cell 5;have z5w:w.frozen? ⟨B,5,none⟩=false:=h.frozen 5;rw [hf] at c13
 skip
 obtain ⟨wd,hwde⟩:∃ wd,Hid (wdV r=wd):=⟨_,rfl⟩;have hwdo:=hwde.out;rw [hwdo] at hwd hw1 hw2 hwb hov hend
 try rw [hwdo] at huc
 have q0:(wd==0)=false:=by simp;omega
 have q1:¬ t.gc<wd:=by omega
 obtain ⟨sx,hsx⟩:∃ sx,Hid (t.col+wd=sx):=⟨_,rfl⟩;have esx:IntKind.i64.wrap (t.col+wd)=sx:=by rw [<- hsx.out];simp [IntKind.wrap,IntKind.bits,IntKind.signed];omega
 have hov2:¬ t.gc<sx:=by rw [<- hsx.out];exact hov
 have hqu:u.col+wdV r<=cn:=by rw [hwdo,huc];omega
 obtain ⟨sy,hsy⟩:∃ sy,Hid (u.col+wd=sy):=⟨_,rfl⟩;have hend2:¬ t.gc<=sy:=by rw [<- hsy.out,huc];exact hend
 have hw1r:1<=wdV r:=by rw [hwdo];exact hw1
 clear hwb;replace h1:=(show Hid _ from h1);replace rku:=(show Hid _ from rku);replace hb1:=(show Hid _ from hb1);clear h rt rk hbase hcc hcol hgc;go_enter Tryz.func141,Tryz.ntmps141;go_wp2_with fail;refine hwd.mono ?_;rintro e wk ⟨rfl,hk⟩;replace hk:=hk.symm;subst hk;clear hwd;go_wp2;rw [<- hW1.out]
 go_quiet (fail);go_wp2;have hZ:=h1.out.below (Ut W1 nq);have hbz:base<=(W1.drewN nq).heap.size:=hb1.out;obtain ⟨Wz,hWz⟩:∃ Wz,Hid (Wz=W1.drewN nq):=⟨_,rfl⟩;rw [<- hWz.out] at hZ hbz
 have hd:Below Wz.heap.size Wz (W1.drewN (nq+1)):=by rw [hWz.out];exact ⟨rfl,rfl,rfl,Nat.le_refl _,fun _ _=>rfl⟩
 obtain ⟨g,cap,i,a,ra,rn,rc,R,hie,hae,hiN,hRe,cf,ci,zi,hcd,hfr,hsc⟩:=Yt cn N base B u _ _ _ Wz (by rw [hu.out];exact hZ.s) hbz rku.out.w r hw1r hqu;unfold PrC at cf hsc;replace hZ:=(show Hid _ from hZ);replace hRe:=(show Hid _ from hRe);replace hie:=(show Hid _ from hie);have esy:IntKind.i64.wrap ((a:Int)+wd)=sy:=by rw [<- hae,hsy.out];have h9:=hsy.out;have h8:=rku.out.w.col;have h7:=rku.out.w.c;simp [IntKind.wrap,IntKind.bits,IntKind.signed];omega
 have egc:IntKind.i64.wrap (t.gc-1)=t.gc-1:=by have h8:=rku.out.w.gc;have h7:=rku.out.w.c;simp [IntKind.wrap,IntKind.bits,IntKind.signed];omega
 replace hae:=(show Hid _ from hae);have i0:(0:Int)<=(i:Int):=by omega
 have i1:(i:Int)<(N:Int):=by omega
 have di:=ci _ hd;clear rku hqu;refine wp_region_noPanic ?_;refine wp_region_held_drew (S:=(fun W=>W.cell? ⟨B,1,none⟩=some (.slice (some ⟨g,0,none⟩) N cap)/\W.cell? ⟨B,4,none⟩=some (.int .i64 (i:Int))/\W.cell? ⟨B,5,none⟩=some (.int .i64 (a:Int))/\W.cell? ⟨B,6,none⟩=some (.int .i64 u.st.fore)/\W.cell? ⟨B,7,none⟩=some (.int .i64 u.st.back)/\W.cell? ⟨B,8,none⟩=some (.bool u.st.bold)/\W.cell? ⟨B,9,none⟩=some (.bool u.st.under)/\W.cell? ⟨B,10,none⟩=some (.bool u.st.turned))) (by kernel_rfl) (cf _ hd) (fun Hh=>?_);refine tK 0 ?_;refine tK 1 ?_;refine tK 2 ?_;refine tK 3 ?_;refine tK 4 ?_;refine tK 5 ?_;refine tK 6 ?_;refine tK 7 ?_;refine tK 8 ?_;refine tK 9 ?_;refine tK 10 ?_;refine tK 11 ?_;refine tK 12 ?_;refine tK 13 ?_;refine tK 14 ?_;refine tK 15 ?_;refine tK 16 ?_;refine tK 17 ?_;refine tK 18 ?_;refine tK 20 ?_;refine tK 21 ?_;refine tK 22 ?_;refine tK 23 ?_;refine tK 24 ?_;refine tK 25 ?_;refine tK 26 ?_;refine tK 27 ?_;refine tk 28 ?_;refine rdo 19 fun K hK=>?_
 go_simp;refine hK.out _ _ (Hh) (fun Hh=>?_);clear hK K;refine rdo 29 fun K hK=>?_
 go_simp;refine (hcd _ hd).mono ?_;rintro e w2 ⟨x,rfl,hx,hb⟩;have hx2:=hx.low hd.size;replace hd:=hd.trans (hb.mono hd.size);obtain ⟨ua,un,uc,hue⟩:=hx2.isSl;subst hue;have di:=ci _ hd;have zj:=zi _ hd;go_wp2_with fail;refine hK.out _ _ (cf _ hd) (fun Hh=>?_);clear hK K;refine tk 30 ?_;refine rdo 31 fun K hK=>?_
 go_simp;refine hK.out _ _ (hsc _ _ hd) (fun Hh=>?_);clear hK K
 (try simp only [Act.put,ZA,ZB,ZC,ZD,ZE,ZF])
 refine dn ?_;have hRow:=hZ.out.trans (hfr _ _ hd hx2);clear hfr hcd cf hsc ci zi di zj hd hx hx2 hb Hh hZ;generalize w2.setCell ⟨g,i,none⟩ (.slice ua un uc)=Wq at *;have y5:Wq.cell? ⟨B,5,none⟩=some (.int .i64 (a:Int)):=by rw [<- hae.out];exact hRow.s.cell 5
 have y0:Wq.cell? ⟨B,0,none⟩=some (.int .i64 t.gc):=by rw [<- hug];exact hRow.s.cell 0
 have x5:Wq.frozen? ⟨B,5,none⟩=false:=hRow.s.frozen 5;have x13:Wq.frozen? ⟨B,13,none⟩=false:=hRow.s.frozen 13;have y13:∃ bb,Wq.cell? ⟨B,13,none⟩=some (.bool bb):=⟨_,hRow.s.cell 13⟩;obtain ⟨bb,y13⟩:=y13;have hfin:=fun q=>UE base B u v _ vg vo _ _ w Wq R t.gc r hRow hRe.out (by rw [hwdo,hsy.out];omega) q
 rw [hwdo,hsy.out] at hfin
 replace hfin:=(show Hid _ from hfin);clear hRow hug hwdo huc;go_wp2;go_quiet (fail);go_wp2;refine be ?_;exact ⟨rfl,_,_,_,hfin.out _⟩
theorem Xcp (cn N base B:Nat) (t:Te) (v:Tv) (vg vo:List Value) (w:World) (h:Scr w 35 base B [] t v vg vo) (hbase:base<=w.heap.size) (rk:RtK t cn N) (r:Int) (hw1:1<=wdV r) (hw2:wdV r<=t.gc) (hf:t.full=true) (hwr:t.wrap=false) (hov:¬ t.gc<t.col+wdV r) (hend:¬ t.gc<=t.col+wdV r) :
  Calls Tryz.prog 141 #[.pointer (some ⟨B,0,none⟩),.int .i64 r] w fun e w'=>e=.returned (.tuple #[])/\∃ v' vg' vo',Res w w' 35 base B [] v vg vo (XJ t r) v' vg' vo':=by
 have rt:=rk.w;have hcc:=rt.c;have hgc:=rt.gc;have hcol:=rt.col;have hwb:=XG r;have hwd:=sWa r w;obtain ⟨u,hu⟩:∃ u,Hid (u=({ t with full:=false }:Te)):=⟨_,rfl⟩
 have hV:XJ t r=p3T u t.gc r:=by
  have e1:p1T t=({ t with full:=false }:Te):=by unfold p1T;rw [if_neg (by simp [hwr])]
  have e2:p2T ({ t with full:=false }:Te) t.gc r=({ t with full:=false }:Te):=by unfold p2T;rw [if_neg hov]
  rw [YC t r hw1 hw2,hu.out,e1,e2]
 have rku:RtK u cn N:=by rw [hu.out];exact rk.nofull
 have hug:u.gc=t.gc:=by rw [hu.out]
 have huc:u.col=t.col:=by rw [hu.out]
 rw [hV]
 clear hV;have c13:w.cell? ⟨B,13,none⟩=some (.bool t.full):=h.cell 13;have c0:w.cell? ⟨B,0,none⟩=some (.int .i64 t.gc):=h.cell 0;have z13:w.frozen? ⟨B,13,none⟩=false:=h.frozen 13;have h1:Res w (w.setCell ⟨B,13,none⟩ (.bool false)) 35 base B [] v vg vo { t with full:=false } v vg vo:=h.put (sCg B [.bool false] 13 w) _ (sCh B 35 [.bool false] 13 w _ h.b) rfl rfl rfl rfl rfl;have hb1:=Nat.le_trans hbase h1.g.size;obtain ⟨W1,hW1⟩:∃ W1,Hid (W1=w.setCell ⟨B,13,none⟩ (.bool false)):=⟨_,rfl⟩;rw [<- hW1.out] at h1 hb1
 have f14w:w.cell? ⟨B,14,none⟩=some (.bool t.wrap):=h.cell 14;have f14:W1.cell? ⟨B,14,none⟩=some (.bool t.wrap):=h1.s.cell 14;have f5:W1.cell? ⟨B,5,none⟩=some (.int .i64 t.col):=h1.s.cell 5;have f0:W1.cell? ⟨B,0,none⟩=some (.int .i64 t.gc):=h1.s.cell 0;have z5:W1.frozen? ⟨B,5,none⟩=false:=h1.s.frozen 5;have f5w:w.cell? ⟨B,5,none⟩=some (.int .i64 t.col):=h.cell 5;have z5w:w.frozen? ⟨B,5,none⟩=false:=h.frozen 5;rw [hf] at c13
 rw [hwr] at f14 f14w
 obtain ⟨wd,hwde⟩:∃ wd,Hid (wdV r=wd):=⟨_,rfl⟩;have hwdo:=hwde.out;rw [hwdo] at hwd hw1 hw2 hwb hov hend
 try rw [hwdo] at huc
 have q0:(wd==0)=false:=by simp;omega
 have q1:¬ t.gc<wd:=by omega
 obtain ⟨sx,hsx⟩:∃ sx,Hid (t.col+wd=sx):=⟨_,rfl⟩;have esx:IntKind.i64.wrap (t.col+wd)=sx:=by rw [<- hsx.out];simp [IntKind.wrap,IntKind.bits,IntKind.signed];omega
 have hov2:¬ t.gc<sx:=by rw [<- hsx.out];exact hov
 have hqu:u.col+wdV r<=cn:=by rw [hwdo,huc];omega
 obtain ⟨sy,hsy⟩:∃ sy,Hid (u.col+wd=sy):=⟨_,rfl⟩;have hend2:¬ t.gc<=sy:=by rw [<- hsy.out,huc];exact hend
 have hw1r:1<=wdV r:=by rw [hwdo];exact hw1
 clear hwb;replace h1:=(show Hid _ from h1);replace rku:=(show Hid _ from rku);replace hb1:=(show Hid _ from hb1);clear h rt rk hbase hcc hcol hgc;go_enter Tryz.func141,Tryz.ntmps141;go_wp2_with fail;refine hwd.mono ?_;rintro e wk ⟨rfl,hk⟩;replace hk:=hk.symm;subst hk;clear hwd;go_wp2;rw [<- hW1.out]
 go_quiet (fail);go_wp2;have hZ:=h1.out.below (Ut W1 nq);have hbz:base<=(W1.drewN nq).heap.size:=hb1.out;obtain ⟨Wz,hWz⟩:∃ Wz,Hid (Wz=W1.drewN nq):=⟨_,rfl⟩;rw [<- hWz.out] at hZ hbz
 have hd:Below Wz.heap.size Wz (W1.drewN (nq+1)):=by rw [hWz.out];exact ⟨rfl,rfl,rfl,Nat.le_refl _,fun _ _=>rfl⟩
 obtain ⟨g,cap,i,a,ra,rn,rc,R,hie,hae,hiN,hRe,cf,ci,zi,hcd,hfr,hsc⟩:=Yt cn N base B u _ _ _ Wz (by rw [hu.out];exact hZ.s) hbz rku.out.w r hw1r hqu;unfold PrC at cf hsc;replace hZ:=(show Hid _ from hZ);replace hRe:=(show Hid _ from hRe);replace hie:=(show Hid _ from hie);have esy:IntKind.i64.wrap ((a:Int)+wd)=sy:=by rw [<- hae,hsy.out];have h9:=hsy.out;have h8:=rku.out.w.col;have h7:=rku.out.w.c;simp [IntKind.wrap,IntKind.bits,IntKind.signed];omega
 have egc:IntKind.i64.wrap (t.gc-1)=t.gc-1:=by have h8:=rku.out.w.gc;have h7:=rku.out.w.c;simp [IntKind.wrap,IntKind.bits,IntKind.signed];omega
 replace hae:=(show Hid _ from hae);have i0:(0:Int)<=(i:Int):=by omega
 have i1:(i:Int)<(N:Int):=by omega
 have di:=ci _ hd;clear rku hqu;refine wp_region_noPanic ?_;refine wp_region_held_drew (S:=(fun W=>W.cell? ⟨B,1,none⟩=some (.slice (some ⟨g,0,none⟩) N cap)/\W.cell? ⟨B,4,none⟩=some (.int .i64 (i:Int))/\W.cell? ⟨B,5,none⟩=some (.int .i64 (a:Int))/\W.cell? ⟨B,6,none⟩=some (.int .i64 u.st.fore)/\W.cell? ⟨B,7,none⟩=some (.int .i64 u.st.back)/\W.cell? ⟨B,8,none⟩=some (.bool u.st.bold)/\W.cell? ⟨B,9,none⟩=some (.bool u.st.under)/\W.cell? ⟨B,10,none⟩=some (.bool u.st.turned))) (by kernel_rfl) (cf _ hd) (fun Hh=>?_);refine tK 0 ?_;refine tK 1 ?_;refine tK 2 ?_;refine tK 3 ?_;refine tK 4 ?_;refine tK 5 ?_;refine tK 6 ?_;refine tK 7 ?_;refine tK 8 ?_;refine tK 9 ?_;refine tK 10 ?_;refine tK 11 ?_;refine tK 12 ?_;refine tK 13 ?_;refine tK 14 ?_;refine tK 15 ?_;refine tK 16 ?_;refine tK 17 ?_;refine tK 18 ?_;refine tK 20 ?_;refine tK 21 ?_;refine tK 22 ?_;refine tK 23 ?_;refine tK 24 ?_;refine tK 25 ?_;refine tK 26 ?_;refine tK 27 ?_;refine tk 28 ?_;refine rdo 19 fun K hK=>?_
 go_simp;refine hK.out _ _ (Hh) (fun Hh=>?_);clear hK K;refine rdo 29 fun K hK=>?_
 go_simp;refine (hcd _ hd).mono ?_;rintro e w2 ⟨x,rfl,hx,hb⟩;have hx2:=hx.low hd.size;replace hd:=hd.trans (hb.mono hd.size);obtain ⟨ua,un,uc,hue⟩:=hx2.isSl;subst hue;have di:=ci _ hd;have zj:=zi _ hd;go_wp2_with fail;refine hK.out _ _ (cf _ hd) (fun Hh=>?_);clear hK K;refine tk 30 ?_;refine rdo 31 fun K hK=>?_
 go_simp;refine hK.out _ _ (hsc _ _ hd) (fun Hh=>?_);clear hK K
 (try simp only [Act.put,ZA,ZB,ZC,ZD,ZE,ZF])
 refine dn ?_;have hRow:=hZ.out.trans (hfr _ _ hd hx2);clear hfr hcd cf hsc ci zi di zj hd hx hx2 hb Hh hZ;generalize w2.setCell ⟨g,i,none⟩ (.slice ua un uc)=Wq at *;have y5:Wq.cell? ⟨B,5,none⟩=some (.int .i64 (a:Int)):=by rw [<- hae.out];exact hRow.s.cell 5
 have y0:Wq.cell? ⟨B,0,none⟩=some (.int .i64 t.gc):=by rw [<- hug];exact hRow.s.cell 0
 have x5:Wq.frozen? ⟨B,5,none⟩=false:=hRow.s.frozen 5;have x13:Wq.frozen? ⟨B,13,none⟩=false:=hRow.s.frozen 13;have y13:∃ bb,Wq.cell? ⟨B,13,none⟩=some (.bool bb):=⟨_,hRow.s.cell 13⟩;obtain ⟨bb,y13⟩:=y13;have hfin:=fun q=>UE base B u v _ vg vo _ _ w Wq R t.gc r hRow hRe.out (by rw [hwdo,hsy.out];omega) q
 rw [hwdo,hsy.out] at hfin
 replace hfin:=(show Hid _ from hfin);clear hRow hug hwdo huc;go_wp2;go_quiet (fail);go_wp2;refine be ?_;exact ⟨rfl,_,_,_,hfin.out _⟩
theorem Xcq (cn N base B:Nat) (t:Te) (v:Tv) (vg vo:List Value) (w:World) (h:Scr w 35 base B [] t v vg vo) (hbase:base<=w.heap.size) (rk:RtK t cn N) (r:Int) (hw1:1<=wdV r) (hw2:wdV r<=t.gc) (hf:t.full=true) (hwr:t.wrap=false) (hov:¬ t.gc<t.col+wdV r) (hend:t.gc<=t.col+wdV r) :
  Calls Tryz.prog 141 #[.pointer (some ⟨B,0,none⟩),.int .i64 r] w fun e w'=>e=.returned (.tuple #[])/\∃ v' vg' vo',Res w w' 35 base B [] v vg vo (XJ t r) v' vg' vo':=by
 have rt:=rk.w;have hcc:=rt.c;have hgc:=rt.gc;have hcol:=rt.col;have hwb:=XG r;have hwd:=sWa r w;obtain ⟨u,hu⟩:∃ u,Hid (u=({ t with full:=false }:Te)):=⟨_,rfl⟩
 have hV:XJ t r=p3T u t.gc r:=by
  have e1:p1T t=({ t with full:=false }:Te):=by unfold p1T;rw [if_neg (by simp [hwr])]
  have e2:p2T ({ t with full:=false }:Te) t.gc r=({ t with full:=false }:Te):=by unfold p2T;rw [if_neg hov]
  rw [YC t r hw1 hw2,hu.out,e1,e2]
 have rku:RtK u cn N:=by rw [hu.out];exact rk.nofull
 have hug:u.gc=t.gc:=by rw [hu.out]
 have huc:u.col=t.col:=by rw [hu.out]
 rw [hV]
 clear hV;have c13:w.cell? ⟨B,13,none⟩=some (.bool t.full):=h.cell 13;have c0:w.cell? ⟨B,0,none⟩=some (.int .i64 t.gc):=h.cell 0;have z13:w.frozen? ⟨B,13,none⟩=false:=h.frozen 13;have h1:Res w (w.setCell ⟨B,13,none⟩ (.bool false)) 35 base B [] v vg vo { t with full:=false } v vg vo:=h.put (sCg B [.bool false] 13 w) _ (sCh B 35 [.bool false] 13 w _ h.b) rfl rfl rfl rfl rfl;have hb1:=Nat.le_trans hbase h1.g.size;obtain ⟨W1,hW1⟩:∃ W1,Hid (W1=w.setCell ⟨B,13,none⟩ (.bool false)):=⟨_,rfl⟩;rw [<- hW1.out] at h1 hb1
 have f14w:w.cell? ⟨B,14,none⟩=some (.bool t.wrap):=h.cell 14;have f14:W1.cell? ⟨B,14,none⟩=some (.bool t.wrap):=h1.s.cell 14;have f5:W1.cell? ⟨B,5,none⟩=some (.int .i64 t.col):=h1.s.cell 5;have f0:W1.cell? ⟨B,0,none⟩=some (.int .i64 t.gc):=h1.s.cell 0;have z5:W1.frozen? ⟨B,5,none⟩=false:=h1.s.frozen 5;have f5w:w.cell? ⟨B,5,none⟩=some (.int .i64 t.col):=h.cell 5;have z5w:w.frozen? ⟨B,5,none⟩=false:=h.frozen 5;rw [hf] at c13
 rw [hwr] at f14 f14w
 obtain ⟨wd,hwde⟩:∃ wd,Hid (wdV r=wd):=⟨_,rfl⟩;have hwdo:=hwde.out;rw [hwdo] at hwd hw1 hw2 hwb hov hend
 try rw [hwdo] at huc
 have q0:(wd==0)=false:=by simp;omega
 have q1:¬ t.gc<wd:=by omega
 obtain ⟨sx,hsx⟩:∃ sx,Hid (t.col+wd=sx):=⟨_,rfl⟩;have esx:IntKind.i64.wrap (t.col+wd)=sx:=by rw [<- hsx.out];simp [IntKind.wrap,IntKind.bits,IntKind.signed];omega
 have hov2:¬ t.gc<sx:=by rw [<- hsx.out];exact hov
 have hqu:u.col+wdV r<=cn:=by rw [hwdo,huc];omega
 obtain ⟨sy,hsy⟩:∃ sy,Hid (u.col+wd=sy):=⟨_,rfl⟩;have hend2:t.gc<=sy:=by rw [<- hsy.out,huc];exact hend
 have hw1r:1<=wdV r:=by rw [hwdo];exact hw1
 clear hwb;replace h1:=(show Hid _ from h1);replace rku:=(show Hid _ from rku);replace hb1:=(show Hid _ from hb1);clear h rt rk hbase hcc hcol hgc;go_enter Tryz.func141,Tryz.ntmps141;go_wp2_with fail;refine hwd.mono ?_;rintro e wk ⟨rfl,hk⟩;replace hk:=hk.symm;subst hk;clear hwd;go_wp2;rw [<- hW1.out]
 go_quiet (fail);go_wp2;have hZ:=h1.out.below (Ut W1 nq);have hbz:base<=(W1.drewN nq).heap.size:=hb1.out;obtain ⟨Wz,hWz⟩:∃ Wz,Hid (Wz=W1.drewN nq):=⟨_,rfl⟩;rw [<- hWz.out] at hZ hbz
 have hd:Below Wz.heap.size Wz (W1.drewN (nq+1)):=by rw [hWz.out];exact ⟨rfl,rfl,rfl,Nat.le_refl _,fun _ _=>rfl⟩
 obtain ⟨g,cap,i,a,ra,rn,rc,R,hie,hae,hiN,hRe,cf,ci,zi,hcd,hfr,hsc⟩:=Yt cn N base B u _ _ _ Wz (by rw [hu.out];exact hZ.s) hbz rku.out.w r hw1r hqu;unfold PrC at cf hsc;replace hZ:=(show Hid _ from hZ);replace hRe:=(show Hid _ from hRe);replace hie:=(show Hid _ from hie);have esy:IntKind.i64.wrap ((a:Int)+wd)=sy:=by rw [<- hae,hsy.out];have h9:=hsy.out;have h8:=rku.out.w.col;have h7:=rku.out.w.c;simp [IntKind.wrap,IntKind.bits,IntKind.signed];omega
 have egc:IntKind.i64.wrap (t.gc-1)=t.gc-1:=by have h8:=rku.out.w.gc;have h7:=rku.out.w.c;simp [IntKind.wrap,IntKind.bits,IntKind.signed];omega
 replace hae:=(show Hid _ from hae);have i0:(0:Int)<=(i:Int):=by omega
 have i1:(i:Int)<(N:Int):=by omega
 have di:=ci _ hd;clear rku hqu;refine wp_region_noPanic ?_;refine wp_region_held_drew (S:=(fun W=>W.cell? ⟨B,1,none⟩=some (.slice (some ⟨g,0,none⟩) N cap)/\W.cell? ⟨B,4,none⟩=some (.int .i64 (i:Int))/\W.cell? ⟨B,5,none⟩=some (.int .i64 (a:Int))/\W.cell? ⟨B,6,none⟩=some (.int .i64 u.st.fore)/\W.cell? ⟨B,7,none⟩=some (.int .i64 u.st.back)/\W.cell? ⟨B,8,none⟩=some (.bool u.st.bold)/\W.cell? ⟨B,9,none⟩=some (.bool u.st.under)/\W.cell? ⟨B,10,none⟩=some (.bool u.st.turned))) (by kernel_rfl) (cf _ hd) (fun Hh=>?_);refine tK 0 ?_;refine tK 1 ?_;refine tK 2 ?_;refine tK 3 ?_;refine tK 4 ?_;refine tK 5 ?_;refine tK 6 ?_;refine tK 7 ?_;refine tK 8 ?_;refine tK 9 ?_;refine tK 10 ?_;refine tK 11 ?_;refine tK 12 ?_;refine tK 13 ?_;refine tK 14 ?_;refine tK 15 ?_;refine tK 16 ?_;refine tK 17 ?_;refine tK 18 ?_;refine tK 20 ?_;refine tK 21 ?_;refine tK 22 ?_;refine tK 23 ?_;refine tK 24 ?_;refine tK 25 ?_;refine tK 26 ?_;refine tK 27 ?_;refine tk 28 ?_;refine rdo 19 fun K hK=>?_
 go_simp;refine hK.out _ _ (Hh) (fun Hh=>?_);clear hK K;refine rdo 29 fun K hK=>?_
 go_simp;refine (hcd _ hd).mono ?_;rintro e w2 ⟨x,rfl,hx,hb⟩;have hx2:=hx.low hd.size;replace hd:=hd.trans (hb.mono hd.size);obtain ⟨ua,un,uc,hue⟩:=hx2.isSl;subst hue;have di:=ci _ hd;have zj:=zi _ hd;go_wp2_with fail;refine hK.out _ _ (cf _ hd) (fun Hh=>?_);clear hK K;refine tk 30 ?_;refine rdo 31 fun K hK=>?_
 go_simp;refine hK.out _ _ (hsc _ _ hd) (fun Hh=>?_);clear hK K
 (try simp only [Act.put,ZA,ZB,ZC,ZD,ZE,ZF])
 refine dn ?_;have hRow:=hZ.out.trans (hfr _ _ hd hx2);clear hfr hcd cf hsc ci zi di zj hd hx hx2 hb Hh hZ;generalize w2.setCell ⟨g,i,none⟩ (.slice ua un uc)=Wq at *;have y5:Wq.cell? ⟨B,5,none⟩=some (.int .i64 (a:Int)):=by rw [<- hae.out];exact hRow.s.cell 5
 have y0:Wq.cell? ⟨B,0,none⟩=some (.int .i64 t.gc):=by rw [<- hug];exact hRow.s.cell 0
 have x5:Wq.frozen? ⟨B,5,none⟩=false:=hRow.s.frozen 5;have x13:Wq.frozen? ⟨B,13,none⟩=false:=hRow.s.frozen 13;have y13:∃ bb,Wq.cell? ⟨B,13,none⟩=some (.bool bb):=⟨_,hRow.s.cell 13⟩;obtain ⟨bb,y13⟩:=y13;have hfin:=fun q=>Kt base B u v _ vg vo _ _ w Wq R t.gc r hRow hRe.out (by rw [hwdo,hsy.out];omega) q
 rw [hwdo,hsy.out] at hfin
 replace hfin:=(show Hid _ from hfin);clear hRow hug hwdo huc;go_wp2;go_quiet (fail);go_wp2;refine be ?_;exact ⟨rfl,_,_,_,hfin.out _⟩
