/- Parts of the proof. -/
import Derived.Test.YtgcnmjjlmcnllaaGreatDoorP8
namespace Go.Proofs.YtgcnmjjlmcnllaaGreatDoor
set_option maxRecDepth 20000
set_option maxHeartbeats 16000000
open Go.ChangeShapes Go.WideShapes Go.ChangeAt Go.RowKit
theorem inf_i64:(Tryz.prog.info? 2).map (·.size)=some 1:=by kernel_rfl
theorem inf_sy:(Tryz.prog.info? 28).map (·.size)=some 5:=by kernel_rfl
theorem sign_any (cn N base B:Nat) (x0 x1 x2 x3 x4 x5 pv x:Value) (k r m:Int) (t:Te) (v:Tv) (vg vo:List Value) (w:World) (h:Scr w 98 base B [x0,x1,x2,x3,x4,x5] t v vg vo) (hbase:base<=w.heap.size) (rt:RtW t cn N) :
  Calls Tryz.prog 124 #[.pointer (some ⟨B,0,none⟩),.agg (acA k r pv m x)] w fun e w'=>e=.returned (.tuple #[])/\∃ v' vg' vo',Res w w' 98 base B [x0,x1,x2,x3,x4,x5] v vg vo (escapeT t r) v' vg' vo':=by
 obtain ⟨W,hW⟩:∃ W,W=w.alloc (Obj.cells #[.int .i64 k,.int .i64 r,pv,.int .i64 m,x] 37):=⟨_,rfl⟩;have hb0:Below w.heap.size w W:=by rw [hW];exact bal' _ _
 have hA1:W.cell? ⟨w.heap.size,1,none⟩=some (.int .i64 r):=by rw [hW];exact cAl (heap_alloc_new w _) 1
 have h0:=h.below hb0;have hof:=Res.of_below h hb0;have hbase0:base<=W.heap.size:=Nat.le_trans hbase hb0.size;replace hW:=(show Hid _ from hW)
 have full:∀ (W1:World) (t1:Te) (v1:Tv) (g1 o1:List Value),Scr W1 98 base B [x0,x1,x2,x3,x4,x5] t1 v1 g1 o1->Res W1 (W1.setCell ⟨B,19,none⟩ (.bool false)) 98 base B [x0,x1,x2,x3,x4,x5] v1 g1 o1 { t1 with full:=false } v1 g1 o1 :=
  fun W1 t1 v1 g1 o1 h1=>h1.put (sCg B [.bool false] 19 W1) _ (sCh B 98 [.bool false] 19 W1 _ h1.b) rfl rfl rfl rfl rfl
 unfold acA
 by_cases r68:r=68
 ·subst r68
  have hV:escapeT t 68={ (lineT t:Te) with full:=false }:=rfl;rw [hV]
  have hfl:=feedLine_any cn N base B x0 x1 x2 x3 x4 x5 t v vg vo W h0 hbase0 rt;clear h h0 rt hbase hbase0 hV hb0;go_enter Tryz.func124,Tryz.ntmps124;refine wp_seq_k (fun K hK=>?_);have hH:=(show Hid _ from hK);clear hK;go_wp2;refine hH.out _ _ ?_;rw [<- hW.out]
  clear hH hW;go_wp2_with fail;refine hfl.mono ?_;rintro e w2 ⟨rfl,v2,g2,o2,hR2⟩;have c19:w2.cell? ⟨B,19,none⟩=some (.bool (lineT t:Te).full):=hR2.s.cell 19;have z19:w2.frozen? ⟨B,19,none⟩=false:=hR2.s.frozen 19;have hR:=(show Hid _ from hof.trans (hR2.trans (full _ _ _ _ _ hR2.s)));clear hR2 hof full hfl;go_wp2;refine be ?_;exact ⟨rfl,_,_,_,hR.out⟩
 by_cases r69:r=69
 ·subst r69
  have hV:escapeT t 69={ ({ lineT t with col:=0 }:Te) with full:=false }:=rfl;rw [hV]
  have hfl:=newLine_any cn N base B x0 x1 x2 x3 x4 x5 t v vg vo W h0 hbase0 rt;clear h h0 rt hbase hbase0 hV hb0;go_enter Tryz.func124,Tryz.ntmps124;refine wp_seq_k (fun K hK=>?_);have hH:=(show Hid _ from hK);clear hK;go_wp2;refine hH.out _ _ ?_;rw [<- hW.out]
  clear hH hW;go_wp2_with fail;refine hfl.mono ?_;rintro e w2 ⟨rfl,v2,g2,o2,hR2⟩;have c19:w2.cell? ⟨B,19,none⟩=some (.bool ({ lineT t with col:=0 }:Te).full):=hR2.s.cell 19;have z19:w2.frozen? ⟨B,19,none⟩=false:=hR2.s.frozen 19;have hR:=(show Hid _ from hof.trans (hR2.trans (full _ _ _ _ _ hR2.s)));clear hR2 hof full hfl;go_wp2;refine be ?_;exact ⟨rfl,_,_,_,hR.out⟩
 by_cases r77:r=77
 ·subst r77
  have hV:escapeT t 77={ (backT t:Te) with full:=false }:=by show (if t.row=t.top then _ else _)=_;unfold backT;split<;>rfl
  rw [hV]
  have hfl:=lineBack_any cn N base B x0 x1 x2 x3 x4 x5 t v vg vo W h0 hbase0 rt;clear h h0 rt hbase hbase0 hV hb0;go_enter Tryz.func124,Tryz.ntmps124;refine wp_seq_k (fun K hK=>?_);have hH:=(show Hid _ from hK);clear hK;go_wp2;refine hH.out _ _ ?_;rw [<- hW.out]
  clear hH hW;go_wp2_with fail;refine hfl.mono ?_;rintro e w2 ⟨rfl,v2,g2,o2,hR2⟩;have c19:w2.cell? ⟨B,19,none⟩=some (.bool (backT t:Te).full):=hR2.s.cell 19;have z19:w2.frozen? ⟨B,19,none⟩=false:=hR2.s.frozen 19;have hR:=(show Hid _ from hof.trans (hR2.trans (full _ _ _ _ _ hR2.s)));clear hR2 hof full hfl;go_wp2;refine be ?_;exact ⟨rfl,_,_,_,hR.out⟩
 by_cases r99:r=99
 ·subst r99
  have hV:escapeT t 99={ (anewT t:Te) with full:=false }:=rfl;rw [hV]
  have hfl:=beginAnew_any cn N base B x0 x1 x2 x3 x4 x5 t v vg vo W h0 hbase0 rt;clear h h0 rt hbase hbase0 hV hb0;go_enter Tryz.func124,Tryz.ntmps124;refine wp_seq_k (fun K hK=>?_);have hH:=(show Hid _ from hK);clear hK;go_wp2;refine hH.out _ _ ?_;rw [<- hW.out]
  clear hH hW;go_wp2_with fail;refine hfl.mono ?_;rintro e w2 ⟨rfl,v2,g2,o2,hR2⟩;have c19:w2.cell? ⟨B,19,none⟩=some (.bool (anewT t:Te).full):=hR2.s.cell 19;have z19:w2.frozen? ⟨B,19,none⟩=false:=hR2.s.frozen 19;have hR:=(show Hid _ from hof.trans (hR2.trans (full _ _ _ _ _ hR2.s)));clear hR2 hof full hfl;go_wp2;refine be ?_;exact ⟨rfl,_,_,_,hR.out⟩
 by_cases r55:r=55
 ·subst r55
  have hV:escapeT t 55={ ({ t with sr:=t.row,sc:=t.col,ss:=t.st }:Te) with full:=false }:=rfl;rw [hV]
  obtain ⟨c10,c11,c12,c13,c14,c15,c16⟩:W.cell? ⟨B,10,none⟩=some (.int .i64 t.row)/\W.cell? ⟨B,11,none⟩=some (.int .i64 t.col)/\W.cell? ⟨B,12,none⟩=some (.int .i64 t.st.fore)/\W.cell? ⟨B,13,none⟩=some (.int .i64 t.st.back)/\W.cell? ⟨B,14,none⟩=some (.bool t.st.bold)/\W.cell? ⟨B,15,none⟩=some (.bool t.st.under)/\W.cell? ⟨B,16,none⟩=some (.bool t.st.turned):=⟨h0.cell 10,h0.cell 11,h0.cell 12,h0.cell 13,h0.cell 14,h0.cell 15,h0.cell 16⟩;obtain ⟨c23,c24,c25,c26,c27,c28,c29⟩:W.cell? ⟨B,23,none⟩=some (.int .i64 t.sr)/\W.cell? ⟨B,24,none⟩=some (.int .i64 t.sc)/\W.cell? ⟨B,25,none⟩=some (.int .i64 t.ss.fore)/\W.cell? ⟨B,26,none⟩=some (.int .i64 t.ss.back)/\W.cell? ⟨B,27,none⟩=some (.bool t.ss.bold)/\W.cell? ⟨B,28,none⟩=some (.bool t.ss.under)/\W.cell? ⟨B,29,none⟩=some (.bool t.ss.turned):=⟨h0.cell 23,h0.cell 24,h0.cell 25,h0.cell 26,h0.cell 27,h0.cell 28,h0.cell 29⟩;have c19:W.cell? ⟨B,19,none⟩=some (.bool t.full):=h0.cell 19;have z19:W.frozen? ⟨B,19,none⟩=false:=h0.frozen 19;have z10:W.frozen? ⟨B,10,none⟩=false:=h0.frozen 10;have z11:W.frozen? ⟨B,11,none⟩=false:=h0.frozen 11;have z12:W.frozen? ⟨B,12,none⟩=false:=h0.frozen 12;have z13:W.frozen? ⟨B,13,none⟩=false:=h0.frozen 13;have z14:W.frozen? ⟨B,14,none⟩=false:=h0.frozen 14;have z15:W.frozen? ⟨B,15,none⟩=false:=h0.frozen 15;have z16:W.frozen? ⟨B,16,none⟩=false:=h0.frozen 16;have z23:W.frozen? ⟨B,23,none⟩=false:=h0.frozen 23;have z24:W.frozen? ⟨B,24,none⟩=false:=h0.frozen 24;have z25:W.frozen? ⟨B,25,none⟩=false:=h0.frozen 25;have z26:W.frozen? ⟨B,26,none⟩=false:=h0.frozen 26;have z27:W.frozen? ⟨B,27,none⟩=false:=h0.frozen 27;have z28:W.frozen? ⟨B,28,none⟩=false:=h0.frozen 28;have z29:W.frozen? ⟨B,29,none⟩=false:=h0.frozen 29;have p0:=Res.of_below h0 (bdr W);have p1:=p0.s.put (sCg B [.int .i64 t.row] 23 W.drew) { t with sr:=t.row } (sCh B 98 [.int .i64 t.row] 23 W.drew _ p0.s.b) rfl rfl rfl rfl rfl;have p2:=p1.s.put (sCg B [.int .i64 t.col] 24 _) { t with sr:=t.row,sc:=t.col } (sCh B 98 [.int .i64 t.col] 24 _ _ p1.s.b) rfl rfl rfl rfl rfl;have p3:=p2.s.put (sCg B [.int .i64 t.st.fore,.int .i64 t.st.back,.bool t.st.bold,.bool t.st.under,.bool t.st.turned] 25 _) { t with sr:=t.row,sc:=t.col,ss:=t.st } (sCh B 98 [.int .i64 t.st.fore,.int .i64 t.st.back,.bool t.st.bold,.bool t.st.under,.bool t.st.turned] 25 _ _ p2.s.b) rfl rfl rfl rfl rfl;have hR:=(show Hid _ from hof.trans ((((p0.trans p1).trans p2).trans p3).trans (full _ _ _ _ _ p3.s)));have e19:(((W.drew.setCells B 23 (Value.int .i64 t.row).cells.toList).setCells B 24 (Value.int .i64 t.col).cells.toList).setCells B 25 (Value.agg #[.int .i64 t.st.fore,.int .i64 t.st.back,.bool t.st.bold,.bool t.st.under,.bool t.st.turned]).cells.toList).cell? ⟨B,19,none⟩=some (.bool t.full):=p3.s.cell 19;have y19:(((W.drew.setCells B 23 (Value.int .i64 t.row).cells.toList).setCells B 24 (Value.int .i64 t.col).cells.toList).setCells B 25 (Value.agg #[.int .i64 t.st.fore,.int .i64 t.st.back,.bool t.st.bold,.bool t.st.under,.bool t.st.turned]).cells.toList).frozen? ⟨B,19,none⟩=false:=p3.s.frozen 19
  have hRf:Hid (Res w ((((W.drew.setCells B 23 (Value.int .i64 t.row).cells.toList).setCells B 24 (Value.int .i64 t.col).cells.toList).setCells B 25 (Value.agg #[.int .i64 t.st.fore,.int .i64 t.st.back,.bool t.st.bold,.bool t.st.under,.bool t.st.turned]).cells.toList).setCell ⟨B,19,none⟩ (.bool false)) 98 base B [x0,x1,x2,x3,x4,x5] v vg vo { ({ t with sr:=t.row,sc:=t.col,ss:=t.st }:Te) with full:=false } v vg vo):=hR;have e0:W.drew.cell? ⟨B,10,none⟩=some (.int .i64 t.row)/\W.drew.cell? ⟨B,11,none⟩=some (.int .i64 t.col)/\W.drew.cell? ⟨B,12,none⟩=some (.int .i64 t.st.fore)/\W.drew.cell? ⟨B,13,none⟩=some (.int .i64 t.st.back)/\W.drew.cell? ⟨B,14,none⟩=some (.bool t.st.bold)/\W.drew.cell? ⟨B,15,none⟩=some (.bool t.st.under)/\W.drew.cell? ⟨B,16,none⟩=some (.bool t.st.turned):=⟨p0.s.cell 10,p0.s.cell 11,p0.s.cell 12,p0.s.cell 13,p0.s.cell 14,p0.s.cell 15,p0.s.cell 16⟩;have e1:(W.drew.setCells B 23 [.int .i64 t.row]).cell? ⟨B,10,none⟩=some (.int .i64 t.row)/\(W.drew.setCells B 23 [.int .i64 t.row]).cell? ⟨B,11,none⟩=some (.int .i64 t.col)/\(W.drew.setCells B 23 [.int .i64 t.row]).cell? ⟨B,12,none⟩=some (.int .i64 t.st.fore)/\(W.drew.setCells B 23 [.int .i64 t.row]).cell? ⟨B,13,none⟩=some (.int .i64 t.st.back)/\(W.drew.setCells B 23 [.int .i64 t.row]).cell? ⟨B,14,none⟩=some (.bool t.st.bold)/\(W.drew.setCells B 23 [.int .i64 t.row]).cell? ⟨B,15,none⟩=some (.bool t.st.under)/\(W.drew.setCells B 23 [.int .i64 t.row]).cell? ⟨B,16,none⟩=some (.bool t.st.turned):=⟨p1.s.cell 10,p1.s.cell 11,p1.s.cell 12,p1.s.cell 13,p1.s.cell 14,p1.s.cell 15,p1.s.cell 16⟩;have e2:((W.drew.setCells B 23 [.int .i64 t.row]).setCells B 24 [.int .i64 t.col]).cell? ⟨B,10,none⟩=some (.int .i64 t.row)/\((W.drew.setCells B 23 [.int .i64 t.row]).setCells B 24 [.int .i64 t.col]).cell? ⟨B,11,none⟩=some (.int .i64 t.col)/\((W.drew.setCells B 23 [.int .i64 t.row]).setCells B 24 [.int .i64 t.col]).cell? ⟨B,12,none⟩=some (.int .i64 t.st.fore)/\((W.drew.setCells B 23 [.int .i64 t.row]).setCells B 24 [.int .i64 t.col]).cell? ⟨B,13,none⟩=some (.int .i64 t.st.back)/\((W.drew.setCells B 23 [.int .i64 t.row]).setCells B 24 [.int .i64 t.col]).cell? ⟨B,14,none⟩=some (.bool t.st.bold)/\((W.drew.setCells B 23 [.int .i64 t.row]).setCells B 24 [.int .i64 t.col]).cell? ⟨B,15,none⟩=some (.bool t.st.under)/\((W.drew.setCells B 23 [.int .i64 t.row]).setCells B 24 [.int .i64 t.col]).cell? ⟨B,16,none⟩=some (.bool t.st.turned):=⟨p2.s.cell 10,p2.s.cell 11,p2.s.cell 12,p2.s.cell 13,p2.s.cell 14,p2.s.cell 15,p2.s.cell 16⟩;have e3:(((W.drew.setCells B 23 [.int .i64 t.row]).setCells B 24 [.int .i64 t.col]).setCells B 25 [.int .i64 t.st.fore,.int .i64 t.st.back,.bool t.st.bold,.bool t.st.under,.bool t.st.turned]).cell? ⟨B,10,none⟩=some (.int .i64 t.row)/\(((W.drew.setCells B 23 [.int .i64 t.row]).setCells B 24 [.int .i64 t.col]).setCells B 25 [.int .i64 t.st.fore,.int .i64 t.st.back,.bool t.st.bold,.bool t.st.under,.bool t.st.turned]).cell? ⟨B,11,none⟩=some (.int .i64 t.col)/\(((W.drew.setCells B 23 [.int .i64 t.row]).setCells B 24 [.int .i64 t.col]).setCells B 25 [.int .i64 t.st.fore,.int .i64 t.st.back,.bool t.st.bold,.bool t.st.under,.bool t.st.turned]).cell? ⟨B,12,none⟩=some (.int .i64 t.st.fore)/\(((W.drew.setCells B 23 [.int .i64 t.row]).setCells B 24 [.int .i64 t.col]).setCells B 25 [.int .i64 t.st.fore,.int .i64 t.st.back,.bool t.st.bold,.bool t.st.under,.bool t.st.turned]).cell? ⟨B,13,none⟩=some (.int .i64 t.st.back)/\(((W.drew.setCells B 23 [.int .i64 t.row]).setCells B 24 [.int .i64 t.col]).setCells B 25 [.int .i64 t.st.fore,.int .i64 t.st.back,.bool t.st.bold,.bool t.st.under,.bool t.st.turned]).cell? ⟨B,14,none⟩=some (.bool t.st.bold)/\(((W.drew.setCells B 23 [.int .i64 t.row]).setCells B 24 [.int .i64 t.col]).setCells B 25 [.int .i64 t.st.fore,.int .i64 t.st.back,.bool t.st.bold,.bool t.st.under,.bool t.st.turned]).cell? ⟨B,15,none⟩=some (.bool t.st.under)/\(((W.drew.setCells B 23 [.int .i64 t.row]).setCells B 24 [.int .i64 t.col]).setCells B 25 [.int .i64 t.st.fore,.int .i64 t.st.back,.bool t.st.bold,.bool t.st.under,.bool t.st.turned]).cell? ⟨B,16,none⟩=some (.bool t.st.turned):=⟨p3.s.cell 10,p3.s.cell 11,p3.s.cell 12,p3.s.cell 13,p3.s.cell 14,p3.s.cell 15,p3.s.cell 16⟩
  have b0:=(show Hid (BlkC _ _ _ _) from p0.s.b);have b1:=(show Hid (BlkC _ _ _ _) from p1.s.b);have b2:=(show Hid (BlkC _ _ _ _) from p2.s.b);clear p0 p1 p2 p3 h h0 rt hbase hbase0 hV hb0 hof full;go_enter Tryz.func124,Tryz.ntmps124;refine wp_seq_k (fun K hK=>?_);have hH:=(show Hid _ from hK);clear hK;go_wp2;refine hH.out _ _ ?_;rw [<- hW.out]
  clear hH hW;go_wp2;refine wp_region_noPanic ?_;refine wp_region_held_drew (S:=(fun W=>W.cell? ⟨B,10,none⟩=some (.int .i64 t.row)/\W.cell? ⟨B,11,none⟩=some (.int .i64 t.col)/\W.cell? ⟨B,12,none⟩=some (.int .i64 t.st.fore)/\W.cell? ⟨B,13,none⟩=some (.int .i64 t.st.back)/\W.cell? ⟨B,14,none⟩=some (.bool t.st.bold)/\W.cell? ⟨B,15,none⟩=some (.bool t.st.under)/\W.cell? ⟨B,16,none⟩=some (.bool t.st.turned))) (by kernel_rfl) (e0) (fun hHeld=>?_);refine tk 0 ?_;refine tk 1 ?_;refine tk 2 ?_;refine tk 3 ?_;refine tk 4 ?_;refine tk 5 ?_;refine tk 6 ?_;refine tk 7 ?_;refine tk 8 ?_;refine tk 9 ?_;refine tk 10 ?_;refine tk 11 ?_;refine tk 12 ?_;refine tk 13 ?_;refine tk 14 ?_;refine tk 15 ?_;refine tk 16 ?_;refine tk 17 ?_;refine tk 18 ?_;refine tk 19 ?_;refine tk 20 ?_;refine rdo 21 fun K hK=>?_
  refine wp_store_at (v:=Value.int .i64 t.row) 2 _ _ rfl inf_i64 b0.out rfl rfl (by rfl) (by rfl) (by rfl) ?_;refine hK.out _ _ (e1) (fun hHeld=>?_);clear hK K
  (try simp only [Act.put])
  refine tk 22 ?_;refine tk 23 ?_;refine tk 24 ?_;refine rdo 25 fun K hK=>?_
  refine wp_store_at (v:=Value.int .i64 t.col) 2 _ _ rfl inf_i64 b1.out rfl rfl (by rfl) (by rfl) (by rfl) ?_;refine hK.out _ _ (e2) (fun hHeld=>?_);clear hK K
  (try simp only [Act.put])
  refine tk 26 ?_;refine tk 27 ?_;refine tk 28 ?_;refine rdo 29 fun K hK=>?_
  refine wp_store_at (v:=Value.agg #[.int .i64 t.st.fore,.int .i64 t.st.back,.bool t.st.bold,.bool t.st.under,.bool t.st.turned]) 28 _ _ rfl inf_sy b2.out rfl rfl (by rfl) (by rfl) (by rfl) ?_;refine hK.out _ _ (e3) (fun hHeld=>?_);clear hK K
  (try simp only [Act.put])
  refine dn ?_;clear e0 e1 e2 e3 b0 b1 b2 hR c10 c11 c12 c13 c14 c15 c16 c23 c24 c25 c26 c27 c28 c29 z10 z11 z12 z13 z14 z15 z16 z23 z24 z25 z26 z27 z28 z29 c19 z19;generalize (((W.drew.setCells B 23 (Value.int .i64 t.row).cells.toList).setCells B 24 (Value.int .i64 t.col).cells.toList).setCells B 25 (Value.agg #[.int .i64 t.st.fore,.int .i64 t.st.back,.bool t.st.bold,.bool t.st.under,.bool t.st.turned]).cells.toList)=W4 at *;go_wp2;refine be ?_;exact ⟨rfl,_,_,_,hRf.out⟩
 by_cases r56:r=56
 ·subst r56
  have hV:escapeT t 56={ ({ t with row:=t.sr,col:=t.sc,st:=t.ss }:Te) with full:=false }:=rfl;rw [hV]
  obtain ⟨c10,c11,c12,c13,c14,c15,c16⟩:W.cell? ⟨B,10,none⟩=some (.int .i64 t.row)/\W.cell? ⟨B,11,none⟩=some (.int .i64 t.col)/\W.cell? ⟨B,12,none⟩=some (.int .i64 t.st.fore)/\W.cell? ⟨B,13,none⟩=some (.int .i64 t.st.back)/\W.cell? ⟨B,14,none⟩=some (.bool t.st.bold)/\W.cell? ⟨B,15,none⟩=some (.bool t.st.under)/\W.cell? ⟨B,16,none⟩=some (.bool t.st.turned):=⟨h0.cell 10,h0.cell 11,h0.cell 12,h0.cell 13,h0.cell 14,h0.cell 15,h0.cell 16⟩;obtain ⟨c23,c24,c25,c26,c27,c28,c29⟩:W.cell? ⟨B,23,none⟩=some (.int .i64 t.sr)/\W.cell? ⟨B,24,none⟩=some (.int .i64 t.sc)/\W.cell? ⟨B,25,none⟩=some (.int .i64 t.ss.fore)/\W.cell? ⟨B,26,none⟩=some (.int .i64 t.ss.back)/\W.cell? ⟨B,27,none⟩=some (.bool t.ss.bold)/\W.cell? ⟨B,28,none⟩=some (.bool t.ss.under)/\W.cell? ⟨B,29,none⟩=some (.bool t.ss.turned):=⟨h0.cell 23,h0.cell 24,h0.cell 25,h0.cell 26,h0.cell 27,h0.cell 28,h0.cell 29⟩;have c19:W.cell? ⟨B,19,none⟩=some (.bool t.full):=h0.cell 19;have z19:W.frozen? ⟨B,19,none⟩=false:=h0.frozen 19;have z10:W.frozen? ⟨B,10,none⟩=false:=h0.frozen 10;have z11:W.frozen? ⟨B,11,none⟩=false:=h0.frozen 11;have z12:W.frozen? ⟨B,12,none⟩=false:=h0.frozen 12;have z13:W.frozen? ⟨B,13,none⟩=false:=h0.frozen 13;have z14:W.frozen? ⟨B,14,none⟩=false:=h0.frozen 14;have z15:W.frozen? ⟨B,15,none⟩=false:=h0.frozen 15;have z16:W.frozen? ⟨B,16,none⟩=false:=h0.frozen 16;have z23:W.frozen? ⟨B,23,none⟩=false:=h0.frozen 23;have z24:W.frozen? ⟨B,24,none⟩=false:=h0.frozen 24;have z25:W.frozen? ⟨B,25,none⟩=false:=h0.frozen 25;have z26:W.frozen? ⟨B,26,none⟩=false:=h0.frozen 26;have z27:W.frozen? ⟨B,27,none⟩=false:=h0.frozen 27;have z28:W.frozen? ⟨B,28,none⟩=false:=h0.frozen 28;have z29:W.frozen? ⟨B,29,none⟩=false:=h0.frozen 29;have p0:=Res.of_below h0 (bdr W);have p1:=p0.s.put (sCg B [.int .i64 t.sr] 10 W.drew) { t with row:=t.sr } (sCh B 98 [.int .i64 t.sr] 10 W.drew _ p0.s.b) rfl rfl rfl rfl rfl;have p2:=p1.s.put (sCg B [.int .i64 t.sc] 11 _) { t with row:=t.sr,col:=t.sc } (sCh B 98 [.int .i64 t.sc] 11 _ _ p1.s.b) rfl rfl rfl rfl rfl;have p3:=p2.s.put (sCg B [.int .i64 t.ss.fore,.int .i64 t.ss.back,.bool t.ss.bold,.bool t.ss.under,.bool t.ss.turned] 12 _) { t with row:=t.sr,col:=t.sc,st:=t.ss } (sCh B 98 [.int .i64 t.ss.fore,.int .i64 t.ss.back,.bool t.ss.bold,.bool t.ss.under,.bool t.ss.turned] 12 _ _ p2.s.b) rfl rfl rfl rfl rfl;have hR:=(show Hid _ from hof.trans ((((p0.trans p1).trans p2).trans p3).trans (full _ _ _ _ _ p3.s)));have e19:(((W.drew.setCells B 10 (Value.int .i64 t.sr).cells.toList).setCells B 11 (Value.int .i64 t.sc).cells.toList).setCells B 12 (Value.agg #[.int .i64 t.ss.fore,.int .i64 t.ss.back,.bool t.ss.bold,.bool t.ss.under,.bool t.ss.turned]).cells.toList).cell? ⟨B,19,none⟩=some (.bool t.full):=p3.s.cell 19;have y19:(((W.drew.setCells B 10 (Value.int .i64 t.sr).cells.toList).setCells B 11 (Value.int .i64 t.sc).cells.toList).setCells B 12 (Value.agg #[.int .i64 t.ss.fore,.int .i64 t.ss.back,.bool t.ss.bold,.bool t.ss.under,.bool t.ss.turned]).cells.toList).frozen? ⟨B,19,none⟩=false:=p3.s.frozen 19
  have hRf:Hid (Res w ((((W.drew.setCells B 10 (Value.int .i64 t.sr).cells.toList).setCells B 11 (Value.int .i64 t.sc).cells.toList).setCells B 12 (Value.agg #[.int .i64 t.ss.fore,.int .i64 t.ss.back,.bool t.ss.bold,.bool t.ss.under,.bool t.ss.turned]).cells.toList).setCell ⟨B,19,none⟩ (.bool false)) 98 base B [x0,x1,x2,x3,x4,x5] v vg vo { ({ t with row:=t.sr,col:=t.sc,st:=t.ss }:Te) with full:=false } v vg vo):=hR;have e0:W.drew.cell? ⟨B,23,none⟩=some (.int .i64 t.sr)/\W.drew.cell? ⟨B,24,none⟩=some (.int .i64 t.sc)/\W.drew.cell? ⟨B,25,none⟩=some (.int .i64 t.ss.fore)/\W.drew.cell? ⟨B,26,none⟩=some (.int .i64 t.ss.back)/\W.drew.cell? ⟨B,27,none⟩=some (.bool t.ss.bold)/\W.drew.cell? ⟨B,28,none⟩=some (.bool t.ss.under)/\W.drew.cell? ⟨B,29,none⟩=some (.bool t.ss.turned):=⟨p0.s.cell 23,p0.s.cell 24,p0.s.cell 25,p0.s.cell 26,p0.s.cell 27,p0.s.cell 28,p0.s.cell 29⟩;have e1:(W.drew.setCells B 10 [.int .i64 t.sr]).cell? ⟨B,23,none⟩=some (.int .i64 t.sr)/\(W.drew.setCells B 10 [.int .i64 t.sr]).cell? ⟨B,24,none⟩=some (.int .i64 t.sc)/\(W.drew.setCells B 10 [.int .i64 t.sr]).cell? ⟨B,25,none⟩=some (.int .i64 t.ss.fore)/\(W.drew.setCells B 10 [.int .i64 t.sr]).cell? ⟨B,26,none⟩=some (.int .i64 t.ss.back)/\(W.drew.setCells B 10 [.int .i64 t.sr]).cell? ⟨B,27,none⟩=some (.bool t.ss.bold)/\(W.drew.setCells B 10 [.int .i64 t.sr]).cell? ⟨B,28,none⟩=some (.bool t.ss.under)/\(W.drew.setCells B 10 [.int .i64 t.sr]).cell? ⟨B,29,none⟩=some (.bool t.ss.turned):=⟨p1.s.cell 23,p1.s.cell 24,p1.s.cell 25,p1.s.cell 26,p1.s.cell 27,p1.s.cell 28,p1.s.cell 29⟩;have e2:((W.drew.setCells B 10 [.int .i64 t.sr]).setCells B 11 [.int .i64 t.sc]).cell? ⟨B,23,none⟩=some (.int .i64 t.sr)/\((W.drew.setCells B 10 [.int .i64 t.sr]).setCells B 11 [.int .i64 t.sc]).cell? ⟨B,24,none⟩=some (.int .i64 t.sc)/\((W.drew.setCells B 10 [.int .i64 t.sr]).setCells B 11 [.int .i64 t.sc]).cell? ⟨B,25,none⟩=some (.int .i64 t.ss.fore)/\((W.drew.setCells B 10 [.int .i64 t.sr]).setCells B 11 [.int .i64 t.sc]).cell? ⟨B,26,none⟩=some (.int .i64 t.ss.back)/\((W.drew.setCells B 10 [.int .i64 t.sr]).setCells B 11 [.int .i64 t.sc]).cell? ⟨B,27,none⟩=some (.bool t.ss.bold)/\((W.drew.setCells B 10 [.int .i64 t.sr]).setCells B 11 [.int .i64 t.sc]).cell? ⟨B,28,none⟩=some (.bool t.ss.under)/\((W.drew.setCells B 10 [.int .i64 t.sr]).setCells B 11 [.int .i64 t.sc]).cell? ⟨B,29,none⟩=some (.bool t.ss.turned):=⟨p2.s.cell 23,p2.s.cell 24,p2.s.cell 25,p2.s.cell 26,p2.s.cell 27,p2.s.cell 28,p2.s.cell 29⟩;have e3:(((W.drew.setCells B 10 [.int .i64 t.sr]).setCells B 11 [.int .i64 t.sc]).setCells B 12 [.int .i64 t.ss.fore,.int .i64 t.ss.back,.bool t.ss.bold,.bool t.ss.under,.bool t.ss.turned]).cell? ⟨B,23,none⟩=some (.int .i64 t.sr)/\(((W.drew.setCells B 10 [.int .i64 t.sr]).setCells B 11 [.int .i64 t.sc]).setCells B 12 [.int .i64 t.ss.fore,.int .i64 t.ss.back,.bool t.ss.bold,.bool t.ss.under,.bool t.ss.turned]).cell? ⟨B,24,none⟩=some (.int .i64 t.sc)/\(((W.drew.setCells B 10 [.int .i64 t.sr]).setCells B 11 [.int .i64 t.sc]).setCells B 12 [.int .i64 t.ss.fore,.int .i64 t.ss.back,.bool t.ss.bold,.bool t.ss.under,.bool t.ss.turned]).cell? ⟨B,25,none⟩=some (.int .i64 t.ss.fore)/\(((W.drew.setCells B 10 [.int .i64 t.sr]).setCells B 11 [.int .i64 t.sc]).setCells B 12 [.int .i64 t.ss.fore,.int .i64 t.ss.back,.bool t.ss.bold,.bool t.ss.under,.bool t.ss.turned]).cell? ⟨B,26,none⟩=some (.int .i64 t.ss.back)/\(((W.drew.setCells B 10 [.int .i64 t.sr]).setCells B 11 [.int .i64 t.sc]).setCells B 12 [.int .i64 t.ss.fore,.int .i64 t.ss.back,.bool t.ss.bold,.bool t.ss.under,.bool t.ss.turned]).cell? ⟨B,27,none⟩=some (.bool t.ss.bold)/\(((W.drew.setCells B 10 [.int .i64 t.sr]).setCells B 11 [.int .i64 t.sc]).setCells B 12 [.int .i64 t.ss.fore,.int .i64 t.ss.back,.bool t.ss.bold,.bool t.ss.under,.bool t.ss.turned]).cell? ⟨B,28,none⟩=some (.bool t.ss.under)/\(((W.drew.setCells B 10 [.int .i64 t.sr]).setCells B 11 [.int .i64 t.sc]).setCells B 12 [.int .i64 t.ss.fore,.int .i64 t.ss.back,.bool t.ss.bold,.bool t.ss.under,.bool t.ss.turned]).cell? ⟨B,29,none⟩=some (.bool t.ss.turned):=⟨p3.s.cell 23,p3.s.cell 24,p3.s.cell 25,p3.s.cell 26,p3.s.cell 27,p3.s.cell 28,p3.s.cell 29⟩
  have b0:=(show Hid (BlkC _ _ _ _) from p0.s.b);have b1:=(show Hid (BlkC _ _ _ _) from p1.s.b);have b2:=(show Hid (BlkC _ _ _ _) from p2.s.b);clear p0 p1 p2 p3 h h0 rt hbase hbase0 hV hb0 hof full;go_enter Tryz.func124,Tryz.ntmps124;refine wp_seq_k (fun K hK=>?_);have hH:=(show Hid _ from hK);clear hK;go_wp2;refine hH.out _ _ ?_;rw [<- hW.out]
  clear hH hW;go_wp2;refine wp_region_noPanic ?_;refine wp_region_held_drew (S:=(fun W=>W.cell? ⟨B,23,none⟩=some (.int .i64 t.sr)/\W.cell? ⟨B,24,none⟩=some (.int .i64 t.sc)/\W.cell? ⟨B,25,none⟩=some (.int .i64 t.ss.fore)/\W.cell? ⟨B,26,none⟩=some (.int .i64 t.ss.back)/\W.cell? ⟨B,27,none⟩=some (.bool t.ss.bold)/\W.cell? ⟨B,28,none⟩=some (.bool t.ss.under)/\W.cell? ⟨B,29,none⟩=some (.bool t.ss.turned))) (by kernel_rfl) (e0) (fun hHeld=>?_);refine tk 0 ?_;refine tk 1 ?_;refine tk 2 ?_;refine tk 3 ?_;refine tk 4 ?_;refine tk 5 ?_;refine tk 6 ?_;refine tk 7 ?_;refine tk 8 ?_;refine tk 9 ?_;refine tk 10 ?_;refine tk 11 ?_;refine tk 12 ?_;refine tk 13 ?_;refine tk 14 ?_;refine tk 15 ?_;refine tk 16 ?_;refine tk 17 ?_;refine tk 18 ?_;refine tk 19 ?_;refine tk 20 ?_;refine rdo 21 fun K hK=>?_
  refine wp_store_at (v:=Value.int .i64 t.sr) 2 _ _ rfl inf_i64 b0.out rfl rfl (by rfl) (by rfl) (by rfl) ?_;refine hK.out _ _ (e1) (fun hHeld=>?_);clear hK K
  (try simp only [Act.put])
  refine tk 22 ?_;refine tk 23 ?_;refine tk 24 ?_;refine rdo 25 fun K hK=>?_
  refine wp_store_at (v:=Value.int .i64 t.sc) 2 _ _ rfl inf_i64 b1.out rfl rfl (by rfl) (by rfl) (by rfl) ?_;refine hK.out _ _ (e2) (fun hHeld=>?_);clear hK K
  (try simp only [Act.put])
  refine tk 26 ?_;refine tk 27 ?_;refine tk 28 ?_;refine rdo 29 fun K hK=>?_
  refine wp_store_at (v:=Value.agg #[.int .i64 t.ss.fore,.int .i64 t.ss.back,.bool t.ss.bold,.bool t.ss.under,.bool t.ss.turned]) 28 _ _ rfl inf_sy b2.out rfl rfl (by rfl) (by rfl) (by rfl) ?_;refine hK.out _ _ (e3) (fun hHeld=>?_);clear hK K
  (try simp only [Act.put])
  refine dn ?_;clear e0 e1 e2 e3 b0 b1 b2 hR c10 c11 c12 c13 c14 c15 c16 c23 c24 c25 c26 c27 c28 c29 z10 z11 z12 z13 z14 z15 z16 z23 z24 z25 z26 z27 z28 z29 c19 z19;generalize (((W.drew.setCells B 10 (Value.int .i64 t.sr).cells.toList).setCells B 11 (Value.int .i64 t.sc).cells.toList).setCells B 12 (Value.agg #[.int .i64 t.ss.fore,.int .i64 t.ss.back,.bool t.ss.bold,.bool t.ss.under,.bool t.ss.turned]).cells.toList)=W4 at *;go_wp2;refine be ?_;exact ⟨rfl,_,_,_,hRf.out⟩
 have hV:escapeT t r=t:=by unfold escapeT;rw [if_neg r68,if_neg r69,if_neg r77,if_neg r55,if_neg r56,if_neg r99]
 rw [hV]
 have q68:(r==68)=false:=by simp [r68]
 have q69:(r==69)=false:=by simp [r69]
 have q77:(r==77)=false:=by simp [r77]
 have q55:(r==55)=false:=by simp [r55]
 have q56:(r==56)=false:=by simp [r56]
 have q99:(r==99)=false:=by simp [r99]
 have hR:=(show Hid _ from hof);clear h h0 hof full rt hbase hbase0 hV hb0 r68 r69 r77 r55 r56 r99;go_enter Tryz.func124,Tryz.ntmps124;refine wp_seq_k (fun K hK=>?_);have hH:=(show Hid _ from hK);clear hK;go_wp2;refine hH.out _ _ ?_;rw [<- hW.out]
 clear hH hW;go_wp2;exact bodyPost_ret (v:=.tuple #[]) (results_none rfl _ _ _) rfl ⟨rfl,_,_,_,hR.out⟩
theorem LiOk.new' {w:World} {base:Nat} {u:Value} {xs:List Int} {L:List (Value×List Int)} (h:LiOk w base L) (hu:OwnI w base u xs) (hn:∀ p∈L,∀ g,p.1.ownBlock=some g->u.ownBlock=some g->False):LiOk w base ((u,xs)::L) :=
 ⟨fun p hp=>by
  rcases List.mem_cons.1 hp with rfl|hp
  ·exact hu
  ·exact h.1 p hp,List.pairwise_cons.2 ⟨fun q hq g e1 e2=>hn q hq g e2 e1,h.2⟩⟩
theorem Scr.title {W0 W1 W':World} {T:TypeId} {base B:Nat} {X:List Value} {t:Te} {v:Tv} {vg vo:List Value} (h:Scr W0 T base B X t v vg vo) (hbase:base<=W0.heap.size) (hb:Below W0.heap.size W0 W1) (u:Value) (xs:List Int) (hu:OwnI W1 W0.heap.size u xs) (hg:W1.grownBy W' (some B)) (hb':BlkC W' B T (X++(teCs { t with ti:=xs } ⟨v.g,v.o,u,v.pp,v.pt⟩).toList)):Res W0 W' T base B X v vg vo { t with ti:=xs } ⟨v.g,v.o,u,v.pp,v.pt⟩ vg vo:=by
 have h1:=h.below hb
 have hl:LiOk W1 base [(u,xs),(v.pp,t.pa.params),(v.pt,t.pa.text)]:=h1.o.2.2.2.tail.new' (hu.low hbase) (fun p hp g e1 e2=>by
  have:=(h.o.2.2.2.tail.1 p hp).lt g e1;have:=(hu.lt g e2).1;omega)
 have ho:OwnS W1 base { t with ti:=xs } ⟨v.g,v.o,u,v.pp,v.pt⟩ vg vo:=⟨h1.o.1,h1.o.2.1,h1.o.2.2.1,hl⟩;have ho2:=ho.grown hg h1.b h.n1 h.n2 h.n3;exact ⟨⟨hb',ho2,h.n1,h.n2,h.n3,h.hb⟩,(GrP.of_below hb).trans (GrP.of_grown hg (fun g e=>by cases e;exact .inl rfl)),fun k _ c=>c,rfl,rfl⟩
theorem name_any (base B:Nat) (x0 x1 x2 x3 x4 x5 pv x:Value) (k r m:Int) (t:Te) (v:Tv) (vg vo:List Value) (w:World) (h:Scr w 98 base B [x0,x1,x2,x3,x4,x5] t v vg vo) (hbase:base<=w.heap.size) (ps:List Int) (hx:SlN w x ps) (hl:ps.length<=1000) :
  Calls Tryz.prog 126 #[.pointer (some ⟨B,0,none⟩),.agg (acA k r pv m x)] w fun e w'=>e=.returned (.tuple #[])/\∃ v' vg' vo',Res w w' 98 base B [x0,x1,x2,x3,x4,x5] v vg vo { t with ti:=ps } v' vg' vo':=by
 obtain ⟨W,hW⟩:∃ W,W=w.alloc (Obj.cells #[.int .i64 k,.int .i64 r,pv,.int .i64 m,x] 37):=⟨_,rfl⟩;have hb0:Below w.heap.size w W:=by rw [hW];exact bal' _ _
 have hA4:W.cell? ⟨w.heap.size,4,none⟩=some x:=by rw [hW];exact cAl (heap_alloc_new w _) 4
 have hcn:=copiedNumbers_any x ps W (hx.below hb0) (by omega);have hof:=Res.of_below h hb0;have hbase0:base<=W.heap.size:=Nat.le_trans hbase hb0.size;replace hW:=(show Hid _ from hW);obtain ⟨xa,xc,rfl⟩:=hx.shp;obtain ⟨ta,tc,hti⟩:=(SlN.of_own h.o.2.2.2.head).shp;unfold acA;go_enter Tryz.func126,Tryz.ntmps126;refine wp_seq_k (fun K hK=>?_);have hH:=(show Hid _ from hK);clear hK;go_wp2;refine hH.out _ _ ?_;rw [<- hW.out]
 clear hH hW;go_wp2_with fail;refine hcn.mono ?_;rintro e w1 ⟨u,rfl,hu,hb⟩;obtain ⟨ua,uc,hue⟩:=(SlN.of_own hu).shp;subst hue;have hs1:=hof.s.below hb;have c30:w1.cell? ⟨B,30,none⟩=some (.slice ta t.ti.length tc):=by rw [hs1.cell 30];show some v.ti=_;rw [hti]
 have z30:w1.frozen? ⟨B,30,none⟩=false:=hs1.frozen 30
 have hR:=(show Hid (Res w (w1.setCell ⟨B,30,none⟩ (.slice ua ps.length uc)) 98 base B [x0,x1,x2,x3,x4,x5] v vg vo { t with ti:=ps } ⟨v.g,v.o,.slice ua ps.length uc,v.pp,v.pt⟩ vg vo) from
  hof.trans (hof.s.title hbase0 hb _ ps hu (sCg B [.slice ua ps.length uc] 30 w1) (sCh B 98 [.slice ua ps.length uc] 30 w1 _ hs1.b)))
 clear hcn hof hu hb hs1 h hbase hbase0 hx hti;go_wp2;refine be ?_;exact ⟨rfl,_,_,_,hR.out⟩
theorem mix_gr {w1:World} {M a b N:Nat} {n:Int} {X:List Ce} {vs us:List Value} (hG:Gat w1 M vs X (sigM a b n) us) (hvl:vs.length=N) (hus:us.length=b+1-a) (hb:b<N):∀ k,k<M->RwS (mixV vs us a (b+1-a)) k->RwS vs k:=by
 intro k hk c;obtain ⟨i,hi,e⟩:=c;rw [mixV_len] at hi
 rw [mixV_at _ _ _ _ _ hi] at e
 by_cases c:a<=i/\i<a+(b+1-a)
 ·rw [if_pos c] at e
  cases es:sigM a b n (i-a) with
  | some p =>
   rw [hG.1 (i-a) p (by omega) es] at e
   exact ⟨p,by have:=sigM_some es;omega,e⟩
  | none =>
   have:=((hG.2.1 (i-a) (by omega) es).lt k e).1;omega
 ·rw [if_neg c] at e
  exact ⟨i,hi,e⟩
theorem l5Move_s (Bk base B cols:Nat) (v:Value) (vs:List Value) (rows:List (List Ce)) (a b:Nat) (n:Int) (s:St) (w:World) (hG:GrW w Bk cols v) (ho:OwnV w base B v vs rows) (hBk:v.ownBlock≠some Bk) (hB:B<=w.heap.size) (hbase:base<=w.heap.size) (hab:a<=b) (hbn:b<rows.length) (hn:-10000<=n/\n<=10000) (hl:rows.length<=1000) (hc:cols<=1000) :
  Calls Tryz.prog 209 #[.pointer (some ⟨Bk,0,none⟩),.int .i64 (a:Int),.int .i64 (b:Int),.int .i64 n,stV s] w fun e w'=>e=.returned (.tuple #[])/\(∃ vs',OwnV w' base w'.heap.size v vs' (moveR cols rows a b n s)/\∀ k,k<w.heap.size->RwS vs' k->RwS vs k)/\GrP (fun k=>v.ownBlock=some k) w w':=by
 have hvl:=ho.1;have hrow:=fun W=>l4Row_any cols s W hc
 have hin:=fun x W=>l1In_any x a b W
 have hS0:=StAt.new w s 28;have hb0:=bal' w (Obj.cells #[.int .i64 s.fore,.int .i64 s.back,.bool s.bold,.bool s.under,.bool s.turned] 28);rcases ho.shape with ⟨_,h⟩|⟨g,cap,rfl,hbg,hlg,hcap⟩
 ·rw [h] at hbn;simp at hbn
 have hvsl:=ho.areSl;have hgB:g≠Bk:=fun e=>hBk (by rw [e];rfl)
 have hBk0:=hG.1;clear hBk;unfold stV at *
 have k0:MvK w.heap.size (.slice (some ⟨w.heap.size+1,0,none⟩) 0 0) vs [] (rowL cols s) (sigM a b n) s w ((w.alloc (Obj.cells #[.int .i64 s.fore,.int .i64 s.back,.bool s.bold,.bool s.under,.bool s.turned] 28)).alloc (.cells #[] 120)):=by
  have e1:(w.alloc (Obj.cells #[.int .i64 s.fore,.int .i64 s.back,.bool s.bold,.bool s.under,.bool s.turned] 28)).heap.size=w.heap.size+1:=by simp
  have h1:=World.ownsRow_lit (base:=w.heap.size+1) (e:=120) (size:=1) (w.alloc (Obj.cells #[.int .i64 s.fore,.int .i64 s.back,.bool s.bold,.bool s.under,.bool s.turned] 28)) #[] 0 (by omega) (Nat.zero_le _) rfl;rw [e1] at h1
  exact ⟨hS0.below (bal' _ _),h1,Gat.nil _ _ _ _ _,hb0.trans ((bal' _ _).mono hb0.size)⟩
 clear hS0 hb0;go_enter Tryz.func209,Tryz.ntmps209;go_wp2;go_loopw [10,11] (fun u i wr=>∃ (q:Nat) (us:List Value),i=.int .i64 q/\a<=q/\q<=b+1/\us.length=q-a/\MvK w.heap.size u vs us (rowL cols s) (sigM a b n) s w wr) (fun _ i _=>b+1-(intOf i).toNat)
 case atStart=>exact ⟨a,[],rfl,Nat.le_refl _,by omega,by simp,k0⟩
 case round =>
  clear k0;obtain ⟨q,us,rfl,hq1,hq2,hul,k⟩:=hrel
  by_cases hlt:q<=b
  ·have hji:(q:Int)<=(b:Int):=by omega
   have hG1:=hG.below (k.2.2.2);have ho1:=ho.below (k.2.2.2);have c0:=hG1.2.1.1;have c1:=hG1.2.1.2;obtain ⟨_,⟨d0,d1,d2,d3,d4⟩,_⟩:=id k.1;have hM:=k.1.1;obtain ⟨ua,un,uc,rfl⟩:=ownsShape k.2.1
   by_cases hw:(a:Int)<=(q:Int)+n/\(q:Int)+n<=(b:Int)
   ·obtain ⟨p,hp⟩:∃ p:Nat,(q:Int)+n=(p:Int):=⟨((q:Int)+n).toNat,by omega⟩
    have hsg:sigM a b n us.length=some p:=by
     unfold sigM;rw [hul,if_pos (by omega)]
     congr 1;omega
    have hdd:decide ((a:Int)<=(p:Int)/\(p:Int)<=(b:Int))=true:=decide_eq_true (by omega);have hin1:=fun W=>l1In_any (p:Int) a b W
    simp only [hdd] at hin1;have hcp:=ho1.cell rfl p (by omega);have hp0:(0:Int)<=(p:Int):=by omega
    have hpl:(p:Int)<(rows.length:Int):=by omega
    have hr:=hvsl p (by omega);have hGat:=k.2.2.1.old p hsg;have hHp:Hid ((q:Int)+n=(p:Int)):=hp;have hlen:us.length<2000000:=by omega
    obtain ⟨ra,rn,rc,hre⟩:=hr;rw [hre] at hcp hGat
    have hfin:∀ (v':Value) (w':World),w'.ownsRow (w.heap.size+1) 120 1 v' (us.length+1) (us++[.slice ra rn rc])->(wr.alloc (.cells #[.slice ra rn rc] 120)).grownBy w' (Value.slice ua un uc).ownBlock->MvK w.heap.size v' vs (us++[.slice ra rn rc]) (rowL cols s) (sigM a b n) s w w':=fun v' w' h1 h2=>k.more hGat h1 h2
    have hown:=k.2.1;clear hrow hGat k hG1 ho1 hre hvsl hw hdd hin;go_wp2_with fail;refine (hin1 _).mono ?_;rintro e w2 ⟨rfl,hw⟩;subst hw;go_wp2_with (at_builtin;refine append_ov (by rfl) _ _ (by rfl) (w.heap.size+1) us.length (.slice ua un uc) us (.slice ra rn rc) (by rfl) hown ⟨_,_,_,rfl⟩ (by omega) hlen _ rfl (by rfl) ?_;intro v' w' ho' hg');have kk:=hfin v' w' ho' hg';clear hfin ho' hg' hown;go_wp2;go_roundw
    case rel=>exact ⟨q+1,us++[.slice ra rn rc],by go_num,by omega,by omega,by rw [List.length_append,hul,List.length_singleton];omega,kk⟩
    case measure=>simp [intOf];omega
   ·have hsg:sigM a b n us.length=none:=by
     unfold sigM;rw [hul,if_neg (by omega)]
    have hdd:decide ((a:Int)<=(q:Int)+n/\(q:Int)+n<=(b:Int))=false:=decide_eq_false hw;have hlen:us.length<2000000:=by omega
    have hS0:∀ W:World,Below wr.heap.size wr W->(W.cell? ⟨Bk,0,none⟩=some (.int .i64 cols)/\W.cell? ⟨w.heap.size,0,none⟩=some (.int .i64 s.fore)/\W.cell? ⟨w.heap.size,1,none⟩=some (.int .i64 s.back)/\W.cell? ⟨w.heap.size,2,none⟩=some (.bool s.bold)/\W.cell? ⟨w.heap.size,3,none⟩=some (.bool s.under)/\W.cell? ⟨w.heap.size,4,none⟩=some (.bool s.turned)):=fun W h=>⟨(hG1.below h).2.1.1,(k.1.below h).2.1⟩
    have hS1:∀ (W0 W:World) (r:Value),Below wr.heap.size wr W0->(W0.alloc (.cells #[r] 120)).grownBy W (Value.slice ua un uc).ownBlock->(W.cell? ⟨Bk,0,none⟩=some (.int .i64 cols)/\W.cell? ⟨w.heap.size,0,none⟩=some (.int .i64 s.fore)/\W.cell? ⟨w.heap.size,1,none⟩=some (.int .i64 s.back)/\W.cell? ⟨w.heap.size,2,none⟩=some (.bool s.bold)/\W.cell? ⟨w.heap.size,3,none⟩=some (.bool s.under)/\W.cell? ⟨w.heap.size,4,none⟩=some (.bool s.turned)):=fun W0 W r h hg=>by
     have h2:=h.trans ((bal' W0 (Obj.cells #[r] 120)).mono h.size);have h3:=fun g e=>(k.2.1.lt g e).1
     exact ⟨((hG1.below h2).grown hg (fun e=>by have:=h3 Bk e;omega)).2.1.1,((k.1.below h2).grown hg (fun e=>by have:=h3 w.heap.size e;omega)).2.1⟩
    have hfin:∀ (v' r:Value) (W0 w':World),Below wr.heap.size wr W0->OwnC W0 wr.heap.size r (rowL cols s)->w'.ownsRow (w.heap.size+1) 120 1 v' (us.length+1) (us++[r])->(W0.alloc (.cells #[r] 120)).grownBy w' (Value.slice ua un uc).ownBlock->MvK w.heap.size v' vs (us++[r]) (rowL cols s) (sigM a b n) s w w':=fun v' r W0 w' hb hr h1 h2=>(k.below hb).more (k.2.2.1.new hsg hb r hr (by omega)) h1 h2
    have hown:=fun W h=>World.ownsRow.below k.2.1 (w':=W) h
    have hin1:=fun W=>l1In_any ((q:Int)+n) a b W
    simp only [hdd] at hin1;clear hG1 ho1 hdd hin k;go_wp2_with fail;refine (hin1 _).mono ?_;rintro e w2 ⟨rfl,hw⟩;subst hw;have hbd:=bdr w2;have hkd:=hS0 _ hbd;go_wp2
    go_region_held3 (fun W=>W.cell? ⟨Bk,0,none⟩=some (.int .i64 cols)/\W.cell? ⟨w.heap.size,0,none⟩=some (.int .i64 s.fore)/\W.cell? ⟨w.heap.size,1,none⟩=some (.int .i64 s.back)/\W.cell? ⟨w.heap.size,2,none⟩=some (.bool s.bold)/\W.cell? ⟨w.heap.size,3,none⟩=some (.bool s.under)/\W.cell? ⟨w.heap.size,4,none⟩=some (.bool s.turned)) (with_reducible assumption)
     (first
      | (go_at_call 160;refine (hrow _).mono ?_;rintro e wk ⟨r,rfl,hor,hb2⟩;obtain ⟨ra,rn,rc,rfl⟩:=hor.isSl;have hbk:=hbd.trans (hb2.mono hbd.size);have hka:=hS0 _ hbk;have hkl:=hS0 _ (hbk.trans ((bal' wk (Obj.cells #[.slice ra rn rc] 120)).mono hbk.size)))
      | (refine step_append_ov (by rfl) _ _ (by rfl) (w.heap.size+1) us.length (.slice ua un uc) us (.slice ra rn rc) (by rfl) (hown _ hbk) ⟨_,_,_,rfl⟩ (Nat.le_trans hM hbk.size) hlen _ rfl (by rfl) ?_;intro v' w' ho' hg';have hkc:=hS1 _ _ _ hbk hg'))
    have kk:=hfin v' _ wk w' hbk hor ho' hg';clear hfin hS0 hS1 hown ho' hg' hor hb2 hbk hka hkl hkc hkd hbd hrow;go_wp2;go_roundw
    case rel=>exact ⟨q+1,us++[.slice ra rn rc],by go_num,by omega,by omega,by rw [List.length_append,hul,List.length_singleton];omega,kk⟩
    case measure=>simp [intOf];omega
  ·have hji:¬ (q:Int)<=(b:Int):=by omega
   have hqe:q=b+1:=by omega
   subst hqe;have hM:=k.1.1;have hG1:=hG.below (k.2.2.2);have ho1:=ho.below (k.2.2.2);have husl:AreSl us:=k.2.2.1.areSl hvsl (fun k p _ e=>by have:=sigM_some e;omega);rcases k.2.1.2 with ⟨_,h⟩|⟨gu,cu,cur,rfl,hgu,hgu2,_⟩
   ·omega
   have hne:gu≠g:=by omega
   have hown1:=ho1.2.1;have hown2:=k.2.1;have hGat:=k.2.2.1;have hbw:=k.2.2.2;obtain ⟨w1,rfl⟩:∃ w1,w1=wr:=⟨wr,rfl⟩;clear k hin hrow hgu2;go_wp2;go_loopw [12] (fun i W=>∃ (q:Nat),i=.int .i64 q/\a<=q/\q<=b+1/\W.ownsRow base 120 1 (.slice (some ⟨g,0,none⟩) rows.length cap) rows.length (mixV vs us a (q-a))/\w1.grownBy W (some g)) (fun i _=>b+1-(intOf i).toNat)
   case atStart=>exact ⟨a,rfl,Nat.le_refl _,by omega,by rw [Nat.sub_self,mixV_zero];exact hown1,World.grownBy.refl _ _⟩
   case round =>
    obtain ⟨q,rfl,hq1,hq2,ko,kg⟩:=hrel
    by_cases hlt:q<=b
    ·have hji2:(q:Int)<=(b:Int):=by omega
     obtain ⟨j,hj⟩:∃ j:Nat,(q:Int)-(a:Int)=(j:Int):=⟨q-a,by omega⟩;have hj2:q-a=j:=by omega
     have hj3:q+1-a=j+1:=by omega
     have hq3:q=a+j:=by omega
     have hst:=mixV_step vs us a j (by omega);rw [hj2] at ko
     obtain ⟨ra,rn,rc,hre⟩:=husl j (by omega);rw [hre] at hst
     have hcu:w1.cell? ⟨gu,j,none⟩=some (.slice ra rn rc):=by rw [World.ownsRow.cellAt hown2 j (by omega),rowV_get (by omega),hre]
     have hown3:=World.ownsRow.kept hown2 kg (Or.inr (fun e=>hne (Option.some.inj e)));have hcq:_:=World.ownsRow.cellAt ko q (by omega);have hfz:=World.ownsRow.frozenAt ko q
     have hvq:∃ a' n' c',rowV (mixV vs us a j) q=Value.slice a' n' c':=by
      rw [mixV_at _ _ _ _ _ (by omega)]
      split
      ·exact husl _ (by omega)
      ·exact hvsl _ (by omega)
     rw [rowV_get (by rw [mixV_len];omega)] at hcq
     have c1:=(hG1.grown kg (by simp;exact hgB)).2.1.2;have hcu2:wr.cell? ⟨gu,j,none⟩=some (.slice ra rn rc):=by rw [World.ownsRow.cellAt hown3 j (by omega),rowV_get (by omega),hre]
     have hkd:=(show (wr.drew.cell? ⟨Bk,1,none⟩=some (.slice (some ⟨g,0,none⟩) rows.length cap)/\wr.drew.cell? ⟨gu,j,none⟩=some (.slice ra rn rc)) from ⟨c1,hcu2⟩);have hk0:=World.ownsRow.stored ko q (.slice ra rn rc)
     have hk1:(wr.setCell ⟨g,q,none⟩ (.slice ra rn rc)).drew.ownsRow base 120 1 (.slice (some ⟨g,0,none⟩) rows.length cap) rows.length (mixV vs us a (q+1-a)):=by
      rw [hj3,hst,<- hq3];exact World.ownsRow.below hk0.1 (bdr _)
     have hkg:w1.grownBy (wr.setCell ⟨g,q,none⟩ (.slice ra rn rc)).drew (some g):=grown_tr (grown_tr kg hk0.2) (gbl (bdr _) (some g))
     have hks:(wr.setCell ⟨g,q,none⟩ (.slice ra rn rc)).drew.cell? ⟨Bk,1,none⟩=some (.slice (some ⟨g,0,none⟩) rows.length cap)/\(wr.setCell ⟨g,q,none⟩ (.slice ra rn rc)).drew.cell? ⟨gu,j,none⟩=some (.slice ra rn rc):=by
      refine ⟨(hG1.grown hkg (by simp;exact hgB)).2.1.2,?_⟩;rw [World.ownsRow.cellAt (World.ownsRow.kept hown2 hkg (Or.inr (fun e=>hne (Option.some.inj e)))) j (by omega),rowV_get (by omega),hre]
     obtain ⟨xa,xn,xc,hxe⟩:=hvq;have hwj:IntKind.i64.wrap ((q:Int)-(a:Int))=(j:Int):=by rw [hj];simp [IntKind.wrap_i64];omega
     rw [hxe] at hcq
     have hqr:q<rows.length:=by omega
     have hjl:j<b+1-a:=by omega
     have hj0:(0:Int)<=(j:Int):=by omega
     have hqri:(q:Int)<(rows.length:Int):=by omega
     have hjli:(j:Int)<((b+1-a:Nat):Int):=by omega
     clear hul hvl hj hk0 hxe hown3 hst hre hcu ko kg hGat hown1 hown2 hG1 ho1 husl hvsl hj2 hj3 hq3;go_wp2;go_region_held3 (fun W=>W.cell? ⟨Bk,1,none⟩=some (.slice (some ⟨g,0,none⟩) rows.length cap)/\W.cell? ⟨gu,j,none⟩=some (.slice ra rn rc)) (with_reducible assumption) (fail);clear hks hkd;go_wp2;go_roundw
     case rel=>exact ⟨q+1,by go_num,by omega,by omega,hk1,hkg⟩
     case measure=>simp [intOf];omega
    ·have hji2:¬ (q:Int)<=(b:Int):=by omega
     have hqe:q=b+1:=by omega
     subst hqe;have hfin:=mixed_move ho1 hGat hul hab hbn hbase hB ko kg;have hbb:=(GrP.of_below (S:=fun k=>Value.ownBlock (.slice (some ⟨g,0,none⟩) rows.length cap)=some k) hbw).trans (GrP.of_grown kg (fun g' e=>by cases e;rfl));have hmg:=mix_gr hGat hvl hul hbn;clear ko kg hGat hown1 hown2 hG1 ho1 husl hvsl hul;go_wp2;refine be ?_;exact ⟨rfl,⟨_,hfin,hmg⟩,hbb⟩
theorem l7Back_any (B:Nat) (s:St) (w:World) (hc:w.cell? ⟨B,7,none⟩=some (.int .i64 s.back)) (hlt:B<w.heap.size) :
  Calls Tryz.prog 210 #[.pointer (some ⟨B,0,none⟩)] w fun e w'=>e=.returned (stV (backS s))/\Below w.heap.size w w':=by
 have hb:=bal' w (Obj.cells #[Value.int IntKind.i64 0,Value.int IntKind.i64 s.back,Value.bool false,Value.bool false,Value.bool false] 28);go_enter Tryz.func210,Tryz.ntmps210;go_wp2;exact bodyPost_ret (v:=.agg #[Value.int IntKind.i64 0,Value.int IntKind.i64 s.back,Value.bool false,Value.bool false,Value.bool false]) (by simp [results,Tryz.results210,go_sem]) rfl ⟨rfl,hb⟩
theorem l7Last_any (B:Nat) (a:Option Addr) (n c:Nat) (w:World) (hc:w.cell? ⟨B,1,none⟩=some (.slice a n c)) (hn:n<=1000) :
  Calls Tryz.prog 212 #[.pointer (some ⟨B,0,none⟩)] w fun e w'=>e=.returned (.int .i64 ((n:Int)-1))/\w'=w:=by
 go_enter Tryz.func212,Tryz.ntmps212;go_wp2;go_ret;exact ⟨rfl,rfl⟩
theorem moveS_any (cn N base B:Nat) (t:Te) (v:Tv) (vg vo:List Value) (w:World) (h:Scr w 35 base B [] t v vg vo) (hbase:base<=w.heap.size) (rt:RtW t cn N) (a b:Nat) (n:Int) (hab:a<=b) (hb:b<N) (hn:-10000<=n/\n<=10000) :
  Calls Tryz.prog 209 #[.pointer (some ⟨B,0,none⟩),.int .i64 (a:Int),.int .i64 (b:Int),.int .i64 n,stV (backS t.st)] w fun e w'=>e=.returned (.tuple #[])/\∃ vg',Res w w' 35 base B [] v vg vo (moveT t a b n) v vg' vo:=by
 have hG:GrW w B cn v.g:=⟨h.lt,⟨by rw [<- rt.gc];exact h.cell 0,h.cell 1⟩,⟨h.frozen 0,h.frozen 1⟩⟩;have hne:v.g.ownBlock≠some B:=fun e=>grS_not h.o.1 h.b h.n1 h.n2 (.inl e)
 have hN:=rt.n;have hn1:=rt.n1;have hc:=rt.c;refine (l5Move_s B base w.heap.size cn v.g vg t.g a b n (backS t.st) w hG h.o.1 hne (Nat.le_refl _) hbase hab (by omega) hn (by omega) (by omega)).mono ?_;rintro e w' ⟨rfl,⟨vs',hv,hc'⟩,hg⟩;refine ⟨rfl,vs',?_⟩;have hr:=h.rows hbase vs' (moveR cn t.g a b n (backS t.st)) hv (hg.mono (fun k _ c=>.inl c)) (fun k hk c=>c.elim .inl (fun c=>.inr (hc' k hk c)))
 have em:moveT t a b n={ t with g:=moveR cn t.g a b n (backS t.st) }:=by
  unfold moveT;rw [rt.gc,Int.toNat_natCast,Int.toNat_natCast,Int.toNat_natCast]
 rw [em]
 exact hr
theorem l7Line_any (cn N base B:Nat) (t:Te) (v:Tv) (vg vo:List Value) (w:World) (h:Scr w 35 base B [] t v vg vo) (hbase:base<=w.heap.size) (rt:RtW t cn N) :
  Calls Tryz.prog 207 #[.pointer (some ⟨B,0,none⟩)] w fun e w'=>e=.returned (.tuple #[])/\∃ v' vg' vo',Res w w' 35 base B [] v vg vo (lineT t) v' vg' vo':=by
 have hc:∀ W,Below w.heap.size w W->(W.cell? ⟨B,4,none⟩=some (.int .i64 t.row)/\W.cell? ⟨B,11,none⟩=some (.int .i64 t.top)/\W.cell? ⟨B,12,none⟩=some (.int .i64 t.bot)/\W.cell? ⟨B,7,none⟩=some (.int .i64 t.st.back)):=fun W hb=>⟨(h.below hb).cell 4,(h.below hb).cell 11,(h.below hb).cell 12,(h.below hb).cell 7⟩
 obtain ⟨r1,r2⟩:=rt.row;obtain ⟨b1,b2,b3⟩:=rt.tb;have hn2:=rt.n1.2;have hlt:=h.lt;have hd:=bdr w;obtain ⟨d4,d11,d12,d7⟩:=hc _ hd
 by_cases hb:t.row=t.bot
 ·have hmv:=fun W (hbW:Below w.heap.size w W)=>moveS_any cn N base B t v vg vo W (h.below hbW) (Nat.le_trans hbase hbW.size) rt t.top.toNat t.bot.toNat 1 (by omega) (by omega) (by omega)
  rw [show ((t.top.toNat:Nat):Int)=t.top by omega,show ((t.bot.toNat:Nat):Int)=t.bot by omega] at hmv
  have hbk:=fun W (hbW:Below w.heap.size w W)=>l7Back_any B t.st W (hc W hbW).2.2.2 (Nat.lt_of_lt_of_le hlt hbW.size)
  unfold stV at hmv hbk;have hV:Hid (lineT t=moveT t t.top t.bot 1):=by show _=_;unfold lineT;rw [if_pos hb]
  rw [hV.out]
  have hof:=fun W (hbW:Below w.heap.size w W)=>Res.of_below h hbW
  rw [hb] at d4
  have hd2:=hd.trans ((bdr w.drew).mono hd.size);have d9:=hc _ hd2;clear rt hbase r1 r2 b1 b2 b3 hn2 hV h hlt;go_enter Tryz.func207,Tryz.ntmps207;go_wp2;go_region;go_wp2;obtain ⟨g4,g11,g12,g7⟩:=d9;refine wp_region_noPanic ?_;refine wp_region_held_drew (S:=(fun _=>True)) (by kernel_rfl) (trivial) (fun hHeld=>?_);refine tk 0 ?_;refine tk 1 ?_;refine tk 2 ?_;refine tk 3 ?_;refine tk 4 ?_;refine tk 5 ?_;refine tk 7 ?_;refine tk 8 ?_;refine tk 9 ?_;refine tk 11 ?_;simp only [Act.put,ZA,ZB,ZC,ZD,ZE,ZF];refine wpAnyH_ready (rs:=[6,10,12]) (by kernel_rfl) (by simp) (AllReadyH.cons rfl (fun K hK=>?_) (AllReadyH.cons rfl (fun K hK=>?_) (AllReadyH.cons rfl (fun K hK=>?_) AllReadyH.nil)))
  ·go_simp
   refine hK.out _ _ (trivial) (fun hHeld=>?_);clear hK K;refine rd2 10 12 (fun K hK=>?_) fun K hK=>?_
   ·go_simp
    refine hK.out _ _ (trivial) (fun hHeld=>?_);clear hK K;refine rd 12 fun K hK=>?_
    go_simp;refine (hbk _ hd2).mono ?_;rintro e wk ⟨rfl,hb⟩;have hd3:=hd2.trans (hb.mono hd2.size);obtain ⟨k4,k11,k12,k7⟩:=hc _ hd3;unfold backS;go_wp2_with fail;refine hK.out _ _ (trivial) (fun hHeld=>?_);clear hK K;refine rd 13 fun K hK=>?_
    go_simp;refine (hmv _ hd3).mono ?_;rintro e w2 ⟨rfl,vg2,hR⟩;go_wp2_with fail;refine hK.out _ _ (trivial) (fun hHeld=>?_);clear hK K
    (try simp only [Act.put,ZA,ZB,ZC,ZD,ZE,ZF])
    refine dn ?_;go_wp2;refine be ?_;exact ⟨rfl,_,_,_,(hof _ hd3).trans hR⟩
   ·go_simp
    refine (hbk _ hd2).mono ?_;rintro e wk ⟨rfl,hb⟩;have hd3:=hd2.trans (hb.mono hd2.size);obtain ⟨k4,k11,k12,k7⟩:=hc _ hd3;unfold backS;go_wp2_with fail;refine hK.out _ _ (trivial) (fun hHeld=>?_);clear hK K;refine rd 10 fun K hK=>?_
    go_simp;refine hK.out _ _ (trivial) (fun hHeld=>?_);clear hK K;refine rd 13 fun K hK=>?_
    go_simp;refine (hmv _ hd3).mono ?_;rintro e w2 ⟨rfl,vg2,hR⟩;go_wp2_with fail;refine hK.out _ _ (trivial) (fun hHeld=>?_);clear hK K
    (try simp only [Act.put,ZA,ZB,ZC,ZD,ZE,ZF])
    refine dn ?_;go_wp2;refine be ?_;exact ⟨rfl,_,_,_,(hof _ hd3).trans hR⟩
  ·go_simp
   refine hK.out _ _ (trivial) (fun hHeld=>?_);clear hK K;refine rd2 6 12 (fun K hK=>?_) fun K hK=>?_
   ·go_simp
    refine hK.out _ _ (trivial) (fun hHeld=>?_);clear hK K;refine rd 12 fun K hK=>?_
    go_simp;refine (hbk _ hd2).mono ?_;rintro e wk ⟨rfl,hb⟩;have hd3:=hd2.trans (hb.mono hd2.size);obtain ⟨k4,k11,k12,k7⟩:=hc _ hd3;unfold backS;go_wp2_with fail;refine hK.out _ _ (trivial) (fun hHeld=>?_);clear hK K;refine rd 13 fun K hK=>?_
    go_simp;refine (hmv _ hd3).mono ?_;rintro e w2 ⟨rfl,vg2,hR⟩;go_wp2_with fail;refine hK.out _ _ (trivial) (fun hHeld=>?_);clear hK K
    (try simp only [Act.put,ZA,ZB,ZC,ZD,ZE,ZF])
    refine dn ?_;go_wp2;refine be ?_;exact ⟨rfl,_,_,_,(hof _ hd3).trans hR⟩
   ·go_simp
    refine (hbk _ hd2).mono ?_;rintro e wk ⟨rfl,hb⟩;have hd3:=hd2.trans (hb.mono hd2.size);obtain ⟨k4,k11,k12,k7⟩:=hc _ hd3;unfold backS;go_wp2_with fail;refine hK.out _ _ (trivial) (fun hHeld=>?_);clear hK K;refine rd 6 fun K hK=>?_
    go_simp;refine hK.out _ _ (trivial) (fun hHeld=>?_);clear hK K;refine rd 13 fun K hK=>?_
    go_simp;refine (hmv _ hd3).mono ?_;rintro e w2 ⟨rfl,vg2,hR⟩;go_wp2_with fail;refine hK.out _ _ (trivial) (fun hHeld=>?_);clear hK K
    (try simp only [Act.put,ZA,ZB,ZC,ZD,ZE,ZF])
    refine dn ?_;go_wp2;refine be ?_;exact ⟨rfl,_,_,_,(hof _ hd3).trans hR⟩
  ·go_simp
   refine (hbk _ hd2).mono ?_;rintro e wk ⟨rfl,hb⟩;have hd3:=hd2.trans (hb.mono hd2.size);obtain ⟨k4,k11,k12,k7⟩:=hc _ hd3;unfold backS;go_wp2_with fail;refine hK.out _ _ (trivial) (fun hHeld=>?_);clear hK K;refine rd2 6 10 (fun K hK=>?_) fun K hK=>?_
   ·go_simp
    refine hK.out _ _ (trivial) (fun hHeld=>?_);clear hK K;refine rd 10 fun K hK=>?_
    go_simp;refine hK.out _ _ (trivial) (fun hHeld=>?_);clear hK K;refine rd 13 fun K hK=>?_
    go_simp;refine (hmv _ hd3).mono ?_;rintro e w2 ⟨rfl,vg2,hR⟩;go_wp2_with fail;refine hK.out _ _ (trivial) (fun hHeld=>?_);clear hK K
    (try simp only [Act.put,ZA,ZB,ZC,ZD,ZE,ZF])
    refine dn ?_;go_wp2;refine be ?_;exact ⟨rfl,_,_,_,(hof _ hd3).trans hR⟩
   ·go_simp
    refine hK.out _ _ (trivial) (fun hHeld=>?_);clear hK K;refine rd 6 fun K hK=>?_
    go_simp;refine hK.out _ _ (trivial) (fun hHeld=>?_);clear hK K;refine rd 13 fun K hK=>?_
    go_simp;refine (hmv _ hd3).mono ?_;rintro e w2 ⟨rfl,vg2,hR⟩;go_wp2_with fail;refine hK.out _ _ (trivial) (fun hHeld=>?_);clear hK K
    (try simp only [Act.put,ZA,ZB,ZC,ZD,ZE,ZF])
    refine dn ?_;go_wp2;refine be ?_;exact ⟨rfl,_,_,_,(hof _ hd3).trans hR⟩
 ·have hq:(t.row==t.bot)=false:=by simp [hb]
  obtain ⟨ga,gc,hvg⟩:∃ a c,v.g=.slice a N c:=by
   obtain ⟨a,c,e⟩:=slG_shp (SlG.of_own h.o.1.g);rw [rt.n] at e
   exact ⟨a,c,e⟩
  have hc1:∀ W,Below w.heap.size w W->W.cell? ⟨B,1,none⟩=some (.slice ga N gc):=fun W hb=>by rw [(h.below hb).cell 1];show some v.g=_;rw [hvg]
  have hll:=fun W (hbW:Below w.heap.size w W)=>l7Last_any B ga N gc W (hc1 W hbW) (by omega)
  have hN:=rt.n;have hd2:=hd.trans ((bdr w.drew).mono hd.size);obtain ⟨g4,_,_,_⟩:=hc _ hd2
  by_cases hl:t.row<(N:Int)-1
  ·have hV:Hid (lineT t={ t with row:=t.row+1 }):=by show _=_;unfold lineT;rw [if_neg hb,if_pos (by omega)]
   rw [hV.out]
   have hs2:=h.below hd2;have z4:w.drew.drew.frozen? ⟨B,4,none⟩=false:=hs2.frozen 4
   have hR:Hid (Res w (w.drew.drew.setCell ⟨B,4,none⟩ (.int .i64 (t.row+1))) 35 base B [] v vg vo { t with row:=t.row+1 } v vg vo) :=
    (Res.of_below h hd2).trans (hs2.put (sCg B [.int .i64 (t.row+1)] 4 w.drew.drew) _ (sCh B 35 [.int .i64 (t.row+1)] 4 w.drew.drew _ hs2.b) rfl rfl rfl rfl rfl)
   have hr2:t.row<=30:=by omega
   clear rt hbase hvg hV h hN b1 b2 b3 r2 hc hc1 hlt hs2 d11 d7;go_enter Tryz.func207,Tryz.ntmps207;go_wp2;go_region;go_wp2;refine wp_region_noPanic ?_;refine wp_region_held_drew (S:=(fun _=>True)) (by kernel_rfl) (trivial) (fun hHeld=>?_);refine tk 0 ?_;refine tk 1 ?_;refine tk 2 ?_;refine tk 4 ?_;refine rd2 3 5 (fun K hK=>?_) fun K hK=>?_
   ·go_simp
    refine hK.out _ _ (trivial) (fun hHeld=>?_);clear hK K;refine rd 5 fun K hK=>?_
    go_simp;refine (hll _ hd2).mono ?_;rintro e wk ⟨rfl,hw⟩;subst hw;go_wp2_with fail;refine hK.out _ _ (trivial) (fun hHeld=>?_);clear hK K;refine tk 6 ?_;refine tk 7 ?_;simp only [Act.put,ZA,ZB,ZC,ZD,ZE,ZF];refine dn ?_;go_wp2;refine be ?_;exact ⟨rfl,_,_,_,hR.out⟩
   ·go_simp
    refine (hll _ hd2).mono ?_;rintro e wk ⟨rfl,hw⟩;subst hw;go_wp2_with fail;refine hK.out _ _ (trivial) (fun hHeld=>?_);clear hK K;refine rd 3 fun K hK=>?_
    go_simp;refine hK.out _ _ (trivial) (fun hHeld=>?_);clear hK K;refine tk 6 ?_;refine tk 7 ?_;simp only [Act.put,ZA,ZB,ZC,ZD,ZE,ZF];refine dn ?_;go_wp2;refine be ?_;exact ⟨rfl,_,_,_,hR.out⟩
  ·have hV:Hid (lineT t=t):=by show _=_;unfold lineT;rw [if_neg hb,if_neg (by omega)]
   rw [hV.out]
   have hR:=Res.of_below h hd2;clear rt hbase hvg hV h hN b1 b2 b3 r2 hc hc1 hlt d11 d7;go_enter Tryz.func207,Tryz.ntmps207;go_wp2;go_region;go_wp2;refine wp_region_noPanic ?_;refine wp_region_held_drew (S:=(fun _=>True)) (by kernel_rfl) (trivial) (fun hHeld=>?_);refine tk 0 ?_;refine tk 1 ?_;refine tk 2 ?_;refine tk 4 ?_;refine rd2 3 5 (fun K hK=>?_) fun K hK=>?_
   ·go_simp
    refine hK.out _ _ (trivial) (fun hHeld=>?_);clear hK K;refine rd 5 fun K hK=>?_
    go_simp;refine (hll _ hd2).mono ?_;rintro e wk ⟨rfl,hw⟩;subst hw;go_wp2_with fail;refine hK.out _ _ (trivial) (fun hHeld=>?_);clear hK K;refine tk 6 ?_;refine tk 7 ?_;simp only [Act.put,ZA,ZB,ZC,ZD,ZE,ZF];refine dn ?_;go_wp2;refine be ?_;exact ⟨rfl,_,_,_,hR⟩
   ·go_simp
    refine (hll _ hd2).mono ?_;rintro e wk ⟨rfl,hw⟩;subst hw;go_wp2_with fail;refine hK.out _ _ (trivial) (fun hHeld=>?_);clear hK K;refine rd 3 fun K hK=>?_
    go_simp;refine hK.out _ _ (trivial) (fun hHeld=>?_);clear hK K;refine tk 6 ?_;refine tk 7 ?_;simp only [Act.put,ZA,ZB,ZC,ZD,ZE,ZF];refine dn ?_;go_wp2;refine be ?_;exact ⟨rfl,_,_,_,hR⟩
theorem lineT_full (t:Te) (b:Bool):lineT { t with full:=b }={ lineT t with full:=b }:=by
 unfold lineT moveT;split
 ·rfl
 ·split<;>rfl
theorem RtW.full {t:Te} {cn N:Nat} (h:RtW t cn N) (b:Bool):RtW { t with full:=b } cn N:=⟨h.gc,h.oc,h.c,h.n,h.m,h.n1,h.gx,h.ox,h.row,h.col,h.tb⟩
theorem l7Control_any (cn N base B:Nat) (t:Te) (v:Tv) (vg vo:List Value) (w:World) (h:Scr w 35 base B [] t v vg vo) (hbase:base<=w.heap.size) (rt:RtW t cn N) (r:Int) :
  Calls Tryz.prog 142 #[.pointer (some ⟨B,0,none⟩),.int .i64 r] w fun e w'=>e=.returned (.tuple #[])/\∃ v' vg' vo',Res w w' 35 base B [] v vg vo (controlT t r) v' vg' vo':=by
 obtain ⟨k1,k2⟩:=rt.col;have hc:=rt.c
 have full:∀ (W1:World) (t1:Te) (b:Bool) (v1:Tv) (g1 o1:List Value),Scr W1 35 base B [] t1 v1 g1 o1->Res W1 (W1.setCell ⟨B,13,none⟩ (.bool b)) 35 base B [] v1 g1 o1 { t1 with full:=b } v1 g1 o1 :=
  fun W1 t1 b v1 g1 o1 h1=>h1.put (sCg B [.bool b] 13 W1) _ (sCh B 35 [.bool b] 13 W1 _ h1.b) rfl rfl rfl rfl rfl
 have colp:∀ (W1:World) (t1:Te) (c:Int) (v1:Tv) (g1 o1:List Value),Scr W1 35 base B [] t1 v1 g1 o1->Res W1 (W1.setCell ⟨B,5,none⟩ (.int .i64 c)) 35 base B [] v1 g1 o1 { t1 with col:=c } v1 g1 o1 :=
  fun W1 t1 c v1 g1 o1 h1=>h1.put (sCg B [.int .i64 c] 5 W1) _ (sCh B 35 [.int .i64 c] 5 W1 _ h1.b) rfl rfl rfl rfl rfl
 have c0:w.cell? ⟨B,0,none⟩=some (.int .i64 t.gc):=h.cell 0;have c5:w.cell? ⟨B,5,none⟩=some (.int .i64 t.col):=h.cell 5;have z5:w.frozen? ⟨B,5,none⟩=false:=h.frozen 5;have c13:w.cell? ⟨B,13,none⟩=some (.bool t.full):=h.cell 13;have z13:w.frozen? ⟨B,13,none⟩=false:=h.frozen 13;have h1:=full w t false v vg vo h
 by_cases r8:r=8
 ·subst r8
  obtain ⟨q,hq⟩:∃ q,Hid (max 0 (t.col-1)=q):=⟨_,rfl⟩;have hV:controlT t 8={ { t with full:=false } with col:=q }:=by rw [<- hq.out];rfl
  rw [hV]
  have hR:=(show Hid _ from h1.trans (colp _ _ q _ _ _ h1.s));have hw:IntKind.i64.wrap (t.col-1)=t.col-1:=by simp [IntKind.wrap,IntKind.bits,IntKind.signed];omega
  have hmx:=fun W=>l1MaxG_any 0 (t.col-1) W
  rw [hq.out] at hmx
  clear h full colp rt hbase h1 hV;go_enter Tryz.func142,Tryz.ntmps142;go_wp2_with fail;refine (hmx _).mono ?_;rintro e w1 ⟨rfl,hw1⟩;subst hw1;go_wp2;refine be ?_;exact ⟨rfl,_,_,_,hR.out⟩
 by_cases r13:r=13
 ·subst r13
  have hV:controlT t 13={ { t with full:=false } with col:=0 }:=rfl;rw [hV]
  have hR:=(show Hid _ from h1.trans (colp _ _ 0 _ _ _ h1.s));clear h full colp rt hbase h1 hV r8;go_enter Tryz.func142,Tryz.ntmps142;go_wp2;refine be ?_;exact ⟨rfl,_,_,_,hR.out⟩
 by_cases r10:r=10
 ·subst r10
  have hV:controlT t 10=lineT { t with full:=false }:=by rw [lineT_full];rfl
  rw [hV]
  have hfl:=l7Line_any cn N base B { t with full:=false } v vg vo _ h1.s (Nat.le_trans hbase h1.g.size) (rt.full false);clear h full colp rt hbase hV c0 c5 z5;replace h1:=(show Hid _ from h1);go_enter Tryz.func142,Tryz.ntmps142;go_wp2_with fail;refine hfl.mono ?_;rintro e w2 ⟨rfl,v2,g2,o2,hR2⟩;replace hR2:=(show Hid _ from h1.out.trans hR2);clear hfl h1;go_wp2;refine be ?_;exact ⟨rfl,_,_,_,hR2.out⟩
 by_cases r11:r=11
 ·subst r11
  have hV:controlT t 11=lineT { t with full:=false }:=by rw [lineT_full];rfl
  rw [hV]
  have hfl:=l7Line_any cn N base B { t with full:=false } v vg vo _ h1.s (Nat.le_trans hbase h1.g.size) (rt.full false);clear h full colp rt hbase hV c0 c5 z5;replace h1:=(show Hid _ from h1);go_enter Tryz.func142,Tryz.ntmps142;go_wp2_with fail;refine hfl.mono ?_;rintro e w2 ⟨rfl,v2,g2,o2,hR2⟩;replace hR2:=(show Hid _ from h1.out.trans hR2);clear hfl h1;go_wp2;refine be ?_;exact ⟨rfl,_,_,_,hR2.out⟩
 by_cases r12:r=12
 ·subst r12
  have hV:controlT t 12=lineT { t with full:=false }:=by rw [lineT_full];rfl
  rw [hV]
  have hfl:=l7Line_any cn N base B { t with full:=false } v vg vo _ h1.s (Nat.le_trans hbase h1.g.size) (rt.full false);clear h full colp rt hbase hV c0 c5 z5;replace h1:=(show Hid _ from h1);go_enter Tryz.func142,Tryz.ntmps142;go_wp2_with fail;refine hfl.mono ?_;rintro e w2 ⟨rfl,v2,g2,o2,hR2⟩;replace hR2:=(show Hid _ from h1.out.trans hR2);clear hfl h1;go_wp2;refine be ?_;exact ⟨rfl,_,_,_,hR2.out⟩
 by_cases r9:r=9
 ·subst r9
  obtain ⟨q,hq⟩:∃ q,Hid (min (t.gc-1) (t.col / 8*8+8)=q):=⟨_,rfl⟩;have hV:controlT t 9={ { t with full:=false } with col:=q }:=by rw [<- hq.out];rfl
  rw [hV]
  have hR:=(show Hid _ from (h1.trans (colp _ _ q _ _ _ h1.s)).below (bdr _));have hgc:=rt.gc;have e0:IntKind.i64.wrap (t.gc-1)=t.gc-1:=by simp [IntKind.wrap,IntKind.bits,IntKind.signed];omega
  have hmn:∀ W,Calls Tryz.prog 158 #[.int .i64 (IntKind.i64.wrap (t.gc-1)),.int .i64 (IntKind.i64.wrap (IntKind.i64.wrap (IntKind.i64.wrap (t.col.tdiv 8)*8)+8))] W fun e w'=>e=.returned (.int .i64 q)/\w'=W:=by
   intro W;have e1:t.col.tdiv 8=t.col / 8:=Int.tdiv_eq_ediv_of_nonneg k1;have e2:IntKind.i64.wrap (t.col / 8)=t.col / 8:=by simp [IntKind.wrap,IntKind.bits,IntKind.signed];omega
   have e3:IntKind.i64.wrap (t.col / 8*8)=t.col / 8*8:=by simp [IntKind.wrap,IntKind.bits,IntKind.signed];omega
   have e4:IntKind.i64.wrap (t.col / 8*8+8)=t.col / 8*8+8:=by simp [IntKind.wrap,IntKind.bits,IntKind.signed];omega
   rw [e0,e1,e2,e3,e4,<- hq.out]
   exact l1Min_any _ _ W
  clear h full colp rt hbase h1 hV r8 r13 e0 hgc;go_enter Tryz.func142,Tryz.ntmps142;go_wp2;refine wp_region_noPanic ?_;refine wp_region_held_drew (S:=(fun _=>True)) (by kernel_rfl) (trivial) (fun hHeld=>?_);refine tk 0 ?_;refine tk 1 ?_;refine tk 2 ?_;refine tk 3 ?_;refine tk 4 ?_;refine tk 7 ?_;refine tk 8 ?_;refine tk 9 ?_;refine rd2 5 10 (fun K hK=>?_) fun K hK=>?_
  ·go_simp
   refine hK.out _ _ (trivial) (fun hHeld=>?_);clear hK K;refine tk 6 ?_;refine rd 10 fun K hK=>?_
   go_simp;refine hK.out _ _ (trivial) (fun hHeld=>?_);clear hK K;refine tk 11 ?_;refine tk 12 ?_;refine tk 13 ?_;refine rd 14 fun K hK=>?_
   go_simp;refine (hmn _).mono ?_;rintro e wk ⟨rfl,hw⟩;subst hw;go_wp2_with fail;refine hK.out _ _ (trivial) (fun hHeld=>?_);clear hK K;refine tk 15 ?_;refine tk 16 ?_;refine rd 17 fun K hK=>?_
   go_simp;refine hK.out _ _ (trivial) (fun hHeld=>?_);clear hK K
   (try simp only [Act.put,ZA,ZB,ZC,ZD,ZE,ZF])
   refine dn ?_;go_wp2;refine be ?_;exact ⟨rfl,_,_,_,hR.out⟩
  ·go_simp
   refine hK.out _ _ (trivial) (fun hHeld=>?_);clear hK K;refine tk 11 ?_;refine tk 12 ?_;refine tk 13 ?_;refine rd 5 fun K hK=>?_
   go_simp;refine hK.out _ _ (trivial) (fun hHeld=>?_);clear hK K;refine tk 6 ?_;refine rd 14 fun K hK=>?_
   go_simp;refine (hmn _).mono ?_;rintro e wk ⟨rfl,hw⟩;subst hw;go_wp2_with fail;refine hK.out _ _ (trivial) (fun hHeld=>?_);clear hK K;refine tk 15 ?_;refine tk 16 ?_;refine rd 17 fun K hK=>?_
   go_simp;refine hK.out _ _ (trivial) (fun hHeld=>?_);clear hK K
   (try simp only [Act.put,ZA,ZB,ZC,ZD,ZE,ZF])
   refine dn ?_;go_wp2;refine be ?_;exact ⟨rfl,_,_,_,hR.out⟩
 have hV:controlT t r=t:=by unfold controlT;rw [if_neg r8,if_neg r9,if_neg (by omega),if_neg r13]
 rw [hV]
 have q8:(r==8)=false:=by simp [r8]
 have q9:(r==9)=false:=by simp [r9]
 have q10:(r==10)=false:=by simp [r10]
 have q11:(r==11)=false:=by simp [r11]
 have q12:(r==12)=false:=by simp [r12]
 have q13:(r==13)=false:=by simp [r13]
 have hR:=(show Hid _ from h1.trans (full _ _ t.full _ _ _ h1.s));clear h full colp rt hbase h1 hV r8 r9 r10 r11 r12 r13;go_enter Tryz.func142,Tryz.ntmps142;go_wp2;refine be ?_;exact ⟨rfl,_,_,_,hR.out⟩
def printI (t:Te) (r:Int):Te:={ Go.Proofs.YtgcnmjjlmcnllaaGreatDoor.rowT t t.row (writeL (rowX t.g t.row.toNat) (min t.col (t.gc-wdV r)).toNat r t.st) with col:=min (min t.col (t.gc-wdV r)+wdV r) (t.gc-1),full:=decide (t.gc-1<min t.col (t.gc-wdV r)+wdV r) }
theorem lineT_gc (t:Te):(lineT t).gc=t.gc:=by unfold lineT moveT;(split;rfl;split<;>rfl)
def p1T (t:Te):Te:=if t.full=true/\t.wrap=true then lineT { t with full:=false,col:=0 } else { t with full:=false }
def p2T (u:Te) (g r:Int):Te:=if g<u.col+wdV r then (if u.wrap=true then lineT { u with col:=0 } else { u with col:=g-wdV r }) else u
def p3T (u:Te) (g r:Int):Te:=if g<=u.col+wdV r then { Go.Proofs.YtgcnmjjlmcnllaaGreatDoor.rowT u u.row (writeL (rowX u.g u.row.toNat) u.col.toNat r u.st) with col:=g-1,full:=true } else { Go.Proofs.YtgcnmjjlmcnllaaGreatDoor.rowT u u.row (writeL (rowX u.g u.row.toNat) u.col.toNat r u.st) with col:=u.col+wdV r }
theorem printT_eq (t:Te) (r:Int) (h1:1<=wdV r) (h2:wdV r<=t.gc):printT t r=p3T (p2T (p1T t) t.gc r) t.gc r:=by
 unfold printT;rw [if_neg (by omega)]
 rfl
theorem printEnd (u:Te) (g r:Int) (hg:u.gc=g) (hf:u.full=false) (hq:u.col<=u.gc-wdV r):p3T u g r=printI u r:=by
 unfold p3T printI Go.Proofs.YtgcnmjjlmcnllaaGreatDoor.rowT;subst hg;rw [show min u.col (u.gc-wdV r)=u.col by omega]
 by_cases h:u.gc<=u.col+wdV r
 ·rw [if_pos h,show min (u.col+wdV r) (u.gc-1)=u.gc-1 by omega,decide_eq_true (show u.gc-1<u.col+wdV r by omega)]
 ·rw [if_neg h,show min (u.col+wdV r) (u.gc-1)=u.col+wdV r by omega,decide_eq_false (show ¬ u.gc-1<u.col+wdV r by omega),<- hf]
theorem print_way {t:Te} {cn N:Nat} (h:RtK t cn N) (r:Int) (h1:1<=wdV r) (h2:wdV r<=t.gc):printT t r=printI (if t.wrap=true/\(t.full=true\/t.gc<t.col+wdV r) then { lineT t with col:=0 } else t) r:=by
 have hcol:=h.w.col;have hgc:=h.w.gc;have hcc:=h.w.c
 have hl:lineT { t with full:=false,col:=0 }={ lineT t with full:=false,col:=0 }:=by
  have e1:=lineT_col { t with full:=false } 0;rw [lineT_full t false] at e1
  exact e1
 have hg:=lineT_gc t;have hz:printI { lineT t with full:=false,col:=0 } r=printI { lineT t with col:=0 } r:=rfl
 have hE:p3T { lineT t with full:=false,col:=0 } t.gc r=printI { lineT t with col:=0 } r:=by
  rw [<- hz]
  exact printEnd _ _ _ hg rfl (by show 0<=(lineT t).gc-wdV r;omega)
 rw [printT_eq t r h1 h2]
 by_cases hw:t.wrap=true
 ·by_cases hf:t.full=true
  ·have e1:p1T t={ lineT t with full:=false,col:=0 }:=by unfold p1T;rw [if_pos ⟨hf,hw⟩,hl]
   have e2:p2T { lineT t with full:=false,col:=0 } t.gc r={ lineT t with full:=false,col:=0 }:=if_neg (by show ¬ (t.gc<0+wdV r);omega);rw [e1,e2,hE,if_pos ⟨hw,.inl hf⟩]
  ·have e1:p1T t={ t with full:=false }:=if_neg (fun e=>hf e.1)
   rw [e1]
   by_cases hc:t.gc<t.col+wdV r
   ·have e2:p2T { t with full:=false } t.gc r={ lineT t with full:=false,col:=0 }:=by
     refine (if_pos hc).trans ((if_pos hw).trans ?_);exact hl
    rw [e2,hE,if_pos ⟨hw,.inr hc⟩]
   ·have e2:p2T { t with full:=false } t.gc r={ t with full:=false }:=if_neg hc
    rw [e2,if_neg (fun e=>e.2.elim hf hc)]
    exact printEnd { t with full:=false } _ r rfl rfl (by show t.col<=t.gc-wdV r;omega)
 ·have e1:p1T t={ t with full:=false }:=if_neg (fun e=>hw e.2)
  rw [e1,if_neg (fun e=>hw e.1)]
  by_cases hc:t.gc<t.col+wdV r
  ·have e2:p2T { t with full:=false } t.gc r={ t with full:=false,col:=t.gc-wdV r }:=(if_pos hc).trans (if_neg hw)
   rw [e2,printEnd { t with full:=false,col:=t.gc-wdV r } _ r rfl rfl (Int.le_refl _)]
   unfold printI Go.Proofs.YtgcnmjjlmcnllaaGreatDoor.rowT;simp only;rw [show min (t.gc-wdV r) (t.gc-wdV r)=min t.col (t.gc-wdV r) by omega]
  ·have e2:p2T { t with full:=false } t.gc r={ t with full:=false }:=if_neg hc
   rw [e2]
   exact printEnd { t with full:=false } _ r rfl rfl (by show t.col<=t.gc-wdV r;omega)
theorem letter_a (cn N base B:Nat) (x0 x1 x2 x3 x4 x5 pv x:Value) (k r m:Int) (t:Te) (v:Tv) (vg vo:List Value) (w:World) (hSp:SpansAt w) (hSb:0<base) (h:Scr w 98 base B [x0,x1,x2,x3,x4,x5] t v vg vo) (hbase:base<=w.heap.size) (rk:RtK t cn N) (hwr:Hid (false=t.wrap)) (h1:1<=wdV r) (h2:wdV r<=t.gc) :
  Calls Tryz.prog 122 #[.pointer (some ⟨B,0,none⟩),.agg (acA k r pv m x)] w fun e w'=>e=.returned (.tuple #[])/\∃ v' vg' vo',Res w w' 98 base B [x0,x1,x2,x3,x4,x5] v vg vo (printI t r) v' vg' vo':=by
 obtain ⟨W,hW⟩:∃ W,W=w.alloc (Obj.cells #[.int .i64 k,.int .i64 r,pv,.int .i64 m,x] 37):=⟨_,rfl⟩;have hb0:Below w.heap.size w W:=by rw [hW];exact bal' _ _
 have hA:BlkC W w.heap.size 37 [.int .i64 k,.int .i64 r,pv,.int .i64 m,x]:=by rw [hW];exact heap_alloc_new w _
 have hapA:ApF W B v vg vo (.slice (some ⟨w.heap.size,0,none⟩) 0 0):=fun g e=>by
  obtain rfl:w.heap.size=g:=by simpa [Value.ownBlock] using e
  refine ⟨hA.lt,fun c=>?_⟩;rcases c with c|c|c
  ·have:=h.lt;omega
  ·have:=(GrS.bd h.o.1 c).2;omega
  ·have:=(GrS.bd h.o.2.1 c).2;omega
 have hof:=Res.of_below h hb0;have hbase0:base<=W.heap.size:=Nat.le_trans hbase hb0.size;have hA1:W.cell? ⟨w.heap.size,1,none⟩=some (.int .i64 r):=cAl hA 1;have hSp0:=hSp.below hb0 hSp.lt;have hwd:=implWidth_any r W hSp0;replace hW:=(show Hid _ from hW);obtain ⟨c,hc⟩:∃ c,Hid (wdV r=c):=⟨_,rfl⟩;rw [hc.out] at hwd
 have hgc:=rk.w.gc;have hcc:=rk.w.c;have hcol:=rk.w.col;unfold acA;have hcb:1<=c/\c<=2:=by have:=widthV_bd r;have:=hc.out;omega
 have q0:(c==0)=false:=by simp;omega
 have hcg:c<=t.gc:=by have:=hc.out;omega
 have q1:decide ((cn:Int)<c)=false:=decide_eq_false (by omega);go_enter Tryz.func122,Tryz.ntmps122;refine wp_seq_k (fun K hK=>?_);have hH:=(show Hid _ from hK);clear hK;go_wp2;refine hH.out _ _ ?_;rw [<- hW.out]
 clear hH hW;generalize w.heap.size=A at *;go_wp2_with fail;refine hwd.mono ?_;rintro e W0 ⟨rfl,hbw⟩;clear hwd hA1;replace hA:=hA.below hbw;replace hapA:=hapA.mono hbw.size;replace hof:=hof.below hbw;replace hbase0:=Nat.le_trans hbase0 hbw.size;replace hSp0:=hSp0.below hbw hSp0.lt;have hd0:=bdr W0;have cf:∀ W,Below W0.heap.size W0 W->W.cell? ⟨B,20,none⟩=some (.bool false)/\W.cell? ⟨B,19,none⟩=some (.bool t.full)/\W.cell? ⟨B,11,none⟩=some (.int .i64 t.col)/\W.cell? ⟨B,6,none⟩=some (.int .i64 t.gc):=fun W hb=>⟨by rw [(hof.s.below hb).cell 20];show some (Value.bool t.wrap)=_;rw [<- hwr.out],(hof.s.below hb).cell 19,(hof.s.below hb).cell 11,(hof.s.below hb).cell 6⟩
 have d6:W0.cell? ⟨B,6,none⟩=some (.int .i64 t.gc):=hof.s.cell 6;go_wp2;clear d6;refine wp_region_noPanic ?_;refine wp_region_held_drew (S:=(fun W=>W.cell? ⟨B,20,none⟩=some (.bool false)/\W.cell? ⟨B,19,none⟩=some (.bool t.full)/\W.cell? ⟨B,11,none⟩=some (.int .i64 t.col)/\W.cell? ⟨B,6,none⟩=some (.int .i64 t.gc))) (by kernel_rfl) (cf _ hd0) (fun hHeld=>?_);refine tk 0 ?_;refine tk 1 ?_;refine tk 2 ?_;refine tk 3 ?_;refine tk 4 ?_;refine tk 5 ?_;refine sk 6 ?_;refine sk 7 ?_;refine sk 8 ?_;refine sk 9 ?_;refine sk 10 ?_;refine sk 11 ?_;refine sk 12 ?_;refine sk 13 ?_;refine sk 14 ?_;refine sk 15 ?_;refine sk 16 ?_;refine sk 17 ?_;refine sk 18 ?_;refine sk 19 ?_;refine sk 20 ?_;refine sk 21 ?_;refine sk 22 ?_;refine sk 23 ?_;refine sk 24 ?_;refine sk 25 ?_;refine sk 26 ?_;refine tk 27 ?_
 (try simp only [Act.put,ZA,ZB,ZC,ZD,ZE,ZF])
 refine dn ?_;clear cf;have hR1:=(show Hid _ from hof.below hd0);replace hA:=hA.below hd0;replace hapA:=hapA.mono hd0.size;have hSp1:=hSp0.below hd0 hSp0.lt;have hb1:=Nat.le_trans hbase0 hd0.size;have hg1:t.gc=(cn:Int):=hgc;have k1col:=rk.w.col;have k1row:=rk.w.row;have k1n:=rk.w.n;have k1gx:=rk.w.gx;have k1w:∀ q,0<=q/\q+c<=cn->writtenV (rowX t.g t.row.toNat) q r t.st=writeL (rowX t.g t.row.toNat) q.toNat r t.st:=fun q hq=>rk.written _ q r rk.w.row (by rw [hc.out];exact hq) (by have:=hc.out;omega)
 clear hof hSp0 hbase0 hd0 h hbase rk hSp hb0 hbw;generalize W0.drew=W1 at *;have c6:W1.cell? ⟨B,6,none⟩=some (.int .i64 (cn:Int)):=by rw [<- hg1];exact hR1.out.s.cell 6
 have c11:W1.cell? ⟨B,11,none⟩=some (.int .i64 t.col):=hR1.out.s.cell 11;have z11:W1.frozen? ⟨B,11,none⟩=false:=hR1.out.s.frozen 11;obtain ⟨q,hq⟩:∃ q,Hid (min t.col (t.gc-c)=q):=⟨_,rfl⟩;have hq2:min t.col ((cn:Int)-c)=q:=by have:=hq.out;omega
 have hqb:0<=q/\q+c<=cn:=by have:=k1col;omega
 have hws:IntKind.i64.wrap ((cn:Int)-c)=(cn:Int)-c:=by simp [IntKind.wrap,IntKind.bits,IntKind.signed];omega
 have p5:=(hR1.out.s.put (sCg B [.int .i64 q] 11 W1) { t with col:=q } (sCh B 98 [.int .i64 q] 11 W1 _ hR1.out.s.b) rfl rfl rfl rfl rfl).below (bdr _);have s6:(W1.setCell ⟨B,11,none⟩ (.int .i64 q)).drew.cell? ⟨B,6,none⟩=some (.int .i64 (cn:Int)):=by rw [<- hg1];exact p5.s.cell 6
 replace p5:=(show Hid _ from p5);go_wp2;refine wp_region_noPanic ?_;refine wp_region_held_drew (S:=(fun W=>W.cell? ⟨B,6,none⟩=some (.int .i64 (cn:Int)))) (by kernel_rfl) (c6) (fun hHeld=>?_);refine tk 0 ?_;refine tk 1 ?_;refine tk 2 ?_;refine tk 3 ?_;refine tk 4 ?_;refine tk 6 ?_;refine tk 7 ?_;refine tk 8 ?_;refine tk 9 ?_;refine tk 10 ?_;refine tk 11 ?_;refine tk 12 ?_;refine tk 13 ?_;refine rd 5 fun K hK=>?_
 go_simp;refine hK.out _ _ (hHeld) (fun hHeld=>?_);clear hK K;refine tk 14 ?_;refine tk 15 ?_;refine tk 16 ?_;refine tk 17 ?_;refine rd 18 fun K hK=>?_
 go_simp;refine hK.out _ _ (s6) (fun hHeld=>?_);clear hK K
 (try simp only [Act.put,ZA,ZB,ZC,ZD,ZE,ZF])
 refine dn ?_;obtain ⟨W2,hW2⟩:∃ W2,W2=(W1.setCell ⟨B,11,none⟩ (.int .i64 q)).drew:=⟨_,rfl⟩;rw [<- hW2]
 have P5:Res W1 W2 98 base B [x0,x1,x2,x3,x4,x5] v vg vo { t with col:=q } v vg vo:=by rw [hW2];exact p5.out
 clear hW2 p5 s6 c6 c11 z11;have hR2:=(show Hid _ from hR1.out.trans P5);have hA2:=hA.grp P5.g (hapA A rfl).2;have hap2:ApF W2 B v vg vo (.slice (some ⟨A,0,none⟩) 0 0):=fun g e=>⟨Nat.lt_of_lt_of_le (hapA g e).1 P5.g.size,fun c=>(hapA g e).2 (P5.c g (hapA g e).1 c)⟩
 have hSp2:=hSp1.below (hR1.out.s.bel hb1 P5) hSb;have hb2:=Nat.le_trans hb1 P5.g.size;clear hA hapA hSp1 P5 hR1;obtain ⟨i,hri⟩:∃ i:Nat,t.row=(i:Int):=⟨t.row.toNat,by have:=k1row;omega⟩;have hi:i<N:=by have:=k1row;omega
 have hN:=k1n;have h2s:=hR2.out.s;rcases h2s.o.1.shape with ⟨_,hs⟩|⟨g,cap,hvg,hbg,hlg,hcap⟩
 ·rw [hs] at hN;simp at hN;omega
 rw [hN] at hvg hcap
 have ho:=h2s.o.1;have hro:=ho.2.2.1 i (by show i<t.g.length;omega);have hvl:=ho.1;rw [hvg] at ho
 have hci:=ho.cell hN i hi;obtain ⟨ra,rn,rc,hre⟩:=hro.isSl;rw [hre] at hci hro
 have hgx:=k1gx i hi;have hsl:SlC W2 (.slice ra rn rc) (rowX t.g i):=SlC.of_own hro;have hlt:=h2s.lt;have cf:∀ W,Below W2.heap.size W2 W->W.cell? ⟨B,7,none⟩=some (.slice (some ⟨g,0,none⟩) N cap)/\W.cell? ⟨B,10,none⟩=some (.int .i64 (i:Int))/\W.cell? ⟨B,11,none⟩=some (.int .i64 q)/\W.cell? ⟨A,1,none⟩=some (.int .i64 r)/\W.cell? ⟨B,12,none⟩=some (.int .i64 t.st.fore)/\W.cell? ⟨B,13,none⟩=some (.int .i64 t.st.back)/\W.cell? ⟨B,14,none⟩=some (.bool t.st.bold)/\W.cell? ⟨B,15,none⟩=some (.bool t.st.under)/\W.cell? ⟨B,16,none⟩=some (.bool t.st.turned):=fun W hb=>⟨by rw [(h2s.below hb).cell 7];show some v.g=_;rw [hvg],by rw [(h2s.below hb).cell 10];show some (Value.int .i64 t.row)=_;rw [hri],(h2s.below hb).cell 11,cAl (hA2.below hb) 1,(h2s.below hb).cell 12,(h2s.below hb).cell 13,(h2s.below hb).cell 14,(h2s.below hb).cell 15,(h2s.below hb).cell 16⟩
 have ci:∀ W,Below W2.heap.size W2 W->W.cell? ⟨g,i,none⟩=some (.slice ra rn rc):=fun W hb=>(hb.cell (p:=⟨g,i,none⟩) hlg).trans hci
 have zi:∀ W,Below W2.heap.size W2 W->W.frozen? ⟨g,i,none⟩=false:=fun W hb=>(ho.below hb).frozen hN i
 have hcd:=fun W (hb:Below W2.heap.size W2 W)=>implWritten_any (.slice ra rn rc) (rowX t.g i) q r t.st W (hSp2.below hb hSp2.lt) (hsl.below hb) (by omega)
 obtain ⟨R,hR⟩:∃ R,Hid (writtenV (rowX t.g i) q r t.st=R):=⟨_,rfl⟩;simp only [hR.out] at hcd;have hfin:∀ W u,Below W2.heap.size W2 W->OwnC W W2.heap.size u R->Hid (Res W2 (W.setCell ⟨g,i,none⟩ u) 98 base B [x0,x1,x2,x3,x4,x5] v vg vo { ({ t with col:=q }:Te) with g:=t.g.set i R } v (vg.set i u) vo):=fun W u hb hu=>h2s.row hb2 hb hvg hN i hi u R hu
 have hsc:∀ W u,Below W2.heap.size W2 W->(W.setCell ⟨g,i,none⟩ u).cell? ⟨B,7,none⟩=some (.slice (some ⟨g,0,none⟩) N cap)/\(W.setCell ⟨g,i,none⟩ u).cell? ⟨B,10,none⟩=some (.int .i64 (i:Int))/\(W.setCell ⟨g,i,none⟩ u).cell? ⟨B,11,none⟩=some (.int .i64 q)/\(W.setCell ⟨g,i,none⟩ u).cell? ⟨A,1,none⟩=some (.int .i64 r)/\(W.setCell ⟨g,i,none⟩ u).cell? ⟨B,12,none⟩=some (.int .i64 t.st.fore)/\(W.setCell ⟨g,i,none⟩ u).cell? ⟨B,13,none⟩=some (.int .i64 t.st.back)/\(W.setCell ⟨g,i,none⟩ u).cell? ⟨B,14,none⟩=some (.bool t.st.bold)/\(W.setCell ⟨g,i,none⟩ u).cell? ⟨B,15,none⟩=some (.bool t.st.under)/\(W.setCell ⟨g,i,none⟩ u).cell? ⟨B,16,none⟩=some (.bool t.st.turned):=fun W u hb=>by
  have hne:g≠B:=fun e=>grS_not h2s.o.1 h2s.b h2s.n1 h2s.n2 (.inl (by rw [hvg,<- e];rfl))
  have hnA:g≠A:=fun e=>(hap2 A rfl).2 (.inr (.inl (.inl (by rw [hvg,<- e];rfl))))
  have hk:∀ k,(W.setCell ⟨g,i,none⟩ u).cell? ⟨B,k,none⟩=W.cell? ⟨B,k,none⟩:=fun k=>World.cell?_of_block (w:=W) ((setCell_gr W g i u).block B (Nat.lt_of_lt_of_le hlt hb.size) (fun e=>hne (Option.some.inj e).symm))
  have hkA:∀ k,(W.setCell ⟨g,i,none⟩ u).cell? ⟨A,k,none⟩=W.cell? ⟨A,k,none⟩:=fun k=>World.cell?_of_block (w:=W) ((setCell_gr W g i u).block A (Nat.lt_of_lt_of_le hA2.lt hb.size) (fun e=>hnA (Option.some.inj e).symm))
  rw [hk,hk,hk,hkA,hk,hk,hk,hk,hk]
  exact cf W hb
 have hRR:Hid (R=writeL (rowX t.g t.row.toNat) (min t.col (t.gc-wdV r)).toNat r t.st):=by
  show _=_
  have e:=k1w q hqb;have e1:=hR.out;rw [hri,Int.toNat_natCast] at e
  rw [<- e1,e,hc.out,hq.out,hri,Int.toNat_natCast]
 unfold stV at hcd;have hd:=bdr W2;have i0:(0:Int)<=(i:Int):=by omega
 have i1:(i:Int)<(N:Int):=by omega
 clear h2s ho hro hre hsl hgx hSp2 hvg hbg hcap hlt hvl hci hR hi hlg hA2 hap2 hN;go_wp2;refine wp_region_noPanic ?_;refine wp_region_held_drew (S:=(fun W=>W.cell? ⟨B,7,none⟩=some (.slice (some ⟨g,0,none⟩) N cap)/\W.cell? ⟨B,10,none⟩=some (.int .i64 (i:Int))/\W.cell? ⟨B,11,none⟩=some (.int .i64 q)/\W.cell? ⟨A,1,none⟩=some (.int .i64 r)/\W.cell? ⟨B,12,none⟩=some (.int .i64 t.st.fore)/\W.cell? ⟨B,13,none⟩=some (.int .i64 t.st.back)/\W.cell? ⟨B,14,none⟩=some (.bool t.st.bold)/\W.cell? ⟨B,15,none⟩=some (.bool t.st.under)/\W.cell? ⟨B,16,none⟩=some (.bool t.st.turned))) (by kernel_rfl) (cf _ hd) (fun hHeld=>?_);have di:=ci _ hd;refine tk 0 ?_;refine tk 1 ?_;refine tk 2 ?_;refine tk 3 ?_;refine tk 4 ?_;refine tk 5 ?_;refine tk 6 ?_;refine tk 7 ?_;refine tk 8 ?_;refine tk 9 ?_;refine tk 10 ?_;refine tk 11 ?_;refine tk 12 ?_;refine tk 13 ?_;refine tk 14 ?_;refine tk 15 ?_;refine tk 16 ?_;refine tk 17 ?_;refine tk 18 ?_;refine tk 19 ?_;refine tk 20 ?_;refine tk 21 ?_;refine tk 22 ?_;refine tk 24 ?_;refine tk 25 ?_;refine tk 26 ?_;refine tk 27 ?_;refine tk 28 ?_;refine tk 29 ?_;refine tk 30 ?_;refine tk 31 ?_;refine tk 32 ?_;refine tk 33 ?_;refine tk 34 ?_;refine tk 35 ?_;refine rd 23 fun K hK=>?_
 go_simp;refine hK.out _ _ (hHeld) (fun hHeld=>?_);clear hK K;refine rd 36 fun K hK=>?_
 go_simp;refine (hcd _ hd).mono ?_;rintro e w6 ⟨u,rfl,hu,hbx⟩;have hu2:=hu.low hd.size;replace hd:=hd.trans (hbx.mono hd.size);obtain ⟨ua,un,uc,hue⟩:=hu2.isSl;subst hue;have di:=ci _ hd;have zj:=zi _ hd;go_wp2_with fail;refine hK.out _ _ (cf _ hd) (fun hHeld=>?_);clear hK K;refine tk 37 ?_;refine rd 38 fun K hK=>?_
 go_simp;refine hK.out _ _ (hsc _ _ hd) (fun hHeld=>?_);clear hK K
 (try simp only [Act.put,ZA,ZB,ZC,ZD,ZE,ZF])
 refine dn ?_;obtain ⟨W3,hW3⟩:∃ W3,W3=w6.setCell ⟨g,i,none⟩ (.slice ua un uc):=⟨_,rfl⟩;rw [<- hW3]
 have hR3:=(show Hid _ from hR2.out.trans (by have:=(hfin _ _ hd hu2).out;rw [<- hW3] at this;exact this));clear hfin hW3 hR2 di zj hd hu2 hcd hsc cf ci zi;have c11:W3.cell? ⟨B,11,none⟩=some (.int .i64 q):=hR3.out.s.cell 11;have z11:W3.frozen? ⟨B,11,none⟩=false:=hR3.out.s.frozen 11;obtain ⟨q',hq'⟩:∃ q',Hid (q+c=q'):=⟨_,rfl⟩;have hwa:IntKind.i64.wrap (q+c)=q':=by have:=hq'.out;simp [IntKind.wrap,IntKind.bits,IntKind.signed];omega
 have p7:=(show Hid _ from hR3.out.trans (hR3.out.s.put (sCg B [.int .i64 q'] 11 W3) { ({ t with col:=q' }:Te) with g:=t.g.set i R } (sCh B 98 [.int .i64 q'] 11 W3 _ hR3.out.s.b) rfl rfl rfl rfl rfl));obtain ⟨W4,hW4⟩:∃ W4,W4=W3.setCell ⟨B,11,none⟩ (.int .i64 q'):=⟨_,rfl⟩;have hR4:Hid (Res w W4 98 base B [x0,x1,x2,x3,x4,x5] v vg vo { ({ t with col:=q' }:Te) with g:=t.g.set i R } v (vg.set i (.slice ua un uc)) vo):=by rw [hW4];exact p7.out
 clear p7 hR3;have d11:W4.cell? ⟨B,11,none⟩=some (.int .i64 q'):=hR4.out.s.cell 11;have d19:W4.cell? ⟨B,19,none⟩=some (.bool t.full):=hR4.out.s.cell 19;have y19:W4.frozen? ⟨B,19,none⟩=false:=hR4.out.s.frozen 19;obtain ⟨b,hb⟩:∃ b,Hid (decide ((cn:Int)-1<q')=b):=⟨_,rfl⟩;have hb':decide ((cn:Int)-1<q')=b:=hb.out;have hla:=lastCol_any B (cn:Int) W4.drew (by rw [<- hg1];exact hR4.out.s.cell 6) (by omega);have p8:=(show Hid _ from (hR4.out.trans (hR4.out.s.put (sCg B [.bool b] 19 W4) { ({ t with col:=q',full:=b }:Te) with g:=t.g.set i R } (sCh B 98 [.bool b] 19 W4 _ hR4.out.s.b) rfl rfl rfl rfl rfl)).below (bdr _));have s11:(W4.setCell ⟨B,19,none⟩ (.bool b)).drew.cell? ⟨B,11,none⟩=some (.int .i64 q'):=p8.out.s.cell 11;replace hW4:=(show Hid _ from hW4);go_wp2_with fail;rw [<- hW4.out]
 clear hW4 c11 z11;go_wp2;refine wp_region_noPanic ?_;refine wp_region_held_drew (S:=(fun W=>W.cell? ⟨B,11,none⟩=some (.int .i64 q'))) (by kernel_rfl) (d11) (fun hHeld=>?_);refine tk 0 ?_;refine tk 1 ?_;refine tk 2 ?_;refine tk 3 ?_;refine tk 4 ?_;refine tk 5 ?_;refine tk 6 ?_;refine rd 7 fun K hK=>?_
 go_simp;refine hla.mono ?_;rintro e wk ⟨rfl,hw⟩;subst hw;go_wp2_with fail;refine hK.out _ _ (d11) (fun hHeld=>?_);clear hK K;refine tk 8 ?_;refine tk 9 ?_;refine tk 10 ?_;refine tk 11 ?_;refine rd 12 fun K hK=>?_
 go_simp;refine hK.out _ _ (s11) (fun hHeld=>?_);clear hK K
 (try simp only [Act.put,ZA,ZB,ZC,ZD,ZE,ZF])
 refine dn ?_;obtain ⟨W5,hW5⟩:∃ W5,W5=(W4.setCell ⟨B,19,none⟩ (.bool b)).drew:=⟨_,rfl⟩;rw [<- hW5]
 have hR5:Hid (Res w W5 98 base B [x0,x1,x2,x3,x4,x5] v vg vo { ({ t with col:=q',full:=b }:Te) with g:=t.g.set i R } v (vg.set i (.slice ua un uc)) vo):=by rw [hW5];exact p8.out
 clear p8 hW5 hR4 d11 d19 y19 s11 hla;have d11:W5.cell? ⟨B,11,none⟩=some (.int .i64 q'):=hR5.out.s.cell 11;have y11:W5.frozen? ⟨B,11,none⟩=false:=hR5.out.s.frozen 11;have hla:=lastCol_any B (cn:Int) W5.drew (by rw [<- hg1];exact hR5.out.s.cell 6) (by omega);obtain ⟨q2,hq3⟩:∃ q2,Hid (min q' ((cn:Int)-1)=q2):=⟨_,rfl⟩;have hq4:min q' ((cn:Int)-1)=q2:=hq3.out;have p9:=(show Hid _ from (hR5.out.trans (hR5.out.s.put (sCg B [.int .i64 q2] 11 W5) { ({ t with col:=q2,full:=b }:Te) with g:=t.g.set i R } (sCh B 98 [.int .i64 q2] 11 W5 _ hR5.out.s.b) rfl rfl rfl rfl rfl)).below (bdr _))
 have hF:Hid (Res w (W5.setCell ⟨B,11,none⟩ (.int .i64 q2)).drew 98 base B [x0,x1,x2,x3,x4,x5] v vg vo (printI t r) v (vg.set i (.slice ua un uc)) vo):=by
  have e:printI t r={ ({ t with col:=q2,full:=b }:Te) with g:=t.g.set i R }:=by
   unfold printI Go.Proofs.YtgcnmjjlmcnllaaGreatDoor.rowT;rw [<- hRR.out,hc.out,hq.out,hq'.out,hg1,hq4,hb',show t.row.toNat=i by omega]
  show Res _ _ _ _ _ _ _ _ _ _ _ _ _
  rw [e]
  exact p9.out
 clear p9 hR5 hRR;go_wp2;refine wp_region_noPanic ?_;refine wp_region_held_drew (S:=(fun _=>True)) (by kernel_rfl) (trivial) (fun hHeld=>?_);refine tk 0 ?_;refine tk 1 ?_;refine tk 2 ?_;refine tk 3 ?_;refine tk 4 ?_;refine tk 6 ?_;refine rd2 5 7 (fun K hK=>?_) fun K hK=>?_
 ·go_simp
  refine hK.out _ _ (trivial) (fun hHeld=>?_);clear hK K;refine rd 7 fun K hK=>?_
  go_simp;refine hla.mono ?_;rintro e wk ⟨rfl,hw⟩;subst hw;go_wp2_with fail;refine hK.out _ _ (trivial) (fun hHeld=>?_);clear hK K;refine tk 8 ?_;refine tk 9 ?_;refine tk 10 ?_;refine tk 11 ?_;refine rd 12 fun K hK=>?_
  go_simp;refine hK.out _ _ (trivial) (fun hHeld=>?_);clear hK K
  (try simp only [Act.put,ZA,ZB,ZC,ZD,ZE,ZF])
  refine dn ?_;go_wp2;refine be ?_;exact ⟨rfl,_,_,_,hF.out⟩
 ·go_simp
  refine hla.mono ?_;rintro e wk ⟨rfl,hw⟩;subst hw;go_wp2_with fail;refine hK.out _ _ (trivial) (fun hHeld=>?_);clear hK K;refine rd 5 fun K hK=>?_
  go_simp;refine hK.out _ _ (trivial) (fun hHeld=>?_);clear hK K;refine tk 8 ?_;refine tk 9 ?_;refine tk 10 ?_;refine tk 11 ?_;refine rd 12 fun K hK=>?_
  go_simp;refine hK.out _ _ (trivial) (fun hHeld=>?_);clear hK K
  (try simp only [Act.put,ZA,ZB,ZC,ZD,ZE,ZF])
  refine dn ?_;go_wp2;refine be ?_;exact ⟨rfl,_,_,_,hF.out⟩
end Go.Proofs.YtgcnmjjlmcnllaaGreatDoor
