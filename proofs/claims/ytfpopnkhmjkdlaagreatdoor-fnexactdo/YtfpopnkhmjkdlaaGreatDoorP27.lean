import Derived.Test.YtfpopnkhmjkdlaaGreatDoorP26
set_option maxRecDepth 20000
set_option maxHeartbeats 16000000
namespace Go.Proofs.YtfpopnkhmjkdlaaGreatDoor
open Go.ChangeShapes Go.WideShapes Go.ChangeAt Go.RowKit
theorem XbM (cn N base B:Nat) (x0 x1 x2 x3 x4 x5 pv:Value) (ps:List Int) (t:Te) (v:Tv) (vg vo:List Value) (w:World) (h:Scr w 98 base B [x0,x1,x2,x3,x4,x5] t v vg vo) (hbase:base<=w.heap.size) (rt:RtW t cn N) (hp:SlN w pv ps) (hl:ps.length<=1000) (n:Int) (en:Hid (Xa ps 0 1=n)) (hn:0<=n/\n<=9999) :
  Calls Tryz.prog 197 #[.pointer (some ⟨B,0,none⟩),pv] w fun e w'=>e=.returned (.tuple #[])/\∃ v' vg' vo',Res w w' 98 base B [x0,x1,x2,x3,x4,x5] v vg vo (XH t t.top t.bot n) v' vg' vo':=by
 obtain ⟨b1,b2,b3⟩:=rt.tb;have cf:∀ W,Below w.heap.size w W->W.cell? ⟨B,17,none⟩=some (.int .i64 t.top)/\W.cell? ⟨B,18,none⟩=some (.int .i64 t.bot):=fun W hb=>⟨(h.below hb).cell 17,(h.below hb).cell 18⟩
 have cr:∀ W W2 v2 g2 o2,Res W W2 98 base B [x0,x1,x2,x3,x4,x5] v vg vo (XH t t.top t.bot n) v2 g2 o2->W2.cell? ⟨B,17,none⟩=some (.int .i64 t.top)/\W2.cell? ⟨B,18,none⟩=some (.int .i64 t.bot):=fun W W2 v2 g2 o2 h=>⟨h.s.cell 17,h.s.cell 18⟩
 have hof:=fun W (hbW:Below w.heap.size w W)=>Res.of_below h hbW
 have hc1:=fun W (hbW:Below w.heap.size w W)=>X1 pv ps W (hp.below hbW) hl
 simp only [en.out] at hc1;have hru:=fun W (hbW:Below w.heap.size w W)=>Up cn N base B x0 x1 x2 x3 x4 x5 t v vg vo W (h.below hbW) (Nat.le_trans hbase hbW.size) rt t.top.toNat (t.bot+1-t.top).toNat n.toNat (by omega) (by omega)
 rw [show ((t.top.toNat:Nat):Int)=t.top by omega,show t.top+((t.bot+1-t.top).toNat:Int)-1=t.bot by omega,show ((n.toNat:Nat):Int)=n by omega] at hru
 have hd:=bdr w;obtain ⟨pa,pc,rfl⟩:=hp.shp;clear h hbase rt hp hl en hn b1 b2 b3;go_enter Tryz.func197,Tryz.ntmps197;go_wp2;refine wp_region_noPanic ?_;refine wp_region_held_drew (S:=(fun W=>W.cell? ⟨B,17,none⟩=some (.int .i64 t.top)/\W.cell? ⟨B,18,none⟩=some (.int .i64 t.bot))) (by kernel_rfl) (cf _ hd) (fun Hh=>?_);refine tK 0 ?_;refine tK 1 ?_;refine tK 2 ?_;refine tK 3 ?_;refine tK 4 ?_;refine tK 5 ?_;refine tK 6 ?_;refine tK 7 ?_;refine tK 8 ?_;refine tK 9 ?_;refine tK 10 ?_;refine tk 11 ?_;refine rd 12 fun K hK=>?_
 go_simp;refine (hc1 _ hd).mono ?_;rintro e wk ⟨rfl,hw1⟩;subst hw1;go_wp2_with fail;refine hK.out _ _ (cf _ hd) (fun Hh=>?_);clear hK K;refine rd 13 fun K hK=>?_
 go_simp;refine (hru _ hd).mono ?_;rintro e w2 ⟨rfl,v2,g2,o2,hR⟩;go_wp2_with fail;refine hK.out _ _ (cr _ _ _ _ _ hR) (fun Hh=>?_);clear hK K
 (try simp only [Act.put,ZA,ZB,ZC,ZD,ZE,ZF])
 refine dn ?_;go_wp2;refine be ?_;exact ⟨rfl,_,_,_,(hof _ hd).trans hR⟩
theorem Xaf (cn N base B:Nat) (x0 x1 x2 x3 x4 x5 pv:Value) (ps:List Int) (t:Te) (v:Tv) (vg vo:List Value) (w:World) (h:Scr w 98 base B [x0,x1,x2,x3,x4,x5] t v vg vo) (hbase:base<=w.heap.size) (rt:RtW t cn N) (hp:SlN w pv ps) (hl:ps.length<=1000) (n:Int) (en:Hid (Xa ps 0 1=n)) (hn:0<=n/\n<=9999) :
  Calls Tryz.prog 198 #[.pointer (some ⟨B,0,none⟩),pv] w fun e w'=>e=.returned (.tuple #[])/\∃ v' vg' vo',Res w w' 98 base B [x0,x1,x2,x3,x4,x5] v vg vo (XH t t.top t.bot (-n)) v' vg' vo':=by
 obtain ⟨b1,b2,b3⟩:=rt.tb;have cf:∀ W,Below w.heap.size w W->W.cell? ⟨B,17,none⟩=some (.int .i64 t.top)/\W.cell? ⟨B,18,none⟩=some (.int .i64 t.bot):=fun W hb=>⟨(h.below hb).cell 17,(h.below hb).cell 18⟩
 have cr:∀ W W2 v2 g2 o2,Res W W2 98 base B [x0,x1,x2,x3,x4,x5] v vg vo (XH t t.top t.bot (-n)) v2 g2 o2->W2.cell? ⟨B,17,none⟩=some (.int .i64 t.top)/\W2.cell? ⟨B,18,none⟩=some (.int .i64 t.bot):=fun W W2 v2 g2 o2 h=>⟨h.s.cell 17,h.s.cell 18⟩
 have hof:=fun W (hbW:Below w.heap.size w W)=>Res.of_below h hbW
 have hc1:=fun W (hbW:Below w.heap.size w W)=>X1 pv ps W (hp.below hbW) hl
 simp only [en.out] at hc1;have hru:=fun W (hbW:Below w.heap.size w W)=>Jl cn N base B x0 x1 x2 x3 x4 x5 t v vg vo W (h.below hbW) (Nat.le_trans hbase hbW.size) rt t.top.toNat (t.bot+1-t.top).toNat n.toNat (by omega) (by omega)
 rw [show ((t.top.toNat:Nat):Int)=t.top by omega,show t.top+((t.bot+1-t.top).toNat:Int)-1=t.bot by omega,show ((n.toNat:Nat):Int)=n by omega] at hru
 have hd:=bdr w;obtain ⟨pa,pc,rfl⟩:=hp.shp;clear h hbase rt hp hl en hn b1 b2 b3;go_enter Tryz.func198,Tryz.ntmps198;go_wp2;refine wp_region_noPanic ?_;refine wp_region_held_drew (S:=(fun W=>W.cell? ⟨B,17,none⟩=some (.int .i64 t.top)/\W.cell? ⟨B,18,none⟩=some (.int .i64 t.bot))) (by kernel_rfl) (cf _ hd) (fun Hh=>?_);refine tK 0 ?_;refine tK 1 ?_;refine tK 2 ?_;refine tK 3 ?_;refine tK 4 ?_;refine tK 5 ?_;refine tK 6 ?_;refine tK 7 ?_;refine tK 8 ?_;refine tK 9 ?_;refine tK 10 ?_;refine tk 11 ?_;refine rd 12 fun K hK=>?_
 go_simp;refine (hc1 _ hd).mono ?_;rintro e wk ⟨rfl,hw1⟩;subst hw1;go_wp2_with fail;refine hK.out _ _ (cf _ hd) (fun Hh=>?_);clear hK K;refine rd 13 fun K hK=>?_
 go_simp;refine (hru _ hd).mono ?_;rintro e w2 ⟨rfl,v2,g2,o2,hR⟩;go_wp2_with fail;refine hK.out _ _ (cr _ _ _ _ _ hR) (fun Hh=>?_);clear hK K
 (try simp only [Act.put,ZA,ZB,ZC,ZD,ZE,ZF])
 refine dn ?_;go_wp2;refine be ?_;exact ⟨rfl,_,_,_,(hof _ hd).trans hR⟩
theorem KU (base B:Nat) (x0 x1 x2 x3 x4 x5:Value) (t:Te) (v:Tv) (vg vo:List Value) (w:World) (h:Scr w 98 base B [x0,x1,x2,x3,x4,x5] t v vg vo) :
  Calls Tryz.prog 237 #[.pointer (some ⟨B,0,none⟩)] w fun e w'=>e=.returned (.bool (decide (t.top<=t.row/\t.row<=t.bot)))/\w'=w.drew:=by
 have c10:w.drew.cell? ⟨B,10,none⟩=some (.int .i64 t.row):=h.cell 10;have c17:w.drew.cell? ⟨B,17,none⟩=some (.int .i64 t.top):=h.cell 17;have c18:w.drew.cell? ⟨B,18,none⟩=some (.int .i64 t.bot):=h.cell 18;clear h;generalize t.row=r at *;generalize t.top=a at *;generalize t.bot=b at *
 by_cases q1:a<=r
 ·by_cases q2:r<=b
  ·rw [decide_eq_true ⟨q1,q2⟩]
   go_enter Tryz.func237,Tryz.ntmps237;go_wp2;go_region;go_wp2;go_ret;exact ⟨rfl,rfl⟩
  ·rw [decide_eq_false (fun e=>q2 e.2)]
   have qd:decide (r<=b)=false:=decide_eq_false q2;go_enter Tryz.func237,Tryz.ntmps237;go_wp2;go_region;go_wp2;go_ret;exact ⟨by rw [<- qd];rfl,rfl⟩
 ·rw [decide_eq_false (fun e=>q1 e.1)]
  have qd:decide (a<=r)=false:=decide_eq_false q1;go_enter Tryz.func237,Tryz.ntmps237;go_wp2;refine wp_region_noPanic ?_;refine wp_region_held_drew (S:=(fun W=>W.cell? ⟨B,10,none⟩=some (.int .i64 r)/\W.cell? ⟨B,17,none⟩=some (.int .i64 a))) (by kernel_rfl) ⟨c10,c17⟩ (fun Hh=>?_);clear c10 c17 c18;refine tK 0 ?_;refine tK 1 ?_;refine tK 2 ?_;refine tK 3 ?_;refine tK 4 ?_;refine tK 5 ?_;refine tK 6 ?_;refine tK 7 ?_;refine tK 8 ?_;refine tK 9 ?_;refine tK 10 ?_;refine tK 11 ?_;refine sK 12 ?_;refine sK 13 ?_;refine sK 14 ?_;refine sK 15 ?_;refine sK 16 ?_;refine sK 17 ?_;refine sK 18 ?_;refine sK 19 ?_;refine sK 20 ?_;refine sK 21 ?_;refine sK 22 ?_;refine tK 23 ?_;refine tk 24 ?_
  (try simp only [Act.put,ZA,ZB,ZC,ZD,ZE,ZF])
  refine dn ?_;go_wp2;go_ret;exact ⟨rfl,rfl⟩
theorem XcH (cn N base B:Nat) (x0 x1 x2 x3 x4 x5 pv:Value) (ps:List Int) (t:Te) (v:Tv) (vg vo:List Value) (w:World) (h:Scr w 98 base B [x0,x1,x2,x3,x4,x5] t v vg vo) (hbase:base<=w.heap.size) (rt:RtW t cn N) (hp:SlN w pv ps) (hl:ps.length<=1000) (n:Int) (en:Hid (Xa ps 0 1=n)) (hn:0<=n/\n<=9999) :
  Calls Tryz.prog 193 #[.pointer (some ⟨B,0,none⟩),pv] w fun e w'=>e=.returned (.tuple #[])/\∃ v' vg' vo',Res w w' 98 base B [x0,x1,x2,x3,x4,x5] v vg vo (if t.top<=t.row/\t.row<=t.bot then { XH t t.row t.bot (-n) with col:=0 } else t) v' vg' vo':=by
 obtain ⟨b1,b2,b3⟩:=rt.tb;obtain ⟨r1,r2⟩:=rt.row;have hwm:=KU base B x0 x1 x2 x3 x4 x5 t v vg vo w h;have hof:=fun W (hbW:Below w.heap.size w W)=>Res.of_below h hbW
 by_cases hin:t.top<=t.row/\t.row<=t.bot
 case neg =>
  rw [if_neg hin]
  rw [decide_eq_false hin] at hwm
  have hof:=hof _ (bdr w);obtain ⟨pa,pc,rfl⟩:=hp.shp;clear h hbase rt hp hl en hn b1 b2 b3 r1 r2 hin;go_enter Tryz.func193,Tryz.ntmps193;go_wp2_with fail;refine hwm.mono ?_;rintro e wk ⟨rfl,hw1⟩;subst hw1;go_wp2;refine be ?_;exact ⟨rfl,_,_,_,hof⟩
 rw [if_pos hin]
 rw [decide_eq_true hin] at hwm
 have cf:∀ W,Below w.heap.size w W->W.cell? ⟨B,10,none⟩=some (.int .i64 t.row)/\W.cell? ⟨B,18,none⟩=some (.int .i64 t.bot):=fun W hb=>⟨(h.below hb).cell 10,(h.below hb).cell 18⟩
 have cr:∀ W W2 v2 g2 o2,Res W W2 98 base B [x0,x1,x2,x3,x4,x5] v vg vo (XH t t.row t.bot (-n)) v2 g2 o2->W2.cell? ⟨B,10,none⟩=some (.int .i64 t.row)/\W2.cell? ⟨B,18,none⟩=some (.int .i64 t.bot):=fun W W2 v2 g2 o2 h=>⟨h.s.cell 10,h.s.cell 18⟩
 have hc1:=fun W (hbW:Below w.heap.size w W)=>X1 pv ps W (hp.below hbW) hl
 simp only [en.out] at hc1;have hru:=fun W (hbW:Below w.heap.size w W)=>Jl cn N base B x0 x1 x2 x3 x4 x5 t v vg vo W (h.below hbW) (Nat.le_trans hbase hbW.size) rt t.row.toNat (t.bot+1-t.row).toNat n.toNat (by omega) (by omega)
 rw [show ((t.row.toNat:Nat):Int)=t.row by omega,show t.row+((t.bot+1-t.row).toNat:Int)-1=t.bot by omega,show ((n.toNat:Nat):Int)=n by omega] at hru
 have hd:=(bdr w).trans ((bdr w.drew).mono (bdr w).size);obtain ⟨pa,pc,rfl⟩:=hp.shp;clear h hbase rt hp hl en hn b1 b2 b3 r1 r2 hin;go_enter Tryz.func193,Tryz.ntmps193;go_wp2_with fail;refine hwm.mono ?_;rintro e wk ⟨rfl,hw1⟩;subst hw1;go_wp2;refine wp_region_noPanic ?_;refine wp_region_held_drew (S:=(fun W=>W.cell? ⟨B,10,none⟩=some (.int .i64 t.row)/\W.cell? ⟨B,18,none⟩=some (.int .i64 t.bot))) (by kernel_rfl) (cf _ hd) (fun Hh=>?_);refine tK 0 ?_;refine tK 1 ?_;refine tK 2 ?_;refine tK 3 ?_;refine tK 4 ?_;refine tK 5 ?_;refine tK 6 ?_;refine tK 7 ?_;refine tK 8 ?_;refine tK 9 ?_;refine tK 10 ?_;refine tk 11 ?_;refine rd 12 fun K hK=>?_
 go_simp;refine (hc1 _ hd).mono ?_;rintro e wk ⟨rfl,hw1⟩;subst hw1;go_wp2_with fail;refine hK.out _ _ (cf _ hd) (fun Hh=>?_);clear hK K;refine rd 13 fun K hK=>?_
 go_simp;refine (hru _ hd).mono ?_;rintro e w2 ⟨rfl,v2,g2,o2,hR⟩;go_wp2_with fail;refine hK.out _ _ (cr _ _ _ _ _ hR) (fun Hh=>?_);clear hK K
 (try simp only [Act.put,ZA,ZB,ZC,ZD,ZE,ZF])
 refine dn ?_;have k3:=(hof _ hd).trans hR;have hP:=k3.s.put (sCg B [.int .i64 0] 11 w2) { XH t t.row t.bot (-n) with col:=0 } (sCh B 98 [.int .i64 0] 11 w2 _ k3.s.b) rfl rfl rfl rfl rfl;have c11:w2.cell? ⟨B,11,none⟩=some (.int .i64 t.col):=k3.s.cell 11;have z11:=k3.s.frozen 11;have hF:=(show Hid _ from k3.trans hP);clear k3 hP hR;go_wp2;refine be ?_;exact ⟨rfl,_,_,_,hF.out⟩
theorem XbU (cn N base B:Nat) (x0 x1 x2 x3 x4 x5 pv:Value) (ps:List Int) (t:Te) (v:Tv) (vg vo:List Value) (w:World) (h:Scr w 98 base B [x0,x1,x2,x3,x4,x5] t v vg vo) (hbase:base<=w.heap.size) (rt:RtW t cn N) (hp:SlN w pv ps) (hl:ps.length<=1000) (n:Int) (en:Hid (Xa ps 0 1=n)) (hn:0<=n/\n<=9999) :
  Calls Tryz.prog 194 #[.pointer (some ⟨B,0,none⟩),pv] w fun e w'=>e=.returned (.tuple #[])/\∃ v' vg' vo',Res w w' 98 base B [x0,x1,x2,x3,x4,x5] v vg vo (if t.top<=t.row/\t.row<=t.bot then { XH t t.row t.bot n with col:=0 } else t) v' vg' vo':=by
 obtain ⟨b1,b2,b3⟩:=rt.tb;obtain ⟨r1,r2⟩:=rt.row;have hwm:=KU base B x0 x1 x2 x3 x4 x5 t v vg vo w h;have hof:=fun W (hbW:Below w.heap.size w W)=>Res.of_below h hbW
 by_cases hin:t.top<=t.row/\t.row<=t.bot
 case neg =>
  rw [if_neg hin]
  rw [decide_eq_false hin] at hwm
  have hof:=hof _ (bdr w);obtain ⟨pa,pc,rfl⟩:=hp.shp;clear h hbase rt hp hl en hn b1 b2 b3 r1 r2 hin;go_enter Tryz.func194,Tryz.ntmps194;go_wp2_with fail;refine hwm.mono ?_;rintro e wk ⟨rfl,hw1⟩;subst hw1;go_wp2;refine be ?_;exact ⟨rfl,_,_,_,hof⟩
 rw [if_pos hin]
 rw [decide_eq_true hin] at hwm
 have cf:∀ W,Below w.heap.size w W->W.cell? ⟨B,10,none⟩=some (.int .i64 t.row)/\W.cell? ⟨B,18,none⟩=some (.int .i64 t.bot):=fun W hb=>⟨(h.below hb).cell 10,(h.below hb).cell 18⟩
 have cr:∀ W W2 v2 g2 o2,Res W W2 98 base B [x0,x1,x2,x3,x4,x5] v vg vo (XH t t.row t.bot n) v2 g2 o2->W2.cell? ⟨B,10,none⟩=some (.int .i64 t.row)/\W2.cell? ⟨B,18,none⟩=some (.int .i64 t.bot):=fun W W2 v2 g2 o2 h=>⟨h.s.cell 10,h.s.cell 18⟩
 have hc1:=fun W (hbW:Below w.heap.size w W)=>X1 pv ps W (hp.below hbW) hl
 simp only [en.out] at hc1;have hru:=fun W (hbW:Below w.heap.size w W)=>Up cn N base B x0 x1 x2 x3 x4 x5 t v vg vo W (h.below hbW) (Nat.le_trans hbase hbW.size) rt t.row.toNat (t.bot+1-t.row).toNat n.toNat (by omega) (by omega)
 rw [show ((t.row.toNat:Nat):Int)=t.row by omega,show t.row+((t.bot+1-t.row).toNat:Int)-1=t.bot by omega,show ((n.toNat:Nat):Int)=n by omega] at hru
 have hd:=(bdr w).trans ((bdr w.drew).mono (bdr w).size);obtain ⟨pa,pc,rfl⟩:=hp.shp;clear h hbase rt hp hl en hn b1 b2 b3 r1 r2 hin;go_enter Tryz.func194,Tryz.ntmps194;go_wp2_with fail;refine hwm.mono ?_;rintro e wk ⟨rfl,hw1⟩;subst hw1;go_wp2;refine wp_region_noPanic ?_;refine wp_region_held_drew (S:=(fun W=>W.cell? ⟨B,10,none⟩=some (.int .i64 t.row)/\W.cell? ⟨B,18,none⟩=some (.int .i64 t.bot))) (by kernel_rfl) (cf _ hd) (fun Hh=>?_);refine tK 0 ?_;refine tK 1 ?_;refine tK 2 ?_;refine tK 3 ?_;refine tK 4 ?_;refine tK 5 ?_;refine tK 6 ?_;refine tK 7 ?_;refine tK 8 ?_;refine tK 9 ?_;refine tK 10 ?_;refine tk 11 ?_;refine rd 12 fun K hK=>?_
 go_simp;refine (hc1 _ hd).mono ?_;rintro e wk ⟨rfl,hw1⟩;subst hw1;go_wp2_with fail;refine hK.out _ _ (cf _ hd) (fun Hh=>?_);clear hK K;refine rd 13 fun K hK=>?_
 go_simp;refine (hru _ hd).mono ?_;rintro e w2 ⟨rfl,v2,g2,o2,hR⟩;go_wp2_with fail;refine hK.out _ _ (cr _ _ _ _ _ hR) (fun Hh=>?_);clear hK K
 (try simp only [Act.put,ZA,ZB,ZC,ZD,ZE,ZF])
 refine dn ?_;have k3:=(hof _ hd).trans hR;have hP:=k3.s.put (sCg B [.int .i64 0] 11 w2) { XH t t.row t.bot n with col:=0 } (sCh B 98 [.int .i64 0] 11 w2 _ k3.s.b) rfl rfl rfl rfl rfl;have c11:w2.cell? ⟨B,11,none⟩=some (.int .i64 t.col):=k3.s.cell 11;have z11:=k3.s.frozen 11;have hF:=(show Hid _ from k3.trans hP);clear k3 hP hR;go_wp2;refine be ?_;exact ⟨rfl,_,_,_,hF.out⟩
theorem XaG (cn N base B:Nat) (t:Te) (v:Tv) (vg vo:List Value) (w:World) (h:Scr w 35 base B [] t v vg vo) (hbase:base<=w.heap.size) (rt:RtW t cn N) (r:Int) (hr:r≠99) :
  Calls Tryz.prog 143 #[.pointer (some ⟨B,0,none⟩),.int .i64 r] w fun e w'=>e=.returned (.tuple #[])/\∃ v' vg' vo',Res w w' 35 base B [] v vg vo (X2 t r) v' vg' vo':=by
 have full:∀ (W1:World) (t1:Te) (b:Bool) (v1:Tv) (g1 o1:List Value),Scr W1 35 base B [] t1 v1 g1 o1->Res W1 (W1.setCell ⟨B,13,none⟩ (.bool b)) 35 base B [] v1 g1 o1 { t1 with full:=b } v1 g1 o1 :=
  fun W1 t1 b v1 g1 o1 h1=>h1.put (sCg B [.bool b] 13 W1) _ (sCh B 35 [.bool b] 13 W1 _ h1.b) rfl rfl rfl rfl rfl
 have c13:w.cell? ⟨B,13,none⟩=some (.bool t.full):=h.cell 13;have z13:w.frozen? ⟨B,13,none⟩=false:=h.frozen 13;have h1:=full w t false v vg vo h
 by_cases r68:r=68
 ·subst r68
  have hV:X2 t 68=Xm { t with full:=false }:=by rw [ZT];rfl
  rw [hV]
  have hfl:=YY cn N base B { t with full:=false } v vg vo _ h1.s (Nat.le_trans hbase h1.g.size) (rt.full false);clear h full rt hbase hV;replace h1:=(show Hid _ from h1);go_enter Tryz.func143,Tryz.ntmps143;go_wp2_with fail;refine hfl.mono ?_;rintro e w2 ⟨rfl,v2,g2,o2,hR2⟩;replace hR2:=(show Hid _ from h1.out.trans hR2);clear hfl h1;go_wp2;refine be ?_;exact ⟨rfl,_,_,_,hR2.out⟩
 by_cases r69:r=69
 ·subst r69
  have hV:X2 t 69={ Xm { t with full:=false } with col:=0 }:=by rw [ZT];rfl
  rw [hV]
  have hfl:=YY cn N base B { t with full:=false } v vg vo _ h1.s (Nat.le_trans hbase h1.g.size) (rt.full false);clear h full rt hbase hV;replace h1:=(show Hid _ from h1);go_enter Tryz.func143,Tryz.ntmps143;go_wp2_with fail;refine hfl.mono ?_;rintro e w2 ⟨rfl,v2,g2,o2,hR2⟩;have c5:w2.cell? ⟨B,5,none⟩=some (.int .i64 (Xm { t with full:=false }).col):=hR2.s.cell 5;have z5:w2.frozen? ⟨B,5,none⟩=false:=hR2.s.frozen 5;replace hR2:=(show Hid _ from h1.out.trans (hR2.trans (hR2.s.put (sCg B [.int .i64 0] 5 w2) { Xm { t with full:=false } with col:=0 } (sCh B 35 [.int .i64 0] 5 w2 _ hR2.s.b) rfl rfl rfl rfl rfl)));clear hfl h1;go_wp2;refine be ?_;exact ⟨rfl,_,_,_,hR2.out⟩
 by_cases r77:r=77
 ·subst r77
  have c4:w.cell? ⟨B,4,none⟩=some (.int .i64 t.row):=h.cell 4;have c11:w.cell? ⟨B,11,none⟩=some (.int .i64 t.top):=h.cell 11;have z4:w.frozen? ⟨B,4,none⟩=false:=h.frozen 4;obtain ⟨r1,r2⟩:=rt.row;obtain ⟨b1,b2,b3⟩:=rt.tb;have hn2:=rt.n1.2
  by_cases hb:t.row=t.top
  ·have hV:X2 t 77=XH { t with full:=false } t.top t.bot (-1):=by
    show (if t.row=t.top then _ else _)=_
    rw [if_pos hb];rfl
   rw [hV]
   obtain ⟨w1,hw1⟩:∃ w1,w1=w.setCell ⟨B,13,none⟩ (.bool false):=⟨_,rfl⟩;have h1':Res w w1 35 base B [] v vg vo { t with full:=false } v vg vo:=by rw [hw1];exact h1
   have hs1:=h1'.s;have hbase1:base<=w1.heap.size:=Nat.le_trans hbase h1'.g.size;have rt1:=rt.full false;have hmv:=fun W (hbW:Below w1.heap.size w1 W)=>Kr cn N base B { t with full:=false } v vg vo W (hs1.below hbW) (Nat.le_trans hbase1 hbW.size) rt1 t.top.toNat t.bot.toNat (-1) (by omega) (by omega) (by omega)
   rw [show ((t.top.toNat:Nat):Int)=t.top by omega,show ((t.bot.toNat:Nat):Int)=t.bot by omega] at hmv
   have hc:∀ W,Below w1.heap.size w1 W->(W.cell? ⟨B,4,none⟩=some (.int .i64 t.top)/\W.cell? ⟨B,11,none⟩=some (.int .i64 t.top)/\W.cell? ⟨B,12,none⟩=some (.int .i64 t.bot)/\W.cell? ⟨B,7,none⟩=some (.int .i64 t.st.back)):=fun W hbb=>⟨by rw [<- hb];exact (hs1.below hbb).cell 4,(hs1.below hbb).cell 11,(hs1.below hbb).cell 12,(hs1.below hbb).cell 7⟩
   have hlt:=hs1.lt;have hbk:=fun W (hbW:Below w1.heap.size w1 W)=>YX B t.st W (hc W hbW).2.2.2 (Nat.lt_of_lt_of_le hlt hbW.size)
   unfold stV at hmv hbk;have hof:=fun W (hbW:Below w1.heap.size w1 W)=>h1'.trans (Res.of_below hs1 hbW)
   obtain ⟨e4,e11,e12,e7⟩:=hc _ (Below.refl _ _);have hd:=bdr w1;obtain ⟨d4,d11,d12,d7⟩:=hc _ hd;have hd2:=hd.trans ((bdr w1.drew).mono hd.size);have d9:=hc _ hd2;replace hw1:=(show Hid _ from hw1);clear rt hbase r1 r2 b1 b2 b3 hn2 hV h hlt full h1 hs1 hbase1 rt1 h1' hb;go_enter Tryz.func143,Tryz.ntmps143;refine wp_seq_k (fun K0 hK0=>?_);have hH:=(show Hid _ from hK0);clear hK0;go_wp2;refine hH.out _ _ ?_;clear hH;refine wp_seq_k (fun K0 hK0=>?_);have hH:=(show Hid _ from hK0);clear hK0;go_wp2;refine hH.out _ _ ?_;rw [<- hw1.out]
   clear hH hw1 c4 c11 z4 c13 z13;go_wp2;go_region;go_wp2;obtain ⟨g4,g11,g12,g7⟩:=d9;refine wp_region_noPanic ?_;refine wp_region_held_drew (S:=(fun _=>True)) (by kernel_rfl) (trivial) (fun Hh=>?_);refine tK 0 ?_;refine tK 1 ?_;refine tK 2 ?_;refine tK 3 ?_;refine tK 4 ?_;refine tK 5 ?_;refine tK 7 ?_;refine tK 8 ?_;refine tK 9 ?_;refine tk 11 ?_;simp only [Act.put,ZA,ZB,ZC,ZD,ZE,ZF];refine wpAnyH_ready (rs:=[6,10,12]) (by kernel_rfl) (by simp) (AllReadyH.cons rfl (fun K hK=>?_) (AllReadyH.cons rfl (fun K hK=>?_) (AllReadyH.cons rfl (fun K hK=>?_) AllReadyH.nil)))
   ·go_simp
    refine hK.out _ _ (trivial) (fun Hh=>?_);clear hK K;refine rd2 10 12 (fun K hK=>?_) fun K hK=>?_
    ·go_simp
     refine hK.out _ _ (trivial) (fun Hh=>?_);clear hK K;refine rd 12 fun K hK=>?_
     go_simp;refine (hbk _ hd2).mono ?_;rintro e wk ⟨rfl,hb⟩;have hd3:=hd2.trans (hb.mono hd2.size);obtain ⟨k4,k11,k12,k7⟩:=hc _ hd3;unfold Xn;go_wp2_with fail;refine hK.out _ _ (trivial) (fun Hh=>?_);clear hK K;refine rd 13 fun K hK=>?_
     go_simp;refine (hmv _ hd3).mono ?_;rintro e w2 ⟨rfl,vg2,hR⟩;go_wp2_with fail;refine hK.out _ _ (trivial) (fun Hh=>?_);clear hK K
     (try simp only [Act.put,ZA,ZB,ZC,ZD,ZE,ZF])
     refine dn ?_;go_wp2;refine be ?_;exact ⟨rfl,_,_,_,(hof _ hd3).trans hR⟩
    ·go_simp
     refine (hbk _ hd2).mono ?_;rintro e wk ⟨rfl,hb⟩;have hd3:=hd2.trans (hb.mono hd2.size);obtain ⟨k4,k11,k12,k7⟩:=hc _ hd3;unfold Xn;go_wp2_with fail;refine hK.out _ _ (trivial) (fun Hh=>?_);clear hK K;refine rd 10 fun K hK=>?_
     go_simp;refine hK.out _ _ (trivial) (fun Hh=>?_);clear hK K;refine rd 13 fun K hK=>?_
     go_simp;refine (hmv _ hd3).mono ?_;rintro e w2 ⟨rfl,vg2,hR⟩;go_wp2_with fail;refine hK.out _ _ (trivial) (fun Hh=>?_);clear hK K
     (try simp only [Act.put,ZA,ZB,ZC,ZD,ZE,ZF])
     refine dn ?_;go_wp2;refine be ?_;exact ⟨rfl,_,_,_,(hof _ hd3).trans hR⟩
   ·go_simp
    refine hK.out _ _ (trivial) (fun Hh=>?_);clear hK K;refine rd2 6 12 (fun K hK=>?_) fun K hK=>?_
    ·go_simp
     refine hK.out _ _ (trivial) (fun Hh=>?_);clear hK K;refine rd 12 fun K hK=>?_
     go_simp;refine (hbk _ hd2).mono ?_;rintro e wk ⟨rfl,hb⟩;have hd3:=hd2.trans (hb.mono hd2.size);obtain ⟨k4,k11,k12,k7⟩:=hc _ hd3;unfold Xn;go_wp2_with fail;refine hK.out _ _ (trivial) (fun Hh=>?_);clear hK K;refine rd 13 fun K hK=>?_
     go_simp;refine (hmv _ hd3).mono ?_;rintro e w2 ⟨rfl,vg2,hR⟩;go_wp2_with fail;refine hK.out _ _ (trivial) (fun Hh=>?_);clear hK K
     (try simp only [Act.put,ZA,ZB,ZC,ZD,ZE,ZF])
     refine dn ?_;go_wp2;refine be ?_;exact ⟨rfl,_,_,_,(hof _ hd3).trans hR⟩
    ·go_simp
     refine (hbk _ hd2).mono ?_;rintro e wk ⟨rfl,hb⟩;have hd3:=hd2.trans (hb.mono hd2.size);obtain ⟨k4,k11,k12,k7⟩:=hc _ hd3;unfold Xn;go_wp2_with fail;refine hK.out _ _ (trivial) (fun Hh=>?_);clear hK K;refine rd 6 fun K hK=>?_
     go_simp;refine hK.out _ _ (trivial) (fun Hh=>?_);clear hK K;refine rd 13 fun K hK=>?_
     go_simp;refine (hmv _ hd3).mono ?_;rintro e w2 ⟨rfl,vg2,hR⟩;go_wp2_with fail;refine hK.out _ _ (trivial) (fun Hh=>?_);clear hK K
     (try simp only [Act.put,ZA,ZB,ZC,ZD,ZE,ZF])
     refine dn ?_;go_wp2;refine be ?_;exact ⟨rfl,_,_,_,(hof _ hd3).trans hR⟩
   ·go_simp
    refine (hbk _ hd2).mono ?_;rintro e wk ⟨rfl,hb⟩;have hd3:=hd2.trans (hb.mono hd2.size);obtain ⟨k4,k11,k12,k7⟩:=hc _ hd3;unfold Xn;go_wp2_with fail;refine hK.out _ _ (trivial) (fun Hh=>?_);clear hK K;refine rd2 6 10 (fun K hK=>?_) fun K hK=>?_
    ·go_simp
     refine hK.out _ _ (trivial) (fun Hh=>?_);clear hK K;refine rd 10 fun K hK=>?_
     go_simp;refine hK.out _ _ (trivial) (fun Hh=>?_);clear hK K;refine rd 13 fun K hK=>?_
     go_simp;refine (hmv _ hd3).mono ?_;rintro e w2 ⟨rfl,vg2,hR⟩;go_wp2_with fail;refine hK.out _ _ (trivial) (fun Hh=>?_);clear hK K
     (try simp only [Act.put,ZA,ZB,ZC,ZD,ZE,ZF])
     refine dn ?_;go_wp2;refine be ?_;exact ⟨rfl,_,_,_,(hof _ hd3).trans hR⟩
    ·go_simp
     refine hK.out _ _ (trivial) (fun Hh=>?_);clear hK K;refine rd 6 fun K hK=>?_
     go_simp;refine hK.out _ _ (trivial) (fun Hh=>?_);clear hK K;refine rd 13 fun K hK=>?_
     go_simp;refine (hmv _ hd3).mono ?_;rintro e w2 ⟨rfl,vg2,hR⟩;go_wp2_with fail;refine hK.out _ _ (trivial) (fun Hh=>?_);clear hK K
     (try simp only [Act.put,ZA,ZB,ZC,ZD,ZE,ZF])
     refine dn ?_;go_wp2;refine be ?_;exact ⟨rfl,_,_,_,(hof _ hd3).trans hR⟩
  ·obtain ⟨q,hq⟩:∃ q,Hid (max 0 (t.row-1)=q):=⟨_,rfl⟩
   have hV:X2 t 77={ ({ t with full:=false }:Te) with row:=q }:=by
    show (if t.row=t.top then _ else _)=_
    rw [if_neg hb,<- hq.out]
   rw [hV]
   have hqr:(t.row==t.top)=false:=by simp [hb]
   have hw:IntKind.i64.wrap (t.row-1)=t.row-1:=by simp [IntKind.wrap,IntKind.bits,IntKind.signed];omega
   have hmx:=fun W=>Uj 0 (t.row-1) W
   rw [hq.out] at hmx
   have hR:=(show Hid _ from (h1.trans (h1.s.put (sCg B [.int .i64 q] 4 _) { ({ t with full:=false }:Te) with row:=q } (sCh B 35 [.int .i64 q] 4 _ _ h1.s.b) rfl rfl rfl rfl rfl)).below (bdr _));clear h full rt hbase h1 hV b1 b2 b3 r2 hb;go_enter Tryz.func143,Tryz.ntmps143;go_wp2;go_region;go_wp2_with fail;refine (hmx _).mono ?_;rintro e wk ⟨rfl,hw1⟩;subst hw1;go_wp2;refine be ?_;exact ⟨rfl,_,_,_,hR.out⟩
 by_cases r55:r=55
 ·subst r55
  have hV:X2 t 55={ ({ t with full:=false }:Te) with sr:=t.row,sc:=t.col,ss:=t.st }:=rfl;rw [hV]
  have p1:=h1.s.put (sCg B [.int .i64 t.row] 17 _) ({ ({ t with full:=false }:Te) with sr:=t.row }) (sCh B 35 [.int .i64 t.row] 17 _ _ h1.s.b) rfl rfl rfl rfl rfl;have p2:=p1.s.put (sCg B [.int .i64 t.col] 18 _) ({ ({ t with full:=false }:Te) with sr:=t.row,sc:=t.col }) (sCh B 35 [.int .i64 t.col] 18 _ _ p1.s.b) rfl rfl rfl rfl rfl;have p3:=p2.s.put (sCg B [.int .i64 t.st.fore,.int .i64 t.st.back,.bool t.st.bold,.bool t.st.under,.bool t.st.turned] 19 _) ({ ({ t with full:=false }:Te) with sr:=t.row,sc:=t.col,ss:=t.st }) (sCh B 35 [.int .i64 t.st.fore,.int .i64 t.st.back,.bool t.st.bold,.bool t.st.under,.bool t.st.turned] 19 _ _ p2.s.b) rfl rfl rfl rfl rfl;have hR:=(show Hid _ from ((h1.trans p1).trans p2).trans p3);have c4:w.cell? ⟨B,4,none⟩=some (.int .i64 t.row):=h.cell 4;have c5:w.cell? ⟨B,5,none⟩=some (.int .i64 t.col):=h.cell 5;have c6:w.cell? ⟨B,6,none⟩=some (.int .i64 t.st.fore):=h.cell 6;have c7:w.cell? ⟨B,7,none⟩=some (.int .i64 t.st.back):=h.cell 7;have c8:w.cell? ⟨B,8,none⟩=some (.bool t.st.bold):=h.cell 8;have c9:w.cell? ⟨B,9,none⟩=some (.bool t.st.under):=h.cell 9;have c10:w.cell? ⟨B,10,none⟩=some (.bool t.st.turned):=h.cell 10;have c17:w.cell? ⟨B,17,none⟩=some (.int .i64 t.sr):=h.cell 17;have c18:w.cell? ⟨B,18,none⟩=some (.int .i64 t.sc):=h.cell 18;have c19:w.cell? ⟨B,19,none⟩=some (.int .i64 t.ss.fore):=h.cell 19;have c20:w.cell? ⟨B,20,none⟩=some (.int .i64 t.ss.back):=h.cell 20;have c21:w.cell? ⟨B,21,none⟩=some (.bool t.ss.bold):=h.cell 21;have c22:w.cell? ⟨B,22,none⟩=some (.bool t.ss.under):=h.cell 22;have c23:w.cell? ⟨B,23,none⟩=some (.bool t.ss.turned):=h.cell 23;have z17:w.frozen? ⟨B,17,none⟩=false:=h.frozen 17;have z18:w.frozen? ⟨B,18,none⟩=false:=h.frozen 18;have z19:w.frozen? ⟨B,19,none⟩=false:=h.frozen 19;have z20:w.frozen? ⟨B,20,none⟩=false:=h.frozen 20;have z21:w.frozen? ⟨B,21,none⟩=false:=h.frozen 21;have z22:w.frozen? ⟨B,22,none⟩=false:=h.frozen 22;have z23:w.frozen? ⟨B,23,none⟩=false:=h.frozen 23;clear h full rt hbase h1 hV p1 p2 p3;go_enter Tryz.func143,Tryz.ntmps143;go_wp2;refine be ?_;exact ⟨rfl,_,_,_,hR.out⟩
 by_cases r56:r=56
 ·subst r56
  have hV:X2 t 56={ ({ t with full:=false }:Te) with row:=t.sr,col:=t.sc,st:=t.ss }:=rfl;rw [hV]
  have p1:=h1.s.put (sCg B [.int .i64 t.sr] 4 _) ({ ({ t with full:=false }:Te) with row:=t.sr }) (sCh B 35 [.int .i64 t.sr] 4 _ _ h1.s.b) rfl rfl rfl rfl rfl;have p2:=p1.s.put (sCg B [.int .i64 t.sc] 5 _) ({ ({ t with full:=false }:Te) with row:=t.sr,col:=t.sc }) (sCh B 35 [.int .i64 t.sc] 5 _ _ p1.s.b) rfl rfl rfl rfl rfl;have p3:=p2.s.put (sCg B [.int .i64 t.ss.fore,.int .i64 t.ss.back,.bool t.ss.bold,.bool t.ss.under,.bool t.ss.turned] 6 _) ({ ({ t with full:=false }:Te) with row:=t.sr,col:=t.sc,st:=t.ss }) (sCh B 35 [.int .i64 t.ss.fore,.int .i64 t.ss.back,.bool t.ss.bold,.bool t.ss.under,.bool t.ss.turned] 6 _ _ p2.s.b) rfl rfl rfl rfl rfl;have hR:=(show Hid _ from ((h1.trans p1).trans p2).trans p3);have c4:w.cell? ⟨B,4,none⟩=some (.int .i64 t.row):=h.cell 4;have c5:w.cell? ⟨B,5,none⟩=some (.int .i64 t.col):=h.cell 5;have c6:w.cell? ⟨B,6,none⟩=some (.int .i64 t.st.fore):=h.cell 6;have c7:w.cell? ⟨B,7,none⟩=some (.int .i64 t.st.back):=h.cell 7;have c8:w.cell? ⟨B,8,none⟩=some (.bool t.st.bold):=h.cell 8;have c9:w.cell? ⟨B,9,none⟩=some (.bool t.st.under):=h.cell 9;have c10:w.cell? ⟨B,10,none⟩=some (.bool t.st.turned):=h.cell 10;have c17:w.cell? ⟨B,17,none⟩=some (.int .i64 t.sr):=h.cell 17;have c18:w.cell? ⟨B,18,none⟩=some (.int .i64 t.sc):=h.cell 18;have c19:w.cell? ⟨B,19,none⟩=some (.int .i64 t.ss.fore):=h.cell 19;have c20:w.cell? ⟨B,20,none⟩=some (.int .i64 t.ss.back):=h.cell 20;have c21:w.cell? ⟨B,21,none⟩=some (.bool t.ss.bold):=h.cell 21;have c22:w.cell? ⟨B,22,none⟩=some (.bool t.ss.under):=h.cell 22;have c23:w.cell? ⟨B,23,none⟩=some (.bool t.ss.turned):=h.cell 23;have z4:w.frozen? ⟨B,4,none⟩=false:=h.frozen 4;have z5:w.frozen? ⟨B,5,none⟩=false:=h.frozen 5;have z6:w.frozen? ⟨B,6,none⟩=false:=h.frozen 6;have z7:w.frozen? ⟨B,7,none⟩=false:=h.frozen 7;have z8:w.frozen? ⟨B,8,none⟩=false:=h.frozen 8;have z9:w.frozen? ⟨B,9,none⟩=false:=h.frozen 9;have z10:w.frozen? ⟨B,10,none⟩=false:=h.frozen 10;clear h full rt hbase h1 hV p1 p2 p3;go_enter Tryz.func143,Tryz.ntmps143;go_wp2;refine be ?_;exact ⟨rfl,_,_,_,hR.out⟩
 have hV:X2 t r=t:=by unfold X2;rw [if_neg r68,if_neg r69,if_neg r77,if_neg r55,if_neg r56,if_neg hr]
 rw [hV]
 have q68:(r==68)=false:=by simp [r68]
 have q69:(r==69)=false:=by simp [r69]
 have q77:(r==77)=false:=by simp [r77]
 have q55:(r==55)=false:=by simp [r55]
 have q56:(r==56)=false:=by simp [r56]
 have q99:(r==99)=false:=by simp [hr]
 have hR:=(show Hid _ from h1.trans (full _ _ t.full _ _ _ h1.s));clear h full rt hbase h1 hV r68 r69 r77 r55 r56 hr;go_enter Tryz.func143,Tryz.ntmps143;go_wp2;refine be ?_;exact ⟨rfl,_,_,_,hR.out⟩
