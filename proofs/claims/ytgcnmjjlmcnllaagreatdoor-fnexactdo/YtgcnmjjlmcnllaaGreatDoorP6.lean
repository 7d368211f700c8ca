/- Parts of the proof. -/
import Derived.Test.YtgcnmjjlmcnllaaGreatDoorP5
import Derived.Deep.RegionHeld3
import Derived.Laws.AppendOwnNone
namespace Go.Proofs.YtgcnmjjlmcnllaaGreatDoor
set_option maxRecDepth 20000
set_option maxHeartbeats 16000000
open Go.ChangeShapes Go.WideShapes Go.ChangeAt Go.RowKit
theorem goUp_any (cn N base B:Nat) (x0 x1 x2 x3 x4 x5 pv:Value) (ps:List Int) (t:Te) (v:Tv) (vg vo:List Value) (w:World) (h:Scr w 98 base B [x0,x1,x2,x3,x4,x5] t v vg vo) (rt:RtW t cn N) (hp:SlN w pv ps) (hl:ps.length<=1000) (hn:0<=parN ps 0 1/\parN ps 0 1<=9999) :
  Calls Tryz.prog 183 #[.pointer (some ⟨B,0,none⟩),pv] w fun e w'=>e=.returned (.tuple #[])/\∃ v' vg' vo',Res w w' 98 base B [x0,x1,x2,x3,x4,x5] v vg vo { t with row:=max (if t.top<=t.row then t.top else 0) (t.row-parN ps 0 1) } v' vg' vo':=by
 have c10:w.cell? ⟨B,10,none⟩=some (.int .i64 t.row):=h.cell 10;have c17:w.cell? ⟨B,17,none⟩=some (.int .i64 t.top):=h.cell 17;have z10:w.frozen? ⟨B,10,none⟩=false:=h.frozen 10;obtain ⟨r1,r2⟩:=rt.row;obtain ⟨b1,b2,b3⟩:=rt.tb;have hn2:=rt.n1.2;have hco:=fun W hb=>countOf_any pv ps W (hp.below hb) hl
 obtain ⟨pa,pc,rfl⟩:=hp.shp;obtain ⟨n,en⟩:∃ n,Hid (parN ps 0 1=n):=⟨_,rfl⟩;simp only [en.out] at hco hn ⊢
 have hd:Below w.heap.size w w.drew.drew:=(bdr w).trans ((bdr w.drew).mono (bdr w).size);have hc1:=hco _ hd;have hw:IntKind.i64.wrap (t.row-n)=t.row-n:=by simp [IntKind.wrap,IntKind.bits,IntKind.signed];omega
 have hput:=fun (q:Int)=>(show Hid (Res w (w.setCell ⟨B,10,none⟩ (.int .i64 q)).drew.drew 98 base B [x0,x1,x2,x3,x4,x5] v vg vo { t with row:=q } v vg vo) from
  Res.below (Res.below (h.put (sCg B [.int .i64 q] 10 w) _ (sCh B 98 [.int .i64 q] 10 w _ h.b) rfl rfl rfl rfl rfl) (bdr _)) (bdr _))
 by_cases hb:t.top<=t.row
 ·rw [if_pos hb]
  obtain ⟨q,e⟩:∃ q,Hid (max t.top (t.row-n)=q):=⟨_,rfl⟩;rw [e.out]
  have hmx:max (t.row-n) t.top=q:=by have:=e.out;omega
  have hR:=hput q;have hb2:decide (t.top<=t.row)=true:=decide_eq_true hb;clear hput h rt hp hco hd hn hn2 b1 b2 b3 r1 r2 hl;go_enter Tryz.func183,Tryz.ntmps183;go_wp2;go_region;go_wp2;refine wp_region_noPanic ?_;refine wp_region_held_drew (S:=(fun _=>True)) (by kernel_rfl) (trivial) (fun hHeld=>?_);refine tk 0 ?_;refine tk 1 ?_;refine tk 2 ?_;refine tk 3 ?_;refine tk 4 ?_;refine tk 6 ?_;refine tk 9 ?_;refine rd2 5 7 (fun K hK=>?_) fun K hK=>?_
  ·go_simp
   refine hK.out _ _ (trivial) (fun hHeld=>?_);clear hK K;refine rd 7 fun K hK=>?_
   go_simp;refine hc1.mono ?_;rintro e wk ⟨rfl,hw1⟩;subst hw1;go_wp2_with fail;refine hK.out _ _ (trivial) (fun hHeld=>?_);clear hK K;refine tk 8 ?_;refine tk 10 ?_;refine tk 11 ?_;refine tk 12 ?_;refine tk 13 ?_;refine rd 14 fun K hK=>?_
   go_simp;refine hK.out _ _ (trivial) (fun hHeld=>?_);clear hK K
   (try simp only [Act.put,ZA,ZB,ZC,ZD,ZE,ZF])
   refine dn ?_;go_wp2;refine be ?_;exact ⟨rfl,_,_,_,hR.out⟩
  ·go_simp
   refine hc1.mono ?_;rintro e wk ⟨rfl,hw1⟩;subst hw1;go_wp2_with fail;refine hK.out _ _ (trivial) (fun hHeld=>?_);clear hK K;refine rd 5 fun K hK=>?_
   go_simp;refine hK.out _ _ (trivial) (fun hHeld=>?_);clear hK K;refine tk 8 ?_;refine tk 10 ?_;refine tk 11 ?_;refine tk 12 ?_;refine tk 13 ?_;refine rd 14 fun K hK=>?_
   go_simp;refine hK.out _ _ (trivial) (fun hHeld=>?_);clear hK K
   (try simp only [Act.put,ZA,ZB,ZC,ZD,ZE,ZF])
   refine dn ?_;go_wp2;refine be ?_;exact ⟨rfl,_,_,_,hR.out⟩
 ·rw [if_neg hb]
  obtain ⟨q,e⟩:∃ q,Hid (max 0 (t.row-n)=q):=⟨_,rfl⟩;rw [e.out]
  have hmx:max (t.row-n) 0=q:=by have:=e.out;omega
  have hR:=hput q;have hb2:decide (t.top<=t.row)=false:=decide_eq_false hb;clear hput h rt hp hco hd hn hn2 b1 b2 b3 r1 r2 hl;go_enter Tryz.func183,Tryz.ntmps183;go_wp2;go_region;go_wp2;refine wp_region_noPanic ?_;refine wp_region_held_drew (S:=(fun _=>True)) (by kernel_rfl) (trivial) (fun hHeld=>?_);refine tk 0 ?_;refine tk 1 ?_;refine tk 2 ?_;refine tk 3 ?_;refine tk 4 ?_;refine tk 6 ?_;refine tk 9 ?_;refine rd2 5 7 (fun K hK=>?_) fun K hK=>?_
  ·go_simp
   refine hK.out _ _ (trivial) (fun hHeld=>?_);clear hK K;refine rd 7 fun K hK=>?_
   go_simp;refine hc1.mono ?_;rintro e wk ⟨rfl,hw1⟩;subst hw1;go_wp2_with fail;refine hK.out _ _ (trivial) (fun hHeld=>?_);clear hK K;refine tk 8 ?_;refine tk 10 ?_;refine tk 11 ?_;refine tk 12 ?_;refine tk 13 ?_;refine rd 14 fun K hK=>?_
   go_simp;refine hK.out _ _ (trivial) (fun hHeld=>?_);clear hK K
   (try simp only [Act.put,ZA,ZB,ZC,ZD,ZE,ZF])
   refine dn ?_;go_wp2;refine be ?_;exact ⟨rfl,_,_,_,hR.out⟩
  ·go_simp
   refine hc1.mono ?_;rintro e wk ⟨rfl,hw1⟩;subst hw1;go_wp2_with fail;refine hK.out _ _ (trivial) (fun hHeld=>?_);clear hK K;refine rd 5 fun K hK=>?_
   go_simp;refine hK.out _ _ (trivial) (fun hHeld=>?_);clear hK K;refine tk 8 ?_;refine tk 10 ?_;refine tk 11 ?_;refine tk 12 ?_;refine tk 13 ?_;refine rd 14 fun K hK=>?_
   go_simp;refine hK.out _ _ (trivial) (fun hHeld=>?_);clear hK K
   (try simp only [Act.put,ZA,ZB,ZC,ZD,ZE,ZF])
   refine dn ?_;go_wp2;refine be ?_;exact ⟨rfl,_,_,_,hR.out⟩
theorem goDown_any (cn N base B:Nat) (x0 x1 x2 x3 x4 x5 pv:Value) (ps:List Int) (t:Te) (v:Tv) (vg vo:List Value) (w:World) (h:Scr w 98 base B [x0,x1,x2,x3,x4,x5] t v vg vo) (rt:RtW t cn N) (hp:SlN w pv ps) (hl:ps.length<=1000) (hn:0<=parN ps 0 1/\parN ps 0 1<=9999) :
  Calls Tryz.prog 184 #[.pointer (some ⟨B,0,none⟩),pv] w fun e w'=>e=.returned (.tuple #[])/\∃ v' vg' vo',Res w w' 98 base B [x0,x1,x2,x3,x4,x5] v vg vo { t with row:=min (if t.row<=t.bot then t.bot else (t.g.length:Int)-1) (t.row+parN ps 0 1) } v' vg' vo':=by
 have c10:w.cell? ⟨B,10,none⟩=some (.int .i64 t.row):=h.cell 10;have c17:w.cell? ⟨B,18,none⟩=some (.int .i64 t.bot):=h.cell 18;have z10:w.frozen? ⟨B,10,none⟩=false:=h.frozen 10;obtain ⟨r1,r2⟩:=rt.row;obtain ⟨b1,b2,b3⟩:=rt.tb;have hn2:=rt.n1.2
 obtain ⟨ga,gc,hvg⟩:∃ a c,v.g=.slice a N c:=by
  obtain ⟨a,c,e⟩:=slG_shp (SlG.of_own h.o.1.g);rw [rt.n] at e
  exact ⟨a,c,e⟩
 have hla:=lastRow_any B ga N gc w (by rw [h.cell 7];show some v.g=_;rw [hvg]) (by omega);clear hvg;have hco:=fun W hb=>countOf_any pv ps W (hp.below hb) hl
 obtain ⟨pa,pc,rfl⟩:=hp.shp;obtain ⟨n,en⟩:∃ n,Hid (parN ps 0 1=n):=⟨_,rfl⟩;simp only [en.out] at hco hn ⊢
 have hd:Below w.heap.size w w.drew.drew:=(bdr w).trans ((bdr w.drew).mono (bdr w).size);have hc1:=hco _ hd;have hw:IntKind.i64.wrap (t.row+n)=t.row+n:=by simp [IntKind.wrap,IntKind.bits,IntKind.signed];omega
 have hput:=fun (q:Int)=>(show Hid (Res w (w.setCell ⟨B,10,none⟩ (.int .i64 q)).drew.drew 98 base B [x0,x1,x2,x3,x4,x5] v vg vo { t with row:=q } v vg vo) from
  Res.below (Res.below (h.put (sCg B [.int .i64 q] 10 w) _ (sCh B 98 [.int .i64 q] 10 w _ h.b) rfl rfl rfl rfl rfl) (bdr _)) (bdr _))
 by_cases hb:t.row<=t.bot
 ·rw [if_pos hb]
  obtain ⟨q,e⟩:∃ q,Hid (min t.bot (t.row+n)=q):=⟨_,rfl⟩;rw [e.out]
  have hmx:min (t.row+n) t.bot=q:=by have:=e.out;omega
  have hR:=hput q;have hb2:decide (t.row<=t.bot)=true:=decide_eq_true hb;clear hput h rt hp hco hd hn hn2 b1 b2 b3 r1 r2 hl;go_enter Tryz.func184,Tryz.ntmps184;go_wp2_with fail;refine hla.mono ?_;rintro e wk ⟨rfl,hw1⟩;subst hw1;go_wp2;go_region;go_wp2;refine wp_region_noPanic ?_;refine wp_region_held_drew (S:=(fun _=>True)) (by kernel_rfl) (trivial) (fun hHeld=>?_);refine tk 0 ?_;refine tk 1 ?_;refine tk 2 ?_;refine tk 3 ?_;refine tk 4 ?_;refine tk 6 ?_;refine tk 9 ?_;refine rd2 5 7 (fun K hK=>?_) fun K hK=>?_
  ·go_simp
   refine hK.out _ _ (trivial) (fun hHeld=>?_);clear hK K;refine rd 7 fun K hK=>?_
   go_simp;refine hc1.mono ?_;rintro e wk ⟨rfl,hw1⟩;subst hw1;go_wp2_with fail;refine hK.out _ _ (trivial) (fun hHeld=>?_);clear hK K;refine tk 8 ?_;refine tk 10 ?_;refine tk 11 ?_;refine tk 12 ?_;refine tk 13 ?_;refine rd 14 fun K hK=>?_
   go_simp;refine hK.out _ _ (trivial) (fun hHeld=>?_);clear hK K
   (try simp only [Act.put,ZA,ZB,ZC,ZD,ZE,ZF])
   refine dn ?_;go_wp2;refine be ?_;exact ⟨rfl,_,_,_,hR.out⟩
  ·go_simp
   refine hc1.mono ?_;rintro e wk ⟨rfl,hw1⟩;subst hw1;go_wp2_with fail;refine hK.out _ _ (trivial) (fun hHeld=>?_);clear hK K;refine rd 5 fun K hK=>?_
   go_simp;refine hK.out _ _ (trivial) (fun hHeld=>?_);clear hK K;refine tk 8 ?_;refine tk 10 ?_;refine tk 11 ?_;refine tk 12 ?_;refine tk 13 ?_;refine rd 14 fun K hK=>?_
   go_simp;refine hK.out _ _ (trivial) (fun hHeld=>?_);clear hK K
   (try simp only [Act.put,ZA,ZB,ZC,ZD,ZE,ZF])
   refine dn ?_;go_wp2;refine be ?_;exact ⟨rfl,_,_,_,hR.out⟩
 ·rw [if_neg hb]
  obtain ⟨q,e⟩:∃ q,Hid (min ((t.g.length:Int)-1) (t.row+n)=q):=⟨_,rfl⟩;rw [e.out]
  have hmx:min (t.row+n) ((N:Int)-1)=q:=by have:=e.out;have:=rt.n;omega
  have hR:=hput q;have hb2:decide (t.row<=t.bot)=false:=decide_eq_false hb;clear hput h rt hp hco hd hn hn2 b1 b2 b3 r1 r2 hl;go_enter Tryz.func184,Tryz.ntmps184;go_wp2_with fail;refine hla.mono ?_;rintro e wk ⟨rfl,hw1⟩;subst hw1;go_wp2;go_region;go_wp2;refine wp_region_noPanic ?_;refine wp_region_held_drew (S:=(fun _=>True)) (by kernel_rfl) (trivial) (fun hHeld=>?_);refine tk 0 ?_;refine tk 1 ?_;refine tk 2 ?_;refine tk 3 ?_;refine tk 4 ?_;refine tk 6 ?_;refine tk 9 ?_;refine rd2 5 7 (fun K hK=>?_) fun K hK=>?_
  ·go_simp
   refine hK.out _ _ (trivial) (fun hHeld=>?_);clear hK K;refine rd 7 fun K hK=>?_
   go_simp;refine hc1.mono ?_;rintro e wk ⟨rfl,hw1⟩;subst hw1;go_wp2_with fail;refine hK.out _ _ (trivial) (fun hHeld=>?_);clear hK K;refine tk 8 ?_;refine tk 10 ?_;refine tk 11 ?_;refine tk 12 ?_;refine tk 13 ?_;refine rd 14 fun K hK=>?_
   go_simp;refine hK.out _ _ (trivial) (fun hHeld=>?_);clear hK K
   (try simp only [Act.put,ZA,ZB,ZC,ZD,ZE,ZF])
   refine dn ?_;go_wp2;refine be ?_;exact ⟨rfl,_,_,_,hR.out⟩
  ·go_simp
   refine hc1.mono ?_;rintro e wk ⟨rfl,hw1⟩;subst hw1;go_wp2_with fail;refine hK.out _ _ (trivial) (fun hHeld=>?_);clear hK K;refine rd 5 fun K hK=>?_
   go_simp;refine hK.out _ _ (trivial) (fun hHeld=>?_);clear hK K;refine tk 8 ?_;refine tk 10 ?_;refine tk 11 ?_;refine tk 12 ?_;refine tk 13 ?_;refine rd 14 fun K hK=>?_
   go_simp;refine hK.out _ _ (trivial) (fun hHeld=>?_);clear hK K
   (try simp only [Act.put,ZA,ZB,ZC,ZD,ZE,ZF])
   refine dn ?_;go_wp2;refine be ?_;exact ⟨rfl,_,_,_,hR.out⟩
theorem goRight_any (cn N base B:Nat) (x0 x1 x2 x3 x4 x5 pv:Value) (ps:List Int) (t:Te) (v:Tv) (vg vo:List Value) (w:World) (h:Scr w 98 base B [x0,x1,x2,x3,x4,x5] t v vg vo) (rt:RtW t cn N) (hp:SlN w pv ps) (hl:ps.length<=1000) (n:Int) (en:Hid (parN ps 0 1=n)) (hn:0<=n/\n<=9999) :
  Calls Tryz.prog 185 #[.pointer (some ⟨B,0,none⟩),pv] w fun e w'=>e=.returned (.tuple #[])/\∃ v' vg' vo',Res w w' 98 base B [x0,x1,x2,x3,x4,x5] v vg vo { t with col:=min (t.col+n) (t.gc-1) } v' vg' vo':=by
 have c0:w.cell? ⟨B,11,none⟩=some (.int .i64 t.col):=h.cell 11;have z0:w.frozen? ⟨B,11,none⟩=false:=h.frozen 11;obtain ⟨r1,r2⟩:=rt.row;obtain ⟨b1,b2⟩:=rt.col;obtain ⟨c1,c2⟩:=rt.c;have hgc:=rt.gc;have hgl:=rt.n;have hn2:=rt.n1.2;have hc1:=countOf_any pv ps w.drew (hp.below (bdr w)) hl;obtain ⟨pa,pc,rfl⟩:=hp.shp;simp only [en.out] at hc1;have hw:IntKind.i64.wrap (t.col+n)=t.col+n:=by simp [IntKind.wrap,IntKind.bits,IntKind.signed];omega
 have hla:=lastCol_any B (cn:Int) w.drew (by rw [<- rt.gc];exact h.cell 6) (by have:=rt.c;omega);obtain ⟨q,e⟩:∃ q,Hid (min (t.col+n) (t.gc-1)=q):=⟨_,rfl⟩;rw [e.out]
 have hmx:min (t.col+n) ((cn:Int)-1)=q:=by have:=e.out;omega
 have hR:=(show Hid (Res w (w.setCell ⟨B,11,none⟩ (.int .i64 q)).drew 98 base B [x0,x1,x2,x3,x4,x5] v vg vo { t with col:=q } v vg vo) from
  Res.below (h.put (sCg B [.int .i64 q] 11 w) _ (sCh B 98 [.int .i64 q] 11 w _ h.b) rfl rfl rfl rfl rfl) (bdr _))
 clear h rt hp hn hn2 b1 b2 r1 r2 c1 c2 hl hgc hgl en;go_enter Tryz.func185,Tryz.ntmps185;go_wp2;refine wp_region_noPanic ?_;refine wp_region_held_drew (S:=(fun _=>True)) (by kernel_rfl) (trivial) (fun hHeld=>?_);refine tk 0 ?_;refine tk 1 ?_;refine tk 2 ?_;refine tk 3 ?_;refine tk 4 ?_;refine tk 6 ?_;refine tk 9 ?_;refine rd2 5 7 (fun K hK=>?_) fun K hK=>?_
 ·go_simp
  refine hK.out _ _ (trivial) (fun hHeld=>?_);clear hK K;refine rd 7 fun K hK=>?_
  go_simp;refine hc1.mono ?_;rintro e wk ⟨rfl,hw1⟩;subst hw1;go_wp2_with fail;refine hK.out _ _ (trivial) (fun hHeld=>?_);clear hK K;refine tk 8 ?_;refine rd 10 fun K hK=>?_
  go_simp;refine hla.mono ?_;rintro e wk ⟨rfl,hw1⟩;subst hw1;go_wp2_with fail;refine hK.out _ _ (trivial) (fun hHeld=>?_);clear hK K;refine tk 11 ?_;refine tk 12 ?_;refine tk 13 ?_;refine tk 14 ?_;refine rd 15 fun K hK=>?_
  go_simp;refine hK.out _ _ (trivial) (fun hHeld=>?_);clear hK K
  (try simp only [Act.put,ZA,ZB,ZC,ZD,ZE,ZF])
  refine dn ?_;go_wp2;refine be ?_;exact ⟨rfl,_,_,_,hR.out⟩
 ·go_simp
  refine hc1.mono ?_;rintro e wk ⟨rfl,hw1⟩;subst hw1;go_wp2_with fail;refine hK.out _ _ (trivial) (fun hHeld=>?_);clear hK K;refine rd2 5 10 (fun K hK=>?_) fun K hK=>?_
  ·go_simp
   refine hK.out _ _ (trivial) (fun hHeld=>?_);clear hK K;refine tk 8 ?_;refine rd 10 fun K hK=>?_
   go_simp;refine hla.mono ?_;rintro e wk ⟨rfl,hw1⟩;subst hw1;go_wp2_with fail;refine hK.out _ _ (trivial) (fun hHeld=>?_);clear hK K;refine tk 11 ?_;refine tk 12 ?_;refine tk 13 ?_;refine tk 14 ?_;refine rd 15 fun K hK=>?_
   go_simp;refine hK.out _ _ (trivial) (fun hHeld=>?_);clear hK K
   (try simp only [Act.put,ZA,ZB,ZC,ZD,ZE,ZF])
   refine dn ?_;go_wp2;refine be ?_;exact ⟨rfl,_,_,_,hR.out⟩
  ·go_simp
   refine hla.mono ?_;rintro e wk ⟨rfl,hw1⟩;subst hw1;go_wp2_with fail;refine hK.out _ _ (trivial) (fun hHeld=>?_);clear hK K;refine rd 5 fun K hK=>?_
   go_simp;refine hK.out _ _ (trivial) (fun hHeld=>?_);clear hK K;refine tk 8 ?_;refine tk 11 ?_;refine tk 12 ?_;refine tk 13 ?_;refine tk 14 ?_;refine rd 15 fun K hK=>?_
   go_simp;refine hK.out _ _ (trivial) (fun hHeld=>?_);clear hK K
   (try simp only [Act.put,ZA,ZB,ZC,ZD,ZE,ZF])
   refine dn ?_;go_wp2;refine be ?_;exact ⟨rfl,_,_,_,hR.out⟩
theorem goLeft_any (cn N base B:Nat) (x0 x1 x2 x3 x4 x5 pv:Value) (ps:List Int) (t:Te) (v:Tv) (vg vo:List Value) (w:World) (h:Scr w 98 base B [x0,x1,x2,x3,x4,x5] t v vg vo) (rt:RtW t cn N) (hp:SlN w pv ps) (hl:ps.length<=1000) (n:Int) (en:Hid (parN ps 0 1=n)) (hn:0<=n/\n<=9999) :
  Calls Tryz.prog 186 #[.pointer (some ⟨B,0,none⟩),pv] w fun e w'=>e=.returned (.tuple #[])/\∃ v' vg' vo',Res w w' 98 base B [x0,x1,x2,x3,x4,x5] v vg vo { t with col:=max 0 (t.col-n) } v' vg' vo':=by
 have c0:w.cell? ⟨B,11,none⟩=some (.int .i64 t.col):=h.cell 11;have z0:w.frozen? ⟨B,11,none⟩=false:=h.frozen 11;obtain ⟨r1,r2⟩:=rt.row;obtain ⟨b1,b2⟩:=rt.col;obtain ⟨c1,c2⟩:=rt.c;have hgc:=rt.gc;have hgl:=rt.n;have hn2:=rt.n1.2;have hc1:=countOf_any pv ps w.drew (hp.below (bdr w)) hl;obtain ⟨pa,pc,rfl⟩:=hp.shp;simp only [en.out] at hc1;have hw:IntKind.i64.wrap (t.col-n)=t.col-n:=by simp [IntKind.wrap,IntKind.bits,IntKind.signed];omega
 obtain ⟨q,e⟩:∃ q,Hid (max 0 (t.col-n)=q):=⟨_,rfl⟩;rw [e.out]
 have hmx:max (t.col-n) 0=q:=by have:=e.out;omega
 have hR:=(show Hid (Res w (w.setCell ⟨B,11,none⟩ (.int .i64 q)).drew 98 base B [x0,x1,x2,x3,x4,x5] v vg vo { t with col:=q } v vg vo) from
  Res.below (h.put (sCg B [.int .i64 q] 11 w) _ (sCh B 98 [.int .i64 q] 11 w _ h.b) rfl rfl rfl rfl rfl) (bdr _))
 clear h rt hp hn hn2 b1 b2 r1 r2 c1 c2 hl hgc hgl en;go_enter Tryz.func186,Tryz.ntmps186;go_wp2;refine wp_region_noPanic ?_;refine wp_region_held_drew (S:=(fun _=>True)) (by kernel_rfl) (trivial) (fun hHeld=>?_);refine tk 0 ?_;refine tk 1 ?_;refine tk 2 ?_;refine tk 3 ?_;refine tk 4 ?_;refine tk 6 ?_;refine rd2 5 7 (fun K hK=>?_) fun K hK=>?_
 ·go_simp
  refine hK.out _ _ (trivial) (fun hHeld=>?_);clear hK K;refine rd 7 fun K hK=>?_
  go_simp;refine hc1.mono ?_;rintro e wk ⟨rfl,hw1⟩;subst hw1;go_wp2_with fail;refine hK.out _ _ (trivial) (fun hHeld=>?_);clear hK K;refine tk 8 ?_;refine tk 9 ?_;refine tk 10 ?_;refine tk 11 ?_;refine tk 12 ?_;refine rd 13 fun K hK=>?_
  go_simp;refine hK.out _ _ (trivial) (fun hHeld=>?_);clear hK K
  (try simp only [Act.put,ZA,ZB,ZC,ZD,ZE,ZF])
  refine dn ?_;go_wp2;refine be ?_;exact ⟨rfl,_,_,_,hR.out⟩
 ·go_simp
  refine hc1.mono ?_;rintro e wk ⟨rfl,hw1⟩;subst hw1;go_wp2_with fail;refine hK.out _ _ (trivial) (fun hHeld=>?_);clear hK K;refine rd 5 fun K hK=>?_
  go_simp;refine hK.out _ _ (trivial) (fun hHeld=>?_);clear hK K;refine tk 8 ?_;refine tk 9 ?_;refine tk 10 ?_;refine tk 11 ?_;refine tk 12 ?_;refine rd 13 fun K hK=>?_
  go_simp;refine hK.out _ _ (trivial) (fun hHeld=>?_);clear hK K
  (try simp only [Act.put,ZA,ZB,ZC,ZD,ZE,ZF])
  refine dn ?_;go_wp2;refine be ?_;exact ⟨rfl,_,_,_,hR.out⟩
theorem toCol_any (cn N base B:Nat) (x0 x1 x2 x3 x4 x5 pv:Value) (ps:List Int) (t:Te) (v:Tv) (vg vo:List Value) (w:World) (h:Scr w 98 base B [x0,x1,x2,x3,x4,x5] t v vg vo) (rt:RtW t cn N) (hp:SlN w pv ps) (hl:ps.length<=1000) (n:Int) (en:Hid (parN ps 0 1=n)) (hn:0<=n/\n<=9999) :
  Calls Tryz.prog 187 #[.pointer (some ⟨B,0,none⟩),pv] w fun e w'=>e=.returned (.tuple #[])/\∃ v' vg' vo',Res w w' 98 base B [x0,x1,x2,x3,x4,x5] v vg vo { t with col:=min (n-1) (t.gc-1) } v' vg' vo':=by
 have c0:w.cell? ⟨B,11,none⟩=some (.int .i64 t.col):=h.cell 11;have z0:w.frozen? ⟨B,11,none⟩=false:=h.frozen 11;obtain ⟨r1,r2⟩:=rt.row;obtain ⟨b1,b2⟩:=rt.col;obtain ⟨c1,c2⟩:=rt.c;have hgc:=rt.gc;have hgl:=rt.n;have hn2:=rt.n1.2;have hc1:=countOf_any pv ps w hp hl;obtain ⟨pa,pc,rfl⟩:=hp.shp;simp only [en.out] at hc1;have hw:IntKind.i64.wrap (n-1)=n-1:=by simp [IntKind.wrap,IntKind.bits,IntKind.signed];omega
 have hla:=lastCol_any B (cn:Int) w (by rw [<- rt.gc];exact h.cell 6) (by have:=rt.c;omega);obtain ⟨q,e⟩:∃ q,Hid (min (n-1) (t.gc-1)=q):=⟨_,rfl⟩;rw [e.out]
 have hmx:min (n-1) ((cn:Int)-1)=q:=by have:=e.out;omega
 have hR:=(show Hid (Res w (w.setCell ⟨B,11,none⟩ (.int .i64 q)) 98 base B [x0,x1,x2,x3,x4,x5] v vg vo { t with col:=q } v vg vo) from
  (h.put (sCg B [.int .i64 q] 11 w) _ (sCh B 98 [.int .i64 q] 11 w _ h.b) rfl rfl rfl rfl rfl))
 clear h rt hp hn hn2 b1 b2 r1 r2 c1 c2 hl hgc hgl en;go_enter Tryz.func187,Tryz.ntmps187;go_wp2_with fail;refine hc1.mono ?_;rintro e wk ⟨rfl,hw1⟩;subst hw1;go_wp2_with fail;refine hla.mono ?_;rintro e wk ⟨rfl,hw1⟩;subst hw1;go_wp2;refine be ?_;exact ⟨rfl,_,_,_,hR.out⟩
theorem toRow_any (cn N base B:Nat) (x0 x1 x2 x3 x4 x5 pv:Value) (ps:List Int) (t:Te) (v:Tv) (vg vo:List Value) (w:World) (h:Scr w 98 base B [x0,x1,x2,x3,x4,x5] t v vg vo) (rt:RtW t cn N) (hp:SlN w pv ps) (hl:ps.length<=1000) (n:Int) (en:Hid (parN ps 0 1=n)) (hn:0<=n/\n<=9999) :
  Calls Tryz.prog 188 #[.pointer (some ⟨B,0,none⟩),pv] w fun e w'=>e=.returned (.tuple #[])/\∃ v' vg' vo',Res w w' 98 base B [x0,x1,x2,x3,x4,x5] v vg vo { t with row:=min (n-1) ((t.g.length:Int)-1) } v' vg' vo':=by
 have c0:w.cell? ⟨B,10,none⟩=some (.int .i64 t.row):=h.cell 10;have z0:w.frozen? ⟨B,10,none⟩=false:=h.frozen 10;obtain ⟨r1,r2⟩:=rt.row;obtain ⟨b1,b2⟩:=rt.col;obtain ⟨c1,c2⟩:=rt.c;have hgc:=rt.gc;have hgl:=rt.n;have hn2:=rt.n1.2;have hc1:=countOf_any pv ps w hp hl;obtain ⟨pa,pc,rfl⟩:=hp.shp;simp only [en.out] at hc1;have hw:IntKind.i64.wrap (n-1)=n-1:=by simp [IntKind.wrap,IntKind.bits,IntKind.signed];omega
 obtain ⟨ga,gc,hvg⟩:∃ a c,v.g=.slice a N c:=by
  obtain ⟨a,c,e⟩:=slG_shp (SlG.of_own h.o.1.g);rw [rt.n] at e
  exact ⟨a,c,e⟩
 have hla:=lastRow_any B ga N gc w (by show w.cell? _=_;rw [h.cell 7];show some v.g=_;rw [hvg]) (by omega);clear hvg;obtain ⟨q,e⟩:∃ q,Hid (min (n-1) ((t.g.length:Int)-1)=q):=⟨_,rfl⟩;rw [e.out]
 have hmx:min (n-1) ((N:Int)-1)=q:=by have:=e.out;omega
 have hR:=(show Hid (Res w (w.setCell ⟨B,10,none⟩ (.int .i64 q)) 98 base B [x0,x1,x2,x3,x4,x5] v vg vo { t with row:=q } v vg vo) from
  (h.put (sCg B [.int .i64 q] 10 w) _ (sCh B 98 [.int .i64 q] 10 w _ h.b) rfl rfl rfl rfl rfl))
 clear h rt hp hn hn2 b1 b2 r1 r2 c1 c2 hl hgc hgl en;go_enter Tryz.func188,Tryz.ntmps188;go_wp2_with fail;refine hc1.mono ?_;rintro e wk ⟨rfl,hw1⟩;subst hw1;go_wp2_with fail;refine hla.mono ?_;rintro e wk ⟨rfl,hw1⟩;subst hw1;go_wp2;refine be ?_;exact ⟨rfl,_,_,_,hR.out⟩
theorem scrollUp_any (cn N base B:Nat) (x0 x1 x2 x3 x4 x5 pv:Value) (ps:List Int) (t:Te) (v:Tv) (vg vo:List Value) (w:World) (h:Scr w 98 base B [x0,x1,x2,x3,x4,x5] t v vg vo) (hbase:base<=w.heap.size) (rt:RtW t cn N) (hp:SlN w pv ps) (hl:ps.length<=1000) (n:Int) (en:Hid (parN ps 0 1=n)) (hn:0<=n/\n<=9999) :
  Calls Tryz.prog 197 #[.pointer (some ⟨B,0,none⟩),pv] w fun e w'=>e=.returned (.tuple #[])/\∃ v' vg' vo',Res w w' 98 base B [x0,x1,x2,x3,x4,x5] v vg vo (moveT t t.top t.bot n) v' vg' vo':=by
 obtain ⟨b1,b2,b3⟩:=rt.tb;have cf:∀ W,Below w.heap.size w W->W.cell? ⟨B,17,none⟩=some (.int .i64 t.top)/\W.cell? ⟨B,18,none⟩=some (.int .i64 t.bot):=fun W hb=>⟨(h.below hb).cell 17,(h.below hb).cell 18⟩
 have cr:∀ W W2 v2 g2 o2,Res W W2 98 base B [x0,x1,x2,x3,x4,x5] v vg vo (moveT t t.top t.bot n) v2 g2 o2->W2.cell? ⟨B,17,none⟩=some (.int .i64 t.top)/\W2.cell? ⟨B,18,none⟩=some (.int .i64 t.bot):=fun W W2 v2 g2 o2 h=>⟨h.s.cell 17,h.s.cell 18⟩
 have hof:=fun W (hbW:Below w.heap.size w W)=>Res.of_below h hbW
 have hc1:=fun W (hbW:Below w.heap.size w W)=>countOf_any pv ps W (hp.below hbW) hl
 simp only [en.out] at hc1;have hru:=fun W (hbW:Below w.heap.size w W)=>rowsUp_any cn N base B x0 x1 x2 x3 x4 x5 t v vg vo W (h.below hbW) (Nat.le_trans hbase hbW.size) rt t.top.toNat (t.bot+1-t.top).toNat n.toNat (by omega) (by omega)
 rw [show ((t.top.toNat:Nat):Int)=t.top by omega,show t.top+((t.bot+1-t.top).toNat:Int)-1=t.bot by omega,show ((n.toNat:Nat):Int)=n by omega] at hru
 have hd:=bdr w;obtain ⟨pa,pc,rfl⟩:=hp.shp;clear h hbase rt hp hl en hn b1 b2 b3;go_enter Tryz.func197,Tryz.ntmps197;go_wp2;refine wp_region_noPanic ?_;refine wp_region_held_drew (S:=(fun W=>W.cell? ⟨B,17,none⟩=some (.int .i64 t.top)/\W.cell? ⟨B,18,none⟩=some (.int .i64 t.bot))) (by kernel_rfl) (cf _ hd) (fun hHeld=>?_);refine tk 0 ?_;refine tk 1 ?_;refine tk 2 ?_;refine tk 3 ?_;refine tk 4 ?_;refine tk 5 ?_;refine tk 6 ?_;refine tk 7 ?_;refine tk 8 ?_;refine tk 9 ?_;refine tk 10 ?_;refine tk 11 ?_;refine rd 12 fun K hK=>?_
 go_simp;refine (hc1 _ hd).mono ?_;rintro e wk ⟨rfl,hw1⟩;subst hw1;go_wp2_with fail;refine hK.out _ _ (cf _ hd) (fun hHeld=>?_);clear hK K;refine rd 13 fun K hK=>?_
 go_simp;refine (hru _ hd).mono ?_;rintro e w2 ⟨rfl,v2,g2,o2,hR⟩;go_wp2_with fail;refine hK.out _ _ (cr _ _ _ _ _ hR) (fun hHeld=>?_);clear hK K
 (try simp only [Act.put,ZA,ZB,ZC,ZD,ZE,ZF])
 refine dn ?_;go_wp2;refine be ?_;exact ⟨rfl,_,_,_,(hof _ hd).trans hR⟩
theorem scrollDown_any (cn N base B:Nat) (x0 x1 x2 x3 x4 x5 pv:Value) (ps:List Int) (t:Te) (v:Tv) (vg vo:List Value) (w:World) (h:Scr w 98 base B [x0,x1,x2,x3,x4,x5] t v vg vo) (hbase:base<=w.heap.size) (rt:RtW t cn N) (hp:SlN w pv ps) (hl:ps.length<=1000) (n:Int) (en:Hid (parN ps 0 1=n)) (hn:0<=n/\n<=9999) :
  Calls Tryz.prog 198 #[.pointer (some ⟨B,0,none⟩),pv] w fun e w'=>e=.returned (.tuple #[])/\∃ v' vg' vo',Res w w' 98 base B [x0,x1,x2,x3,x4,x5] v vg vo (moveT t t.top t.bot (-n)) v' vg' vo':=by
 obtain ⟨b1,b2,b3⟩:=rt.tb;have cf:∀ W,Below w.heap.size w W->W.cell? ⟨B,17,none⟩=some (.int .i64 t.top)/\W.cell? ⟨B,18,none⟩=some (.int .i64 t.bot):=fun W hb=>⟨(h.below hb).cell 17,(h.below hb).cell 18⟩
 have cr:∀ W W2 v2 g2 o2,Res W W2 98 base B [x0,x1,x2,x3,x4,x5] v vg vo (moveT t t.top t.bot (-n)) v2 g2 o2->W2.cell? ⟨B,17,none⟩=some (.int .i64 t.top)/\W2.cell? ⟨B,18,none⟩=some (.int .i64 t.bot):=fun W W2 v2 g2 o2 h=>⟨h.s.cell 17,h.s.cell 18⟩
 have hof:=fun W (hbW:Below w.heap.size w W)=>Res.of_below h hbW
 have hc1:=fun W (hbW:Below w.heap.size w W)=>countOf_any pv ps W (hp.below hbW) hl
 simp only [en.out] at hc1;have hru:=fun W (hbW:Below w.heap.size w W)=>rowsDown_any cn N base B x0 x1 x2 x3 x4 x5 t v vg vo W (h.below hbW) (Nat.le_trans hbase hbW.size) rt t.top.toNat (t.bot+1-t.top).toNat n.toNat (by omega) (by omega)
 rw [show ((t.top.toNat:Nat):Int)=t.top by omega,show t.top+((t.bot+1-t.top).toNat:Int)-1=t.bot by omega,show ((n.toNat:Nat):Int)=n by omega] at hru
 have hd:=bdr w;obtain ⟨pa,pc,rfl⟩:=hp.shp;clear h hbase rt hp hl en hn b1 b2 b3;go_enter Tryz.func198,Tryz.ntmps198;go_wp2;refine wp_region_noPanic ?_;refine wp_region_held_drew (S:=(fun W=>W.cell? ⟨B,17,none⟩=some (.int .i64 t.top)/\W.cell? ⟨B,18,none⟩=some (.int .i64 t.bot))) (by kernel_rfl) (cf _ hd) (fun hHeld=>?_);refine tk 0 ?_;refine tk 1 ?_;refine tk 2 ?_;refine tk 3 ?_;refine tk 4 ?_;refine tk 5 ?_;refine tk 6 ?_;refine tk 7 ?_;refine tk 8 ?_;refine tk 9 ?_;refine tk 10 ?_;refine tk 11 ?_;refine rd 12 fun K hK=>?_
 go_simp;refine (hc1 _ hd).mono ?_;rintro e wk ⟨rfl,hw1⟩;subst hw1;go_wp2_with fail;refine hK.out _ _ (cf _ hd) (fun hHeld=>?_);clear hK K;refine rd 13 fun K hK=>?_
 go_simp;refine (hru _ hd).mono ?_;rintro e w2 ⟨rfl,v2,g2,o2,hR⟩;go_wp2_with fail;refine hK.out _ _ (cr _ _ _ _ _ hR) (fun hHeld=>?_);clear hK K
 (try simp only [Act.put,ZA,ZB,ZC,ZD,ZE,ZF])
 refine dn ?_;go_wp2;refine be ?_;exact ⟨rfl,_,_,_,(hof _ hd).trans hR⟩
theorem withinMargins_any (base B:Nat) (x0 x1 x2 x3 x4 x5:Value) (t:Te) (v:Tv) (vg vo:List Value) (w:World) (h:Scr w 98 base B [x0,x1,x2,x3,x4,x5] t v vg vo) :
  Calls Tryz.prog 237 #[.pointer (some ⟨B,0,none⟩)] w fun e w'=>e=.returned (.bool (decide (t.top<=t.row/\t.row<=t.bot)))/\w'=w.drew:=by
 have c10:w.drew.cell? ⟨B,10,none⟩=some (.int .i64 t.row):=h.cell 10;have c17:w.drew.cell? ⟨B,17,none⟩=some (.int .i64 t.top):=h.cell 17;have c18:w.drew.cell? ⟨B,18,none⟩=some (.int .i64 t.bot):=h.cell 18;clear h;generalize t.row=r at *;generalize t.top=a at *;generalize t.bot=b at *
 by_cases q1:a<=r
 ·by_cases q2:r<=b
  ·rw [decide_eq_true ⟨q1,q2⟩]
   go_enter Tryz.func237,Tryz.ntmps237;go_wp2;go_region;go_wp2;go_ret;exact ⟨rfl,rfl⟩
  ·rw [decide_eq_false (fun e=>q2 e.2)]
   have qd:decide (r<=b)=false:=decide_eq_false q2;go_enter Tryz.func237,Tryz.ntmps237;go_wp2;go_region;go_wp2;go_ret;exact ⟨by rw [<- qd];rfl,rfl⟩
 ·rw [decide_eq_false (fun e=>q1 e.1)]
  have qd:decide (a<=r)=false:=decide_eq_false q1;go_enter Tryz.func237,Tryz.ntmps237;go_wp2;refine wp_region_noPanic ?_;refine wp_region_held_drew (S:=(fun W=>W.cell? ⟨B,10,none⟩=some (.int .i64 r)/\W.cell? ⟨B,17,none⟩=some (.int .i64 a))) (by kernel_rfl) ⟨c10,c17⟩ (fun hHeld=>?_);clear c10 c17 c18;refine tk 0 ?_;refine tk 1 ?_;refine tk 2 ?_;refine tk 3 ?_;refine tk 4 ?_;refine tk 5 ?_;refine tk 6 ?_;refine tk 7 ?_;refine tk 8 ?_;refine tk 9 ?_;refine tk 10 ?_;refine tk 11 ?_;refine sk 12 ?_;refine sk 13 ?_;refine sk 14 ?_;refine sk 15 ?_;refine sk 16 ?_;refine sk 17 ?_;refine sk 18 ?_;refine sk 19 ?_;refine sk 20 ?_;refine sk 21 ?_;refine sk 22 ?_;refine tk 23 ?_;refine tk 24 ?_
  (try simp only [Act.put,ZA,ZB,ZC,ZD,ZE,ZF])
  refine dn ?_;go_wp2;go_ret;exact ⟨rfl,rfl⟩
theorem putRows_any (cn N base B:Nat) (x0 x1 x2 x3 x4 x5 pv:Value) (ps:List Int) (t:Te) (v:Tv) (vg vo:List Value) (w:World) (h:Scr w 98 base B [x0,x1,x2,x3,x4,x5] t v vg vo) (hbase:base<=w.heap.size) (rt:RtW t cn N) (hp:SlN w pv ps) (hl:ps.length<=1000) (n:Int) (en:Hid (parN ps 0 1=n)) (hn:0<=n/\n<=9999) :
  Calls Tryz.prog 193 #[.pointer (some ⟨B,0,none⟩),pv] w fun e w'=>e=.returned (.tuple #[])/\∃ v' vg' vo',Res w w' 98 base B [x0,x1,x2,x3,x4,x5] v vg vo (if t.top<=t.row/\t.row<=t.bot then { moveT t t.row t.bot (-n) with col:=0 } else t) v' vg' vo':=by
 obtain ⟨b1,b2,b3⟩:=rt.tb;obtain ⟨r1,r2⟩:=rt.row;have hwm:=withinMargins_any base B x0 x1 x2 x3 x4 x5 t v vg vo w h;have hof:=fun W (hbW:Below w.heap.size w W)=>Res.of_below h hbW
 by_cases hin:t.top<=t.row/\t.row<=t.bot
 case neg =>
  rw [if_neg hin]
  rw [decide_eq_false hin] at hwm
  have hof:=hof _ (bdr w);obtain ⟨pa,pc,rfl⟩:=hp.shp;clear h hbase rt hp hl en hn b1 b2 b3 r1 r2 hin;go_enter Tryz.func193,Tryz.ntmps193;go_wp2_with fail;refine hwm.mono ?_;rintro e wk ⟨rfl,hw1⟩;subst hw1;go_wp2;refine be ?_;exact ⟨rfl,_,_,_,hof⟩
 rw [if_pos hin]
 rw [decide_eq_true hin] at hwm
 have cf:∀ W,Below w.heap.size w W->W.cell? ⟨B,10,none⟩=some (.int .i64 t.row)/\W.cell? ⟨B,18,none⟩=some (.int .i64 t.bot):=fun W hb=>⟨(h.below hb).cell 10,(h.below hb).cell 18⟩
 have cr:∀ W W2 v2 g2 o2,Res W W2 98 base B [x0,x1,x2,x3,x4,x5] v vg vo (moveT t t.row t.bot (-n)) v2 g2 o2->W2.cell? ⟨B,10,none⟩=some (.int .i64 t.row)/\W2.cell? ⟨B,18,none⟩=some (.int .i64 t.bot):=fun W W2 v2 g2 o2 h=>⟨h.s.cell 10,h.s.cell 18⟩
 have hc1:=fun W (hbW:Below w.heap.size w W)=>countOf_any pv ps W (hp.below hbW) hl
 simp only [en.out] at hc1;have hru:=fun W (hbW:Below w.heap.size w W)=>rowsDown_any cn N base B x0 x1 x2 x3 x4 x5 t v vg vo W (h.below hbW) (Nat.le_trans hbase hbW.size) rt t.row.toNat (t.bot+1-t.row).toNat n.toNat (by omega) (by omega)
 rw [show ((t.row.toNat:Nat):Int)=t.row by omega,show t.row+((t.bot+1-t.row).toNat:Int)-1=t.bot by omega,show ((n.toNat:Nat):Int)=n by omega] at hru
 have hd:=(bdr w).trans ((bdr w.drew).mono (bdr w).size);obtain ⟨pa,pc,rfl⟩:=hp.shp;clear h hbase rt hp hl en hn b1 b2 b3 r1 r2 hin;go_enter Tryz.func193,Tryz.ntmps193;go_wp2_with fail;refine hwm.mono ?_;rintro e wk ⟨rfl,hw1⟩;subst hw1;go_wp2;refine wp_region_noPanic ?_;refine wp_region_held_drew (S:=(fun W=>W.cell? ⟨B,10,none⟩=some (.int .i64 t.row)/\W.cell? ⟨B,18,none⟩=some (.int .i64 t.bot))) (by kernel_rfl) (cf _ hd) (fun hHeld=>?_);refine tk 0 ?_;refine tk 1 ?_;refine tk 2 ?_;refine tk 3 ?_;refine tk 4 ?_;refine tk 5 ?_;refine tk 6 ?_;refine tk 7 ?_;refine tk 8 ?_;refine tk 9 ?_;refine tk 10 ?_;refine tk 11 ?_;refine rd 12 fun K hK=>?_
 go_simp;refine (hc1 _ hd).mono ?_;rintro e wk ⟨rfl,hw1⟩;subst hw1;go_wp2_with fail;refine hK.out _ _ (cf _ hd) (fun hHeld=>?_);clear hK K;refine rd 13 fun K hK=>?_
 go_simp;refine (hru _ hd).mono ?_;rintro e w2 ⟨rfl,v2,g2,o2,hR⟩;go_wp2_with fail;refine hK.out _ _ (cr _ _ _ _ _ hR) (fun hHeld=>?_);clear hK K
 (try simp only [Act.put,ZA,ZB,ZC,ZD,ZE,ZF])
 refine dn ?_;have k3:=(hof _ hd).trans hR;have hP:=k3.s.put (sCg B [.int .i64 0] 11 w2) { moveT t t.row t.bot (-n) with col:=0 } (sCh B 98 [.int .i64 0] 11 w2 _ k3.s.b) rfl rfl rfl rfl rfl;have c11:w2.cell? ⟨B,11,none⟩=some (.int .i64 t.col):=k3.s.cell 11;have z11:=k3.s.frozen 11;have hF:=(show Hid _ from k3.trans hP);clear k3 hP hR;go_wp2;refine be ?_;exact ⟨rfl,_,_,_,hF.out⟩
theorem takeRows_any (cn N base B:Nat) (x0 x1 x2 x3 x4 x5 pv:Value) (ps:List Int) (t:Te) (v:Tv) (vg vo:List Value) (w:World) (h:Scr w 98 base B [x0,x1,x2,x3,x4,x5] t v vg vo) (hbase:base<=w.heap.size) (rt:RtW t cn N) (hp:SlN w pv ps) (hl:ps.length<=1000) (n:Int) (en:Hid (parN ps 0 1=n)) (hn:0<=n/\n<=9999) :
  Calls Tryz.prog 194 #[.pointer (some ⟨B,0,none⟩),pv] w fun e w'=>e=.returned (.tuple #[])/\∃ v' vg' vo',Res w w' 98 base B [x0,x1,x2,x3,x4,x5] v vg vo (if t.top<=t.row/\t.row<=t.bot then { moveT t t.row t.bot n with col:=0 } else t) v' vg' vo':=by
 obtain ⟨b1,b2,b3⟩:=rt.tb;obtain ⟨r1,r2⟩:=rt.row;have hwm:=withinMargins_any base B x0 x1 x2 x3 x4 x5 t v vg vo w h;have hof:=fun W (hbW:Below w.heap.size w W)=>Res.of_below h hbW
 by_cases hin:t.top<=t.row/\t.row<=t.bot
 case neg =>
  rw [if_neg hin]
  rw [decide_eq_false hin] at hwm
  have hof:=hof _ (bdr w);obtain ⟨pa,pc,rfl⟩:=hp.shp;clear h hbase rt hp hl en hn b1 b2 b3 r1 r2 hin;go_enter Tryz.func194,Tryz.ntmps194;go_wp2_with fail;refine hwm.mono ?_;rintro e wk ⟨rfl,hw1⟩;subst hw1;go_wp2;refine be ?_;exact ⟨rfl,_,_,_,hof⟩
 rw [if_pos hin]
 rw [decide_eq_true hin] at hwm
 have cf:∀ W,Below w.heap.size w W->W.cell? ⟨B,10,none⟩=some (.int .i64 t.row)/\W.cell? ⟨B,18,none⟩=some (.int .i64 t.bot):=fun W hb=>⟨(h.below hb).cell 10,(h.below hb).cell 18⟩
 have cr:∀ W W2 v2 g2 o2,Res W W2 98 base B [x0,x1,x2,x3,x4,x5] v vg vo (moveT t t.row t.bot n) v2 g2 o2->W2.cell? ⟨B,10,none⟩=some (.int .i64 t.row)/\W2.cell? ⟨B,18,none⟩=some (.int .i64 t.bot):=fun W W2 v2 g2 o2 h=>⟨h.s.cell 10,h.s.cell 18⟩
 have hc1:=fun W (hbW:Below w.heap.size w W)=>countOf_any pv ps W (hp.below hbW) hl
 simp only [en.out] at hc1;have hru:=fun W (hbW:Below w.heap.size w W)=>rowsUp_any cn N base B x0 x1 x2 x3 x4 x5 t v vg vo W (h.below hbW) (Nat.le_trans hbase hbW.size) rt t.row.toNat (t.bot+1-t.row).toNat n.toNat (by omega) (by omega)
 rw [show ((t.row.toNat:Nat):Int)=t.row by omega,show t.row+((t.bot+1-t.row).toNat:Int)-1=t.bot by omega,show ((n.toNat:Nat):Int)=n by omega] at hru
 have hd:=(bdr w).trans ((bdr w.drew).mono (bdr w).size);obtain ⟨pa,pc,rfl⟩:=hp.shp;clear h hbase rt hp hl en hn b1 b2 b3 r1 r2 hin;go_enter Tryz.func194,Tryz.ntmps194;go_wp2_with fail;refine hwm.mono ?_;rintro e wk ⟨rfl,hw1⟩;subst hw1;go_wp2;refine wp_region_noPanic ?_;refine wp_region_held_drew (S:=(fun W=>W.cell? ⟨B,10,none⟩=some (.int .i64 t.row)/\W.cell? ⟨B,18,none⟩=some (.int .i64 t.bot))) (by kernel_rfl) (cf _ hd) (fun hHeld=>?_);refine tk 0 ?_;refine tk 1 ?_;refine tk 2 ?_;refine tk 3 ?_;refine tk 4 ?_;refine tk 5 ?_;refine tk 6 ?_;refine tk 7 ?_;refine tk 8 ?_;refine tk 9 ?_;refine tk 10 ?_;refine tk 11 ?_;refine rd 12 fun K hK=>?_
 go_simp;refine (hc1 _ hd).mono ?_;rintro e wk ⟨rfl,hw1⟩;subst hw1;go_wp2_with fail;refine hK.out _ _ (cf _ hd) (fun hHeld=>?_);clear hK K;refine rd 13 fun K hK=>?_
 go_simp;refine (hru _ hd).mono ?_;rintro e w2 ⟨rfl,v2,g2,o2,hR⟩;go_wp2_with fail;refine hK.out _ _ (cr _ _ _ _ _ hR) (fun hHeld=>?_);clear hK K
 (try simp only [Act.put,ZA,ZB,ZC,ZD,ZE,ZF])
 refine dn ?_;have k3:=(hof _ hd).trans hR;have hP:=k3.s.put (sCg B [.int .i64 0] 11 w2) { moveT t t.row t.bot n with col:=0 } (sCh B 98 [.int .i64 0] 11 w2 _ k3.s.b) rfl rfl rfl rfl rfl;have c11:w2.cell? ⟨B,11,none⟩=some (.int .i64 t.col):=k3.s.cell 11;have z11:=k3.s.frozen 11;have hF:=(show Hid _ from k3.trans hP);clear k3 hP hR;go_wp2;refine be ?_;exact ⟨rfl,_,_,_,hF.out⟩
theorem cut_any (g n cap f t:Nat) (w:World) (hft:f<t) (ht:t<=n) (hc:n<=cap) :
  Calls Tryz.prog 219 #[.slice (some ⟨g,0,none⟩) n cap,.int .i64 f,.int .i64 t] w fun e w'=>e=.returned (.slice (some ⟨g,f*7,none⟩) (t-f) (t-f))/\w'=w:=by
 have h1:(f:Int)<=(t:Int):=by omega
 have h0:(0:Int)<=(f:Int):=by omega
 have h2:(t:Int)<=(cap:Int):=by omega
 have h3:¬ (t-f=0):=by omega
 go_enter Tryz.func219,Tryz.ntmps219;go_wp2;go_ret;exact ⟨rfl,rfl⟩
theorem cut_none (g n cap f:Nat) (w:World) (ht:f<=n) (hc:n<=cap) :
  Calls Tryz.prog 219 #[.slice (some ⟨g,0,none⟩) n cap,.int .i64 f,.int .i64 f] w fun e w'=>e=.returned (.slice (some ⟨g,0,none⟩) 0 0)/\w'=w:=by
 have h1:(f:Int)<=(f:Int):=by omega
 have h0:(0:Int)<=(f:Int):=by omega
 have h2:(f:Int)<=(cap:Int):=by omega
 go_enter Tryz.func219,Tryz.ntmps219;go_wp2;go_ret;exact ⟨rfl,rfl⟩
theorem copied_any (v:Value) (xs:List Ce) (w:World) (hv:SlC w v xs) (hl:xs.length<=1000) :
  Calls Tryz.prog 250 #[v] w fun e w'=>∃ g,e=.returned (.slice (some ⟨g,0,none⟩) xs.length xs.length)/\OwnC w' w.heap.size (.slice (some ⟨g,0,none⟩) xs.length xs.length) xs/\Below w.heap.size w w':=by
 obtain ⟨a,c,rfl,hcp,hnc,hr⟩:=id hv;have hl2:xs.length<=1073741824:=by omega
 have hwin:Hid (windL (List.replicate xs.length Ce.zero) 0 xs=xs):=by show _=_;simp [windL]
 have hmin:Hid (xs.length=Nat.min xs.length xs.length):=(Nat.min_self _).symm;have hre:Hid ((List.replicate xs.length Ce.zero).length=xs.length):=by show _=_;simp
 have hsrc:=fun W h (h0:0<xs.length)=>(show SlC W (.slice a xs.length c) xs from h).src h0
 clear hr;go_enter Tryz.func250,Tryz.ntmps250
 go_wp2_with (first
  | (refine make_oc rfl _ _ rfl xs.length rfl rfl hl2 ?_;intro w1 ho1 hb1;have hv1:=hv.below hb1)
  | (refine copy_oc rfl _ _ rfl w.heap.size w.heap.size xs.length xs.length 0 (List.replicate xs.length Ce.zero) xs ho1 hre.out (some ⟨w.heap.size,0,none⟩) a xs.length xs.length xs.length c rfl rfl hmin.out (Nat.le_of_eq (Nat.zero_add _)) (fun h0=>⟨rfl,hsrc w1 hv1 h0⟩) ?_;intro w2 ho2 hg2;rw [hwin.out] at ho2))
 have hb2:=hb1.grown hg2 hb1.size (fun k hk=>by cases hk;exact Nat.le_refl _);go_ret;exact ⟨_,rfl,ho2,hb2⟩
theorem part_any (base g n cap p:Nat) (L:List Ce) (w:World) (h:OwnC w base (.slice (some ⟨g,0,none⟩) n cap) L) (hn:L.length=n) (hR:Right L) (hp:p<=n) (hl:n<=1000) :
  Calls Tryz.prog 155 #[.slice (some ⟨g,0,none⟩) n cap,.int .i64 p] w fun e w'=>e=.returned (.tuple #[])/\OwnC w' base (.slice (some ⟨g,0,none⟩) n cap) (partW L p)/\w.grownBy w' (some g):=by
 have hp0:(0:Int)<=(p:Int):=by omega
 obtain ⟨_,_,_,hnc,_⟩:=h.cur hn;have hG:∀ W,w.grownBy W (some g)->w.heap.size<=W.heap.size:=fun W h=>h.size
 by_cases hpn:p<n
 ·have hpi:(p:Int)<(n:Int):=by omega
  have hat:=h.at hn p hpn;obtain ⟨c0,c1,c2,c3,c4,c5,c6⟩:=hat
  by_cases h2:(atC L p).part=2
  ·have b2:((atC L p).part==2)=true:=by simp [h2]
   obtain ⟨q0,q1,q2,q3⟩:=hR.two h2;have hV:Hid (partW L p=fillUp L (p-1) (p-1+2) (atC L p).st):=by show _=_;unfold partW;rw [if_pos h2,show p-1+2=p+1 by omega]
   have hcut:=fun W=>cut_any g n cap (p-1) (p+1) W (by omega) (by omega) hnc
   have e1:((p-1:Nat):Int)=(p:Int)-1:=by omega
   have e2:((p+1:Nat):Int)=(p:Int)+1:=by omega
   have e3:p+1-(p-1)=2:=by omega
   rw [e1,e2,e3] at hcut
   have hbo:∀ W,OwnC W base (.slice (some ⟨g,0,none⟩) n cap) L->Calls Tryz.prog 206 #[.slice (some ⟨g,(p-1)*7,none⟩) 2 2,stV (atC L p).st] W fun e w'=>e=.returned (.tuple #[])/\(w'.cell? ⟨g,p*7+1,none⟩=some (.int .i64 (atC L p).st.fore)/\w'.cell? ⟨g,p*7+2,none⟩=some (.int .i64 (atC L p).st.back)/\w'.cell? ⟨g,p*7+3,none⟩=some (.bool (atC L p).st.bold)/\w'.cell? ⟨g,p*7+4,none⟩=some (.bool (atC L p).st.under)/\w'.cell? ⟨g,p*7+5,none⟩=some (.bool (atC L p).st.turned))/\OwnC w' base (.slice (some ⟨g,0,none⟩) n cap) (fillUp L (p-1) (p-1+2) (atC L p).st)/\W.grownBy w' (some g):=fun W hW =>
    (blankOut_any base g n cap (p-1) 2 2 ((p-1)*7) L (atC L p).st W hW hn (by omega) (by omega) hl rfl).mono fun e w' ⟨he,ho,hg⟩=>by
     have hz:=ho.at (by rw [fillUp_len];exact hn) p hpn;rw [fill_at _ _ _ _ _ (by omega),if_pos (by omega)] at hz
     exact ⟨he,⟨hz.2.1,hz.2.2.1,hz.2.2.2.1,hz.2.2.2.2.1,hz.2.2.2.2.2.1⟩,ho,hg⟩
   have hd:=h.below (bdr w);have hgd:w.grownBy w.drew (some g):=gbl (bdr w) _;have hcd:w.drew.cell? ⟨g,p*7+1,none⟩=some (.int .i64 (atC L p).st.fore)/\w.drew.cell? ⟨g,p*7+2,none⟩=some (.int .i64 (atC L p).st.back)/\w.drew.cell? ⟨g,p*7+3,none⟩=some (.bool (atC L p).st.bold)/\w.drew.cell? ⟨g,p*7+4,none⟩=some (.bool (atC L p).st.under)/\w.drew.cell? ⟨g,p*7+5,none⟩=some (.bool (atC L p).st.turned):=⟨c1,c2,c3,c4,c5⟩;have hw1:IntKind.i64.wrap ((p:Int)-1)=(p:Int)-1:=by simp [IntKind.wrap_i64];omega
   have hw2:IntKind.i64.wrap ((p:Int)+1)=(p:Int)+1:=by simp [IntKind.wrap_i64];omega
   unfold stV at hbo;clear e1 e2 e3 h2 q3 q2 hR;go_enter Tryz.func155,Tryz.ntmps155;go_wp2;clear h c0 c1 c2 c3 c4 c5 c6
   go_region_held3 (fun W=>W.cell? ⟨g,p*7+1,none⟩=some (.int .i64 (atC L p).st.fore)/\W.cell? ⟨g,p*7+2,none⟩=some (.int .i64 (atC L p).st.back)/\W.cell? ⟨g,p*7+3,none⟩=some (.bool (atC L p).st.bold)/\W.cell? ⟨g,p*7+4,none⟩=some (.bool (atC L p).st.under)/\W.cell? ⟨g,p*7+5,none⟩=some (.bool (atC L p).st.turned)) (first|with_reducible assumption)
    (first
     | (go_at_call 219;refine (hcut _).mono ?_;rintro e wk ⟨rfl,hwk⟩;subst hwk)
     | (go_at_call 206;refine (hbo _ hd).mono ?_;rintro e wz ⟨rfl,hcz,ho,hg⟩))
   refine be ?_;exact ⟨rfl,by rw [hV.out];exact ho,grown_tr hgd hg⟩
  ·have b2:((atC L p).part==2)=false:=by simp [h2]
   have hV:Hid (partW L p=L):=by show _=_;unfold partW;rw [if_neg h2]
   clear h2 hR;go_enter Tryz.func155,Tryz.ntmps155;go_wp2;refine be ?_;exact ⟨rfl,by rw [hV.out];exact h,World.grownBy.refl _ _⟩
 ·have hpi:¬ (p:Int)<(n:Int):=by omega
  have hV:Hid (partW L p=L):=by show _=_;unfold partW;rw [atC_ge (by omega),if_neg (by decide)]
  clear hR;go_enter Tryz.func155,Tryz.ntmps155;go_wp2;refine be ?_;exact ⟨rfl,by rw [hV.out];exact h,World.grownBy.refl _ _⟩
theorem implCleared_any (v:Value) (xs:List Ce) (f t:Int) (s:St) (w:World) (hS:SpansAt w) (hv:SlC w v xs) (hl:xs.length<=1048576) :
  Calls Tryz.prog 229 #[v,.int .i64 f,.int .i64 t,stV s] w fun e w'=>∃ u,e=.returned u/\OwnC w' w.heap.size u (clearedV xs f t s)/\Below w.heap.size w w':=by
 have h2:=StAt.new w s 28;have hbA:=bal' w (Obj.cells #[.int .i64 s.fore,.int .i64 s.back,.bool s.bold,.bool s.under,.bool s.turned] 28);have hOK:=implStyleOk_any s;have hno:∀ W:World,OwnC W w.heap.size (.slice none 0 0) []:=fun W=>ownC_none W _
 have hro:=implRowOk_any v xs _ (hS.below hbA hS.lt) (hv.below hbA) hl;have hv1:=hv.below hbA;obtain ⟨a,c,rfl,hcp,_⟩:=id hv;unfold stV at *;go_enter Tryz.func229,Tryz.ntmps229;go_wp2_with fail;refine hro.mono ?_;rintro e w2 ⟨rfl,hb2⟩;have kb:=hbA.trans (hb2.mono hbA.size);have hs:=h2.below hb2;have hv2:=hv1.below hb2;clear hbA hb2 h2 hro hv1 hv
 cases hr:rowOkB xs
 ·have hV:Hid (clearedV xs f t s=[]):=by show _=_;unfold clearedV;rw [if_neg (fun h=>by rw [hr] at h;exact absurd h.1 (by decide))]
  clear hOK;go_wp2;go_ret;exact ⟨_,rfl,by rw [hV.out];exact hno _,kb⟩
 ·obtain ⟨_,⟨c0,c1,c2,c3,c4⟩,_⟩:=id hs
  go_wp2_with fail;refine (hOK _).mono ?_;rintro e w3 ⟨rfl,hb3⟩;have kb:=kb.trans (hb3.mono kb.size);have hs:=hs.below hb3;have hv3:=hv2.below hb3;clear hb3 hOK hv2 c0 c1 c2 c3 c4
  cases ho:s.ok
  ·have hV:Hid (clearedV xs f t s=[]):=by show _=_;unfold clearedV;rw [if_neg (fun h=>by rw [ho] at h;exact absurd h.2.1 (by decide))]
   go_wp2;go_ret;exact ⟨_,rfl,by rw [hV.out];exact hno _,kb⟩
  ·by_cases f0:f<0
   ·have hV:Hid (clearedV xs f t s=[]):=by show _=_;unfold clearedV;rw [if_neg (fun h=>by have:=h.2.2.1;omega)]
    go_wp2;go_ret;exact ⟨_,rfl,by rw [hV.out];exact hno _,kb⟩
   ·by_cases ft:t<f
    ·have hV:Hid (clearedV xs f t s=[]):=by show _=_;unfold clearedV;rw [if_neg (fun h=>by have:=h.2.2.1;omega)]
     go_wp2;go_ret;exact ⟨_,rfl,by rw [hV.out];exact hno _,kb⟩
    ·by_cases tl:(xs.length:Int)<t
     ·have hV:Hid (clearedV xs f t s=[]):=by show _=_;unfold clearedV;rw [if_neg (fun h=>by have:=h.2.2.2;omega)]
      go_wp2;go_ret;exact ⟨_,rfl,by rw [hV.out];exact hno _,kb⟩
     ·obtain ⟨p,rfl⟩:∃ p:Nat,f=p:=⟨f.toNat,by omega⟩
      obtain ⟨q,rfl⟩:∃ q:Nat,t=q:=⟨t.toNat,by omega⟩;have hV:Hid (clearedV xs p q s=clearL xs p q s):=by show _=_;unfold clearedV;rw [if_pos ⟨hr,ho,by omega,by omega⟩];simp
      obtain ⟨hx60,hR⟩:=(right_iff xs).1 hr;have hcop:=copied_any _ xs _ hv3 (by omega);have hlt3:=hs.1;clear hr ho;go_wp2_with fail;refine hcop.mono ?_;rintro e w4 ⟨g,rfl,ho4,hb4⟩;have kb4:=kb.trans (hb4.mono kb.size);have hs4:=hs.below hb4;have hgl:=(ho4.lt g rfl).1;have ho4:=ho4.low kb.size;have hBg:w.heap.size≠g:=by omega
      clear hcop hb4 hs hv3
      by_cases hpq:p<q
      ·have hpqi:(p:Int)<(q:Int):=by omega
       have hpa:=part_any w.heap.size g xs.length xs.length p xs w4 ho4 rfl hR (by omega) (by omega);have hpb:=fun W h=>part_any w.heap.size g xs.length xs.length q (partW xs p) W h (partW_len xs p) (partW_right hR p) (by omega) (by omega)
       have hcut:=fun W=>cut_any g xs.length xs.length p q W hpq (by omega) (Nat.le_refl _)
       have hfin:Hid (fillUp (partW (partW xs p) q) p (p+(q-p)) s=clearL xs p q s):=by show _=_;rw [show p+(q-p)=q by omega];exact clear_way hR p q s hpq (by omega)
       have hbo:=fun W h1 h2=>blankOut_box w.heap.size w.heap.size g xs.length xs.length p (q-p) (q-p) (p*7) (partW (partW xs p) q) s W h1 hBg h2 (by rw [partW_len,partW_len]) (by omega) (by omega) (by omega) rfl
       clear hpq hR;go_wp2_with fail;refine hpa.mono ?_;clear hpa;rintro e w5 ⟨rfl,ho5,hg5⟩;have kb5:=kb4.grown hg5 kb4.size (fun k hk=>by cases hk;exact Nat.le_trans kb.size hgl);have hs5:=hs4.grown hg5 (by simpa using Ne.symm hBg);clear ho4 hg5 hs4;go_wp2_with fail;refine (hpb _ ho5).mono ?_;clear hpb;rintro e w6 ⟨rfl,ho6,hg6⟩;have kb6:=kb5.grown hg6 kb5.size (fun k hk=>by cases hk;exact Nat.le_trans kb.size hgl);have hs6:=hs5.grown hg6 (by simpa using Ne.symm hBg);clear ho5 hg6 hs5;have hod:=ho6.below (bdr w6);have hsd:=hs6.below (bdr w6);have hcd:w6.drew.cell? ⟨w.heap.size,0,none⟩=some (.int .i64 s.fore)/\w6.drew.cell? ⟨w.heap.size,1,none⟩=some (.int .i64 s.back)/\w6.drew.cell? ⟨w.heap.size,2,none⟩=some (.bool s.bold)/\w6.drew.cell? ⟨w.heap.size,3,none⟩=some (.bool s.under)/\w6.drew.cell? ⟨w.heap.size,4,none⟩=some (.bool s.turned):=hsd.2.1;have kbd:=kb6.trans ((bdr w6).mono kb6.size);obtain ⟨_,⟨c0,c1,c2,c3,c4⟩,_⟩:=id hs6;clear ho6 hs6;go_wp2;clear c0 c1 c2 c3 c4
       go_region_held3 (fun W=>W.cell? ⟨w.heap.size,0,none⟩=some (.int .i64 s.fore)/\W.cell? ⟨w.heap.size,1,none⟩=some (.int .i64 s.back)/\W.cell? ⟨w.heap.size,2,none⟩=some (.bool s.bold)/\W.cell? ⟨w.heap.size,3,none⟩=some (.bool s.under)/\W.cell? ⟨w.heap.size,4,none⟩=some (.bool s.turned)) (first|with_reducible assumption)
        (first
         | (go_at_call 219;refine (hcut _).mono ?_;rintro e wk ⟨rfl,hwk⟩;subst hwk)
         | (go_at_call 206;refine (hbo _ hsd hod).mono ?_;rintro e wz ⟨rfl,hcz,hoz,hgz⟩))
       go_wp2;go_ret;rw [hfin.out] at hoz
       exact ⟨_,rfl,by rw [hV.out];exact hoz,kbd.grown hgz kbd.size (fun k hk=>by cases hk;exact Nat.le_trans kb.size hgl)⟩
      ·have hpqi:¬ (p:Int)<(q:Int):=by omega
       have epq:q=p:=by omega
       have hV2:Hid (clearedV xs p q s=xs):=by show _=_;rw [hV.out,epq];exact clear_none hR p s
       clear hpq hR hV epq;go_wp2;go_ret;exact ⟨_,rfl,by rw [hV2.out];exact ho4,kb4⟩
theorem Scr.row {W0 W1:World} {T:TypeId} {base B g N cap:Nat} {X:List Value} {t:Te} {v:Tv} {vg vo:List Value} (h:Scr W0 T base B X t v vg vo) (hbase:base<=W0.heap.size) (hb:Below W0.heap.size W0 W1) (hvg:v.g=.slice (some ⟨g,0,none⟩) N cap) (hN:t.g.length=N) (i:Nat) (hi:i<N) (r:Value) (xs:List Ce) (hr:OwnC W1 W0.heap.size r xs) :
  Res W0 (W1.setCell ⟨g,i,none⟩ r) T base B X v vg vo { t with g:=t.g.set i xs } v (vg.set i r) vo:=by
 have ho:=h.o.1;have hl:=ho.1;rw [hvg] at ho
 have ho1:OwnV W1 base W0.heap.size (.slice (some ⟨g,0,none⟩) N cap) vg t.g:=ho.below hb;obtain ⟨hv,hg⟩:=ho1.setV hN i hi r xs (hr.low hbase) (fun q e=>(hr.lt q e).1);refine h.rows hbase (vg.set i r) _ (by rw [hvg];exact hv) ?_ (fun k hk c=>?_)
 ·rw [hvg]
  exact (GrP.of_below hb).trans (GrP.of_grown hg (fun g' e=>by cases e;exact .inl rfl))
 ·rcases c with c|⟨j,hj,e⟩
  ·exact .inl c
  ·rw [List.length_set] at hj
   rw [rowV_setV (by omega)] at e
   by_cases ej:j=i
   ·rw [if_pos ej] at e
    have:=(hr.lt k e).1;omega
   ·rw [if_neg ej] at e
    exact .inr ⟨j,hj,e⟩
theorem clearPart_any (cn N base B:Nat) (x0 x1 x2 x3 x4 x5:Value) (t:Te) (v:Tv) (vg vo:List Value) (w:World) (hSp:SpansAt w) (h:Scr w 98 base B [x0,x1,x2,x3,x4,x5] t v vg vo) (hbase:base<=w.heap.size) (rt:RtW t cn N) (i:Nat) (hi:i<N) (p q:Int) :
  Calls Tryz.prog 236 #[.pointer (some ⟨B,0,none⟩),.int .i64 (i:Int),.int .i64 p,.int .i64 q] w fun e w'=>e=.returned (.tuple #[])/\∃ v' vg' vo',Res w w' 98 base B [x0,x1,x2,x3,x4,x5] v vg vo (rowT t i (clearedV (rowX t.g i) p q (backS t.st))) v' vg' vo':=by
 have hN:=rt.n;have hn2:=rt.n1;have hcl:=rt.c;rcases h.o.1.shape with ⟨_,hs⟩|⟨g,cap,hvg,hbg,hlg,hcap⟩
 ·rw [hs] at hN;simp at hN;omega
 rw [hN] at hvg hcap
 have ho:=h.o.1;have hro:=ho.2.2.1 i (by omega);have hvl:=ho.1;rw [hvg] at ho
 have hci:=ho.cell hN i hi;obtain ⟨ra,rn,rc,hre⟩:=hro.isSl;rw [hre] at hci hro
 have hgx:=rt.gx i hi;have hsl:SlC w (.slice ra rn rc) (rowX t.g i):=SlC.of_own hro;have hlt:=h.lt;have c7:∀ W,Below w.heap.size w W->W.cell? ⟨B,7,none⟩=some (.slice (some ⟨g,0,none⟩) N cap):=fun W hb=>by rw [(h.below hb).cell 7];show some v.g=_;rw [hvg]
 have ci:∀ W,Below w.heap.size w W->W.cell? ⟨g,i,none⟩=some (.slice ra rn rc):=fun W hb=>(hb.cell (p:=⟨g,i,none⟩) hlg).trans hci
 have zi:∀ W,Below w.heap.size w W->W.frozen? ⟨g,i,none⟩=false:=fun W hb=>(ho.below hb).frozen hN i
 have hbk:=fun W (hb:Below w.heap.size w W)=>back_any B t.st W ((h.below hb).cell 13) (Nat.lt_of_lt_of_le hlt hb.size)
 have hcd:=fun W (hb:Below w.heap.size w W)=>implCleared_any (.slice ra rn rc) (rowX t.g i) p q (backS t.st) W (hSp.below hb hSp.lt) (hsl.below hb) (by omega)
 obtain ⟨R,hR⟩:∃ R,Hid (clearedV (rowX t.g i) p q (backS t.st)=R):=⟨_,rfl⟩;simp only [hR.out] at hcd ⊢
 have hfin:∀ W r,Below w.heap.size w W->OwnC W w.heap.size r R->Res w (W.setCell ⟨g,i,none⟩ r) 98 base B [x0,x1,x2,x3,x4,x5] v vg vo (rowT t i R) v (vg.set i r) vo:=fun W r hb hr=>by
  have:=h.row hbase hb hvg hN i hi r R hr;unfold rowT;rw [Int.toNat_natCast]
  exact this
 have hsc:∀ W r,Below w.heap.size w W->(W.setCell ⟨g,i,none⟩ r).cell? ⟨B,7,none⟩=some (.slice (some ⟨g,0,none⟩) N cap):=fun W r hb=>by
  have hne:g≠B:=fun e=>grS_not h.o.1 h.b h.n1 h.n2 (.inl (by rw [hvg,<- e];rfl))
  rw [<- c7 W hb]
  exact World.cell?_of_block (w:=W) ((setCell_gr W g i r).block B (Nat.lt_of_lt_of_le hlt hb.size) (fun e=>hne (Option.some.inj e).symm))
 unfold stV at hbk hcd;have hd:=bdr w;have i0:(0:Int)<=(i:Int):=by omega
 have i1:(i:Int)<(N:Int):=by omega
 clear h hbase rt ho hro hre hsl hgx hSp hvg hbg hcap hlt hvl hci hR;go_enter Tryz.func236,Tryz.ntmps236;go_wp2;refine wp_region_noPanic ?_;refine wp_region_held_drew (S:=(fun W=>W.cell? ⟨B,7,none⟩=some (.slice (some ⟨g,0,none⟩) N cap))) (by kernel_rfl) (c7 _ hd) (fun hHeld=>?_);have di:=ci _ hd;refine tk 0 ?_;refine tk 1 ?_;refine tk 2 ?_;refine tk 3 ?_;refine tk 4 ?_;refine tk 5 ?_;refine tk 6 ?_;refine tk 7 ?_;refine tk 8 ?_;refine tk 9 ?_;refine tk 10 ?_;refine tk 11 ?_;refine tk 12 ?_;refine tk 13 ?_;refine tk 14 ?_;refine tk 16 ?_;refine tk 17 ?_;refine tk 18 ?_;refine rd2 15 19 (fun K hK=>?_) fun K hK=>?_
 ·go_simp
  refine hK.out _ _ (hHeld) (fun hHeld=>?_);clear hK K;refine rd 19 fun K hK=>?_
  go_simp;refine (hbk _ hd).mono ?_;rintro e wk ⟨rfl,hb⟩;replace hd:=hd.trans (hb.mono hd.size);have di:=ci _ hd;unfold backS;go_wp2_with fail;refine hK.out _ _ (c7 _ hd) (fun hHeld=>?_);clear hK K;refine rd 20 fun K hK=>?_
  go_simp;refine (hcd _ hd).mono ?_;rintro e w2 ⟨u,rfl,hu,hb⟩;have hu2:=hu.low hd.size;replace hd:=hd.trans (hb.mono hd.size);obtain ⟨ua,un,uc,hue⟩:=hu2.isSl;subst hue;have di:=ci _ hd;have zj:=zi _ hd;go_wp2_with fail;refine hK.out _ _ (c7 _ hd) (fun hHeld=>?_);clear hK K;refine tk 21 ?_;refine rd 22 fun K hK=>?_
  go_simp;refine hK.out _ _ (hsc _ _ hd) (fun hHeld=>?_);clear hK K
  (try simp only [Act.put,ZA,ZB,ZC,ZD,ZE,ZF])
  refine dn ?_;go_wp2;refine be ?_;exact ⟨rfl,_,_,_,hfin _ _ hd hu2⟩
 ·go_simp
  refine (hbk _ hd).mono ?_;rintro e wk ⟨rfl,hb⟩;replace hd:=hd.trans (hb.mono hd.size);have di:=ci _ hd;unfold backS;go_wp2_with fail;refine hK.out _ _ (c7 _ hd) (fun hHeld=>?_);clear hK K;refine rd 15 fun K hK=>?_
  go_simp;refine hK.out _ _ (hHeld) (fun hHeld=>?_);clear hK K;refine rd 20 fun K hK=>?_
  go_simp;refine (hcd _ hd).mono ?_;rintro e w2 ⟨u,rfl,hu,hb⟩;have hu2:=hu.low hd.size;replace hd:=hd.trans (hb.mono hd.size);obtain ⟨ua,un,uc,hue⟩:=hu2.isSl;subst hue;have di:=ci _ hd;have zj:=zi _ hd;go_wp2_with fail;refine hK.out _ _ (c7 _ hd) (fun hHeld=>?_);clear hK K;refine tk 21 ?_;refine rd 22 fun K hK=>?_
  go_simp;refine hK.out _ _ (hsc _ _ hd) (fun hHeld=>?_);clear hK K
  (try simp only [Act.put,ZA,ZB,ZC,ZD,ZE,ZF])
  refine dn ?_;go_wp2;refine be ?_;exact ⟨rfl,_,_,_,hfin _ _ hd hu2⟩
theorem l1MaxG_any (a b:Int) (w:World) :
  Calls Tryz.prog 157 #[.int .i64 a,.int .i64 b] w fun e w'=>e=.returned (.int .i64 (max a b))/\w'=w:=by
 by_cases h:b<a
 ·have hm:Hid (max a b=a):=by show _=_;omega
  go_enter Tryz.func157,Tryz.ntmps157;go_wp2;go_ret;exact ⟨by rw [hm.out];rfl,rfl⟩
 ·have hm:Hid (max a b=b):=by show _=_;omega
  go_enter Tryz.func157,Tryz.ntmps157;go_wp2;go_ret;exact ⟨by rw [hm.out];rfl,rfl⟩
theorem rowOk_of {l:List Ce} (h:Right l) (h1:1<=l.length) (h2:l.length<=60):rowOkB l=true:=(right_iff l).2 ⟨⟨h1,h2⟩,h⟩
theorem gridOk_of2 {cols:Nat} {rows:List (List Ce)} (hc:1<=cols/\cols<=60) (hn:1<=rows.length/\rows.length<=30) (h:∀ i,i<rows.length->(rowX rows i).length=cols/\Right (rowX rows i)):gridOkB (cols:Int) rows=true:=by
 rw [gridOk_iff]
 refine ⟨by omega,hn,fun i hi=>?_⟩;obtain ⟨h1,h2⟩:=h i hi;have h1':(rows.getD i []).length=cols:=h1;unfold fitB;rw [Bool.and_eq_true,decide_eq_true_eq]
 exact ⟨by omega,rowOk_of h2 (by omega) (by omega)⟩
theorem gridOk_rows {cols:Nat} {rows:List (List Ce)} (h:gridOkB (cols:Int) rows=true):(1<=cols/\cols<=60)/\(1<=rows.length/\rows.length<=30)/\∀ i,i<rows.length->(rowX rows i).length=cols/\Right (rowX rows i):=by
 obtain ⟨h1,h2,h3⟩:=(gridOk_iff _ _).1 h;refine ⟨by omega,h2,fun i hi=>?_⟩;have h4:=h3 i hi;unfold fitB at h4;rw [Bool.and_eq_true,decide_eq_true_eq] at h4
 have h5:((rowX rows i).length:Int)=cols:=h4.1;exact ⟨by omega,((right_iff _).1 h4.2).2⟩
theorem moveR_ok {cols:Nat} {rows:List (List Ce)} (h:gridOkB (cols:Int) rows=true) (t b:Nat) (hb:b<rows.length) (m:Int) (s:St) (hs:s.ok=true):gridOkB (cols:Int) (moveR cols rows t b m s)=true:=by
 obtain ⟨h1,h2,h3⟩:=gridOk_rows h;refine gridOk_of2 h1 (by rw [moveR_len];exact h2) fun i hi=>?_
 rw [moveR_len] at hi
 rw [moveR_at _ _ _ _ _ _ _ hi]
 split
 ·split
  ·exact h3 _ (by omega)
  ·exact ⟨rowL_len _ _,rowL_right _ _ hs⟩
 ·exact h3 i hi
theorem l7Cell_any (gc r c:Int) (a:Option Addr) (n cp:Nat) (w:World) (h1:1<=gc) (h2:gc<=60) (hn1:1<=n) (hn:n<=30) :
  Calls Tryz.prog 72 #[.agg #[.int .i64 gc,.slice a n cp],.int .i64 r,.int .i64 c] w fun e w'=>e=.returned (.bool (cellB gc n r c))/\Below w.heap.size w w':=by
 have hb0:=bal' w (Obj.cells #[.int .i64 gc,.slice a n cp] 26);have hi:=fun x lo hi W=>l1In_any x lo hi W
 obtain ⟨b1,e1⟩:∃ b,Hid (decide (0<=r/\r<=(n:Int)-1)=b):=⟨_,rfl⟩;obtain ⟨b2,e2⟩:∃ b,Hid (decide (0<=c/\c<=gc-1)=b):=⟨_,rfl⟩;have i1:=fun W=>hi r 0 ((n:Int)-1) W
 have i2:=fun W=>hi c 0 (gc-1) W
 rw [e1.out] at i1
 rw [e2.out] at i2
 have hv:Hid (cellB gc n r c=(b1 && b2)):=by show _=_;unfold cellB;rw [e1.out,e2.out]
 rw [hv.out]
 have hn1i:(1:Int)<=(n:Int):=by omega
 have hni:(n:Int)<=30:=by omega
 clear hi e1 e2 hv hn1 hn
 cases b1
 ·go_enter Tryz.func72,Tryz.ntmps72
  go_wp2_with fail;refine (i1 _).mono ?_;rintro e w1 ⟨rfl,hw⟩;subst hw;go_wp2;go_ret;exact ⟨rfl,hb0⟩
 ·go_enter Tryz.func72,Tryz.ntmps72
  go_wp2_with fail;refine (i1 _).mono ?_;rintro e w1 ⟨rfl,hw⟩;subst hw;go_wp2_with fail;refine (i2 _).mono ?_;rintro e w2 ⟨rfl,hw⟩;subst hw;go_wp2;go_ret;exact ⟨rfl,hb0⟩
theorem specTermOk_any (t:Te) (v:Tv) (w:World) (h:SlT w t v) (hz:SzT 1048576 t) :
  Calls Tryz.prog 20 #[teV t v] w fun e w'=>e=.returned (.bool (termOkB t))/\Below w.heap.size w w':=by
 obtain ⟨vg,vo,vti,vpp,vpt⟩:=v;obtain ⟨hg,ho,hti,hpp,hpt⟩:=h;simp only at hg ho hti hpp hpt;obtain ⟨z1,z2,z3,z4,z5,z6,z7⟩:=hz;obtain ⟨rv,hrv⟩:∃ rv,Hid (rv=termOkB t):=⟨_,rfl⟩;rw [<- hrv.out]
 have hb0:=bal' w (Obj.cells (teCs t ⟨vg,vo,vti,vpp,vpt⟩) 35);have hB:=TeB.new w 35 t ⟨vg,vo,vti,vpp,vpt⟩;have cG:=fun W hW=>specGridOk_any t.gc vg t.g W hW z1 z2
 have cO:=fun W hW=>specGridOk_any t.oc vo t.o W hW z3 z4
 have cS:=fun W=>specStyleOk_any t.st W
 have cSs:=fun W=>specStyleOk_any t.ss W
 have cT:=fun W hW=>specRunes6_any vti t.ti 40 W hW (by omega) (by decide)
 have cP:=fun W h1 h2=>specParserOk_any t.pa vpp vpt W h1 h2 (by omega) (by omega)
 have cF:=fun W=>specFeederOk_any t.fe W
 obtain ⟨bG,eG⟩:∃ b,Hid (gridOkB t.gc t.g=b):=⟨_,rfl⟩;obtain ⟨bO,eO⟩:∃ b,Hid (gridOkB t.oc t.o=b):=⟨_,rfl⟩;obtain ⟨bS,eS⟩:∃ b,Hid (t.st.ok=b):=⟨_,rfl⟩;obtain ⟨bSs,eSs⟩:∃ b,Hid (t.ss.ok=b):=⟨_,rfl⟩;obtain ⟨bT,eT⟩:∃ b,Hid ((decide (t.ti.length<=40) && runesB t.ti)=b):=⟨_,rfl⟩;obtain ⟨bP,eP⟩:∃ b,Hid (okV t.pa=b):=⟨_,rfl⟩;obtain ⟨bF,eF⟩:∃ b,Hid (feedOk t.fe=b):=⟨_,rfl⟩;rw [eG.out] at cG
 rw [eO.out] at cO
 rw [eS.out] at cS
 rw [eSs.out] at cSs
 rw [eT.out] at cT
 rw [eP.out] at cP
 rw [eF.out] at cF
 obtain ⟨ga,gp,hq1⟩:=slG_shp hg;obtain ⟨oa,op,hq2⟩:=slG_shp ho;obtain ⟨tia,tip,hq3⟩:=hti.shp;obtain ⟨ppa,ppp,hq4⟩:=hpp.shp;obtain ⟨pta,ptp,hq5⟩:=hpt.shp;subst hq1;subst hq2;subst hq3;subst hq4;subst hq5;unfold teV gridV stV paV at *;obtain ⟨w1,hw1⟩:∃ w1,w1=w.alloc (Obj.cells (teCs t ⟨.slice ga t.g.length gp,.slice oa t.o.length op,.slice tia t.ti.length tip,.slice ppa t.pa.params.length ppp,.slice pta t.pa.text.length ptp⟩) 35):=⟨_,rfl⟩;rw [<- hw1] at hB hb0
 replace hw1:=(show Hid _ from hw1);clear z1 z2 z3 z4 z5 z6 z7;go_enter Tryz.func20,Tryz.ntmps20;refine wp_seq_k (fun K hK=>?_);have hH:=(show Hid _ from hK);clear hK;go_wp2;refine hH.out _ _ ?_;rw [<- hw1.out]
 clear hH hw1;obtain ⟨c0,c1,c2,c3,c4,c5,c6,c7,c8,c9,c10,c11,c12,c13,c14,c15,c16,c17,c18,c19,c20,c21,c22,c23,c24,c25,c26,c27,c28,c29⟩:=hB.cells;go_wp2_with fail;refine (cG _ (hg.below hb0)).mono ?_;rintro e w1 ⟨rfl,hb⟩;have hb1:=hb0.trans (hb.mono hb0.size);replace hB:=hB.below hb;clear c0 c1 c2 c3 c4 c5 c6 c7 c8 c9 c10 c11 c12 c13 c14 c15 c16 c17 c18 c19 c20 c21 c22 c23 c24 c25 c26 c27 c28 c29;clear hb hb0;obtain ⟨c0,c1,c2,c3,c4,c5,c6,c7,c8,c9,c10,c11,c12,c13,c14,c15,c16,c17,c18,c19,c20,c21,c22,c23,c24,c25,c26,c27,c28,c29⟩:=hB.cells
 cases bG
 case false =>
  have hv:Hid (rv=false):=by show _=_;rw [hrv.out];unfold termOkB;simp [eG.out]
  go_wp2;go_ret;exact ⟨by rw [hv.out];rfl,hb1⟩
 go_wp2_with fail;refine (cO _ (ho.below hb1)).mono ?_;rintro e w2 ⟨rfl,hb⟩;have hb2:=hb1.trans (hb.mono hb1.size);replace hB:=hB.below hb;clear c0 c1 c2 c3 c4 c5 c6 c7 c8 c9 c10 c11 c12 c13 c14 c15 c16 c17 c18 c19 c20 c21 c22 c23 c24 c25 c26 c27 c28 c29;clear hb hb1;obtain ⟨c0,c1,c2,c3,c4,c5,c6,c7,c8,c9,c10,c11,c12,c13,c14,c15,c16,c17,c18,c19,c20,c21,c22,c23,c24,c25,c26,c27,c28,c29⟩:=hB.cells
 cases bO
 case false =>
  have hv:Hid (rv=false):=by show _=_;rw [hrv.out];unfold termOkB;simp [eG.out,eO.out]
  go_wp2;go_ret;exact ⟨by rw [hv.out];rfl,hb2⟩
 obtain ⟨⟨hc1,hc2⟩,⟨hn1,hn2⟩,_⟩:=(gridOk_iff t.gc t.g).1 eG.out;have hn1i:(1:Int)<=(t.g.length:Int):=by omega
 have hn2i:(t.g.length:Int)<=30:=by omega
 by_cases q3:t.gc=t.oc
 case neg =>
  have hv:Hid (rv=false):=by show _=_;rw [hrv.out];unfold termOkB;simp [q3]
  have q3b:(t.gc != t.oc)=true:=by simp [q3]
  go_wp2;go_ret;exact ⟨by rw [hv.out];rfl,hb2⟩
 have q3b:(t.gc != t.oc)=false:=by simp [q3]
 have q3h:=(show Hid _ from q3);clear q3
 by_cases q4:t.g.length=t.o.length
 case neg =>
  have hv:Hid (rv=false):=by show _=_;rw [hrv.out];unfold termOkB;simp [q4]
  have q4b:((t.g.length:Int) != (t.o.length:Int))=true:=by simp;omega
  clear q4;go_wp2;go_ret;exact ⟨by rw [hv.out];rfl,hb2⟩
 have q4b:((t.g.length:Int) != (t.o.length:Int))=false:=by simp;omega
 have q4h:=(show Hid _ from q4);clear q4;have cC:=fun W=>l7Cell_any t.gc t.row t.col ga t.g.length gp W hc1 hc2 hn1 hn2
 have cD:=fun W=>l7Cell_any t.gc t.sr t.sc ga t.g.length gp W hc1 hc2 hn1 hn2
 have cI:=fun W=>l1In_any t.top 0 t.bot W
 obtain ⟨bC,eC⟩:∃ b,Hid (cellB t.gc t.g.length t.row t.col=b):=⟨_,rfl⟩;obtain ⟨bD,eD⟩:∃ b,Hid (cellB t.gc t.g.length t.sr t.sc=b):=⟨_,rfl⟩;obtain ⟨bI,eI⟩:∃ b,Hid (decide (0<=t.top/\t.top<=t.bot)=b):=⟨_,rfl⟩;rw [eC.out] at cC
 rw [eD.out] at cD
 rw [eI.out] at cI
 go_wp2_with fail;refine (cC _).mono ?_;rintro e w3 ⟨rfl,hb⟩;have hb3:=hb2.trans (hb.mono hb2.size);replace hB:=hB.below hb;clear c0 c1 c2 c3 c4 c5 c6 c7 c8 c9 c10 c11 c12 c13 c14 c15 c16 c17 c18 c19 c20 c21 c22 c23 c24 c25 c26 c27 c28 c29;clear hb hb2;obtain ⟨c0,c1,c2,c3,c4,c5,c6,c7,c8,c9,c10,c11,c12,c13,c14,c15,c16,c17,c18,c19,c20,c21,c22,c23,c24,c25,c26,c27,c28,c29⟩:=hB.cells
 cases bC
 case false =>
  have hv:Hid (rv=false):=by show _=_;rw [hrv.out];unfold termOkB;simp [eC.out]
  go_wp2;go_ret;exact ⟨by rw [hv.out];rfl,hb3⟩
 go_wp2_with fail;refine (cD _).mono ?_;rintro e w4 ⟨rfl,hb⟩;have hb4:=hb3.trans (hb.mono hb3.size);replace hB:=hB.below hb;clear c0 c1 c2 c3 c4 c5 c6 c7 c8 c9 c10 c11 c12 c13 c14 c15 c16 c17 c18 c19 c20 c21 c22 c23 c24 c25 c26 c27 c28 c29;clear hb hb3;obtain ⟨c0,c1,c2,c3,c4,c5,c6,c7,c8,c9,c10,c11,c12,c13,c14,c15,c16,c17,c18,c19,c20,c21,c22,c23,c24,c25,c26,c27,c28,c29⟩:=hB.cells
 cases bD
 case false =>
  have hv:Hid (rv=false):=by show _=_;rw [hrv.out];unfold termOkB;simp [eD.out]
  go_wp2;go_ret;exact ⟨by rw [hv.out];rfl,hb4⟩
 go_wp2_with fail;refine (cI _).mono ?_;rintro e w5 ⟨rfl,hw⟩;subst hw
 cases bI
 case false =>
  have hv:Hid (rv=false):=by
   have:=of_decide_eq_false eI.out
   show _=_;rw [hrv.out];unfold termOkB
   rw [decide_eq_false (p:=0<=t.top/\_) (by omega)];simp
  go_wp2;go_ret;exact ⟨by rw [hv.out];rfl,hb4⟩
 have q5:=of_decide_eq_true eI.out
 by_cases q6:(t.g.length:Int)-1<t.bot
 case pos =>
  have hv:Hid (rv=false):=by
   show _=_;rw [hrv.out];unfold termOkB
   rw [decide_eq_false (p:=0<=t.top/\_) (by omega)];simp
  go_wp2;go_ret;exact ⟨by rw [hv.out];rfl,hb4⟩
 by_cases q7:t.top=t.bot
 case pos =>
  have q7b:(t.top==t.bot)=true:=by simp [q7]
  by_cases q8:0<(t.g.length:Int)-1
  case pos =>
   have hv:Hid (rv=false):=by
    show _=_;rw [hrv.out];unfold termOkB
    rw [decide_eq_false (p:=0<=t.top/\_) (by omega)];simp
   clear q7;go_wp2;go_ret;exact ⟨by rw [hv.out];rfl,hb4⟩
  have q9:Hid (0<=t.top/\t.top<=t.bot/\t.bot<=(t.g.length:Int)-1/\¬ (t.top=t.bot/\0<(t.g.length:Int)-1)):=by show _/\_;omega
  clear q7
  by_cases q10:t.full=true/\t.col≠t.gc-1
  case pos =>
   obtain ⟨qa,qb⟩:=q10
   have hv:Hid (rv=false):=by
    show _=_;rw [hrv.out];unfold termOkB
    rw [decide_eq_false (p:=t.full=true->_) (fun h=>qb (h qa))];simp
   have qbb:(t.col != t.gc-1)=true:=by simp [qb]
   rw [qa] at c13
   clear qb qa;go_wp2;go_ret;exact ⟨by rw [hv.out];rfl,hb4⟩
  have q11:Hid (t.full=true->t.col=t.gc-1):=fun h=>by
   by_cases hq:t.col=t.gc-1
   ·exact hq
   ·exact absurd ⟨h,hq⟩ q10
  clear q10;obtain ⟨fu,hfu⟩:∃ fu,Hid (t.full=fu):=⟨_,rfl⟩;rw [hfu.out] at c13
  cases fu
  case false =>
   go_wp2_with fail;refine (cS _).mono ?_;rintro e w6 ⟨rfl,hb⟩;have hb6:=hb4.trans (hb.mono hb4.size);replace hB:=hB.below hb;clear c0 c1 c2 c3 c4 c5 c6 c7 c8 c9 c10 c11 c12 c13 c14 c15 c16 c17 c18 c19 c20 c21 c22 c23 c24 c25 c26 c27 c28 c29;clear hb hb4;obtain ⟨c0,c1,c2,c3,c4,c5,c6,c7,c8,c9,c10,c11,c12,c13,c14,c15,c16,c17,c18,c19,c20,c21,c22,c23,c24,c25,c26,c27,c28,c29⟩:=hB.cells
   cases bS
   case false =>
    have hv:Hid (rv=false):=by show _=_;rw [hrv.out];unfold termOkB;simp [eS.out]
    go_wp2;go_ret;exact ⟨by rw [hv.out];rfl,hb6⟩
   go_wp2_with fail;refine (cSs _).mono ?_;rintro e w7 ⟨rfl,hb⟩;have hb7:=hb6.trans (hb.mono hb6.size);replace hB:=hB.below hb;clear c0 c1 c2 c3 c4 c5 c6 c7 c8 c9 c10 c11 c12 c13 c14 c15 c16 c17 c18 c19 c20 c21 c22 c23 c24 c25 c26 c27 c28 c29;clear hb hb6;obtain ⟨c0,c1,c2,c3,c4,c5,c6,c7,c8,c9,c10,c11,c12,c13,c14,c15,c16,c17,c18,c19,c20,c21,c22,c23,c24,c25,c26,c27,c28,c29⟩:=hB.cells
   cases bSs
   case false =>
    have hv:Hid (rv=false):=by show _=_;rw [hrv.out];unfold termOkB;simp [eSs.out]
    go_wp2;go_ret;exact ⟨by rw [hv.out];rfl,hb7⟩
   go_wp2_with fail;refine (cT _ (hti.below hb7).l.sl).mono ?_;rintro e w8 ⟨rfl,hw⟩;subst hw
   cases bT
   case false =>
    have hv:Hid (rv=false):=by show _=_;rw [hrv.out];unfold termOkB;rw [eT.out];simp
    go_wp2;go_ret;exact ⟨by rw [hv.out];rfl,hb7⟩
   go_wp2_with fail;refine (cP _ (hpp.below hb7).l.sl (hpt.below hb7).l.sl).mono ?_;rintro e w9 ⟨rfl,hb⟩;have hb9:=hb7.trans (hb.mono hb7.size);replace hB:=hB.below hb;clear c0 c1 c2 c3 c4 c5 c6 c7 c8 c9 c10 c11 c12 c13 c14 c15 c16 c17 c18 c19 c20 c21 c22 c23 c24 c25 c26 c27 c28 c29;clear hb hb7;obtain ⟨c0,c1,c2,c3,c4,c5,c6,c7,c8,c9,c10,c11,c12,c13,c14,c15,c16,c17,c18,c19,c20,c21,c22,c23,c24,c25,c26,c27,c28,c29⟩:=hB.cells
   cases bP
   case false =>
    have hv:Hid (rv=false):=by show _=_;rw [hrv.out];unfold termOkB;simp [eP.out]
    go_wp2;go_ret;exact ⟨by rw [hv.out];rfl,hb9⟩
   go_wp2_with fail;refine (cF _).mono ?_;rintro e w10 ⟨rfl,hb⟩;have hb10:=hb9.trans (hb.mono hb9.size);have hv:Hid (rv=bF):=by show _=_;rw [hrv.out];unfold termOkB;rw [eG.out,eO.out,decide_eq_true q3h.out,decide_eq_true q4h.out,eC.out,eD.out,decide_eq_true q9.out,decide_eq_true q11.out,eS.out,eSs.out,eT.out,eP.out,eF.out];simp
   go_wp2;go_ret;exact ⟨by rw [hv.out];rfl,hb10⟩
  case true =>
   have qbb:(t.col != t.gc-1)=false:=by simp [q11.out hfu.out]
   go_wp2_with fail;refine (cS _).mono ?_;rintro e w6 ⟨rfl,hb⟩;have hb6:=hb4.trans (hb.mono hb4.size);replace hB:=hB.below hb;clear c0 c1 c2 c3 c4 c5 c6 c7 c8 c9 c10 c11 c12 c13 c14 c15 c16 c17 c18 c19 c20 c21 c22 c23 c24 c25 c26 c27 c28 c29;clear hb hb4;obtain ⟨c0,c1,c2,c3,c4,c5,c6,c7,c8,c9,c10,c11,c12,c13,c14,c15,c16,c17,c18,c19,c20,c21,c22,c23,c24,c25,c26,c27,c28,c29⟩:=hB.cells
   cases bS
   case false =>
    have hv:Hid (rv=false):=by show _=_;rw [hrv.out];unfold termOkB;simp [eS.out]
    go_wp2;go_ret;exact ⟨by rw [hv.out];rfl,hb6⟩
   go_wp2_with fail;refine (cSs _).mono ?_;rintro e w7 ⟨rfl,hb⟩;have hb7:=hb6.trans (hb.mono hb6.size);replace hB:=hB.below hb;clear c0 c1 c2 c3 c4 c5 c6 c7 c8 c9 c10 c11 c12 c13 c14 c15 c16 c17 c18 c19 c20 c21 c22 c23 c24 c25 c26 c27 c28 c29;clear hb hb6;obtain ⟨c0,c1,c2,c3,c4,c5,c6,c7,c8,c9,c10,c11,c12,c13,c14,c15,c16,c17,c18,c19,c20,c21,c22,c23,c24,c25,c26,c27,c28,c29⟩:=hB.cells
   cases bSs
   case false =>
    have hv:Hid (rv=false):=by show _=_;rw [hrv.out];unfold termOkB;simp [eSs.out]
    go_wp2;go_ret;exact ⟨by rw [hv.out];rfl,hb7⟩
   go_wp2_with fail;refine (cT _ (hti.below hb7).l.sl).mono ?_;rintro e w8 ⟨rfl,hw⟩;subst hw
   cases bT
   case false =>
    have hv:Hid (rv=false):=by show _=_;rw [hrv.out];unfold termOkB;rw [eT.out];simp
    go_wp2;go_ret;exact ⟨by rw [hv.out];rfl,hb7⟩
   go_wp2_with fail;refine (cP _ (hpp.below hb7).l.sl (hpt.below hb7).l.sl).mono ?_;rintro e w9 ⟨rfl,hb⟩;have hb9:=hb7.trans (hb.mono hb7.size);replace hB:=hB.below hb;clear c0 c1 c2 c3 c4 c5 c6 c7 c8 c9 c10 c11 c12 c13 c14 c15 c16 c17 c18 c19 c20 c21 c22 c23 c24 c25 c26 c27 c28 c29;clear hb hb7;obtain ⟨c0,c1,c2,c3,c4,c5,c6,c7,c8,c9,c10,c11,c12,c13,c14,c15,c16,c17,c18,c19,c20,c21,c22,c23,c24,c25,c26,c27,c28,c29⟩:=hB.cells
   cases bP
   case false =>
    have hv:Hid (rv=false):=by show _=_;rw [hrv.out];unfold termOkB;simp [eP.out]
    go_wp2;go_ret;exact ⟨by rw [hv.out];rfl,hb9⟩
   go_wp2_with fail;refine (cF _).mono ?_;rintro e w10 ⟨rfl,hb⟩;have hb10:=hb9.trans (hb.mono hb9.size);have hv:Hid (rv=bF):=by show _=_;rw [hrv.out];unfold termOkB;rw [eG.out,eO.out,decide_eq_true q3h.out,decide_eq_true q4h.out,eC.out,eD.out,decide_eq_true q9.out,decide_eq_true q11.out,eS.out,eSs.out,eT.out,eP.out,eF.out];simp
   go_wp2;go_ret;exact ⟨by rw [hv.out];rfl,hb10⟩
 have q7b:(t.top==t.bot)=false:=by simp [q7]
 have q9:Hid (0<=t.top/\t.top<=t.bot/\t.bot<=(t.g.length:Int)-1/\¬ (t.top=t.bot/\0<(t.g.length:Int)-1)):=by show _/\_;omega
 by_cases q10:t.full=true/\t.col≠t.gc-1
 case pos =>
  obtain ⟨qa,qb⟩:=q10
  have hv:Hid (rv=false):=by
   show _=_;rw [hrv.out];unfold termOkB
   rw [decide_eq_false (p:=t.full=true->_) (fun h=>qb (h qa))];simp
  have qbb:(t.col != t.gc-1)=true:=by simp [qb]
  rw [qa] at c13
  clear qb qa;go_wp2;go_ret;exact ⟨by rw [hv.out];rfl,hb4⟩
 have q11:Hid (t.full=true->t.col=t.gc-1):=fun h=>by
  by_cases hq:t.col=t.gc-1
  ·exact hq
  ·exact absurd ⟨h,hq⟩ q10
 clear q10;obtain ⟨fu,hfu⟩:∃ fu,Hid (t.full=fu):=⟨_,rfl⟩;rw [hfu.out] at c13
 cases fu
 case false =>
  go_wp2_with fail;refine (cS _).mono ?_;rintro e w6 ⟨rfl,hb⟩;have hb6:=hb4.trans (hb.mono hb4.size);replace hB:=hB.below hb;clear c0 c1 c2 c3 c4 c5 c6 c7 c8 c9 c10 c11 c12 c13 c14 c15 c16 c17 c18 c19 c20 c21 c22 c23 c24 c25 c26 c27 c28 c29;clear hb hb4;obtain ⟨c0,c1,c2,c3,c4,c5,c6,c7,c8,c9,c10,c11,c12,c13,c14,c15,c16,c17,c18,c19,c20,c21,c22,c23,c24,c25,c26,c27,c28,c29⟩:=hB.cells
  cases bS
  case false =>
   have hv:Hid (rv=false):=by show _=_;rw [hrv.out];unfold termOkB;simp [eS.out]
   go_wp2;go_ret;exact ⟨by rw [hv.out];rfl,hb6⟩
  go_wp2_with fail;refine (cSs _).mono ?_;rintro e w7 ⟨rfl,hb⟩;have hb7:=hb6.trans (hb.mono hb6.size);replace hB:=hB.below hb;clear c0 c1 c2 c3 c4 c5 c6 c7 c8 c9 c10 c11 c12 c13 c14 c15 c16 c17 c18 c19 c20 c21 c22 c23 c24 c25 c26 c27 c28 c29;clear hb hb6;obtain ⟨c0,c1,c2,c3,c4,c5,c6,c7,c8,c9,c10,c11,c12,c13,c14,c15,c16,c17,c18,c19,c20,c21,c22,c23,c24,c25,c26,c27,c28,c29⟩:=hB.cells
  cases bSs
  case false =>
   have hv:Hid (rv=false):=by show _=_;rw [hrv.out];unfold termOkB;simp [eSs.out]
   go_wp2;go_ret;exact ⟨by rw [hv.out];rfl,hb7⟩
  go_wp2_with fail;refine (cT _ (hti.below hb7).l.sl).mono ?_;rintro e w8 ⟨rfl,hw⟩;subst hw
  cases bT
  case false =>
   have hv:Hid (rv=false):=by show _=_;rw [hrv.out];unfold termOkB;rw [eT.out];simp
   go_wp2;go_ret;exact ⟨by rw [hv.out];rfl,hb7⟩
  go_wp2_with fail;refine (cP _ (hpp.below hb7).l.sl (hpt.below hb7).l.sl).mono ?_;rintro e w9 ⟨rfl,hb⟩;have hb9:=hb7.trans (hb.mono hb7.size);replace hB:=hB.below hb;clear c0 c1 c2 c3 c4 c5 c6 c7 c8 c9 c10 c11 c12 c13 c14 c15 c16 c17 c18 c19 c20 c21 c22 c23 c24 c25 c26 c27 c28 c29;clear hb hb7;obtain ⟨c0,c1,c2,c3,c4,c5,c6,c7,c8,c9,c10,c11,c12,c13,c14,c15,c16,c17,c18,c19,c20,c21,c22,c23,c24,c25,c26,c27,c28,c29⟩:=hB.cells
  cases bP
  case false =>
   have hv:Hid (rv=false):=by show _=_;rw [hrv.out];unfold termOkB;simp [eP.out]
   go_wp2;go_ret;exact ⟨by rw [hv.out];rfl,hb9⟩
  go_wp2_with fail;refine (cF _).mono ?_;rintro e w10 ⟨rfl,hb⟩;have hb10:=hb9.trans (hb.mono hb9.size);have hv:Hid (rv=bF):=by show _=_;rw [hrv.out];unfold termOkB;rw [eG.out,eO.out,decide_eq_true q3h.out,decide_eq_true q4h.out,eC.out,eD.out,decide_eq_true q9.out,decide_eq_true q11.out,eS.out,eSs.out,eT.out,eP.out,eF.out];simp
  go_wp2;go_ret;exact ⟨by rw [hv.out];rfl,hb10⟩
 case true =>
  have qbb:(t.col != t.gc-1)=false:=by simp [q11.out hfu.out]
  go_wp2_with fail;refine (cS _).mono ?_;rintro e w6 ⟨rfl,hb⟩;have hb6:=hb4.trans (hb.mono hb4.size);replace hB:=hB.below hb;clear c0 c1 c2 c3 c4 c5 c6 c7 c8 c9 c10 c11 c12 c13 c14 c15 c16 c17 c18 c19 c20 c21 c22 c23 c24 c25 c26 c27 c28 c29;clear hb hb4;obtain ⟨c0,c1,c2,c3,c4,c5,c6,c7,c8,c9,c10,c11,c12,c13,c14,c15,c16,c17,c18,c19,c20,c21,c22,c23,c24,c25,c26,c27,c28,c29⟩:=hB.cells
  cases bS
  case false =>
   have hv:Hid (rv=false):=by show _=_;rw [hrv.out];unfold termOkB;simp [eS.out]
   go_wp2;go_ret;exact ⟨by rw [hv.out];rfl,hb6⟩
  go_wp2_with fail;refine (cSs _).mono ?_;rintro e w7 ⟨rfl,hb⟩;have hb7:=hb6.trans (hb.mono hb6.size);replace hB:=hB.below hb;clear c0 c1 c2 c3 c4 c5 c6 c7 c8 c9 c10 c11 c12 c13 c14 c15 c16 c17 c18 c19 c20 c21 c22 c23 c24 c25 c26 c27 c28 c29;clear hb hb6;obtain ⟨c0,c1,c2,c3,c4,c5,c6,c7,c8,c9,c10,c11,c12,c13,c14,c15,c16,c17,c18,c19,c20,c21,c22,c23,c24,c25,c26,c27,c28,c29⟩:=hB.cells
  cases bSs
  case false =>
   have hv:Hid (rv=false):=by show _=_;rw [hrv.out];unfold termOkB;simp [eSs.out]
   go_wp2;go_ret;exact ⟨by rw [hv.out];rfl,hb7⟩
  go_wp2_with fail;refine (cT _ (hti.below hb7).l.sl).mono ?_;rintro e w8 ⟨rfl,hw⟩;subst hw
  cases bT
  case false =>
   have hv:Hid (rv=false):=by show _=_;rw [hrv.out];unfold termOkB;rw [eT.out];simp
   go_wp2;go_ret;exact ⟨by rw [hv.out];rfl,hb7⟩
  go_wp2_with fail;refine (cP _ (hpp.below hb7).l.sl (hpt.below hb7).l.sl).mono ?_;rintro e w9 ⟨rfl,hb⟩;have hb9:=hb7.trans (hb.mono hb7.size);replace hB:=hB.below hb;clear c0 c1 c2 c3 c4 c5 c6 c7 c8 c9 c10 c11 c12 c13 c14 c15 c16 c17 c18 c19 c20 c21 c22 c23 c24 c25 c26 c27 c28 c29;clear hb hb7;obtain ⟨c0,c1,c2,c3,c4,c5,c6,c7,c8,c9,c10,c11,c12,c13,c14,c15,c16,c17,c18,c19,c20,c21,c22,c23,c24,c25,c26,c27,c28,c29⟩:=hB.cells
  cases bP
  case false =>
   have hv:Hid (rv=false):=by show _=_;rw [hrv.out];unfold termOkB;simp [eP.out]
   go_wp2;go_ret;exact ⟨by rw [hv.out];rfl,hb9⟩
  go_wp2_with fail;refine (cF _).mono ?_;rintro e w10 ⟨rfl,hb⟩;have hb10:=hb9.trans (hb.mono hb9.size);have hv:Hid (rv=bF):=by show _=_;rw [hrv.out];unfold termOkB;rw [eG.out,eO.out,decide_eq_true q3h.out,decide_eq_true q4h.out,eC.out,eD.out,decide_eq_true q9.out,decide_eq_true q11.out,eS.out,eSs.out,eT.out,eP.out,eF.out];simp
  go_wp2;go_ret;exact ⟨by rw [hv.out];rfl,hb10⟩
theorem termOk_sizes {t:Te} (h:termOkB t=true):∃ gc:Nat,t.gc=gc/\t.oc=gc/\gridOkB (gc:Int) t.g=true/\gridOkB (gc:Int) t.o=true/\(0<=t.row/\t.row<=30)/\RtT t:=by
 unfold termOkB cellB okV at h;simp only [Bool.and_eq_true,decide_eq_true_eq] at h;obtain ⟨⟨h1,h2,h3,h4⟩,⟨⟨⟨r1,r2⟩,r3⟩,_⟩,_,_,_,⟨h5,_⟩,⟨⟨⟨_,_,h6,_,h7,_⟩,_⟩,_⟩,_⟩:=h;have q:=((gridOk_iff _ _).1 h1).1;obtain ⟨gc,hgc⟩:∃ k:Nat,t.gc=k:=⟨t.gc.toNat,by omega⟩;have hoc:t.oc=gc:=by rw [<- h3,hgc]
 rw [hgc] at h1
 rw [hoc] at h2
 obtain ⟨⟨g1,g2⟩,gl,gx⟩:=gridOk_rows h1;obtain ⟨_,ol,ox⟩:=gridOk_rows h2;exact ⟨gc,hgc,hoc,h1,h2,⟨r1,by omega⟩,gl,fun i hi=>by rw [(gx i hi).1];exact ⟨g1,g2⟩,ol,fun i hi=>by rw [(ox i hi).1];exact ⟨g1,g2⟩,h5,h6,h7⟩
end Go.Proofs.YtgcnmjjlmcnllaaGreatDoor
