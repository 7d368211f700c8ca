import Derived.Test.YtfpopnkhmjkdlaaGreatDoorP27
set_option maxRecDepth 20000
set_option maxHeartbeats 16000000
namespace Go.Proofs.YtfpopnkhmjkdlaaGreatDoor
open Go.ChangeShapes Go.WideShapes Go.ChangeAt Go.RowKit
def ApF (w:World) (B:Nat) (v:Tv) (vg vo:List Value) (pv:Value):Prop:=∀ g,pv.ownBlock=some g->g<w.heap.size/\¬ Ft B v vg vo g
theorem ApF.mono {w w':World} {B:Nat} {v:Tv} {vg vo:List Value} {pv:Value} (h:ApF w B v vg vo pv) (hs:w.heap.size<=w'.heap.size):ApF w' B v vg vo pv:=fun g e=>⟨Nat.lt_of_lt_of_le (h g e).1 hs,(h g e).2⟩
theorem SlN.si {w:World} {v:Value} {xs:List Int} (h:SlN w v xs):SlI w v xs:=by
 obtain ⟨a,c,hv,_,_,hr⟩:=h;exact ⟨a,c,hv,hr⟩
theorem SlN.grp {S:Nat->Prop} {w w':World} {u:Value} {xs:List Int} (h:SlN w u xs) (hg:GrP S w w') (hne:∀ g,u.ownBlock=some g->¬ S g):SlN w' u xs:=by
 obtain ⟨a,c,hv,hc0,hn,h|⟨b,off,ha,hlt,hc⟩⟩:=h
 ·exact ⟨a,c,hv,hc0,hn,.inl h⟩
 ·refine ⟨a,c,hv,hc0,hn,.inr ⟨b,off,ha,Nat.lt_of_lt_of_le hlt hg.size,fun i hi=>?_⟩⟩
  have e:=hg.2.2.2.2 b hlt (hne b (by rw [hv,ha];rfl));exact (World.cell?_of_block (w:=w) (a:=⟨b,off+i,none⟩) e).trans (hc i hi)
theorem SlN.res {w w':World} {T:TypeId} {base B:Nat} {X:List Value} {v v':Tv} {vg vo vg' vo':List Value} {t':Te} {u:Value} {xs:List Int} (h:SlN w u xs) (hd:ApF w B v vg vo u) (r:Res w w' T base B X v vg vo t' v' vg' vo'):SlN w' u xs/\ApF w' B v' vg' vo' u :=
 ⟨h.grp r.g (fun g e=>(hd g e).2),fun g e=>⟨Nat.lt_of_lt_of_le (hd g e).1 r.g.size,fun c=>(hd g e).2 (r.c g (hd g e).1 c)⟩⟩
theorem Scr.ftb {W:World} {T:TypeId} {base B:Nat} {X:List Value} {t:Te} {v:Tv} {vg vo:List Value} (h:Scr W T base B X t v vg vo) {k:Nat} (hk:Ft B v vg vo k):base<=k:=by
 rcases hk with rfl|hk|hk
 ·exact h.hb
 ·exact (GrS.bd h.o.1 hk).1
 ·exact (GrS.bd h.o.2.1 hk).1
theorem Scr.bel {W W':World} {T:TypeId} {base B:Nat} {X:List Value} {t t':Te} {v v':Tv} {vg vo vg' vo':List Value} (h:Scr W T base B X t v vg vo) (hbase:base<=W.heap.size) (r:Res W W' T base B X v vg vo t' v' vg' vo'):Below base W W':=r.g.to_below (fun _ c=>h.ftb c) hbase
theorem QM (cn N base B:Nat) (x0 x1 x2 x3 x4 x5 pv:Value) (ps:List Int) (t:Te) (v:Tv) (vg vo:List Value) (w:World) (h:Scr w 98 base B [x0,x1,x2,x3,x4,x5] t v vg vo) (rk:RtK t cn N) (hp:SlN w pv ps) (hl:ps.length<=1000) (hd:ApF w B v vg vo pv) (n m:Int) (en:Hid (Xa ps 0 1=n)) (em:Hid (Xa ps 1 1=m)) (hn:0<=n/\n<=9999) (hm:0<=m/\m<=9999) :
  Calls Tryz.prog 189 #[.pointer (some ⟨B,0,none⟩),pv] w fun e w'=>e=.returned (.tuple #[])/\∃ v' vg' vo',Res w w' 98 base B [x0,x1,x2,x3,x4,x5] v vg vo { t with row:=min (n-1) ((t.g.length:Int)-1),col:=min (m-1) (t.gc-1) } v' vg' vo':=by
 have h1:=Xa4 cn N base B x0 x1 x2 x3 x4 x5 pv ps t v vg vo w h rk.w hp hl n en hn;have rt:=rk.w;obtain ⟨c1,c2⟩:=rt.c;have hgc:=rt.gc;have hpa:=fun W (hW:SlN W pv ps)=>KO pv ps 1 1 W hW hl
 simp only [em.out] at hpa;have hpr:=fun W' v' vg' vo' (r:Res w W' 98 base B [x0,x1,x2,x3,x4,x5] v vg vo { t with row:=min (n-1) ((t.g.length:Int)-1) } v' vg' vo')=>(hp.res hd r).1
 have hw:IntKind.i64.wrap (m-1)=m-1:=by simp [IntKind.wrap,IntKind.bits,IntKind.signed];omega
 obtain ⟨q,e⟩:∃ q,Hid (min (m-1) (t.gc-1)=q):=⟨_,rfl⟩;rw [e.out]
 have hmx:min (m-1) ((cn:Int)-1)=q:=by have:=e.out;omega
 obtain ⟨pa,pc,rfl⟩:=hp.shp;clear hp h rt hn hm en em hl hd rk;go_enter Tryz.func189,Tryz.ntmps189;go_wp2_with fail;refine h1.mono ?_;rintro e w1 ⟨rfl,v1,g1,o1,hR1⟩;have hp1:=hpa _ (hpr _ _ _ _ hR1);have hla:=Yd B (cn:Int) w1 (by rw [<- hgc];exact hR1.s.cell 6) (by omega);have c11:w1.cell? ⟨B,11,none⟩=some (.int .i64 t.col):=hR1.s.cell 11;have z11:=hR1.s.frozen 11;have hR:=(show Hid _ from hR1.trans (hR1.s.put (sCg B [.int .i64 q] 11 w1) { t with row:=min (n-1) ((t.g.length:Int)-1),col:=q } (sCh B 98 [.int .i64 q] 11 w1 _ hR1.s.b) rfl rfl rfl rfl rfl));clear hpa hpr hR1 h1 hgc e;go_wp2_with fail;refine hp1.mono ?_;rintro e wk ⟨rfl,hw1⟩;subst hw1;go_wp2_with fail;refine hla.mono ?_;rintro e wk ⟨rfl,hw1⟩;subst hw1;go_wp2;refine be ?_;exact ⟨rfl,_,_,_,hR.out⟩
theorem Ky (cn N base B:Nat) (x0 x1 x2 x3 x4 x5:Value) (t:Te) (v:Tv) (vg vo:List Value) (w:World) (hSp:Xo w) (h:Scr w 98 base B [x0,x1,x2,x3,x4,x5] t v vg vo) (hbase:base<=w.heap.size) (rk:RtK t cn N) (r p q:Int) (hr:0<=r/\r<N) (hpq:0<=p/\p<=q/\q<=cn) :
  Calls Tryz.prog 236 #[.pointer (some ⟨B,0,none⟩),.int .i64 r,.int .i64 p,.int .i64 q] w fun e w'=>e=.returned (.tuple #[])/\∃ v' vg' vo',Res w w' 98 base B [x0,x1,x2,x3,x4,x5] v vg vo (X3 t r p q) v' vg' vo':=by
 have:=Xau cn N base B x0 x1 x2 x3 x4 x5 t v vg vo w hSp h hbase rk.w r.toNat (by omega) p q;rw [show ((r.toNat:Nat):Int)=r by omega,rk.cleared r p q hr hpq] at this
 exact this
def cpF (how a _n:Int):Int:=if how=0 then a else if how=1 then 0 else if how=2 then 0 else a
def cpT (how a n:Int):Int:=if how=0 then n else if how=1 then a+1 else if how=2 then n else a
theorem Jr (pv:Value) (ps:List Int) (a n:Int) (w:World) (h:SlN w pv ps) (hl:ps.length<=1000) (ha:0<=a/\a<=1000) :
  Calls Tryz.prog 235 #[pv,.int .i64 a,.int .i64 n] w fun e w'=>e=.returned (.tuple #[.int .i64 (cpF (Xa ps 0 0) a n),.int .i64 (cpT (Xa ps 0 0) a n)])/\w'=w:=by
 have hp:=KO pv ps 0 0 w h hl;obtain ⟨pa,pc,rfl⟩:=h.shp;obtain ⟨q,eq⟩:∃ q,Hid (Xa ps 0 0=q):=⟨_,rfl⟩;simp only [eq.out] at hp ⊢
 clear eq h
 by_cases q0:q=0
 ·subst q0
  rw [show cpF 0 a n=a from rfl,show cpT 0 a n=n from rfl]
  go_enter Tryz.func235,Tryz.ntmps235;go_wp2_with fail;refine hp.mono ?_;rintro e w1 ⟨rfl,hw⟩;subst hw;go_wp2;go_ret2;exact ⟨rfl,rfl⟩
 by_cases q1:q=1
 ·subst q1
  rw [show cpF 1 a n=0 from rfl,show cpT 1 a n=a+1 from rfl]
  have hw:IntKind.i64.wrap (a+1)=a+1:=by simp [IntKind.wrap,IntKind.bits,IntKind.signed];omega
  go_enter Tryz.func235,Tryz.ntmps235;go_wp2_with fail;refine hp.mono ?_;rintro e w1 ⟨rfl,hw⟩;subst hw;go_wp2;go_ret2;exact ⟨rfl,rfl⟩
 by_cases q2:q=2
 ·subst q2
  rw [show cpF 2 a n=0 from rfl,show cpT 2 a n=n from rfl]
  go_enter Tryz.func235,Tryz.ntmps235;go_wp2_with fail;refine hp.mono ?_;rintro e w1 ⟨rfl,hw⟩;subst hw;go_wp2;go_ret2;exact ⟨rfl,rfl⟩
 ·have e0:(q==0)=false:=by simp [q0]
  have e1:(q==1)=false:=by simp [q1]
  have e2:(q==2)=false:=by simp [q2]
  have hf:cpF q a n=a:=by unfold cpF;rw [if_neg q0,if_neg q1,if_neg q2]
  have ht:cpT q a n=a:=by unfold cpT;rw [if_neg q0,if_neg q1,if_neg q2]
  rw [hf,ht]
  clear hf ht;go_enter Tryz.func235,Tryz.ntmps235;go_wp2_with fail;refine hp.mono ?_;rintro e w1 ⟨rfl,hw⟩;subst hw;go_wp2;go_ret2;exact ⟨rfl,rfl⟩
theorem RtK.cpV {t:Te} {cn N:Nat} (h:RtK t cn N) (how:Int):Zf t how=X3 t t.row (cpF how t.col t.gc) (cpT how t.col t.gc):=by
 unfold Zf cpF cpT
 by_cases q0:how=0
 ·rw [if_pos q0,if_pos q0,if_pos q0]
 rw [if_neg q0,if_neg q0,if_neg q0]
 by_cases q1:how=1
 ·rw [if_pos q1,if_pos q1,if_pos q1]
 rw [if_neg q1,if_neg q1,if_neg q1]
 by_cases q2:how=2
 ·rw [if_pos q2,if_pos q2,if_pos q2]
 rw [if_neg q2,if_neg q2,if_neg q2,h.clear_same t.row t.col h.w.row]
theorem Xf6 (how a n:Int) (ha:0<=a/\a<n):0<=cpF how a n/\cpF how a n<=cpT how a n/\cpT how a n<=n:=by
 unfold cpF cpT;split
 ·omega
 split
 ·omega
 split<;>omega
theorem Us (cn N base B:Nat) (x0 x1 x2 x3 x4 x5 pv:Value) (ps:List Int) (t:Te) (v:Tv) (vg vo:List Value) (w:World) (hSp:Xo w) (h:Scr w 98 base B [x0,x1,x2,x3,x4,x5] t v vg vo) (hbase:base<=w.heap.size) (rk:RtK t cn N) (hp:SlN w pv ps) (hl:ps.length<=1000) (how:Int) (eh:Hid (Xa ps 0 0=how)) :
  Calls Tryz.prog 191 #[.pointer (some ⟨B,0,none⟩),pv] w fun e w'=>e=.returned (.tuple #[])/\∃ v' vg' vo',Res w w' 98 base B [x0,x1,x2,x3,x4,x5] v vg vo (Zf t how) v' vg' vo':=by
 have hcp:=fun W (hb:Below w.heap.size w W)=>Jr pv ps t.col t.gc W (hp.below hb) hl (by have:=rk.w.col;have:=rk.w.c;omega)
 simp only [eh.out] at hcp;have hbd:=Xf6 how t.col t.gc (by have:=rk.w.col;have:=rk.w.gc;omega);rw [rk.cpV how]
 have hcl:=fun W (hb:Below w.heap.size w W)=>Ky cn N base B x0 x1 x2 x3 x4 x5 t v vg vo W (hSp.below hb hSp.lt) (h.below hb) (Nat.le_trans hbase hb.size) rk t.row (cpF how t.col t.gc) (cpT how t.col t.gc) rk.w.row (by have:=rk.w.gc;omega)
 have cf:∀ W,Below w.heap.size w W->W.cell? ⟨B,11,none⟩=some (.int .i64 t.col)/\W.cell? ⟨B,6,none⟩=some (.int .i64 t.gc):=fun W hb=>⟨(h.below hb).cell 11,(h.below hb).cell 6⟩
 have c10:∀ W,Below w.heap.size w W->W.cell? ⟨B,10,none⟩=some (.int .i64 t.row):=fun W hb=>(h.below hb).cell 10
 have hof:=fun W (hbW:Below w.heap.size w W)=>Res.of_below h hbW
 have hd:=bdr w;obtain ⟨pa,pc,rfl⟩:=hp.shp;generalize cpF how t.col t.gc=f1 at *;generalize cpT how t.col t.gc=f2 at *;clear h hbase rk hp hl eh hSp hbd;go_enter Tryz.func191,Tryz.ntmps191;go_wp2;refine wp_region_noPanic ?_;refine wp_region_held_drew (S:=(fun W=>W.cell? ⟨B,11,none⟩=some (.int .i64 t.col)/\W.cell? ⟨B,6,none⟩=some (.int .i64 t.gc))) (by kernel_rfl) (cf _ hd) (fun Hh=>?_);refine tK 0 ?_;refine tK 1 ?_;refine tK 2 ?_;refine tK 3 ?_;refine tK 4 ?_;refine tK 5 ?_;refine tK 6 ?_;refine tK 7 ?_;refine tK 8 ?_;refine tK 9 ?_;refine tK 10 ?_;refine tk 11 ?_;refine rd 12 fun K hK=>?_
 go_simp;refine (hcp _ hd).mono ?_;rintro e wk ⟨rfl,hw1⟩;subst hw1;go_wp2_with fail;refine hK.out _ _ (cf _ hd) (fun Hh=>?_);clear hK K;refine tK 13 ?_;refine tK 14 ?_;refine tK 15 ?_;refine tK 16 ?_;refine tk 17 ?_;simp only [Act.put,ZA,ZB,ZC,ZD,ZE,ZF];refine dn ?_;have k10:=c10 _ hd;go_wp2_with fail;refine (hcl _ hd).mono ?_;rintro e w2 ⟨rfl,v2,g2,o2,hR⟩;go_wp2;refine be ?_;exact ⟨rfl,_,_,_,(hof _ hd).trans hR⟩
theorem QC (cn N base B:Nat) (x0 x1 x2 x3 x4 x5 pv:Value) (ps:List Int) (t:Te) (v:Tv) (vg vo:List Value) (w:World) (hSp:Xo w) (h:Scr w 98 base B [x0,x1,x2,x3,x4,x5] t v vg vo) (hbase:base<=w.heap.size) (rk:RtK t cn N) (hp:SlN w pv ps) (hl:ps.length<=1000) (n:Int) (en:Hid (Xa ps 0 1=n)) (hn:0<=n/\n<=9999) :
  Calls Tryz.prog 192 #[.pointer (some ⟨B,0,none⟩),pv] w fun e w'=>e=.returned (.tuple #[])/\∃ v' vg' vo',Res w w' 98 base B [x0,x1,x2,x3,x4,x5] v vg vo (X3 t t.row t.col (min t.gc (t.col+n))) v' vg' vo':=by
 have hc1:=fun W (hbW:Below w.heap.size w W)=>X1 pv ps W (hp.below hbW) hl
 simp only [en.out] at hc1;obtain ⟨k1,k2⟩:=rk.w.col;have hgc:=rk.w.gc;have hcc:=rk.w.c;have hw:IntKind.i64.wrap (t.col+n)=t.col+n:=by simp [IntKind.wrap,IntKind.bits,IntKind.signed];omega
 obtain ⟨q,e⟩:∃ q,Hid (min t.gc (t.col+n)=q):=⟨_,rfl⟩;rw [e.out]
 have hmx:min (t.col+n) t.gc=q:=by have:=e.out;omega
 have hcl:=fun W (hb:Below w.heap.size w W)=>Ky cn N base B x0 x1 x2 x3 x4 x5 t v vg vo W (hSp.below hb hSp.lt) (h.below hb) (Nat.le_trans hbase hb.size) rk t.row t.col q rk.w.row (by have:=e.out;omega)
 have cf:∀ W,Below w.heap.size w W->W.cell? ⟨B,10,none⟩=some (.int .i64 t.row)/\W.cell? ⟨B,11,none⟩=some (.int .i64 t.col)/\W.cell? ⟨B,6,none⟩=some (.int .i64 t.gc):=fun W hb=>⟨(h.below hb).cell 10,(h.below hb).cell 11,(h.below hb).cell 6⟩
 have cr:∀ W W2 v2 g2 o2,Res W W2 98 base B [x0,x1,x2,x3,x4,x5] v vg vo (X3 t t.row t.col q) v2 g2 o2->W2.cell? ⟨B,10,none⟩=some (.int .i64 t.row)/\W2.cell? ⟨B,11,none⟩=some (.int .i64 t.col)/\W2.cell? ⟨B,6,none⟩=some (.int .i64 t.gc):=fun W W2 v2 g2 o2 h=>⟨h.s.cell 10,h.s.cell 11,h.s.cell 6⟩
 have hof:=fun W (hbW:Below w.heap.size w W)=>Res.of_below h hbW
 have hd:=bdr w;obtain ⟨pa,pc,rfl⟩:=hp.shp;clear h hbase rk hp hl en hSp hgc k1 k2 hcc hn e;go_enter Tryz.func192,Tryz.ntmps192;go_wp2;refine wp_region_noPanic ?_;refine wp_region_held_drew (S:=(fun W=>W.cell? ⟨B,10,none⟩=some (.int .i64 t.row)/\W.cell? ⟨B,11,none⟩=some (.int .i64 t.col)/\W.cell? ⟨B,6,none⟩=some (.int .i64 t.gc))) (by kernel_rfl) (cf _ hd) (fun Hh=>?_);refine tK 0 ?_;refine tK 1 ?_;refine tK 2 ?_;refine tK 3 ?_;refine tK 4 ?_;refine tK 5 ?_;refine tK 6 ?_;refine tK 7 ?_;refine tK 8 ?_;refine tK 9 ?_;refine tK 10 ?_;refine tK 11 ?_;refine tK 12 ?_;refine tK 13 ?_;refine tK 14 ?_;refine tK 15 ?_;refine tK 16 ?_;refine tK 19 ?_;refine tK 20 ?_;refine tK 21 ?_;refine tK 22 ?_;refine tK 23 ?_;refine tk 24 ?_;refine rd 17 fun K hK=>?_
 go_simp;refine (hc1 _ hd).mono ?_;rintro e wk ⟨rfl,hw1⟩;subst hw1;go_wp2_with fail;refine hK.out _ _ (cf _ hd) (fun Hh=>?_);clear hK K;refine tK 18 ?_;refine tk 25 ?_;refine rd 26 fun K hK=>?_
 go_simp;refine (hcl _ hd).mono ?_;rintro e w2 ⟨rfl,v2,g2,o2,hR⟩;go_wp2_with fail;refine hK.out _ _ (cr _ _ _ _ _ hR) (fun Hh=>?_);clear hK K
 (try simp only [Act.put,ZA,ZB,ZC,ZD,ZE,ZF])
 refine dn ?_;go_wp2;refine be ?_;exact ⟨rfl,_,_,_,(hof _ hd).trans hR⟩
theorem XbI (cn N base B:Nat) (x0 x1 x2 x3 x4 x5 pv:Value) (ps:List Int) (t:Te) (v:Tv) (vg vo:List Value) (w:World) (hSp:Xo w) (h:Scr w 98 base B [x0,x1,x2,x3,x4,x5] t v vg vo) (hbase:base<=w.heap.size) (rk:RtK t cn N) (hp:SlN w pv ps) (hl:ps.length<=1000) (n:Int) (en:Hid (Xa ps 0 1=n)) (hn:0<=n/\n<=9999) :
  Calls Tryz.prog 195 #[.pointer (some ⟨B,0,none⟩),pv] w fun e w'=>e=.returned (.tuple #[])/\∃ v' vg' vo',Res w w' 98 base B [x0,x1,x2,x3,x4,x5] v vg vo (Ka t t.row (KP (Xb t.g t.row.toNat) t.col.toNat (min n (t.gc-t.col)).toNat (Xn t.st))) v' vg' vo':=by
 have hc1:=fun W (hbW:Below w.heap.size w W)=>X1 pv ps W (hp.below hbW) hl
 simp only [en.out] at hc1;obtain ⟨k1,k2⟩:=rk.w.col;have hgc:=rk.w.gc;have hcc:=rk.w.c;have hN:=rk.w.n;have hn1:=rk.w.n1;have hw:IntKind.i64.wrap (t.gc-t.col)=t.gc-t.col:=by simp [IntKind.wrap,IntKind.bits,IntKind.signed];omega
 obtain ⟨m,e⟩:∃ m,Hid (min n (t.gc-t.col)=m):=⟨_,rfl⟩;have hVV:=rk.pushed t.row t.col m rk.w.row ⟨k1,k2⟩ (by have:=e.out;omega);rw [e.out,<- hVV]
 have hmx:min n (t.gc-t.col)=m:=e.out;obtain ⟨i,hri⟩:∃ i:Nat,t.row=(i:Int):=⟨t.row.toNat,by have:=rk.w.row;omega⟩;have hi:i<N:=by have:=rk.w.row;omega
 rw [hri,Int.toNat_natCast]
 clear hVV;rcases h.o.1.shape with ⟨_,hs⟩|⟨g,cap,hvg,hbg,hlg,hcap⟩
 ·rw [hs] at hN;simp at hN;omega
 rw [hN] at hvg hcap
 have ho:=h.o.1;have hro:=ho.2.2.1 i (by omega);have hvl:=ho.1;rw [hvg] at ho
 have hci:=ho.cell hN i hi;obtain ⟨ra,rn,rc,hre⟩:=hro.isSl;rw [hre] at hci hro
 have hgx:=rk.w.gx i hi;have hsl:SlC w (.slice ra rn rc) (Xb t.g i):=SlC.of_own hro;have hlt:=h.lt;have cf0:∀ W,Below w.heap.size w W->W.cell? ⟨B,6,none⟩=some (.int .i64 t.gc)/\W.cell? ⟨B,11,none⟩=some (.int .i64 t.col):=fun W hb=>⟨(h.below hb).cell 6,(h.below hb).cell 11⟩
 have cf:∀ W,Below w.heap.size w W->W.cell? ⟨B,7,none⟩=some (.slice (some ⟨g,0,none⟩) N cap)/\W.cell? ⟨B,10,none⟩=some (.int .i64 (i:Int))/\W.cell? ⟨B,11,none⟩=some (.int .i64 t.col):=fun W hb=>⟨by rw [(h.below hb).cell 7];show some v.g=_;rw [hvg],by rw [(h.below hb).cell 10];show some (Value.int .i64 t.row)=_;rw [hri],(h.below hb).cell 11⟩
 have ci:∀ W,Below w.heap.size w W->W.cell? ⟨g,i,none⟩=some (.slice ra rn rc):=fun W hb=>(hb.cell (p:=⟨g,i,none⟩) hlg).trans hci
 have zi:∀ W,Below w.heap.size w W->W.frozen? ⟨g,i,none⟩=false:=fun W hb=>(ho.below hb).frozen hN i
 have hbk:=fun W (hb:Below w.heap.size w W)=>JA B t.st W ((h.below hb).cell 13) (Nat.lt_of_lt_of_le hlt hb.size)
 have hcd:=fun W (hb:Below w.heap.size w W)=>QO (.slice ra rn rc) (Xb t.g i) t.col m (Xn t.st) W (hSp.below hb hSp.lt) (hsl.below hb) (by omega)
 obtain ⟨R,hR⟩:∃ R,Hid (Ko (Xb t.g i) t.col m (Xn t.st)=R):=⟨_,rfl⟩;simp only [hR.out] at hcd ⊢
 have hfin:∀ W r,Below w.heap.size w W->Xl W w.heap.size r R->Res w (W.setCell ⟨g,i,none⟩ r) 98 base B [x0,x1,x2,x3,x4,x5] v vg vo (Ka t i R) v (vg.set i r) vo:=fun W r hb hr=>by
  have:=h.row hbase hb hvg hN i hi r R hr;unfold Ka;rw [Int.toNat_natCast]
  exact this
 have hsc:∀ W r,Below w.heap.size w W->(W.setCell ⟨g,i,none⟩ r).cell? ⟨B,7,none⟩=some (.slice (some ⟨g,0,none⟩) N cap)/\(W.setCell ⟨g,i,none⟩ r).cell? ⟨B,10,none⟩=some (.int .i64 (i:Int))/\(W.setCell ⟨g,i,none⟩ r).cell? ⟨B,11,none⟩=some (.int .i64 t.col):=fun W r hb=>by
  have hne:g≠B:=fun e=>YA h.o.1 h.b h.n1 h.n2 (.inl (by rw [hvg,<- e];rfl))
  have hk:∀ k,(W.setCell ⟨g,i,none⟩ r).cell? ⟨B,k,none⟩=W.cell? ⟨B,k,none⟩:=fun k=>World.cell?_of_block (w:=W) ((sCc W g i r).block B (Nat.lt_of_lt_of_le hlt hb.size) (fun e=>hne (Option.some.inj e).symm))
  rw [hk,hk,hk]
  exact cf W hb
 unfold stV at hbk hcd;have hd:=bdr w;obtain ⟨pa,pc,rfl⟩:=hp.shp;have i0:(0:Int)<=(i:Int):=by omega
 have i1:(i:Int)<(N:Int):=by omega
 clear h hbase rk ho hro hre hsl hgx hSp hvg hbg hcap hlt hvl hci hR hri hp hl en hn hgc hcc hN k1 k2 hn1 e hi hlg;go_enter Tryz.func195,Tryz.ntmps195;go_wp2;refine wp_region_noPanic ?_;refine wp_region_held_drew (S:=(fun W=>W.cell? ⟨B,6,none⟩=some (.int .i64 t.gc)/\W.cell? ⟨B,11,none⟩=some (.int .i64 t.col))) (by kernel_rfl) (cf0 _ hd) (fun Hh=>?_);refine tK 0 ?_;refine tK 2 ?_;refine tK 3 ?_;refine tK 4 ?_;refine tK 5 ?_;refine tK 6 ?_;refine tK 7 ?_;refine tK 8 ?_;refine tK 9 ?_;refine tK 10 ?_;refine tK 11 ?_;refine tK 12 ?_;refine tk 13 ?_;refine rd 1 fun K hK=>?_
 go_simp;refine (hc1 _ hd).mono ?_;rintro e wk ⟨rfl,hw1⟩;subst hw1;go_wp2_with fail;refine hK.out _ _ (cf0 _ hd) (fun Hh=>?_);clear hK K;refine tK 14 ?_;refine tk 15 ?_;simp only [Act.put,ZA,ZB,ZC,ZD,ZE,ZF];refine dn ?_;replace hd:=hd.trans ((bdr _).mono hd.size);clear hc1 cf0;go_wp2;refine wp_region_noPanic ?_;refine wp_region_held_drew (S:=(fun W=>W.cell? ⟨B,7,none⟩=some (.slice (some ⟨g,0,none⟩) N cap)/\W.cell? ⟨B,10,none⟩=some (.int .i64 (i:Int))/\W.cell? ⟨B,11,none⟩=some (.int .i64 t.col))) (by kernel_rfl) (cf _ hd) (fun Hh=>?_);have di:=ci _ hd;refine tK 0 ?_;refine tK 1 ?_;refine tK 2 ?_;refine tK 3 ?_;refine tK 4 ?_;refine tK 5 ?_;refine tK 6 ?_;refine tK 7 ?_;refine tK 8 ?_;refine tK 9 ?_;refine tK 10 ?_;refine tK 11 ?_;refine tK 12 ?_;refine tK 13 ?_;refine tK 14 ?_;refine tK 15 ?_;refine tK 16 ?_;refine tK 17 ?_;refine tK 18 ?_;refine tK 19 ?_;refine tK 20 ?_;refine tK 21 ?_;refine tK 22 ?_;refine tK 24 ?_;refine tK 25 ?_;refine tK 26 ?_;refine tK 27 ?_;refine tK 28 ?_;refine tK 29 ?_;refine tk 30 ?_;refine rd2 23 31 (fun K hK=>?_) fun K hK=>?_
 ·go_simp
  refine hK.out _ _ (Hh) (fun Hh=>?_);clear hK K;refine rd 31 fun K hK=>?_
  go_simp;refine (hbk _ hd).mono ?_;rintro e wk ⟨rfl,hb⟩;replace hd:=hd.trans (hb.mono hd.size);have di:=ci _ hd;unfold Xn;go_wp2_with fail;refine hK.out _ _ (cf _ hd) (fun Hh=>?_);clear hK K;refine rd 32 fun K hK=>?_
  go_simp;refine (hcd _ hd).mono ?_;rintro e w2 ⟨u,rfl,hu,hb⟩;have hu2:=hu.low hd.size;replace hd:=hd.trans (hb.mono hd.size);obtain ⟨ua,un,uc,hue⟩:=hu2.isSl;subst hue;have di:=ci _ hd;have zj:=zi _ hd;go_wp2_with fail;refine hK.out _ _ (cf _ hd) (fun Hh=>?_);clear hK K;refine tk 33 ?_;refine rd 34 fun K hK=>?_
  go_simp;refine hK.out _ _ (hsc _ _ hd) (fun Hh=>?_);clear hK K
  (try simp only [Act.put,ZA,ZB,ZC,ZD,ZE,ZF])
  refine dn ?_;go_wp2;refine be ?_;exact ⟨rfl,_,_,_,hfin _ _ hd hu2⟩
 ·go_simp
  refine (hbk _ hd).mono ?_;rintro e wk ⟨rfl,hb⟩;replace hd:=hd.trans (hb.mono hd.size);have di:=ci _ hd;unfold Xn;go_wp2_with fail;refine hK.out _ _ (cf _ hd) (fun Hh=>?_);clear hK K;refine rd 23 fun K hK=>?_
  go_simp;refine hK.out _ _ (Hh) (fun Hh=>?_);clear hK K;refine rd 32 fun K hK=>?_
  go_simp;refine (hcd _ hd).mono ?_;rintro e w2 ⟨u,rfl,hu,hb⟩;have hu2:=hu.low hd.size;replace hd:=hd.trans (hb.mono hd.size);obtain ⟨ua,un,uc,hue⟩:=hu2.isSl;subst hue;have di:=ci _ hd;have zj:=zi _ hd;go_wp2_with fail;refine hK.out _ _ (cf _ hd) (fun Hh=>?_);clear hK K;refine tk 33 ?_;refine rd 34 fun K hK=>?_
  go_simp;refine hK.out _ _ (hsc _ _ hd) (fun Hh=>?_);clear hK K
  (try simp only [Act.put,ZA,ZB,ZC,ZD,ZE,ZF])
  refine dn ?_;go_wp2;refine be ?_;exact ⟨rfl,_,_,_,hfin _ _ hd hu2⟩
theorem XaL (cn N base B:Nat) (x0 x1 x2 x3 x4 x5 pv:Value) (ps:List Int) (t:Te) (v:Tv) (vg vo:List Value) (w:World) (hSp:Xo w) (h:Scr w 98 base B [x0,x1,x2,x3,x4,x5] t v vg vo) (hbase:base<=w.heap.size) (rk:RtK t cn N) (hp:SlN w pv ps) (hl:ps.length<=1000) (n:Int) (en:Hid (Xa ps 0 1=n)) (hn:0<=n/\n<=9999) :
  Calls Tryz.prog 196 #[.pointer (some ⟨B,0,none⟩),pv] w fun e w'=>e=.returned (.tuple #[])/\∃ v' vg' vo',Res w w' 98 base B [x0,x1,x2,x3,x4,x5] v vg vo (Ka t t.row (K6 (Xb t.g t.row.toNat) t.col.toNat (min n (t.gc-t.col)).toNat (Xn t.st))) v' vg' vo':=by
 have hc1:=fun W (hbW:Below w.heap.size w W)=>X1 pv ps W (hp.below hbW) hl
 simp only [en.out] at hc1;obtain ⟨k1,k2⟩:=rk.w.col;have hgc:=rk.w.gc;have hcc:=rk.w.c;have hN:=rk.w.n;have hn1:=rk.w.n1;have hw:IntKind.i64.wrap (t.gc-t.col)=t.gc-t.col:=by simp [IntKind.wrap,IntKind.bits,IntKind.signed];omega
 obtain ⟨m,e⟩:∃ m,Hid (min n (t.gc-t.col)=m):=⟨_,rfl⟩;have hVV:=rk.pulled t.row t.col m rk.w.row ⟨k1,k2⟩ (by have:=e.out;omega);rw [e.out,<- hVV]
 have hmx:min n (t.gc-t.col)=m:=e.out;obtain ⟨i,hri⟩:∃ i:Nat,t.row=(i:Int):=⟨t.row.toNat,by have:=rk.w.row;omega⟩;have hi:i<N:=by have:=rk.w.row;omega
 rw [hri,Int.toNat_natCast]
 clear hVV;rcases h.o.1.shape with ⟨_,hs⟩|⟨g,cap,hvg,hbg,hlg,hcap⟩
 ·rw [hs] at hN;simp at hN;omega
 rw [hN] at hvg hcap
 have ho:=h.o.1;have hro:=ho.2.2.1 i (by omega);have hvl:=ho.1;rw [hvg] at ho
 have hci:=ho.cell hN i hi;obtain ⟨ra,rn,rc,hre⟩:=hro.isSl;rw [hre] at hci hro
 have hgx:=rk.w.gx i hi;have hsl:SlC w (.slice ra rn rc) (Xb t.g i):=SlC.of_own hro;have hlt:=h.lt;have cf0:∀ W,Below w.heap.size w W->W.cell? ⟨B,6,none⟩=some (.int .i64 t.gc)/\W.cell? ⟨B,11,none⟩=some (.int .i64 t.col):=fun W hb=>⟨(h.below hb).cell 6,(h.below hb).cell 11⟩
 have cf:∀ W,Below w.heap.size w W->W.cell? ⟨B,7,none⟩=some (.slice (some ⟨g,0,none⟩) N cap)/\W.cell? ⟨B,10,none⟩=some (.int .i64 (i:Int))/\W.cell? ⟨B,11,none⟩=some (.int .i64 t.col):=fun W hb=>⟨by rw [(h.below hb).cell 7];show some v.g=_;rw [hvg],by rw [(h.below hb).cell 10];show some (Value.int .i64 t.row)=_;rw [hri],(h.below hb).cell 11⟩
 have ci:∀ W,Below w.heap.size w W->W.cell? ⟨g,i,none⟩=some (.slice ra rn rc):=fun W hb=>(hb.cell (p:=⟨g,i,none⟩) hlg).trans hci
 have zi:∀ W,Below w.heap.size w W->W.frozen? ⟨g,i,none⟩=false:=fun W hb=>(ho.below hb).frozen hN i
 have hbk:=fun W (hb:Below w.heap.size w W)=>JA B t.st W ((h.below hb).cell 13) (Nat.lt_of_lt_of_le hlt hb.size)
 have hcd:=fun W (hb:Below w.heap.size w W)=>QN (.slice ra rn rc) (Xb t.g i) t.col m (Xn t.st) W (hSp.below hb hSp.lt) (hsl.below hb) (by omega)
 obtain ⟨R,hR⟩:∃ R,Hid (Kn (Xb t.g i) t.col m (Xn t.st)=R):=⟨_,rfl⟩;simp only [hR.out] at hcd ⊢
 have hfin:∀ W r,Below w.heap.size w W->Xl W w.heap.size r R->Res w (W.setCell ⟨g,i,none⟩ r) 98 base B [x0,x1,x2,x3,x4,x5] v vg vo (Ka t i R) v (vg.set i r) vo:=fun W r hb hr=>by
  have:=h.row hbase hb hvg hN i hi r R hr;unfold Ka;rw [Int.toNat_natCast]
  exact this
 have hsc:∀ W r,Below w.heap.size w W->(W.setCell ⟨g,i,none⟩ r).cell? ⟨B,7,none⟩=some (.slice (some ⟨g,0,none⟩) N cap)/\(W.setCell ⟨g,i,none⟩ r).cell? ⟨B,10,none⟩=some (.int .i64 (i:Int))/\(W.setCell ⟨g,i,none⟩ r).cell? ⟨B,11,none⟩=some (.int .i64 t.col):=fun W r hb=>by
  have hne:g≠B:=fun e=>YA h.o.1 h.b h.n1 h.n2 (.inl (by rw [hvg,<- e];rfl))
  have hk:∀ k,(W.setCell ⟨g,i,none⟩ r).cell? ⟨B,k,none⟩=W.cell? ⟨B,k,none⟩:=fun k=>World.cell?_of_block (w:=W) ((sCc W g i r).block B (Nat.lt_of_lt_of_le hlt hb.size) (fun e=>hne (Option.some.inj e).symm))
  rw [hk,hk,hk]
  exact cf W hb
 unfold stV at hbk hcd;have hd:=bdr w;obtain ⟨pa,pc,rfl⟩:=hp.shp;have i0:(0:Int)<=(i:Int):=by omega
 have i1:(i:Int)<(N:Int):=by omega
 clear h hbase rk ho hro hre hsl hgx hSp hvg hbg hcap hlt hvl hci hR hri hp hl en hn hgc hcc hN k1 k2 hn1 e hi hlg;go_enter Tryz.func196,Tryz.ntmps196;go_wp2;refine wp_region_noPanic ?_;refine wp_region_held_drew (S:=(fun W=>W.cell? ⟨B,6,none⟩=some (.int .i64 t.gc)/\W.cell? ⟨B,11,none⟩=some (.int .i64 t.col))) (by kernel_rfl) (cf0 _ hd) (fun Hh=>?_);refine tK 0 ?_;refine tK 2 ?_;refine tK 3 ?_;refine tK 4 ?_;refine tK 5 ?_;refine tK 6 ?_;refine tK 7 ?_;refine tK 8 ?_;refine tK 9 ?_;refine tK 10 ?_;refine tK 11 ?_;refine tK 12 ?_;refine tk 13 ?_;refine rd 1 fun K hK=>?_
 go_simp;refine (hc1 _ hd).mono ?_;rintro e wk ⟨rfl,hw1⟩;subst hw1;go_wp2_with fail;refine hK.out _ _ (cf0 _ hd) (fun Hh=>?_);clear hK K;refine tK 14 ?_;refine tk 15 ?_;simp only [Act.put,ZA,ZB,ZC,ZD,ZE,ZF];refine dn ?_;replace hd:=hd.trans ((bdr _).mono hd.size);clear hc1 cf0;go_wp2;refine wp_region_noPanic ?_;refine wp_region_held_drew (S:=(fun W=>W.cell? ⟨B,7,none⟩=some (.slice (some ⟨g,0,none⟩) N cap)/\W.cell? ⟨B,10,none⟩=some (.int .i64 (i:Int))/\W.cell? ⟨B,11,none⟩=some (.int .i64 t.col))) (by kernel_rfl) (cf _ hd) (fun Hh=>?_);have di:=ci _ hd;refine tK 0 ?_;refine tK 1 ?_;refine tK 2 ?_;refine tK 3 ?_;refine tK 4 ?_;refine tK 5 ?_;refine tK 6 ?_;refine tK 7 ?_;refine tK 8 ?_;refine tK 9 ?_;refine tK 10 ?_;refine tK 11 ?_;refine tK 12 ?_;refine tK 13 ?_;refine tK 14 ?_;refine tK 15 ?_;refine tK 16 ?_;refine tK 17 ?_;refine tK 18 ?_;refine tK 19 ?_;refine tK 20 ?_;refine tK 21 ?_;refine tK 22 ?_;refine tK 24 ?_;refine tK 25 ?_;refine tK 26 ?_;refine tK 27 ?_;refine tK 28 ?_;refine tK 29 ?_;refine tk 30 ?_;refine rd2 23 31 (fun K hK=>?_) fun K hK=>?_
 ·go_simp
  refine hK.out _ _ (Hh) (fun Hh=>?_);clear hK K;refine rd 31 fun K hK=>?_
  go_simp;refine (hbk _ hd).mono ?_;rintro e wk ⟨rfl,hb⟩;replace hd:=hd.trans (hb.mono hd.size);have di:=ci _ hd;unfold Xn;go_wp2_with fail;refine hK.out _ _ (cf _ hd) (fun Hh=>?_);clear hK K;refine rd 32 fun K hK=>?_
  go_simp;refine (hcd _ hd).mono ?_;rintro e w2 ⟨u,rfl,hu,hb⟩;have hu2:=hu.low hd.size;replace hd:=hd.trans (hb.mono hd.size);obtain ⟨ua,un,uc,hue⟩:=hu2.isSl;subst hue;have di:=ci _ hd;have zj:=zi _ hd;go_wp2_with fail;refine hK.out _ _ (cf _ hd) (fun Hh=>?_);clear hK K;refine tk 33 ?_;refine rd 34 fun K hK=>?_
  go_simp;refine hK.out _ _ (hsc _ _ hd) (fun Hh=>?_);clear hK K
  (try simp only [Act.put,ZA,ZB,ZC,ZD,ZE,ZF])
  refine dn ?_;go_wp2;refine be ?_;exact ⟨rfl,_,_,_,hfin _ _ hd hu2⟩
 ·go_simp
  refine (hbk _ hd).mono ?_;rintro e wk ⟨rfl,hb⟩;replace hd:=hd.trans (hb.mono hd.size);have di:=ci _ hd;unfold Xn;go_wp2_with fail;refine hK.out _ _ (cf _ hd) (fun Hh=>?_);clear hK K;refine rd 23 fun K hK=>?_
  go_simp;refine hK.out _ _ (Hh) (fun Hh=>?_);clear hK K;refine rd 32 fun K hK=>?_
  go_simp;refine (hcd _ hd).mono ?_;rintro e w2 ⟨u,rfl,hu,hb⟩;have hu2:=hu.low hd.size;replace hd:=hd.trans (hb.mono hd.size);obtain ⟨ua,un,uc,hue⟩:=hu2.isSl;subst hue;have di:=ci _ hd;have zj:=zi _ hd;go_wp2_with fail;refine hK.out _ _ (cf _ hd) (fun Hh=>?_);clear hK K;refine tk 33 ?_;refine rd 34 fun K hK=>?_
  go_simp;refine hK.out _ _ (hsc _ _ hd) (fun Hh=>?_);clear hK K
  (try simp only [Act.put,ZA,ZB,ZC,ZD,ZE,ZF])
  refine dn ?_;go_wp2;refine be ?_;exact ⟨rfl,_,_,_,hfin _ _ hd hu2⟩
theorem XcJ (cn N base B:Nat) (x0 x1 x2 x3 x4 x5 pv:Value) (ps:List Int) (t:Te) (v:Tv) (vg vo:List Value) (w:World) (_hSp:Xo w) (h:Scr w 98 base B [x0,x1,x2,x3,x4,x5] t v vg vo) (_hbase:base<=w.heap.size) (rk:RtK t cn N) (hp:SlN w pv ps) (hl:ps.length<=1000) (h16:ps.length<=16) (hq:∀ x∈ps,0<=x/\x<=9999) :
  Calls Tryz.prog 199 #[.pointer (some ⟨B,0,none⟩),pv] w fun e w'=>e=.returned (.tuple #[])/\∃ v' vg' vo',Res w w' 98 base B [x0,x1,x2,x3,x4,x5] v vg vo { t with st:=KR t.st ps } v' vg' vo':=by
 have hst:=QQ t.st pv ps w hp.si (fun x hx=>by have:=hq x hx;omega) (by omega);rw [rk.styled ps h16] at hst
 obtain ⟨s,hs⟩:∃ s,Hid (KR t.st ps=s):=⟨_,rfl⟩;rw [hs.out] at hst ⊢
 obtain ⟨c12,c13,c14,c15,c16⟩:w.cell? ⟨B,12,none⟩=some (.int .i64 t.st.fore)/\w.cell? ⟨B,13,none⟩=some (.int .i64 t.st.back)/\w.cell? ⟨B,14,none⟩=some (.bool t.st.bold)/\w.cell? ⟨B,15,none⟩=some (.bool t.st.under)/\w.cell? ⟨B,16,none⟩=some (.bool t.st.turned):=⟨h.cell 12,h.cell 13,h.cell 14,h.cell 15,h.cell 16⟩
 have hR:∀ W,Below w.heap.size w W->Res w (W.setCells B 12 [.int .i64 s.fore,.int .i64 s.back,.bool s.bold,.bool s.under,.bool s.turned]) 98 base B [x0,x1,x2,x3,x4,x5] v vg vo { t with st:=s } v vg vo:=fun W hb =>
  (Res.of_below h hb).trans ((h.below hb).put (sCg B _ 12 W) _ (sCh B 98 _ 12 W _ (h.below hb).b) rfl rfl rfl rfl rfl)
 have cc:∀ W,Below w.heap.size w W->W.cell? ⟨B,12,none⟩=some (.int .i64 t.st.fore)/\W.cell? ⟨B,13,none⟩=some (.int .i64 t.st.back)/\W.cell? ⟨B,14,none⟩=some (.bool t.st.bold)/\W.cell? ⟨B,15,none⟩=some (.bool t.st.under)/\W.cell? ⟨B,16,none⟩=some (.bool t.st.turned):=fun W hb=>⟨(h.below hb).cell 12,(h.below hb).cell 13,(h.below hb).cell 14,(h.below hb).cell 15,(h.below hb).cell 16⟩
 have zz:∀ W,Below w.heap.size w W->∀ k,W.frozen? ⟨B,k,none⟩=false:=fun W hb k=>(h.below hb).frozen k
 unfold stV at hst;obtain ⟨pa,pc,rfl⟩:=hp.shp;clear h rk hp hl hq h16 hs;go_enter Tryz.func199,Tryz.ntmps199;go_wp2_with fail;refine hst.mono ?_;rintro e w1 ⟨rfl,hb⟩;obtain ⟨d12,d13,d14,d15,d16⟩:=cc _ hb;have y12:=zz _ hb 12;have y13:=zz _ hb 13;have y14:=zz _ hb 14;have y15:=zz _ hb 15;have y16:=zz _ hb 16;have hF:=(show Hid _ from hR _ hb);clear hst cc zz hR;go_wp2;refine be ?_;exact ⟨rfl,_,_,_,hF.out⟩
