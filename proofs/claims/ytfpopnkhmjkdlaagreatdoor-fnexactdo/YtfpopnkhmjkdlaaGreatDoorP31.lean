import Derived.Test.YtfpopnkhmjkdlaaGreatDoorP28
set_option maxRecDepth 20000
set_option maxHeartbeats 16000000
namespace Go.Proofs.YtfpopnkhmjkdlaaGreatDoor
open Go.ChangeShapes Go.WideShapes Go.ChangeAt Go.RowKit
theorem Xag (cn N base B:Nat) (x0 x1 x2 x3 x4 x5 pv:Value) (ps:List Int) (t:Te) (v:Tv) (vg vo:List Value) (w:World) (h:Scr w 98 base B [x0,x1,x2,x3,x4,x5] t v vg vo) (rk:RtK t cn N) (hp:SlN w pv ps) (hl:ps.length<=1000) (n m:Int) (en:Hid (Xa ps 0 1=n)) (em:Hid (Xa ps 1 (t.g.length:Int)=m)) (hn:1<=n/\n<=9999) (hm:1<=m/\m<=9999) :
  Calls Tryz.prog 200 #[.pointer (some ⟨B,0,none⟩),pv] w fun e w'=>e=.returned (.tuple #[])/\∃ v' vg' vo',Res w w' 98 base B [x0,x1,x2,x3,x4,x5] v vg vo (if n-1<m-1/\m-1<=(t.g.length:Int)-1 then { t with top:=n-1,bot:=m-1,row:=0,col:=0 } else t) v' vg' vo':=by
 obtain ⟨ga,gc,hvg⟩:∃ a c,v.g=.slice a N c:=by
  obtain ⟨a,c,e⟩:=sGs (SlG.of_own h.o.1.g);rw [rk.w.n] at e
  exact ⟨a,c,e⟩
 have c7:∀ W,Below w.heap.size w W->W.cell? ⟨B,7,none⟩=some (.slice ga N gc):=fun W hb=>by rw [(h.below hb).cell 7];show some v.g=_;rw [hvg]
 have hgl:=rk.w.n;have hn1:=rk.w.n1;have em':Xa ps 1 (N:Int)=m:=by rw [<- hgl];exact em.out
 have hc1:=fun W (hbW:Below w.heap.size w W)=>X1 pv ps W (hp.below hbW) hl
 have hc2:=fun W (hbW:Below w.heap.size w W)=>KO pv ps 1 (N:Int) W (hp.below hbW) hl
 simp only [en.out] at hc1;simp only [em'] at hc2;have hla:=fun W (hbW:Below w.heap.size w W)=>KN B ga N gc W (c7 W hbW) (by omega)
 have hwn:IntKind.i64.wrap (n-1)=n-1:=by simp [IntKind.wrap,IntKind.bits,IntKind.signed];omega
 have hwm:IntKind.i64.wrap (m-1)=m-1:=by simp [IntKind.wrap,IntKind.bits,IntKind.signed];omega
 have hd:=bdr w;have hof:=Res.of_below h hd;rw [hgl]
 obtain ⟨n',hn'⟩:∃ q,Hid (n-1=q):=⟨_,rfl⟩;obtain ⟨m',hm'⟩:∃ q,Hid (m-1=q):=⟨_,rfl⟩;rw [hn'.out] at hwn ⊢
 rw [hm'.out] at hwm ⊢
 have p1:=h.put (sCg B [.int .i64 n'] 17 w) { t with top:=n' } (sCh B 98 [.int .i64 n'] 17 w _ h.b) rfl rfl rfl rfl rfl;have p2:=p1.s.put (sCg B [.int .i64 m'] 18 _) { t with top:=n',bot:=m' } (sCh B 98 [.int .i64 m'] 18 _ _ p1.s.b) rfl rfl rfl rfl rfl;have p3:=p2.s.put (sCg B [.int .i64 0] 10 _) { t with top:=n',bot:=m',row:=0 } (sCh B 98 [.int .i64 0] 10 _ _ p2.s.b) rfl rfl rfl rfl rfl;have p4:=p3.s.put (sCg B [.int .i64 0] 11 _) { t with top:=n',bot:=m',row:=0,col:=0 } (sCh B 98 [.int .i64 0] 11 _ _ p3.s.b) rfl rfl rfl rfl rfl;have hR:=(show Hid _ from (((p1.trans p2).trans p3).trans p4).below (bdr _));obtain ⟨d17,d18,d10,d11⟩:w.cell? ⟨B,17,none⟩=some (.int .i64 t.top)/\w.cell? ⟨B,18,none⟩=some (.int .i64 t.bot)/\w.cell? ⟨B,10,none⟩=some (.int .i64 t.row)/\w.cell? ⟨B,11,none⟩=some (.int .i64 t.col):=⟨h.cell 17,h.cell 18,h.cell 10,h.cell 11⟩;have y17:w.frozen? ⟨B,17,none⟩=false:=h.frozen 17;have y18:w.frozen? ⟨B,18,none⟩=false:=h.frozen 18;have y10:w.frozen? ⟨B,10,none⟩=false:=h.frozen 10;have y11:w.frozen? ⟨B,11,none⟩=false:=h.frozen 11;replace hof:=(show Hid _ from hof);obtain ⟨pa,pc,rfl⟩:=hp.shp;have hwn2:=(show Hid _ from hwn);have e1:IntKind.i64.wrap (n-1)=n':=by rw [hn'.out];exact hwn
 have e2:IntKind.i64.wrap (m-1)=m':=by rw [hm'.out];exact hwm
 clear p1 p2 p3 p4 h rk hp hl en em em' hn hm hgl hvg hwn hwm hwn2 hn1 hn' hm'
 by_cases q1:n'<m'
 ·by_cases q2:m'<=(N:Int)-1
  ·rw [if_pos ⟨q1,q2⟩]
   have q1d:decide (n'<m')=true:=decide_eq_true q1;have q2d:decide (m'<=(N:Int)-1)=true:=decide_eq_true q2;clear hof;go_enter Tryz.func200,Tryz.ntmps200;go_wp2;refine wp_region_noPanic ?_;refine wp_region_held_drew (S:=(fun W=>W.cell? ⟨B,7,none⟩=some (.slice ga N gc))) (by kernel_rfl) (c7 _ hd) (fun Hh=>?_);refine tK 0 ?_;refine tK 3 ?_;refine tK 4 ?_;refine tK 5 ?_;refine tK 6 ?_;refine tK 7 ?_;refine tK 8 ?_;refine tK 9 ?_;refine tk 10 ?_;refine rd 1 fun K hK=>?_
   go_simp;refine (hc1 _ hd).mono ?_;rintro e wk ⟨rfl,hw1⟩;subst hw1;go_wp2_with fail;refine hK.out _ _ (c7 _ hd) (fun Hh=>?_);clear hK K;refine tk 2 ?_;refine rd 11 fun K hK=>?_
   go_simp;refine (hc2 _ hd).mono ?_;rintro e wk ⟨rfl,hw1⟩;subst hw1;go_wp2_with fail;refine hK.out _ _ (c7 _ hd) (fun Hh=>?_);clear hK K;refine tK 12 ?_;refine tK 13 ?_;refine tk 14 ?_;simp only [Act.put,ZA,ZB,ZC,ZD,ZE,ZF];refine dn ?_;go_wp2_with fail;refine (hla _ hd).mono ?_;rintro e wk ⟨rfl,hw1⟩;subst hw1;go_wp2;refine be ?_;exact ⟨rfl,_,_,_,hR.out⟩
  ·rw [if_neg (fun e=>q2 e.2)]
   have q1d:decide (n'<m')=true:=decide_eq_true q1;have q2d:decide (m'<=(N:Int)-1)=false:=decide_eq_false q2;clear hR d17 d18 d10 d11 y17 y18 y10 y11;go_enter Tryz.func200,Tryz.ntmps200;go_wp2;refine wp_region_noPanic ?_;refine wp_region_held_drew (S:=(fun W=>W.cell? ⟨B,7,none⟩=some (.slice ga N gc))) (by kernel_rfl) (c7 _ hd) (fun Hh=>?_);refine tK 0 ?_;refine tK 3 ?_;refine tK 4 ?_;refine tK 5 ?_;refine tK 6 ?_;refine tK 7 ?_;refine tK 8 ?_;refine tK 9 ?_;refine tk 10 ?_;refine rd 1 fun K hK=>?_
   go_simp;refine (hc1 _ hd).mono ?_;rintro e wk ⟨rfl,hw1⟩;subst hw1;go_wp2_with fail;refine hK.out _ _ (c7 _ hd) (fun Hh=>?_);clear hK K;refine tk 2 ?_;refine rd 11 fun K hK=>?_
   go_simp;refine (hc2 _ hd).mono ?_;rintro e wk ⟨rfl,hw1⟩;subst hw1;go_wp2_with fail;refine hK.out _ _ (c7 _ hd) (fun Hh=>?_);clear hK K;refine tK 12 ?_;refine tK 13 ?_;refine tk 14 ?_;simp only [Act.put,ZA,ZB,ZC,ZD,ZE,ZF];refine dn ?_;go_wp2_with fail;refine (hla _ hd).mono ?_;rintro e wk ⟨rfl,hw1⟩;subst hw1;go_wp2;refine be ?_;exact ⟨rfl,_,_,_,hof.out⟩
 ·rw [if_neg (fun e=>q1 e.1)]
  have q1d:decide (n'<m')=false:=decide_eq_false q1;clear hR d17 d18 d10 d11 y17 y18 y10 y11 hla;go_enter Tryz.func200,Tryz.ntmps200;go_wp2;refine wp_region_noPanic ?_;refine wp_region_held_drew (S:=(fun W=>W.cell? ⟨B,7,none⟩=some (.slice ga N gc))) (by kernel_rfl) (c7 _ hd) (fun Hh=>?_);refine tK 0 ?_;refine tK 3 ?_;refine tK 4 ?_;refine tK 5 ?_;refine tK 6 ?_;refine tK 7 ?_;refine tK 8 ?_;refine tK 9 ?_;refine tk 10 ?_;refine rd 1 fun K hK=>?_
  go_simp;refine (hc1 _ hd).mono ?_;rintro e wk ⟨rfl,hw1⟩;subst hw1;go_wp2_with fail;refine hK.out _ _ (c7 _ hd) (fun Hh=>?_);clear hK K;refine tk 2 ?_;refine rd 11 fun K hK=>?_
  go_simp;refine (hc2 _ hd).mono ?_;rintro e wk ⟨rfl,hw1⟩;subst hw1;go_wp2_with fail;refine hK.out _ _ (c7 _ hd) (fun Hh=>?_);clear hK K;refine tK 12 ?_;refine tK 13 ?_;refine tk 14 ?_;simp only [Act.put,ZA,ZB,ZC,ZD,ZE,ZF];refine dn ?_;go_wp2;refine be ?_;exact ⟨rfl,_,_,_,hof.out⟩
def erR (t:Te) (how:Int) (i:Nat):List Ce:=if (i:Int)=t.row then XU (Xb t.g i) (cpF how t.col t.gc).toNat (cpT how t.col t.gc).toNat (Xn t.st) else XU (Xb t.g i) 0 t.gc.toNat (Xn t.st)
def cgG (t:Te) (how:Int) (a b:Nat):List (List Ce):=Z3 t.g.length fun i=>if a<=i/\i<b then erR t how i else Xb t.g i
theorem Kl (t:Te) (how:Int) (a b:Nat):(cgG t how a b).length=t.g.length:=XM _ _
theorem UO (t:Te) (how:Int) (a b i:Nat) (hi:i<t.g.length):Xb (cgG t how a b) i=if a<=i/\i<b then erR t how i else Xb t.g i:=Yq _ _ _ hi
theorem J2 (l:List (List Ce)) (j i:Nat) (r:List Ce) (hj:j<l.length):Xb (l.set j r) i=if i=j then r else Xb l i:=by
 by_cases e:i=j
 ·subst e
  rw [if_pos rfl,Zd (by rw [List.length_set];exact hj)];simp
 ·rw [if_neg e];unfold Xb;simp [List.getD,Ne.symm e]
theorem XfV (t:Te) (how:Int) (a j:Nat) (ha:a<=j) (hj:j<t.g.length):(cgG t how a j).set j (erR t how j)=cgG t how a (j+1) :=
 X7 _ _ (by rw [List.length_set,Kl,Kl]) fun i hi=>by
  rw [List.length_set,Kl] at hi
  rw [J2 _ _ _ _ (by rw [Kl];exact hj),UO _ _ _ _ _ hi,UO _ _ _ _ _ hi]
  by_cases e:i=j
  ·subst e;rw [if_pos rfl,if_pos ⟨ha,by omega⟩]
  ·rw [if_neg e]
   by_cases c:a<=i/\i<j
   ·rw [if_pos c,if_pos (by omega)]
   ·rw [if_neg c,if_neg (by omega)]
theorem XfU (t:Te) (how:Int) (a:Nat):cgG t how a a=t.g :=
 X7 _ _ (Kl _ _ _ _) fun i hi=>by
  rw [Kl] at hi
  rw [UO _ _ _ _ _ hi,if_neg (by omega)]
theorem RtK.cg {t:Te} {cn N:Nat} (h:RtK t cn N) (how:Int) (a b:Nat):RtK { t with g:=cgG t how a b } cn N:=by
 have hgc:=h.w.gc;have hbd:=Xf6 how t.col t.gc (by have:=h.w.col;omega)
 have hx:∀ i,i<N->(Xb (cgG t how a b) i).length=cn/\XK (Xb (cgG t how a b) i):=fun i hi=>by
  rw [UO _ _ _ _ _ (by rw [h.w.n];exact hi)]
  split
  ·unfold erR
   split
   ·rw [X9]
    exact ⟨h.w.gx i hi,ZI (h.gr i hi) _ _ _ h.back (by rw [h.w.gx i hi];omega)⟩
   ·rw [X9]
    exact ⟨h.w.gx i hi,ZI (h.gr i hi) _ _ _ h.back (by rw [h.w.gx i hi];omega)⟩
  ·exact ⟨h.w.gx i hi,h.gr i hi⟩
 exact ⟨⟨h.w.gc,h.w.oc,h.w.c,by rw [<- h.w.n];exact Kl _ _ _ _,h.w.m,h.w.n1,fun i hi=>(hx i hi).1,h.w.ox,h.w.row,h.w.col,h.w.tb⟩,fun i hi=>(hx i hi).2,h.xr,h.st,h.ss,h.sr,h.sc,h.fu,h.tb,h.ti,h.pa,h.fe⟩
theorem RtK.cg_all {t:Te} {cn N:Nat} (h:RtK t cn N) (how:Int):({ t with g:=cgG t how (cpF how t.row N).toNat (cpT how t.row N).toNat }:Te)=ZJ t how:=by
 have hN:=h.w.n;have hr:=h.w.row
 have he:∀ i,i<t.g.length->Xb (Zf t how).g i=if (i:Int)=t.row then erR t how i else Xb t.g i:=fun i hi=>by
  rw [h.cpV how]
  unfold X3 Ka;simp only;rw [J2 _ _ _ _ (by omega)]
  by_cases e:(i:Int)=t.row
  ·have e2:i=t.row.toNat:=by omega
   subst e2;rw [if_pos rfl,if_pos e]
   unfold erR;rw [if_pos e]
  ·rw [if_neg (by omega),if_neg e]
 unfold ZJ
 congr 1
 refine X7 _ _ (by rw [Kl,XM]) fun i hi=>?_
 rw [Kl] at hi
 rw [UO _ _ _ _ _ hi,Yq _ _ _ hi,he i hi]
 have hf:∀ (q:¬ how=0/\¬ how=1/\¬ how=2),cpF how t.row N=t.row/\cpT how t.row N=t.row:=fun ⟨q0,q1,q2⟩=>by unfold cpF cpT;rw [if_neg q0,if_neg q1,if_neg q2,if_neg q0,if_neg q1,if_neg q2];exact ⟨rfl,rfl⟩
 by_cases q0:how=0
 ·subst q0
  rw [show cpF 0 t.row N=t.row from rfl,show cpT 0 t.row N=N from rfl]
  by_cases e:(i:Int)=t.row
  ·rw [if_pos (by omega),if_neg (by omega),if_pos e]
  ·by_cases c:t.row<(i:Int)
   ·rw [if_pos (by omega),if_pos (by omega)]
    unfold erR;rw [if_neg e]
   ·rw [if_neg (by omega),if_neg (by omega),if_neg e]
 by_cases q1:how=1
 ·subst q1
  rw [show cpF 1 t.row N=0 from rfl,show cpT 1 t.row N=t.row+1 from rfl]
  by_cases e:(i:Int)=t.row
  ·rw [if_pos (by omega),if_neg (by omega),if_pos e]
  ·by_cases c:(i:Int)<t.row
   ·rw [if_pos (by omega),if_pos (by omega)]
    unfold erR;rw [if_neg e]
   ·rw [if_neg (by omega),if_neg (by omega),if_neg e]
 by_cases q2:how=2
 ·subst q2
  rw [show cpF 2 t.row N=0 from rfl,show cpT 2 t.row N=N from rfl,if_pos (by omega),if_pos (by omega)]
  unfold erR;rw [show cpF 2 t.col t.gc=0 from rfl,show cpT 2 t.col t.gc=t.gc from rfl]
  split<;>rfl
 ·obtain ⟨f1,f2⟩:=hf ⟨q0,q1,q2⟩
  rw [f1,f2,if_neg (by omega),if_neg (by omega)]
  by_cases e:(i:Int)=t.row
  ·rw [if_pos e]
   have hs:=h.clear_same t.row (cpF how t.col t.gc) h.w.row;unfold erR;rw [if_pos e]
   have hc:cpT how t.col t.gc=cpF how t.col t.gc:=by unfold cpF cpT;rw [if_neg q0,if_neg q1,if_neg q2,if_neg q0,if_neg q1,if_neg q2]
   rw [hc,Ud (h.gr i (by omega))]
  ·rw [if_neg e]
theorem Xat (cn N base B:Nat) (x0 x1 x2 x3 x4 x5 pv:Value) (ps:List Int) (t:Te) (v:Tv) (vg vo:List Value) (w:World) (hSp:Xo w) (h:Scr w 98 base B [x0,x1,x2,x3,x4,x5] t v vg vo) (hbase:base<=w.heap.size) (rk:RtK t cn N) (hp:SlN w pv ps) (hl:ps.length<=1000) (hSb:0<base) (hap:ApF w B v vg vo pv) (how:Int) (eh:Hid (Xa ps 0 0=how)) :
  Calls Tryz.prog 190 #[.pointer (some ⟨B,0,none⟩),pv] w fun e w'=>e=.returned (.tuple #[])/\∃ v' vg' vo',Res w w' 98 base B [x0,x1,x2,x3,x4,x5] v vg vo (ZJ t how) v' vg' vo':=by
 obtain ⟨ga,gc,hvg⟩:∃ a c,v.g=.slice a N c:=by
  obtain ⟨a,c,e⟩:=sGs (SlG.of_own h.o.1.g);rw [rk.w.n] at e
  exact ⟨a,c,e⟩
 have hn1:=rk.w.n1;have hrow:=rk.w.row;have hcp:=fun W (hb:Below w.heap.size w W)=>Jr pv ps t.row N W (hp.below hb) hl (by omega)
 simp only [eh.out] at hcp;have hbd:=Xf6 how t.row N (by omega);obtain ⟨f,hf⟩:∃ f,Hid (cpF how t.row N=f):=⟨_,rfl⟩;obtain ⟨g,hg⟩:∃ g,Hid (cpT how t.row N=g):=⟨_,rfl⟩;simp only [hf.out,hg.out] at hcp hbd;obtain ⟨b1,b2,b3⟩:=hbd;have cf:∀ W,Below w.heap.size w W->W.cell? ⟨B,10,none⟩=some (.int .i64 t.row)/\W.cell? ⟨B,7,none⟩=some (.slice ga N gc):=fun W hb=>⟨(h.below hb).cell 10,by rw [(h.below hb).cell 7];show some v.g=_;rw [hvg]⟩
 have hd:=bdr w;have hof:=Res.of_below h hd;obtain ⟨pa,pc,rfl⟩:=hp.shp;clear h hvg;go_enter Tryz.func190,Tryz.ntmps190;go_wp2;refine wp_region_noPanic ?_;refine wp_region_held_drew (S:=(fun W=>W.cell? ⟨B,10,none⟩=some (.int .i64 t.row)/\W.cell? ⟨B,7,none⟩=some (.slice ga N gc))) (by kernel_rfl) (cf _ hd) (fun Hh=>?_);refine tK 0 ?_;refine tK 1 ?_;refine tK 2 ?_;refine tK 3 ?_;refine tK 4 ?_;refine tK 5 ?_;refine tK 6 ?_;refine tK 7 ?_;refine tK 8 ?_;refine tK 9 ?_;refine tK 10 ?_;refine tK 11 ?_;refine tk 12 ?_;refine rd 13 fun K hK=>?_
 go_simp;refine (hcp _ hd).mono ?_;rintro e wk ⟨rfl,hw1⟩;subst hw1;go_wp2_with fail;refine hK.out _ _ (cf _ hd) (fun Hh=>?_);clear hK K;refine tK 14 ?_;refine tK 15 ?_;refine tK 16 ?_;refine tK 17 ?_;refine tk 18 ?_;simp only [Act.put,ZA,ZB,ZC,ZD,ZE,ZF];refine dn ?_;replace hp:=hp.below hd;replace hap:=ApF.mono hap hd.size;replace hSp:=hSp.below hd hSp.lt;have hK:Res w w.drew 98 base B [x0,x1,x2,x3,x4,x5] v vg vo { t with g:=cgG t how f.toNat f.toNat } v vg vo:=by rw [XfU];exact hof
 clear hcp cf hd;go_wp2;go_loopw [6] (fun i wr=>∃ (j:Nat) (v':Tv) (vg' vo':List Value),i=.int .i64 j/\f<=(j:Int)/\(j:Int)<=g/\Res w wr 98 base B [x0,x1,x2,x3,x4,x5] v vg vo { t with g:=cgG t how f.toNat j } v' vg' vo'/\SlN wr (.slice pa ps.length pc) ps/\ApF wr B v' vg' vo' (.slice pa ps.length pc)/\Xo wr) (fun i _=>(g-intOf i).toNat)
 case atStart=>exact ⟨f.toNat,v,vg,vo,by rw [show ((f.toNat:Nat):Int)=f by omega],by omega,by omega,hK,hp,hap,hSp⟩
 case round =>
  clear hK hof hp hap hSp;obtain ⟨j,v',vg',vo',rfl,hj1,hj2,hK,hp,hap,hSp⟩:=hrel
  by_cases hlt:(j:Int)<g
  ·have hj0:(0:Int)<=(j:Int):=by omega
   have rkj:=rk.cg how f.toNat j;have hjN:j<N:=by omega
   have hbj:base<=wr.heap.size:=Nat.le_trans hbase hK.g.size;have c10:wr.cell? ⟨B,10,none⟩=some (.int .i64 t.row):=hK.s.cell 10;have c6:wr.cell? ⟨B,6,none⟩=some (.int .i64 t.gc):=hK.s.cell 6;have hst:=XfV t how f.toNat j (by omega) (by rw [rk.w.n];exact hjN);have hat:Xb (cgG t how f.toNat j) j=Xb t.g j:=by rw [UO _ _ _ _ _ (by rw [rk.w.n];exact hjN),if_neg (by omega)]
   have hnx:=fun W v2 g2 o2 (r:Res wr W 98 base B [x0,x1,x2,x3,x4,x5] v' vg' vo' { t with g:=(cgG t how f.toNat j).set j (erR t how j) } v2 g2 o2)=>(show Res w W 98 base B [x0,x1,x2,x3,x4,x5] v vg vo { t with g:=cgG t how f.toNat (j+1) } v2 g2 o2/\SlN W (.slice pa ps.length pc) ps/\ApF W B v2 g2 o2 (.slice pa ps.length pc)/\Xo W from by
    have hr:=hp.res hap r;exact ⟨by rw [<- hst];exact hK.trans r,hr.1,hr.2,hSp.below (hK.s.bel hbj r) hSb⟩)
   by_cases hje:(j:Int)=t.row
   ·have hcr:=Us cn N base B x0 x1 x2 x3 x4 x5 (.slice pa ps.length pc) ps { t with g:=cgG t how f.toNat j } v' vg' vo' wr hSp hK.s hbj rkj hp hl how eh
    have hV:Zf { t with g:=cgG t how f.toNat j } how={ t with g:=(cgG t how f.toNat j).set j (erR t how j) }:=by
     rw [rkj.cpV how]
     unfold X3 Ka erR;simp only;rw [if_pos hje,show t.row.toNat=j by omega,hat]
     all_goals rfl
    rw [hV] at hcr
    rw [<- hje] at c10
    clear hV hat hst hje rkj hbj c6 hK hp hap hSp;go_wp2_with fail;refine hcr.mono ?_;rintro e w2 ⟨rfl,v2,g2,o2,hR⟩;obtain ⟨k1,k2,k3,k4⟩:=hnx _ _ _ _ hR;clear hcr hnx hR c10;go_wp2;go_roundw
    case rel=>exact ⟨j+1,v2,g2,o2,by go_num,by omega,by omega,k1,k2,k3,k4⟩
    case measure=>simp [intOf];omega
   ·have hcl:=Ky cn N base B x0 x1 x2 x3 x4 x5 { t with g:=cgG t how f.toNat j } v' vg' vo' wr hSp hK.s hbj rkj (j:Int) 0 t.gc (by omega) (by have:=rk.w.gc;have:=rk.w.c;omega)
    have hV:X3 { t with g:=cgG t how f.toNat j } (j:Int) 0 t.gc={ t with g:=(cgG t how f.toNat j).set j (erR t how j) }:=by
     unfold X3 Ka erR;simp only;rw [if_neg hje,Int.toNat_natCast,hat]
     all_goals rfl
    rw [hV] at hcl
    have hq:((j:Int)==t.row)=false:=by simp [hje]
    clear hV hat hst hje rkj hbj hK hp hap hSp;go_wp2_with fail;refine hcl.mono ?_;rintro e w2 ⟨rfl,v2,g2,o2,hR⟩;obtain ⟨k1,k2,k3,k4⟩:=hnx _ _ _ _ hR;clear hcl hnx hR c10 c6;go_wp2;go_roundw
    case rel=>exact ⟨j+1,v2,g2,o2,by go_num,by omega,by omega,k1,k2,k3,k4⟩
    case measure=>simp [intOf];omega
  ·have hjg:(j:Int)=g:=by omega
   have hF:=(show Hid (Res w wr 98 base B [x0,x1,x2,x3,x4,x5] v vg vo (ZJ t how) v' vg' vo') from by
    rw [<- rk.cg_all how]
    have e1:(cpF how t.row N).toNat=f.toNat:=by rw [hf.out]
    have e2:(cpT how t.row N).toNat=j:=by rw [hg.out];omega
    rw [e1,e2]
    exact hK)
   clear hK hp hap hSp hjg;go_wp2;refine be ?_;exact ⟨rfl,_,_,_,hF.out⟩
