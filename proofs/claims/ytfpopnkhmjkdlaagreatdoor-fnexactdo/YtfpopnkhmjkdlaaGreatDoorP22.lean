import Derived.Test.YtfpopnkhmjkdlaaGreatDoorP20
set_option maxRecDepth 20000
set_option maxHeartbeats 16000000
namespace Go.Proofs.YtfpopnkhmjkdlaaGreatDoor
open Go.ChangeShapes Go.WideShapes Go.ChangeAt Go.RowKit
structure Scr (W:World) (T:TypeId) (base B:Nat) (X:List Value) (t:Te) (v:Tv) (vg vo:List Value):Prop where
 b:Xj W B T (X++(Xg t v).toList)
 o:Y2 W base t v vg vo
 n1:T≠120
 n2:T≠146
 n3:T≠2
 hb:base<=B
def Ft (B:Nat) (v:Tv) (vg vo:List Value) (k:Nat):Prop:=k=B\/GrS v.g vg k\/GrS v.o vo k
structure Res (W W':World) (T:TypeId) (base B:Nat) (X:List Value) (v:Tv) (vg vo:List Value) (t':Te) (v':Tv) (vg' vo':List Value):Prop where
 s:Scr W' T base B X t' v' vg' vo'
 g:GrP (Ft B v vg vo) W W'
 c:∀ k,k<W.heap.size->Ft B v' vg' vo' k->Ft B v vg vo k
 p:v'.pp=v.pp
 q:v'.pt=v.pt
theorem Scr.res {W:World} {T:TypeId} {base B:Nat} {X:List Value} {t:Te} {v:Tv} {vg vo:List Value} (h:Scr W T base B X t v vg vo):Res W W T base B X v vg vo t v vg vo :=
 ⟨h,GrP.refl _ _,fun _ _ c=>c,rfl,rfl⟩
theorem Res.trans {W W1 W2:World} {T:TypeId} {base B:Nat} {X:List Value} {v v1 v2:Tv} {vg vo vg1 vo1 vg2 vo2:List Value} {t1 t2:Te} (h:Res W W1 T base B X v vg vo t1 v1 vg1 vo1) (k:Res W1 W2 T base B X v1 vg1 vo1 t2 v2 vg2 vo2):Res W W2 T base B X v vg vo t2 v2 vg2 vo2:=by
 refine ⟨k.s,⟨k.g.1.trans h.g.1,k.g.2.1.trans h.g.2.1,k.g.2.2.1.trans h.g.2.2.1,Nat.le_trans h.g.size k.g.size,fun i hi hn=>?_⟩,fun i hi c=>h.c i hi (k.c i (Nat.lt_of_lt_of_le hi h.g.size) c),k.p.trans h.p,k.q.trans h.q⟩;exact (k.g.2.2.2.2 i (Nat.lt_of_lt_of_le hi h.g.size) (fun c=>hn (h.c i hi c))).trans (h.g.2.2.2.2 i hi hn)
theorem Scr.below {W W':World} {T:TypeId} {base B:Nat} {X:List Value} {t:Te} {v:Tv} {vg vo:List Value} (h:Scr W T base B X t v vg vo) (hb:Below W.heap.size W W'):Scr W' T base B X t v vg vo :=
 ⟨h.b.below hb,h.o.below hb,h.n1,h.n2,h.n3,h.hb⟩
theorem Scr.lt {W:World} {T:TypeId} {base B:Nat} {X:List Value} {t:Te} {v:Tv} {vg vo:List Value} (h:Scr W T base B X t v vg vo):B<W.heap.size:=h.b.lt
theorem Res.of_below {W W':World} {T:TypeId} {base B:Nat} {X:List Value} {t:Te} {v:Tv} {vg vo:List Value} (h:Scr W T base B X t v vg vo) (hb:Below W.heap.size W W'):Res W W' T base B X v vg vo t v vg vo :=
 ⟨h.below hb,GrP.of_below hb,fun _ _ c=>c,rfl,rfl⟩
theorem Res.below {W W1 W2:World} {T:TypeId} {base B:Nat} {X:List Value} {v v1:Tv} {vg vo vg1 vo1:List Value} {t1:Te} (h:Res W W1 T base B X v vg vo t1 v1 vg1 vo1) (hb:Below W1.heap.size W1 W2):Res W W2 T base B X v vg vo t1 v1 vg1 vo1:=h.trans (Res.of_below h.s hb)
theorem Scr.put {W W':World} {T:TypeId} {base B:Nat} {X:List Value} {t:Te} {v:Tv} {vg vo:List Value} (h:Scr W T base B X t v vg vo) (hg:W.grownBy W' (some B)) (t':Te) (hb:Xj W' B T (X++(Xg t' v).toList)) (e1:t'.g=t.g) (e2:t'.o=t.o) (e3:t'.ti=t.ti) (e4:t'.pa.params=t.pa.params) (e5:t'.pa.text=t.pa.text):Res W W' T base B X v vg vo t' v vg vo:=by
 have ho:=h.o.grown hg h.b h.n1 h.n2 h.n3;refine ⟨⟨hb,?_,h.n1,h.n2,h.n3,h.hb⟩,GrP.of_grown hg (fun g e=>by cases e;exact .inl rfl),fun _ _ c=>c,rfl,rfl⟩;unfold Y2 at ho ⊢
 rw [e1,e2,e3,e4,e5]
 exact ho
theorem Scr.cell {W:World} {T:TypeId} {base B:Nat} {X:List Value} {t:Te} {v:Tv} {vg vo:List Value} (h:Scr W T base B X t v vg vo) (k:Nat):W.cell? ⟨B,k,none⟩=(X++(Xg t v).toList).toArray[k]?:=cAl h.b k
theorem Scr.frozen {W:World} {T:TypeId} {base B:Nat} {X:List Value} {t:Te} {v:Tv} {vg vo:List Value} (h:Scr W T base B X t v vg vo) (k:Nat):W.frozen? ⟨B,k,none⟩=false:=frozen_of_row _ _ _ _ _ h.b
theorem Scr.rows {W W':World} {T:TypeId} {base B:Nat} {X:List Value} {t:Te} {v:Tv} {vg vo:List Value} (h:Scr W T base B X t v vg vo) (_hbase:base<=W.heap.size) (vg':List Value) (G:List (List Ce)) (hv:XF W' base W'.heap.size v.g vg' G) (hg:GrP (GrS v.g vg) W W') (hc:∀ k,k<W.heap.size->GrS v.g vg' k->GrS v.g vg k):Res W W' T base B X v vg vo { t with g:=G } v vg' vo:=by
 have hnb:¬ GrS v.g vg B:=YA h.o.1 h.b h.n1 h.n2;refine ⟨⟨?_,⟨hv,(h.o.2.1.grp hg (fun k hk c=>h.o.2.2.1 k c hk)).up hg.size,fun k hk hk'=>?_,h.o.2.2.2.grp hg (fun p hp g e c=>YZ h.o.1 (h.o.2.2.2.1 p hp) g e c)⟩,h.n1,h.n2,h.n3,h.hb⟩,hg.mono (fun k _ c=>.inr (.inl c)),fun k hk c=>?_,rfl,rfl⟩
 ·exact h.b.grp hg hnb
 ·have hb:=(GrS.bd h.o.2.1 hk').2
  exact h.o.2.2.1 k (hc k hb hk) hk'
 ·rcases c with c|c|c
  ·exact .inl c
  ·exact .inr (.inl (hc k hk c))
  ·exact .inr (.inr c)
theorem Y2.swap {w:World} {base:Nat} {t:Te} {v:Tv} {vg vo:List Value} (h:Y2 w base t v vg vo):Y2 w base { t with g:=t.o,o:=t.g } ⟨v.o,v.g,v.ti,v.pp,v.pt⟩ vo vg :=
 ⟨h.2.1,h.1,fun k a b=>h.2.2.1 k b a,h.2.2.2⟩
theorem JA (B:Nat) (s:St) (w:World) (hc:w.cell? ⟨B,13,none⟩=some (.int .i64 s.back)) (hlt:B<w.heap.size) :
  Calls Tryz.prog 239 #[.pointer (some ⟨B,0,none⟩)] w fun e w'=>e=.returned (stV (Xn s))/\Below w.heap.size w w':=by
 have hb:=Xd w (Obj.cells #[Value.int IntKind.i64 0,Value.int IntKind.i64 s.back,Value.bool false,Value.bool false,Value.bool false] 28);go_enter Tryz.func239,Tryz.ntmps239;go_wp2;exact bodyPost_ret (v:=.agg #[Value.int IntKind.i64 0,Value.int IntKind.i64 s.back,Value.bool false,Value.bool false,Value.bool false]) (by simp [results,Tryz.results239,go_sem]) rfl ⟨rfl,hb⟩
structure RtW (t:Te) (cn N:Nat):Prop where
 gc:t.gc=cn
 oc:t.oc=cn
 c:1<=cn/\cn<=60
 n:t.g.length=N
 m:t.o.length=N
 n1:1<=N/\N<=30
 gx:∀ i,i<N->(Xb t.g i).length=cn
 ox:∀ i,i<N->(Xb t.o i).length=cn
 row:0<=t.row/\t.row<N
 col:0<=t.col/\t.col<cn
 tb:0<=t.top/\t.top<=t.bot/\t.bot<N
theorem Up (cn N base B:Nat) (x0 x1 x2 x3 x4 x5:Value) (t:Te) (v:Tv) (vg vo:List Value) (w:World) (h:Scr w 98 base B [x0,x1,x2,x3,x4,x5] t v vg vo) (hbase:base<=w.heap.size) (rt:RtW t cn N) (a m n:Nat) (ham:a+m<=N) (hm0:0<m) :
  Calls Tryz.prog 230 #[.pointer (some ⟨B,0,none⟩),.int .i64 (a:Int),.int .i64 ((a:Int)+m-1),.int .i64 (n:Int)] w fun e w'=>e=.returned (.tuple #[])/\∃ v' vg' vo',Res w w' 98 base B [x0,x1,x2,x3,x4,x5] v vg vo (XH t a ((a:Int)+m-1) n) v' vg' vo':=by
 obtain ⟨e1,e2,⟨c1,c2⟩,e3,e4,⟨n1,n2⟩,gx,ox,_,_,_⟩:=rt;rcases h.o.1.shape with ⟨_,hs⟩|⟨g,cap,hvg,hbg,hlg,hcap⟩
 ·rw [hs] at e3;simp at e3;omega
 rw [e3] at hvg hcap
 have hres:=fun W (hb:Below w.heap.size w W)=>(Res.of_below h hb)
 have hc7:∀ W,Below w.heap.size w W->W.cell? ⟨B,7,none⟩=some (.slice (some ⟨g,0,none⟩) N cap):=fun W hb=>by rw [(h.below hb).cell 7];show some v.g=_;rw [hvg]
 have hc13:∀ W,Below w.heap.size w W->W.cell? ⟨B,13,none⟩=some (.int .i64 t.st.back):=fun W hb=>(h.below hb).cell 13
 have hrr:∀ W,Below w.heap.size w W->Calls Tryz.prog 251 #[.slice (some ⟨g,a,none⟩) m (cap-a),.int .i64 (n:Int),stV (Xn t.st)] W fun e w'=>e=.returned (.tuple #[])/\∃ vg',Res w w' 98 base B [x0,x1,x2,x3,x4,x5] v vg vo (XH t a ((a:Int)+m-1) n) v vg' vo:=by
  intro W hb;have hW:=h.below hb;have ho:=hW.o.1;rw [hvg] at ho
  refine (XcI cn base W.heap.size g N cap a m (cap-a) n vg t.g (Xn t.st) W ho (World.ownsRow.lt ho.2.1 g rfl).2 (Nat.le_refl _) e3 gx c1 c2 ham hm0 (by omega) n2).mono ?_;rintro e w' ⟨rfl,⟨vs',hsub,hv⟩,hg⟩;refine ⟨rfl,vs',?_⟩;have hr:=hW.rows (Nat.le_trans hbase hb.size) vs' (Zo cn t.g a (a+m-1) n (Xn t.st)) (by rw [hvg];exact hv.up hg.size) (by rw [hvg];exact hg) (fun k _ c=>hsub.gr c)
  have em:XH t a ((a:Int)+m-1) n={ t with g:=Zo cn t.g a (a+m-1) n (Xn t.st) }:=by
   unfold XH;rw [e1,Int.toNat_natCast,Int.toNat_natCast,show ((a:Int)+m-1).toNat=a+m-1 by omega]
  rw [em]
  exact (hres W hb).trans hr
 unfold stV at hrr;have hlt:=h.lt;have hbk:=fun W (hb:Below w.heap.size w W)=>JA B t.st W (hc13 W hb) (Nat.lt_of_lt_of_le hlt hb.size)
 unfold stV at hbk;clear hres hc13 h hbase e1 e2 e4 gx ox hvg hbg hlg c1 c2 hlt;have hd:=bdr w;have d7:=hc7 _ hd;obtain ⟨q,hq⟩:∃ q:Nat,Hid (q=a+m):=⟨_,rfl⟩;have f1:(0:Int)<=(a:Int):=by omega
 have f2:IntKind.i64.wrap ((a:Int)+m)=(q:Int):=by rw [hq.out];simp [IntKind.wrap,IntKind.bits,IntKind.signed];omega
 have f3:(0:Int)<=(q:Int):=by omega
 have f4:(q:Int)<=(cap:Int):=by have:=hq.out;omega
 have f8:a<=q:=by have:=hq.out;omega
 have f5:¬ (cap-a=0):=by omega
 have f6:¬ (cap=a):=by omega
 have f7:q-a=m:=by have:=hq.out;omega
 clear e3;go_enter Tryz.func230,Tryz.ntmps230;go_wp2;refine wp_region_noPanic ?_;refine wp_region_held_drew (S:=(fun _=>True)) (by kernel_rfl) trivial (fun Hh=>?_);refine tK 0 ?_;refine tK 1 ?_;refine tK 2 ?_;refine tK 3 ?_;refine tK 4 ?_;refine tK 6 ?_;refine tK 7 ?_;refine tK 8 ?_;refine tK 10 ?_;refine tk 11 ?_;refine rd2 5 12 (fun K hK=>?_) fun K hK=>?_
 ·go_simp
  refine hK.out _ _ trivial (fun Hh=>?_);clear hK K;refine tk 9 ?_;refine rd 12 fun K hK=>?_
  go_simp;refine (hbk _ hd).mono ?_;rintro e wk ⟨rfl,hb⟩;have hd2:=hd.trans (hb.mono hd.size);have d7:=hc7 _ hd2;unfold Xn;go_wp2_with fail;refine hK.out _ _ trivial (fun Hh=>?_);clear hK K;refine rd 13 fun K hK=>?_
  go_simp;refine (hrr _ hd2).mono ?_;rintro e w2 ⟨rfl,vg2,hR⟩;go_wp2_with fail;refine hK.out _ _ trivial (fun Hh=>?_);clear hK K
  (try simp only [Act.put,ZA,ZB,ZC,ZD,ZE,ZF])
  refine dn ?_;go_wp2;refine be ?_;exact ⟨rfl,_,_,_,hR⟩
 ·go_simp
  refine (hbk _ hd).mono ?_;rintro e wk ⟨rfl,hb⟩;have hd2:=hd.trans (hb.mono hd.size);have d7:=hc7 _ hd2;unfold Xn;go_wp2_with fail;refine hK.out _ _ trivial (fun Hh=>?_);clear hK K;refine rd 5 fun K hK=>?_
  go_simp;refine hK.out _ _ trivial (fun Hh=>?_);clear hK K;refine tk 9 ?_;refine rd 13 fun K hK=>?_
  go_simp;refine (hrr _ hd2).mono ?_;rintro e w2 ⟨rfl,vg2,hR⟩;go_wp2_with fail;refine hK.out _ _ trivial (fun Hh=>?_);clear hK K
  (try simp only [Act.put,ZA,ZB,ZC,ZD,ZE,ZF])
  refine dn ?_;go_wp2;refine be ?_;exact ⟨rfl,_,_,_,hR⟩
theorem Jl (cn N base B:Nat) (x0 x1 x2 x3 x4 x5:Value) (t:Te) (v:Tv) (vg vo:List Value) (w:World) (h:Scr w 98 base B [x0,x1,x2,x3,x4,x5] t v vg vo) (hbase:base<=w.heap.size) (rt:RtW t cn N) (a m n:Nat) (ham:a+m<=N) (hm0:0<m) :
  Calls Tryz.prog 231 #[.pointer (some ⟨B,0,none⟩),.int .i64 (a:Int),.int .i64 ((a:Int)+m-1),.int .i64 (n:Int)] w fun e w'=>e=.returned (.tuple #[])/\∃ v' vg' vo',Res w w' 98 base B [x0,x1,x2,x3,x4,x5] v vg vo (XH t a ((a:Int)+m-1) (-(n:Int))) v' vg' vo':=by
 obtain ⟨e1,e2,⟨c1,c2⟩,e3,e4,⟨n1,n2⟩,gx,ox,_,_,_⟩:=rt;rcases h.o.1.shape with ⟨_,hs⟩|⟨g,cap,hvg,hbg,hlg,hcap⟩
 ·rw [hs] at e3;simp at e3;omega
 rw [e3] at hvg hcap
 have hres:=fun W (hb:Below w.heap.size w W)=>(Res.of_below h hb)
 have hc7:∀ W,Below w.heap.size w W->W.cell? ⟨B,7,none⟩=some (.slice (some ⟨g,0,none⟩) N cap):=fun W hb=>by rw [(h.below hb).cell 7];show some v.g=_;rw [hvg]
 have hc13:∀ W,Below w.heap.size w W->W.cell? ⟨B,13,none⟩=some (.int .i64 t.st.back):=fun W hb=>(h.below hb).cell 13
 have hrr:∀ W,Below w.heap.size w W->Calls Tryz.prog 252 #[.slice (some ⟨g,a,none⟩) m (cap-a),.int .i64 (n:Int),stV (Xn t.st)] W fun e w'=>e=.returned (.tuple #[])/\∃ vg',Res w w' 98 base B [x0,x1,x2,x3,x4,x5] v vg vo (XH t a ((a:Int)+m-1) (-(n:Int))) v vg' vo:=by
  intro W hb;have hW:=h.below hb;have ho:=hW.o.1;rw [hvg] at ho
  refine (Xcu cn base W.heap.size g N cap a m (cap-a) n vg t.g (Xn t.st) W ho (World.ownsRow.lt ho.2.1 g rfl).2 (Nat.le_refl _) e3 gx c1 c2 ham hm0 (by omega) n2).mono ?_;rintro e w' ⟨rfl,⟨vs',hsub,hv⟩,hg⟩;refine ⟨rfl,vs',?_⟩;have hr:=hW.rows (Nat.le_trans hbase hb.size) vs' (Zo cn t.g a (a+m-1) (-(n:Int)) (Xn t.st)) (by rw [hvg];exact hv.up hg.size) (by rw [hvg];exact hg) (fun k _ c=>hsub.gr c)
  have em:XH t a ((a:Int)+m-1) (-(n:Int))={ t with g:=Zo cn t.g a (a+m-1) (-(n:Int)) (Xn t.st) }:=by
   unfold XH;rw [e1,Int.toNat_natCast,Int.toNat_natCast,show ((a:Int)+m-1).toNat=a+m-1 by omega]
  rw [em]
  exact (hres W hb).trans hr
 unfold stV at hrr;have hlt:=h.lt;have hbk:=fun W (hb:Below w.heap.size w W)=>JA B t.st W (hc13 W hb) (Nat.lt_of_lt_of_le hlt hb.size)
 unfold stV at hbk;clear hres hc13 h hbase e1 e2 e4 gx ox hvg hbg hlg c1 c2 hlt;have hd:=bdr w;have d7:=hc7 _ hd;obtain ⟨q,hq⟩:∃ q:Nat,Hid (q=a+m):=⟨_,rfl⟩;have f1:(0:Int)<=(a:Int):=by omega
 have f2:IntKind.i64.wrap ((a:Int)+m)=(q:Int):=by rw [hq.out];simp [IntKind.wrap,IntKind.bits,IntKind.signed];omega
 have f3:(0:Int)<=(q:Int):=by omega
 have f4:(q:Int)<=(cap:Int):=by have:=hq.out;omega
 have f8:a<=q:=by have:=hq.out;omega
 have f5:¬ (cap-a=0):=by omega
 have f6:¬ (cap=a):=by omega
 have f7:q-a=m:=by have:=hq.out;omega
 clear e3;go_enter Tryz.func231,Tryz.ntmps231;go_wp2;refine wp_region_noPanic ?_;refine wp_region_held_drew (S:=(fun _=>True)) (by kernel_rfl) trivial (fun Hh=>?_);refine tK 0 ?_;refine tK 1 ?_;refine tK 2 ?_;refine tK 3 ?_;refine tK 4 ?_;refine tK 6 ?_;refine tK 7 ?_;refine tK 8 ?_;refine tK 10 ?_;refine tk 11 ?_;refine rd2 5 12 (fun K hK=>?_) fun K hK=>?_
 ·go_simp
  refine hK.out _ _ trivial (fun Hh=>?_);clear hK K;refine tk 9 ?_;refine rd 12 fun K hK=>?_
  go_simp;refine (hbk _ hd).mono ?_;rintro e wk ⟨rfl,hb⟩;have hd2:=hd.trans (hb.mono hd.size);have d7:=hc7 _ hd2;unfold Xn;go_wp2_with fail;refine hK.out _ _ trivial (fun Hh=>?_);clear hK K;refine rd 13 fun K hK=>?_
  go_simp;refine (hrr _ hd2).mono ?_;rintro e w2 ⟨rfl,vg2,hR⟩;go_wp2_with fail;refine hK.out _ _ trivial (fun Hh=>?_);clear hK K
  (try simp only [Act.put,ZA,ZB,ZC,ZD,ZE,ZF])
  refine dn ?_;go_wp2;refine be ?_;exact ⟨rfl,_,_,_,hR⟩
 ·go_simp
  refine (hbk _ hd).mono ?_;rintro e wk ⟨rfl,hb⟩;have hd2:=hd.trans (hb.mono hd.size);have d7:=hc7 _ hd2;unfold Xn;go_wp2_with fail;refine hK.out _ _ trivial (fun Hh=>?_);clear hK K;refine rd 5 fun K hK=>?_
  go_simp;refine hK.out _ _ trivial (fun Hh=>?_);clear hK K;refine tk 9 ?_;refine rd 13 fun K hK=>?_
  go_simp;refine (hrr _ hd2).mono ?_;rintro e w2 ⟨rfl,vg2,hR⟩;go_wp2_with fail;refine hK.out _ _ trivial (fun Hh=>?_);clear hK K
  (try simp only [Act.put,ZA,ZB,ZC,ZD,ZE,ZF])
  refine dn ?_;go_wp2;refine be ?_;exact ⟨rfl,_,_,_,hR⟩
theorem ZK (cn N base B:Nat) (x0 x1 x2 x3 x4 x5:Value) (t:Te) (v:Tv) (vg vo:List Value) (w:World) (h:Scr w 98 base B [x0,x1,x2,x3,x4,x5] t v vg vo) (hbase:base<=w.heap.size) (rt:RtW t cn N) :
  Calls Tryz.prog 179 #[.pointer (some ⟨B,0,none⟩)] w fun e w'=>e=.returned (.tuple #[])/\∃ v' vg' vo',Res w w' 98 base B [x0,x1,x2,x3,x4,x5] v vg vo (Xm t) v' vg' vo':=by
 have c10:w.cell? ⟨B,10,none⟩=some (.int .i64 t.row):=h.cell 10;have c17:w.cell? ⟨B,17,none⟩=some (.int .i64 t.top):=h.cell 17;have c18:w.cell? ⟨B,18,none⟩=some (.int .i64 t.bot):=h.cell 18;obtain ⟨r1,r2⟩:=rt.row;obtain ⟨b1,b2,b3⟩:=rt.tb;have hn2:=rt.n1.2
 by_cases hb:t.row=t.bot
 ·have hru:=fun W (hbW:Below w.heap.size w W)=>Up cn N base B x0 x1 x2 x3 x4 x5 t v vg vo W (h.below hbW) (Nat.le_trans hbase hbW.size) rt t.top.toNat (t.bot+1-t.top).toNat 1 (by omega) (by omega)
  rw [show ((t.top.toNat:Nat):Int)=t.top by omega,show t.top+((t.bot+1-t.top).toNat:Int)-1=t.bot by omega] at hru
  have hV:Hid (Xm t=XH t t.top t.bot 1):=by show _=_;unfold Xm;rw [if_pos hb]
  rw [hV.out]
  have hof:=fun W (hbW:Below w.heap.size w W)=>Res.of_below h hbW
  have hd:=bdr w;rw [hb] at c10
  clear rt hbase hb r1 r2 b1 b2 b3 hn2 hV h;go_enter Tryz.func179,Tryz.ntmps179;go_wp2;refine wp_region_noPanic ?_;refine wp_region_held_drew (S:=(fun _=>True)) (by kernel_rfl) trivial (fun Hh=>?_);refine tK 0 ?_;refine tK 1 ?_;refine tK 2 ?_;refine tK 3 ?_;refine tK 4 ?_;refine tK 6 ?_;refine tK 7 ?_;refine tK 8 ?_;refine tk 9 ?_;refine rd2 5 10 (fun K hK=>?_) fun K hK=>?_
  ·go_simp
   refine hK.out _ _ trivial (fun Hh=>?_);clear hK K;refine rd 10 fun K hK=>?_
   go_simp;refine hK.out _ _ trivial (fun Hh=>?_);clear hK K;refine rd 11 fun K hK=>?_
   go_simp;refine (hru _ hd).mono ?_;rintro e w2 ⟨rfl,v2,vg2,vo2,hR⟩;go_wp2_with fail;refine hK.out _ _ trivial (fun Hh=>?_);clear hK K
   (try simp only [Act.put,ZA,ZB,ZC,ZD,ZE,ZF])
   refine dn ?_;go_wp2;refine be ?_;exact ⟨rfl,_,_,_,(hof _ hd).trans hR⟩
  ·go_simp
   refine hK.out _ _ trivial (fun Hh=>?_);clear hK K;refine rd 5 fun K hK=>?_
   go_simp;refine hK.out _ _ trivial (fun Hh=>?_);clear hK K;refine rd 11 fun K hK=>?_
   go_simp;refine (hru _ hd).mono ?_;rintro e w2 ⟨rfl,v2,vg2,vo2,hR⟩;go_wp2_with fail;refine hK.out _ _ trivial (fun Hh=>?_);clear hK K
   (try simp only [Act.put,ZA,ZB,ZC,ZD,ZE,ZF])
   refine dn ?_;go_wp2;refine be ?_;exact ⟨rfl,_,_,_,(hof _ hd).trans hR⟩
 ·have hq:(t.row==t.bot)=false:=by simp [hb]
  have hng:∃ a c,v.g=.slice a N c:=by
   obtain ⟨a,c,e⟩:=sGs (SlG.of_own h.o.1.g);rw [rt.n] at e
   exact ⟨a,c,e⟩
  obtain ⟨ga,gc,hvg⟩:=hng;have c7:w.cell? ⟨B,7,none⟩=some (.slice ga N gc):=by rw [h.cell 7];show some v.g=_;rw [hvg]
  have hlr:=KN B ga N gc w c7 (by omega);have hN:=rt.n
  by_cases hl:t.row=(N:Int)-1
  ·have hV:Hid (Xm t=t):=by show _=_;unfold Xm;rw [if_neg hb,if_neg (by omega)]
   rw [hV.out]
   have hR:=h.res;rw [hl] at c10 hq
   clear rt hbase hb hvg hl hV h hN c7 c17 r1 r2 b1 b2 b3;go_enter Tryz.func179,Tryz.ntmps179;go_wp2_with fail;refine hlr.mono ?_;rintro e w1 ⟨rfl,hw⟩;subst hw;go_wp2;refine be ?_;exact ⟨rfl,_,_,_,hR⟩
  ·have hq2:(t.row==(N:Int)-1)=false:=by simp [hl]
   have hV:Hid (Xm t={ t with row:=t.row+1 }):=by show _=_;unfold Xm;rw [if_neg hb,if_pos (by omega)]
   rw [hV.out]
   have z10:=h.frozen 10
   have hR:Hid (Res w (w.setCell ⟨B,10,none⟩ (.int .i64 (t.row+1))) 98 base B [x0,x1,x2,x3,x4,x5] v vg vo { t with row:=t.row+1 } v vg vo) :=
    h.put (sCg B [.int .i64 (t.row+1)] 10 w) _ (sCh B 98 [.int .i64 (t.row+1)] 10 w _ h.b) rfl rfl rfl rfl rfl
   have hr2:t.row<=30:=by omega
   clear rt hbase hb hvg hl hV h hN c7 c17 b1 b2 b3 r2;go_enter Tryz.func179,Tryz.ntmps179;go_wp2_with fail;refine hlr.mono ?_;rintro e w1 ⟨rfl,hw⟩;subst hw;go_wp2;refine be ?_;exact ⟨rfl,_,_,_,hR.out⟩
theorem Jo {t:Te} (h:Xk t=true):∃ gc:Nat,t.gc=gc/\t.oc=gc/\Xy (gc:Int) t.g=true/\Xy (gc:Int) t.o=true/\(0<=t.row/\t.row<=30)/\RtT t:=by
 unfold Xk Y4 okV at h;simp only [Bool.and_eq_true,decide_eq_true_eq] at h;obtain ⟨⟨h1,h2,h3,h4⟩,⟨⟨⟨r1,r2⟩,r3⟩,_⟩,_,_,_,⟨h5,_⟩,⟨⟨⟨_,_,h6,_,h7,_⟩,_⟩,_⟩,_⟩:=h;have q:=((YU _ _).1 h1).1;obtain ⟨gc,hgc⟩:∃ k:Nat,t.gc=k:=⟨t.gc.toNat,by omega⟩;have hoc:t.oc=gc:=by rw [<- h3,hgc]
 rw [hgc] at h1
 rw [hoc] at h2
 obtain ⟨⟨g1,g2⟩,gl,gx⟩:=YP h1;obtain ⟨_,ol,ox⟩:=YP h2;exact ⟨gc,hgc,hoc,h1,h2,⟨r1,by omega⟩,gl,fun i hi=>by rw [(gx i hi).1];exact ⟨g1,g2⟩,ol,fun i hi=>by rw [(ox i hi).1];exact ⟨g1,g2⟩,h5,h6,h7⟩
theorem XhY {w1:World} {M a b N:Nat} {n:Int} {X:List Ce} {vs us:List Value} (hG:Gat w1 M vs X (Uq a b n) us) (hvl:vs.length=N) (hus:us.length=b+1-a) (hb:b<N):∀ k,k<M->RwS (Q7 vs us a (b+1-a)) k->RwS vs k:=by
 intro k hk c;obtain ⟨i,hi,e⟩:=c;rw [ZN] at hi
 rw [Km _ _ _ _ _ hi] at e
 by_cases c:a<=i/\i<a+(b+1-a)
 ·rw [if_pos c] at e
  cases es:Uq a b n (i-a) with
  | some p =>
   rw [hG.1 (i-a) p (by omega) es] at e
   exact ⟨p,by have:=Ku es;omega,e⟩
  | none =>
   have:=((hG.2.1 (i-a) (by omega) es).lt k e).1;omega
 ·rw [if_neg c] at e
  exact ⟨i,hi,e⟩
theorem Xgw (Bk base B cols:Nat) (v:Value) (vs:List Value) (rows:List (List Ce)) (a b:Nat) (n:Int) (s:St) (w:World) (hG:GrW w Bk cols v) (ho:XF w base B v vs rows) (hBk:v.ownBlock≠some Bk) (hB:B<=w.heap.size) (hbase:base<=w.heap.size) (hab:a<=b) (hbn:b<rows.length) (hn:-10000<=n/\n<=10000) (hl:rows.length<=1000) (hc:cols<=1000) :
  Calls Tryz.prog 209 #[.pointer (some ⟨Bk,0,none⟩),.int .i64 (a:Int),.int .i64 (b:Int),.int .i64 n,stV s] w fun e w'=>e=.returned (.tuple #[])/\(∃ vs',XF w' base w'.heap.size v vs' (Zo cols rows a b n s)/\∀ k,k<w.heap.size->RwS vs' k->RwS vs k)/\GrP (fun k=>v.ownBlock=some k) w w':=by
 have hvl:=ho.1;have hrow:=fun W=>JZ cols s W hc
 have hin:=fun x W=>XQ x a b W
 have hS0:=XT.new w s 28;have hb0:=Xd w (Obj.cells #[.int .i64 s.fore,.int .i64 s.back,.bool s.bold,.bool s.under,.bool s.turned] 28);rcases ho.shape with ⟨_,h⟩|⟨g,cap,rfl,hbg,hlg,hcap⟩
 ·rw [h] at hbn;simp at hbn
 have hvsl:=ho.areSl;have hgB:g≠Bk:=fun e=>hBk (by rw [e];rfl)
 have hBk0:=hG.1;clear hBk;unfold stV at *
 have k0:MvK w.heap.size (.slice (some ⟨w.heap.size+1,0,none⟩) 0 0) vs [] (X0 cols s) (Uq a b n) s w ((w.alloc (Obj.cells #[.int .i64 s.fore,.int .i64 s.back,.bool s.bold,.bool s.under,.bool s.turned] 28)).alloc (.cells #[] 120)):=by
  have e1:(w.alloc (Obj.cells #[.int .i64 s.fore,.int .i64 s.back,.bool s.bold,.bool s.under,.bool s.turned] 28)).heap.size=w.heap.size+1:=by simp
  have h1:=World.ownsRow_lit (base:=w.heap.size+1) (e:=120) (size:=1) (w.alloc (Obj.cells #[.int .i64 s.fore,.int .i64 s.back,.bool s.bold,.bool s.under,.bool s.turned] 28)) #[] 0 (by omega) (Nat.zero_le _) rfl;rw [e1] at h1
  exact ⟨hS0.below (Xd _ _),h1,Gat.nil _ _ _ _ _,hb0.trans ((Xd _ _).mono hb0.size)⟩
 clear hS0 hb0;go_enter Tryz.func209,Tryz.ntmps209;go_wp2;go_loopw [10,11] (fun u i wr=>∃ (q:Nat) (us:List Value),i=.int .i64 q/\a<=q/\q<=b+1/\us.length=q-a/\MvK w.heap.size u vs us (X0 cols s) (Uq a b n) s w wr) (fun _ i _=>b+1-(intOf i).toNat)
 case atStart=>exact ⟨a,[],rfl,Nat.le_refl _,by omega,by simp,k0⟩
 case round =>
  clear k0;obtain ⟨q,us,rfl,hq1,hq2,hul,k⟩:=hrel
  by_cases hlt:q<=b
  ·have hji:(q:Int)<=(b:Int):=by omega
   have hG1:=hG.below (k.2.2.2);have ho1:=ho.below (k.2.2.2);have c0:=hG1.2.1.1;have c1:=hG1.2.1.2;obtain ⟨_,⟨d0,d1,d2,d3,d4⟩,_⟩:=id k.1;have hM:=k.1.1;obtain ⟨ua,un,uc,rfl⟩:=Xfg k.2.1
   by_cases hw:(a:Int)<=(q:Int)+n/\(q:Int)+n<=(b:Int)
   ·obtain ⟨p,hp⟩:∃ p:Nat,(q:Int)+n=(p:Int):=⟨((q:Int)+n).toNat,by omega⟩
    have hsg:Uq a b n us.length=some p:=by
     unfold Uq;rw [hul,if_pos (by omega)]
     congr 1;omega
    have hdd:decide ((a:Int)<=(p:Int)/\(p:Int)<=(b:Int))=true:=decide_eq_true (by omega);have hin1:=fun W=>XQ (p:Int) a b W
    simp only [hdd] at hin1;have hcp:=ho1.cell rfl p (by omega);have hp0:(0:Int)<=(p:Int):=by omega
    have hpl:(p:Int)<(rows.length:Int):=by omega
    have hr:=hvsl p (by omega);have hGat:=k.2.2.1.old p hsg;have hHp:Hid ((q:Int)+n=(p:Int)):=hp;have hlen:us.length<2000000:=by omega
    obtain ⟨ra,rn,rc,hre⟩:=hr;rw [hre] at hcp hGat
    have hfin:∀ (v':Value) (w':World),w'.ownsRow (w.heap.size+1) 120 1 v' (us.length+1) (us++[.slice ra rn rc])->(wr.alloc (.cells #[.slice ra rn rc] 120)).grownBy w' (Value.slice ua un uc).ownBlock->MvK w.heap.size v' vs (us++[.slice ra rn rc]) (X0 cols s) (Uq a b n) s w w':=fun v' w' h1 h2=>k.more hGat h1 h2
    have hown:=k.2.1;clear hrow hGat k hG1 ho1 hre hvsl hw hdd hin;go_wp2_with fail;refine (hin1 _).mono ?_;rintro e w2 ⟨rfl,hw⟩;subst hw;go_wp2_with (at_builtin;refine Xet (by rfl) _ _ (by rfl) (w.heap.size+1) us.length (.slice ua un uc) us (.slice ra rn rc) (by rfl) hown ⟨_,_,_,rfl⟩ (by omega) hlen _ rfl (by rfl) ?_;intro v' w' ho' hg');have kk:=hfin v' w' ho' hg';clear hfin ho' hg' hown;go_wp2;go_roundw
    case rel=>exact ⟨q+1,us++[.slice ra rn rc],by go_num,by omega,by omega,by rw [List.length_append,hul,List.length_singleton];omega,kk⟩
    case measure=>simp [intOf];omega
   ·have hsg:Uq a b n us.length=none:=by
     unfold Uq;rw [hul,if_neg (by omega)]
    have hdd:decide ((a:Int)<=(q:Int)+n/\(q:Int)+n<=(b:Int))=false:=decide_eq_false hw;have hlen:us.length<2000000:=by omega
    have hS0:∀ W:World,Below wr.heap.size wr W->(W.cell? ⟨Bk,0,none⟩=some (.int .i64 cols)/\W.cell? ⟨w.heap.size,0,none⟩=some (.int .i64 s.fore)/\W.cell? ⟨w.heap.size,1,none⟩=some (.int .i64 s.back)/\W.cell? ⟨w.heap.size,2,none⟩=some (.bool s.bold)/\W.cell? ⟨w.heap.size,3,none⟩=some (.bool s.under)/\W.cell? ⟨w.heap.size,4,none⟩=some (.bool s.turned)):=fun W h=>⟨(hG1.below h).2.1.1,(k.1.below h).2.1⟩
    have hS1:∀ (W0 W:World) (r:Value),Below wr.heap.size wr W0->(W0.alloc (.cells #[r] 120)).grownBy W (Value.slice ua un uc).ownBlock->(W.cell? ⟨Bk,0,none⟩=some (.int .i64 cols)/\W.cell? ⟨w.heap.size,0,none⟩=some (.int .i64 s.fore)/\W.cell? ⟨w.heap.size,1,none⟩=some (.int .i64 s.back)/\W.cell? ⟨w.heap.size,2,none⟩=some (.bool s.bold)/\W.cell? ⟨w.heap.size,3,none⟩=some (.bool s.under)/\W.cell? ⟨w.heap.size,4,none⟩=some (.bool s.turned)):=fun W0 W r h hg=>by
     have h2:=h.trans ((Xd W0 (Obj.cells #[r] 120)).mono h.size);have h3:=fun g e=>(k.2.1.lt g e).1
     exact ⟨((hG1.below h2).grown hg (fun e=>by have:=h3 Bk e;omega)).2.1.1,((k.1.below h2).grown hg (fun e=>by have:=h3 w.heap.size e;omega)).2.1⟩
    have hfin:∀ (v' r:Value) (W0 w':World),Below wr.heap.size wr W0->Xl W0 wr.heap.size r (X0 cols s)->w'.ownsRow (w.heap.size+1) 120 1 v' (us.length+1) (us++[r])->(W0.alloc (.cells #[r] 120)).grownBy w' (Value.slice ua un uc).ownBlock->MvK w.heap.size v' vs (us++[r]) (X0 cols s) (Uq a b n) s w w':=fun v' r W0 w' hb hr h1 h2=>(k.below hb).more (k.2.2.1.new hsg hb r hr (by omega)) h1 h2
    have hown:=fun W h=>World.ownsRow.below k.2.1 (w':=W) h
    have hin1:=fun W=>XQ ((q:Int)+n) a b W
    simp only [hdd] at hin1;clear hG1 ho1 hdd hin k;go_wp2_with fail;refine (hin1 _).mono ?_;rintro e w2 ⟨rfl,hw⟩;subst hw;have hbd:=bdr w2;have hkd:=hS0 _ hbd;go_wp2
    go_region_held3 (fun W=>W.cell? ⟨Bk,0,none⟩=some (.int .i64 cols)/\W.cell? ⟨w.heap.size,0,none⟩=some (.int .i64 s.fore)/\W.cell? ⟨w.heap.size,1,none⟩=some (.int .i64 s.back)/\W.cell? ⟨w.heap.size,2,none⟩=some (.bool s.bold)/\W.cell? ⟨w.heap.size,3,none⟩=some (.bool s.under)/\W.cell? ⟨w.heap.size,4,none⟩=some (.bool s.turned)) (with_reducible assumption)
     (first
      | (go_at_call 160;refine (hrow _).mono ?_;rintro e wk ⟨r,rfl,hor,hb2⟩;obtain ⟨ra,rn,rc,rfl⟩:=hor.isSl;have hbk:=hbd.trans (hb2.mono hbd.size);have hka:=hS0 _ hbk;have hkl:=hS0 _ (hbk.trans ((Xd wk (Obj.cells #[.slice ra rn rc] 120)).mono hbk.size)))
      | (refine Xaj (by rfl) _ _ (by rfl) (w.heap.size+1) us.length (.slice ua un uc) us (.slice ra rn rc) (by rfl) (hown _ hbk) ⟨_,_,_,rfl⟩ (Nat.le_trans hM hbk.size) hlen _ rfl (by rfl) ?_;intro v' w' ho' hg';have hkc:=hS1 _ _ _ hbk hg'))
    have kk:=hfin v' _ wk w' hbk hor ho' hg';clear hfin hS0 hS1 hown ho' hg' hor hb2 hbk hka hkl hkc hkd hbd hrow;go_wp2;go_roundw
    case rel=>exact ⟨q+1,us++[.slice ra rn rc],by go_num,by omega,by omega,by rw [List.length_append,hul,List.length_singleton];omega,kk⟩
    case measure=>simp [intOf];omega
  ·have hji:¬ (q:Int)<=(b:Int):=by omega
   have hqe:q=b+1:=by omega
   subst hqe;have hM:=k.1.1;have hG1:=hG.below (k.2.2.2);have ho1:=ho.below (k.2.2.2);have husl:U9 us:=k.2.2.1.areSl hvsl (fun k p _ e=>by have:=Ku e;omega);rcases k.2.1.2 with ⟨_,h⟩|⟨gu,cu,cur,rfl,hgu,hgu2,_⟩
   ·omega
   have hne:gu≠g:=by omega
   have hown1:=ho1.2.1;have hown2:=k.2.1;have hGat:=k.2.2.1;have hbw:=k.2.2.2;obtain ⟨w1,rfl⟩:∃ w1,w1=wr:=⟨wr,rfl⟩;clear k hin hrow hgu2;go_wp2;go_loopw [12] (fun i W=>∃ (q:Nat),i=.int .i64 q/\a<=q/\q<=b+1/\W.ownsRow base 120 1 (.slice (some ⟨g,0,none⟩) rows.length cap) rows.length (Q7 vs us a (q-a))/\w1.grownBy W (some g)) (fun i _=>b+1-(intOf i).toNat)
   case atStart=>exact ⟨a,rfl,Nat.le_refl _,by omega,by rw [Nat.sub_self,Xfd];exact hown1,World.grownBy.refl _ _⟩
   case round =>
    obtain ⟨q,rfl,hq1,hq2,ko,kg⟩:=hrel
    by_cases hlt:q<=b
    ·have hji2:(q:Int)<=(b:Int):=by omega
     obtain ⟨j,hj⟩:∃ j:Nat,(q:Int)-(a:Int)=(j:Int):=⟨q-a,by omega⟩;have hj2:q-a=j:=by omega
     have hj3:q+1-a=j+1:=by omega
     have hq3:q=a+j:=by omega
     have hst:=Xfc vs us a j (by omega);rw [hj2] at ko
     obtain ⟨ra,rn,rc,hre⟩:=husl j (by omega);rw [hre] at hst
     have hcu:w1.cell? ⟨gu,j,none⟩=some (.slice ra rn rc):=by rw [World.ownsRow.cellAt hown2 j (by omega),ZP (by omega),hre]
     have hown3:=World.ownsRow.kept hown2 kg (Or.inr (fun e=>hne (Option.some.inj e)));have hcq:_:=World.ownsRow.cellAt ko q (by omega);have hfz:=World.ownsRow.frozenAt ko q
     have hvq:∃ a' n' c',Xw (Q7 vs us a j) q=Value.slice a' n' c':=by
      rw [Km _ _ _ _ _ (by omega)]
      split
      ·exact husl _ (by omega)
      ·exact hvsl _ (by omega)
     rw [ZP (by rw [ZN];omega)] at hcq
     have c1:=(hG1.grown kg (by simp;exact hgB)).2.1.2;have hcu2:wr.cell? ⟨gu,j,none⟩=some (.slice ra rn rc):=by rw [World.ownsRow.cellAt hown3 j (by omega),ZP (by omega),hre]
     have hkd:=(show (wr.drew.cell? ⟨Bk,1,none⟩=some (.slice (some ⟨g,0,none⟩) rows.length cap)/\wr.drew.cell? ⟨gu,j,none⟩=some (.slice ra rn rc)) from ⟨c1,hcu2⟩);have hk0:=World.ownsRow.stored ko q (.slice ra rn rc)
     have hk1:(wr.setCell ⟨g,q,none⟩ (.slice ra rn rc)).drew.ownsRow base 120 1 (.slice (some ⟨g,0,none⟩) rows.length cap) rows.length (Q7 vs us a (q+1-a)):=by
      rw [hj3,hst,<- hq3];exact World.ownsRow.below hk0.1 (bdr _)
     have hkg:w1.grownBy (wr.setCell ⟨g,q,none⟩ (.slice ra rn rc)).drew (some g):=Xf (Xf kg hk0.2) (gbl (bdr _) (some g))
     have hks:(wr.setCell ⟨g,q,none⟩ (.slice ra rn rc)).drew.cell? ⟨Bk,1,none⟩=some (.slice (some ⟨g,0,none⟩) rows.length cap)/\(wr.setCell ⟨g,q,none⟩ (.slice ra rn rc)).drew.cell? ⟨gu,j,none⟩=some (.slice ra rn rc):=by
      refine ⟨(hG1.grown hkg (by simp;exact hgB)).2.1.2,?_⟩;rw [World.ownsRow.cellAt (World.ownsRow.kept hown2 hkg (Or.inr (fun e=>hne (Option.some.inj e)))) j (by omega),ZP (by omega),hre]
     obtain ⟨xa,xn,xc,hxe⟩:=hvq;have hwj:IntKind.i64.wrap ((q:Int)-(a:Int))=(j:Int):=by rw [hj];simp [IntKind.wrap_i64];omega
     rw [hxe] at hcq
     have hqr:q<rows.length:=by omega
     have hjl:j<b+1-a:=by omega
     have hj0:(0:Int)<=(j:Int):=by omega
     have hqri:(q:Int)<(rows.length:Int):=by omega
     have hjli:(j:Int)<((b+1-a:Nat):Int):=by omega
     clear hul hvl hj hk0 hxe hown3 hst hre hcu ko kg hGat hown1 hown2 hG1 ho1 husl hvsl hj2 hj3 hq3;go_wp2;go_region_held3 (fun W=>W.cell? ⟨Bk,1,none⟩=some (.slice (some ⟨g,0,none⟩) rows.length cap)/\W.cell? ⟨gu,j,none⟩=some (.slice ra rn rc)) (with_reducible assumption) (fail);clear hks hkd;go_wp2;go_roundw
     case rel=>exact ⟨q+1,by go_num,by omega,by omega,hk1,hkg⟩
     case measure=>simp [intOf];omega
    ·have hji2:¬ (q:Int)<=(b:Int):=by omega
     have hqe:q=b+1:=by omega
     subst hqe;have hfin:=XdI ho1 hGat hul hab hbn hbase hB ko kg;have hbb:=(GrP.of_below (S:=fun k=>Value.ownBlock (.slice (some ⟨g,0,none⟩) rows.length cap)=some k) hbw).trans (GrP.of_grown kg (fun g' e=>by cases e;rfl));have hmg:=XhY hGat hvl hul hbn;clear ko kg hGat hown1 hown2 hG1 ho1 husl hvsl hul;go_wp2;refine be ?_;exact ⟨rfl,⟨_,hfin,hmg⟩,hbb⟩
