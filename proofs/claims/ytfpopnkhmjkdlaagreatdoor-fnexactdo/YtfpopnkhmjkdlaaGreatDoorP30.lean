import Derived.Test.YtfpopnkhmjkdlaaGreatDoorP28
set_option maxRecDepth 20000
set_option maxHeartbeats 16000000
namespace Go.Proofs.YtfpopnkhmjkdlaaGreatDoor
open Go.ChangeShapes Go.WideShapes Go.ChangeAt Go.RowKit
def JT (t:Te):Te:={ t with gc:=t.oc,g:=t.o,oc:=t.gc,o:=t.g }
def Xeq (v:Tv):Tv:=⟨v.o,v.g,v.ti,v.pp,v.pt⟩
theorem Scr.swap {W W':World} {T:TypeId} {base B:Nat} {X:List Value} {t:Te} {v:Tv} {vg vo:List Value} (h:Scr W T base B X t v vg vo) (hg:W.grownBy W' (some B)) (hb:Xj W' B T (X++(Xg (JT t) (Xeq v)).toList)):Res W W' T base B X v vg vo (JT t) (Xeq v) vo vg:=by
 have ho:=h.o.grown hg h.b h.n1 h.n2 h.n3;refine ⟨⟨hb,ho.swap,h.n1,h.n2,h.n3,h.hb⟩,GrP.of_grown hg (fun g e=>by cases e;exact .inl rfl),fun k _ c=>?_,rfl,rfl⟩;rcases c with c|c|c
 ·exact .inl c
 ·exact .inr (.inr c)
 ·exact .inr (.inl c)
theorem XbZ (rows:List (List Ce)) (cn N:Nat) (hn:rows.length=N) (hx:∀ i,i<N->(Xb rows i).length=cn):YL rows 0 N St.zero=XB cn N :=
 X7 _ _ (by rw [XY];simp [XB];exact hn) fun i hi=>by
  rw [XY] at hi
  rw [Ze _ _ _ _ _ hi,if_pos (by omega),hx i (by omega),U0 _ _ _ (by omega)]
theorem Xaq (cn N base B:Nat) (X:List Value) (t:Te) (v:Tv) (vg vo:List Value) (w:World) (T:TypeId) (h:Scr w T base B X t v vg vo) (hbase:base<=w.heap.size) (hN:t.g.length=N) (h1:1<=N/\N<=30) (hc:1<=cn/\cn<=60) (hx:∀ i,i<N->(Xb t.g i).length=cn) :
  Calls Tryz.prog 269 #[v.g,.agg #[.int .i64 0,.int .i64 0,.bool false,.bool false,.bool false]] w fun e w'=>e=.returned (.tuple #[])/\Res w w' T base B X v vg vo { t with g:=XB cn N } v vg vo:=by
 rcases h.o.1.shape with ⟨_,hs⟩|⟨g,cap,hvg,hbg,hlg,hcap⟩
 ·rw [hs] at hN;simp at hN;omega
 rw [hN] at hvg hcap
 have ho:=h.o.1;rw [hvg] at ho ⊢
 refine (Z2 w.heap.size base g N cap 0 N cap (some ⟨g,0,none⟩) vg t.g St.zero w ho hN (by omega) (fun _=>rfl) (Nat.le_refl _) (fun i hi=>by rw [hx i hi];omega) (by omega)).mono ?_;rintro e w' ⟨rfl,hv,hg⟩;rw [XbZ t.g cn N hN hx] at hv
 refine ⟨rfl,h.rows hbase vg _ (by rw [hvg];exact hv.up hg.size) (by rw [hvg];exact hg.mono (fun k _ c=>.inr c)) (fun k _ c=>c)⟩
theorem XcS (cn N base B:Nat) (x0 x1 x2 x3 x4 x5:Value) (t:Te) (v:Tv) (vg vo:List Value) (w:World) (h:Scr w 98 base B [x0,x1,x2,x3,x4,x5] t v vg vo) (hbase:base<=w.heap.size) (rt:RtW t cn N) (b:Bool) :
  Calls Tryz.prog 253 #[.pointer (some ⟨B,0,none⟩),.bool b] w fun e w'=>e=.returned (.tuple #[])/\∃ v' vg' vo',Res w w' 98 base B [x0,x1,x2,x3,x4,x5] v vg vo (XA b t 1049) v' vg' vo':=by
 obtain ⟨ga,gcp,hvg⟩:=sGs (SlG.of_own h.o.1.g);obtain ⟨oa,ocp,hvo⟩:=sGs (SlG.of_own h.o.2.1.g);obtain ⟨u1,u2,u3,u4,u5⟩:=v;simp only at hvg hvo;subst hvg;subst hvo;have c21:w.cell? ⟨B,21,none⟩=some (.bool t.away):=h.cell 21;have z21:w.frozen? ⟨B,21,none⟩=false:=h.frozen 21;obtain ⟨a,ha⟩:∃ a,Hid (t.away=a):=⟨_,rfl⟩;rw [ha.out] at c21
 by_cases hab:a=b
 ·subst hab
  have hV:XA a t 1049=t:=by unfold XA;rw [if_neg (by omega),if_neg (by omega),if_pos rfl,if_pos ha.out]
  rw [hV]
  have hR:=(show Hid _ from h.res);clear h hbase rt hV ha
  cases a
  ·go_enter Tryz.func253,Tryz.ntmps253
   go_wp2;exact bodyPost_ret (v:=.tuple #[]) (results_none rfl _ _ _) rfl ⟨rfl,_,_,_,hR.out⟩
  ·go_enter Tryz.func253,Tryz.ntmps253
   go_wp2;exact bodyPost_ret (v:=.tuple #[]) (results_none rfl _ _ _) rfl ⟨rfl,_,_,_,hR.out⟩
 have hV:XA b t 1049={ JT { t with away:=b } with g:=if b=true then XB cn N else t.o }:=by
  unfold XA JT;rw [if_neg (by omega),if_neg (by omega),if_pos rfl,if_neg (by rw [ha.out];exact hab),rt.gc,rt.n,Int.toNat_natCast]
 have p1:=h.put (sCg B [.bool b] 21 w) { t with away:=b } (sCh B 98 [.bool b] 21 w _ h.b) rfl rfl rfl rfl rfl;have hd:=bdr (w.setCell ⟨B,21,none⟩ (.bool b));have p2:=p1.below hd;have p3:=p2.s.swap (Xf (sCg B [.int .i64 t.oc,.slice oa t.o.length ocp] 6 _) (sCg B [.int .i64 t.gc,.slice ga t.g.length gcp] 8 _)) (sCh B 98 [.int .i64 t.gc,.slice ga t.g.length gcp] 8 _ _ (sCh B 98 [.int .i64 t.oc,.slice oa t.o.length ocp] 6 _ _ p2.s.b));have hR:=(show Hid _ from p2.trans p3);have rtm:=rt.m;have e6:w.cell? ⟨B,6,none⟩=some (.int .i64 t.gc):=h.cell 6;have e7:w.cell? ⟨B,7,none⟩=some (.slice ga t.g.length gcp):=h.cell 7;have e8:w.cell? ⟨B,8,none⟩=some (.int .i64 t.oc):=h.cell 8;have e9:w.cell? ⟨B,9,none⟩=some (.slice oa t.o.length ocp):=h.cell 9;have f6:w.frozen? ⟨B,6,none⟩=false:=h.frozen 6;have f7:w.frozen? ⟨B,7,none⟩=false:=h.frozen 7;have f8:w.frozen? ⟨B,8,none⟩=false:=h.frozen 8;have f9:w.frozen? ⟨B,9,none⟩=false:=h.frozen 9;clear p1 p2 p3 h hd;rw [hV]
 clear hV
 cases b
 ·obtain rfl:a=true:=by simpa using hab
  clear hab hbase rt rtm ha;go_enter Tryz.func253,Tryz.ntmps253;go_wp2;refine wp_region_noPanic ?_;refine wp_region_held_drew (S:=(fun _=>True)) (by kernel_rfl) (trivial) (fun Hh=>?_);refine tK 0 ?_;refine tK 1 ?_;refine tK 2 ?_;refine tK 3 ?_;refine tK 4 ?_;refine tK 5 ?_;refine tK 7 ?_;refine tK 8 ?_;refine tK 9 ?_;refine tk 10 ?_;refine rd2 6 11 (fun K hK=>?_) fun K hK=>?_
  ·go_simp
   refine hK.out _ _ (trivial) (fun Hh=>?_);clear hK K;refine rd 11 fun K hK=>?_
   go_simp;refine hK.out _ _ (trivial) (fun Hh=>?_);clear hK K;refine tK 12 ?_;refine tK 13 ?_;refine tk 14 ?_;refine rd 15 fun K hK=>?_
   go_simp;refine hK.out _ _ (trivial) (fun Hh=>?_);clear hK K;refine tK 16 ?_;refine tK 17 ?_;refine tk 18 ?_;refine rd 19 fun K hK=>?_
   go_simp;refine hK.out _ _ (trivial) (fun Hh=>?_);clear hK K
   (try simp only [Act.put,ZA,ZB,ZC,ZD,ZE,ZF])
   refine dn ?_;go_wp2;refine be ?_;exact ⟨rfl,_,_,_,hR.out⟩
  ·go_simp
   refine hK.out _ _ (trivial) (fun Hh=>?_);clear hK K;refine rd 6 fun K hK=>?_
   go_simp;refine hK.out _ _ (trivial) (fun Hh=>?_);clear hK K;refine tK 12 ?_;refine tK 13 ?_;refine tk 14 ?_;refine rd 15 fun K hK=>?_
   go_simp;refine hK.out _ _ (trivial) (fun Hh=>?_);clear hK K;refine tK 16 ?_;refine tK 17 ?_;refine tk 18 ?_;refine rd 19 fun K hK=>?_
   go_simp;refine hK.out _ _ (trivial) (fun Hh=>?_);clear hK K
   (try simp only [Act.put,ZA,ZB,ZC,ZD,ZE,ZF])
   refine dn ?_;go_wp2;refine be ?_;exact ⟨rfl,_,_,_,hR.out⟩
 ·obtain rfl:a=false:=by simpa using hab
  have hbl:=fun W (hr:Hid (Res w W 98 base B [x0,x1,x2,x3,x4,x5] ⟨.slice ga t.g.length gcp,.slice oa t.o.length ocp,u3,u4,u5⟩ vg vo (JT { t with away:=true }) (Xeq ⟨.slice ga t.g.length gcp,.slice oa t.o.length ocp,u3,u4,u5⟩) vo vg))=>(show Calls Tryz.prog 269 #[.slice oa t.o.length ocp,.agg #[.int .i64 0,.int .i64 0,.bool false,.bool false,.bool false]] W (fun e w'=>e=.returned (.tuple #[])/\Hid (Res w w' 98 base B [x0,x1,x2,x3,x4,x5] ⟨.slice ga t.g.length gcp,.slice oa t.o.length ocp,u3,u4,u5⟩ vg vo { JT { t with away:=true } with g:=XB cn N } (Xeq ⟨.slice ga t.g.length gcp,.slice oa t.o.length ocp,u3,u4,u5⟩) vo vg)) from
   (Xaq cn N base B [x0,x1,x2,x3,x4,x5] _ _ _ _ W _ hr.out.s (Nat.le_trans hbase hr.out.g.size) rtm rt.n1 rt.c rt.ox).mono (fun _ _ ⟨e,r⟩=>⟨e,hr.out.trans r⟩))
  clear hab ha hbase rt rtm;go_enter Tryz.func253,Tryz.ntmps253;go_wp2;refine wp_region_noPanic ?_;refine wp_region_held_drew (S:=(fun _=>True)) (by kernel_rfl) (trivial) (fun Hh=>?_);refine tK 0 ?_;refine tK 1 ?_;refine tK 2 ?_;refine tK 3 ?_;refine tK 4 ?_;refine tK 5 ?_;refine tK 7 ?_;refine tK 8 ?_;refine tK 9 ?_;refine tk 10 ?_;refine rd2 6 11 (fun K hK=>?_) fun K hK=>?_
  ·go_simp
   refine hK.out _ _ (trivial) (fun Hh=>?_);clear hK K;refine rd 11 fun K hK=>?_
   go_simp;refine hK.out _ _ (trivial) (fun Hh=>?_);clear hK K;refine tK 12 ?_;refine tK 13 ?_;refine tk 14 ?_;refine rd 15 fun K hK=>?_
   go_simp;refine hK.out _ _ (trivial) (fun Hh=>?_);clear hK K;refine tK 16 ?_;refine tK 17 ?_;refine tk 18 ?_;refine rd 19 fun K hK=>?_
   go_simp;refine hK.out _ _ (trivial) (fun Hh=>?_);clear hK K
   (try simp only [Act.put,ZA,ZB,ZC,ZD,ZE,ZF])
   refine dn ?_;go_wp2_with fail;refine (hbl _ hR).mono ?_;rintro e w2 ⟨rfl,hF⟩;clear hbl hR;go_wp2;refine be ?_;exact ⟨rfl,_,_,_,hF.out⟩
  ·go_simp
   refine hK.out _ _ (trivial) (fun Hh=>?_);clear hK K;refine rd 6 fun K hK=>?_
   go_simp;refine hK.out _ _ (trivial) (fun Hh=>?_);clear hK K;refine tK 12 ?_;refine tK 13 ?_;refine tk 14 ?_;refine rd 15 fun K hK=>?_
   go_simp;refine hK.out _ _ (trivial) (fun Hh=>?_);clear hK K;refine tK 16 ?_;refine tK 17 ?_;refine tk 18 ?_;refine rd 19 fun K hK=>?_
   go_simp;refine hK.out _ _ (trivial) (fun Hh=>?_);clear hK K
   (try simp only [Act.put,ZA,ZB,ZC,ZD,ZE,ZF])
   refine dn ?_;go_wp2_with fail;refine (hbl _ hR).mono ?_;rintro e w2 ⟨rfl,hF⟩;clear hbl hR;go_wp2;refine be ?_;exact ⟨rfl,_,_,_,hF.out⟩
theorem Ql (cn N base B:Nat) (x0 x1 x2 x3 x4 x5:Value) (t:Te) (v:Tv) (vg vo:List Value) (w:World) (h:Scr w 98 base B [x0,x1,x2,x3,x4,x5] t v vg vo) (hbase:base<=w.heap.size) (rt:RtW t cn N) (m:Int) (b:Bool) :
  Calls Tryz.prog 232 #[.pointer (some ⟨B,0,none⟩),.int .i64 m,.bool b] w fun e w'=>e=.returned (.tuple #[])/\∃ v' vg' vo',Res w w' 98 base B [x0,x1,x2,x3,x4,x5] v vg vo (XA b t m) v' vg' vo':=by
 have c20:w.cell? ⟨B,20,none⟩=some (.bool t.wrap):=h.cell 20;have z20:w.frozen? ⟨B,20,none⟩=false:=h.frozen 20;have c22:w.cell? ⟨B,22,none⟩=some (.bool t.hid):=h.cell 22;have z22:w.frozen? ⟨B,22,none⟩=false:=h.frozen 22
 by_cases m7:m=7
 ·subst m7
  have hR:=(show Hid (Res w (w.setCell ⟨B,20,none⟩ (.bool b)) 98 base B [x0,x1,x2,x3,x4,x5] v vg vo (XA b t 7) v vg vo) from h.put (sCg B [.bool b] 20 w) { t with wrap:=b } (sCh B 98 [.bool b] 20 w _ h.b) rfl rfl rfl rfl rfl);clear h hbase rt;go_enter Tryz.func232,Tryz.ntmps232;go_wp2;refine be ?_;exact ⟨rfl,_,_,_,hR.out⟩
 by_cases m25:m=25
 ·subst m25
  have hR:=(show Hid (Res w (w.setCell ⟨B,22,none⟩ (.bool (!b))) 98 base B [x0,x1,x2,x3,x4,x5] v vg vo (XA b t 25) v vg vo) from h.put (sCg B [.bool (!b)] 22 w) { t with hid:=!b } (sCh B 98 [.bool (!b)] 22 w _ h.b) rfl rfl rfl rfl rfl);clear h hbase rt m7;go_enter Tryz.func232,Tryz.ntmps232;go_wp2;refine be ?_;exact ⟨rfl,_,_,_,hR.out⟩
 by_cases m10:m=1049
 ·subst m10
  have hsa:=XcS cn N base B x0 x1 x2 x3 x4 x5 t v vg vo w h hbase rt b;clear h hbase rt m7 m25 c20 z20 c22 z22;go_enter Tryz.func232,Tryz.ntmps232;go_wp2_with fail;refine hsa.mono ?_;rintro e w2 ⟨rfl,v2,g2,o2,hR⟩;go_wp2;refine be ?_;exact ⟨rfl,_,_,_,hR⟩
 have hV:XA b t m=t:=by unfold XA;rw [if_neg m7,if_neg m25,if_neg m10]
 rw [hV]
 have q7:(m==7)=false:=by simp [m7]
 have q25:(m==25)=false:=by simp [m25]
 have q10:(m==1049)=false:=by simp [m10]
 have hR:=(show Hid _ from h.res);clear h hbase rt m7 m25 m10 c20 z20 c22 z22 hV;go_enter Tryz.func232,Tryz.ntmps232;go_wp2;refine be ?_;exact ⟨rfl,_,_,_,hR.out⟩
theorem XbN (cn N base B:Nat) (x0 x1 x2 x3 x4 x5 pv x:Value) (ps:List Int) (k r m:Int) (t:Te) (v:Tv) (vg vo:List Value) (w:World) (h:Scr w 98 base B [x0,x1,x2,x3,x4,x5] t v vg vo) (hbase:base<=w.heap.size) (rk:RtK t cn N) (hp:SlN w pv ps) (hl:ps.length<=1000) (hap:ApF w B v vg vo pv) :
  Calls Tryz.prog 182 #[.pointer (some ⟨B,0,none⟩),.agg (acA k r pv m x)] w fun e w'=>e=.returned (.tuple #[])/\∃ v' vg' vo',Res w w' 98 base B [x0,x1,x2,x3,x4,x5] v vg vo (if r=104\/r=108 then ps.foldl (XA (decide (r=104))) t else t) v' vg' vo':=by
 obtain ⟨W,hW⟩:∃ W,W=w.alloc (Obj.cells #[.int .i64 k,.int .i64 r,pv,.int .i64 m,x] 37):=⟨_,rfl⟩;have hb0:Below w.heap.size w W:=by rw [hW];exact Xd _ _
 have hA:Xj W w.heap.size 37 [.int .i64 k,.int .i64 r,pv,.int .i64 m,x]:=by rw [hW];exact heap_alloc_new w _
 have hA1:W.cell? ⟨w.heap.size,1,none⟩=some (.int .i64 r):=cAl hA 1;have hA2:W.cell? ⟨w.heap.size,2,none⟩=some pv:=cAl hA 2
 have hapA:ApF W B v vg vo (.slice (some ⟨w.heap.size,0,none⟩) 0 0):=fun g e=>by
  obtain rfl:w.heap.size=g:=by simpa [Value.ownBlock] using e
  refine ⟨hA.lt,fun c=>?_⟩;rcases c with c|c|c
  ·have:=h.lt;omega
  ·have:=(GrS.bd h.o.1 c).2;omega
  ·have:=(GrS.bd h.o.2.1 c).2;omega
 have hof:=Res.of_below h hb0;have hbase0:base<=W.heap.size:=Nat.le_trans hbase hb0.size;replace hp:=hp.below hb0;replace hap:=hap.mono hb0.size;replace hW:=(show Hid _ from hW);obtain ⟨pa,pc,rfl⟩:=hp.shp;clear h hbase hb0;unfold acA
 by_cases r104:r=104
 ·subst r104
  rw [if_pos (by omega),show decide ((104:Int)=104)=true from rfl]
  have hfo:∀ j,Hid (j<ps.length->(ps.take (j+1)).foldl (XA true) t=XA true ((ps.take j).foldl (XA true) t) (ps.getD j 0)):=fun j=>fun hj=>by
   rw [List.take_succ_eq_append_getElem hj,List.foldl_append]
   simp [hj]
  go_enter Tryz.func182,Tryz.ntmps182;refine wp_seq_k (fun K hK=>?_);have hH:=(show Hid _ from hK);clear hK;go_wp2;refine hH.out _ _ ?_;rw [<- hW.out]
  clear hH hW;generalize w.heap.size=A at *;have hK:Res w W 98 base B [x0,x1,x2,x3,x4,x5] v vg vo ((ps.take 0).foldl (XA true) t) v vg vo:=hof;replace hK:=(show Hid _ from hK);clear hof;go_wp2;go_loopw [5,17] (fun _ i wr=>∃ (j:Nat) (v':Tv) (vg' vo':List Value),i=.int .i64 j/\j<=ps.length/\Hid (Res w wr 98 base B [x0,x1,x2,x3,x4,x5] v vg vo ((ps.take j).foldl (XA true) t) v' vg' vo')/\SlN wr (.slice pa ps.length pc) ps/\ApF wr B v' vg' vo' (.slice pa ps.length pc)/\ApF wr B v' vg' vo' (.slice (some ⟨A,0,none⟩) 0 0)/\Xj wr A 37 [.int .i64 k,.int .i64 104,.slice pa ps.length pc,.int .i64 m,x]/\base<=wr.heap.size) (fun _ i _=>ps.length-(intOf i).toNat)
  case atStart=>exact ⟨0,v,vg,vo,rfl,Nat.zero_le _,hK,hp,hap,hapA,hA,hbase0⟩
  case round =>
   clear hK hp hap hapA hA hbase0 hA1 hA2;obtain ⟨j,v',vg',vo',rfl,hj,hK,hp,hap,hapA,hA,hbj⟩:=hrel
   by_cases hlt:j<ps.length
   ·have hji:(j:Int)<(ps.length:Int):=by omega
    have hj0:(0:Int)<=(j:Int):=by omega
    have rkj:=RtK.modes true (ps.take j) rk;have hsm:=Ql cn N base B x0 x1 x2 x3 x4 x5 _ v' vg' vo' wr hK.out.s hbj rkj.w (ps.getD j 0) true;rw [<- (hfo j).out hlt] at hsm
    have hA1:wr.cell? ⟨A,1,none⟩=some (.int .i64 104):=cAl hA 1
    have hnx:=fun W2 v2 g2 o2 (r':Res wr W2 98 base B [x0,x1,x2,x3,x4,x5] v' vg' vo' ((ps.take (j+1)).foldl (XA true) t) v2 g2 o2)=>(show Hid (Res w W2 98 base B [x0,x1,x2,x3,x4,x5] v vg vo ((ps.take (j+1)).foldl (XA true) t) v2 g2 o2)/\SlN W2 (.slice pa ps.length pc) ps/\ApF W2 B v2 g2 o2 (.slice pa ps.length pc)/\ApF W2 B v2 g2 o2 (.slice (some ⟨A,0,none⟩) 0 0)/\Xj W2 A 37 [.int .i64 k,.int .i64 104,.slice pa ps.length pc,.int .i64 m,x]/\base<=W2.heap.size from by
     have hr:=hp.res hap r';exact ⟨hK.out.trans r',hr.1,hr.2,fun g e=>⟨Nat.lt_of_lt_of_le (hapA g e).1 r'.g.size,fun c=>(hapA g e).2 (r'.c g (hapA g e).1 c)⟩,hA.grp r'.g (hapA A rfl).2,Nat.le_trans hbj r'.g.size⟩)
    obtain ⟨_,_,hpe,hpc,hpn,hpx⟩:=id hp
    have hcj:∀ b off,pa=some ⟨b,off,none⟩->wr.cell? ⟨b,off+j,none⟩=some (.int .i64 (ps.getD j 0)):=fun b off e=>by
     rcases hpx with hz|⟨b',off',he,_,hc⟩
     ·rw [hz] at hlt;simp at hlt
     ·injection hpe with e1
      rw [e] at e1
      rw [<- e1] at he
      injection he with he
      injection he with he1 he2
      subst he1;subst he2;exact hc j hlt
    obtain ⟨pb,po,rfl⟩:∃ b off,pa=some ⟨b,off,none⟩:=by
     rcases hpx with hz|⟨b',off',he,_,hc⟩
     ·rw [hz] at hlt;simp at hlt
     ·injection hpe with e1
      exact ⟨b',off',by rw [e1];exact he⟩
    have hcc:=hcj pb po rfl;clear hcj hpe hpc hpn hpx hK hp hap hapA hA hbj rkj hfo;generalize ps.getD j 0=y at *;go_wp2_with fail;refine hsm.mono ?_;rintro e w2 ⟨rfl,v2,g2,o2,hR⟩;obtain ⟨k1,k2,k3,k4,k5,k6⟩:=hnx _ _ _ _ hR;clear hsm hnx hR hcc hA1;go_wp2;go_roundw
    case rel=>exact ⟨j+1,v2,g2,o2,by go_num,by omega,k1,k2,k3,k4,k5,k6⟩
    case measure=>simp [intOf];omega
   ·have hjn:¬ (j:Int)<(ps.length:Int):=by omega
    have hF:=(show Hid (Res w wr 98 base B [x0,x1,x2,x3,x4,x5] v vg vo (ps.foldl (XA true) t) v' vg' vo') from by
     have e:ps.take j=ps:=List.take_of_length_le (by omega);rw [<- e]
     exact hK.out)
    clear hK hp hap hapA hA hfo;go_wp2;refine be ?_;exact ⟨rfl,_,_,_,hF.out⟩
 by_cases r108:r=108
 ·subst r108
  rw [if_pos (by omega),show decide ((108:Int)=104)=false from rfl]
  have hfo:∀ j,Hid (j<ps.length->(ps.take (j+1)).foldl (XA false) t=XA false ((ps.take j).foldl (XA false) t) (ps.getD j 0)):=fun j=>fun hj=>by
   rw [List.take_succ_eq_append_getElem hj,List.foldl_append]
   simp [hj]
  go_enter Tryz.func182,Tryz.ntmps182;refine wp_seq_k (fun K hK=>?_);have hH:=(show Hid _ from hK);clear hK;go_wp2;refine hH.out _ _ ?_;rw [<- hW.out]
  clear hH hW;generalize w.heap.size=A at *;have hK:Res w W 98 base B [x0,x1,x2,x3,x4,x5] v vg vo ((ps.take 0).foldl (XA false) t) v vg vo:=hof;replace hK:=(show Hid _ from hK);clear hof;go_wp2;go_loopw [5,17] (fun _ i wr=>∃ (j:Nat) (v':Tv) (vg' vo':List Value),i=.int .i64 j/\j<=ps.length/\Hid (Res w wr 98 base B [x0,x1,x2,x3,x4,x5] v vg vo ((ps.take j).foldl (XA false) t) v' vg' vo')/\SlN wr (.slice pa ps.length pc) ps/\ApF wr B v' vg' vo' (.slice pa ps.length pc)/\ApF wr B v' vg' vo' (.slice (some ⟨A,0,none⟩) 0 0)/\Xj wr A 37 [.int .i64 k,.int .i64 108,.slice pa ps.length pc,.int .i64 m,x]/\base<=wr.heap.size) (fun _ i _=>ps.length-(intOf i).toNat)
  case atStart=>exact ⟨0,v,vg,vo,rfl,Nat.zero_le _,hK,hp,hap,hapA,hA,hbase0⟩
  case round =>
   clear hK hp hap hapA hA hbase0 hA1 hA2;obtain ⟨j,v',vg',vo',rfl,hj,hK,hp,hap,hapA,hA,hbj⟩:=hrel
   by_cases hlt:j<ps.length
   ·have hji:(j:Int)<(ps.length:Int):=by omega
    have hj0:(0:Int)<=(j:Int):=by omega
    have rkj:=RtK.modes false (ps.take j) rk;have hsm:=Ql cn N base B x0 x1 x2 x3 x4 x5 _ v' vg' vo' wr hK.out.s hbj rkj.w (ps.getD j 0) false;rw [<- (hfo j).out hlt] at hsm
    have hA1:wr.cell? ⟨A,1,none⟩=some (.int .i64 108):=cAl hA 1
    have hnx:=fun W2 v2 g2 o2 (r':Res wr W2 98 base B [x0,x1,x2,x3,x4,x5] v' vg' vo' ((ps.take (j+1)).foldl (XA false) t) v2 g2 o2)=>(show Hid (Res w W2 98 base B [x0,x1,x2,x3,x4,x5] v vg vo ((ps.take (j+1)).foldl (XA false) t) v2 g2 o2)/\SlN W2 (.slice pa ps.length pc) ps/\ApF W2 B v2 g2 o2 (.slice pa ps.length pc)/\ApF W2 B v2 g2 o2 (.slice (some ⟨A,0,none⟩) 0 0)/\Xj W2 A 37 [.int .i64 k,.int .i64 108,.slice pa ps.length pc,.int .i64 m,x]/\base<=W2.heap.size from by
     have hr:=hp.res hap r';exact ⟨hK.out.trans r',hr.1,hr.2,fun g e=>⟨Nat.lt_of_lt_of_le (hapA g e).1 r'.g.size,fun c=>(hapA g e).2 (r'.c g (hapA g e).1 c)⟩,hA.grp r'.g (hapA A rfl).2,Nat.le_trans hbj r'.g.size⟩)
    obtain ⟨_,_,hpe,hpc,hpn,hpx⟩:=id hp
    have hcj:∀ b off,pa=some ⟨b,off,none⟩->wr.cell? ⟨b,off+j,none⟩=some (.int .i64 (ps.getD j 0)):=fun b off e=>by
     rcases hpx with hz|⟨b',off',he,_,hc⟩
     ·rw [hz] at hlt;simp at hlt
     ·injection hpe with e1
      rw [e] at e1
      rw [<- e1] at he
      injection he with he
      injection he with he1 he2
      subst he1;subst he2;exact hc j hlt
    obtain ⟨pb,po,rfl⟩:∃ b off,pa=some ⟨b,off,none⟩:=by
     rcases hpx with hz|⟨b',off',he,_,hc⟩
     ·rw [hz] at hlt;simp at hlt
     ·injection hpe with e1
      exact ⟨b',off',by rw [e1];exact he⟩
    have hcc:=hcj pb po rfl;clear hcj hpe hpc hpn hpx hK hp hap hapA hA hbj rkj hfo;generalize ps.getD j 0=y at *;go_wp2_with fail;refine hsm.mono ?_;rintro e w2 ⟨rfl,v2,g2,o2,hR⟩;obtain ⟨k1,k2,k3,k4,k5,k6⟩:=hnx _ _ _ _ hR;clear hsm hnx hR hcc hA1;go_wp2;go_roundw
    case rel=>exact ⟨j+1,v2,g2,o2,by go_num,by omega,k1,k2,k3,k4,k5,k6⟩
    case measure=>simp [intOf];omega
   ·have hjn:¬ (j:Int)<(ps.length:Int):=by omega
    have hF:=(show Hid (Res w wr 98 base B [x0,x1,x2,x3,x4,x5] v vg vo (ps.foldl (XA false) t) v' vg' vo') from by
     have e:ps.take j=ps:=List.take_of_length_le (by omega);rw [<- e]
     exact hK.out)
    clear hK hp hap hapA hA hfo;go_wp2;refine be ?_;exact ⟨rfl,_,_,_,hF.out⟩
 rw [if_neg (by omega)]
 have q0:decide (r=104)=false:=by simp [r104]
 have q3:decide (r=108)=false:=by simp [r108]
 have q1:(r==104)=false:=by simp [r104]
 have q2:(r==108)=false:=by simp [r108]
 have hR:=(show Hid _ from hof);have q5:(r != 104)=true:=by simp [r104]
 have q6:(r != 108)=true:=by simp [r108]
 clear hof hp hap hapA hA hA2 rk;go_enter Tryz.func182,Tryz.ntmps182;refine wp_seq_k (fun K hK=>?_);have hH:=(show Hid _ from hK);clear hK;go_wp2;refine hH.out _ _ ?_;rw [<- hW.out]
 clear hH hW;go_wp2;exact bodyPost_ret (v:=.tuple #[]) (results_none rfl _ _ _) rfl ⟨rfl,_,_,_,hR.out⟩
