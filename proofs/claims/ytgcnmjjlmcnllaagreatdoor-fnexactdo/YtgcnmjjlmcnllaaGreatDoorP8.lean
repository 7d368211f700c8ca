/- Parts of the proof. -/
import Derived.Test.YtgcnmjjlmcnllaaGreatDoorP7
namespace Go.Proofs.YtgcnmjjlmcnllaaGreatDoor
set_option maxRecDepth 20000
set_option maxHeartbeats 16000000
open Go.ChangeShapes Go.WideShapes Go.ChangeAt Go.RowKit
def swapT (t:Te):Te:={ t with gc:=t.oc,g:=t.o,oc:=t.gc,o:=t.g }
def swapV (v:Tv):Tv:=⟨v.o,v.g,v.ti,v.pp,v.pt⟩
theorem Scr.swap {W W':World} {T:TypeId} {base B:Nat} {X:List Value} {t:Te} {v:Tv} {vg vo:List Value} (h:Scr W T base B X t v vg vo) (hg:W.grownBy W' (some B)) (hb:BlkC W' B T (X++(teCs (swapT t) (swapV v)).toList)):Res W W' T base B X v vg vo (swapT t) (swapV v) vo vg:=by
 have ho:=h.o.grown hg h.b h.n1 h.n2 h.n3;refine ⟨⟨hb,ho.swap,h.n1,h.n2,h.n3,h.hb⟩,GrP.of_grown hg (fun g e=>by cases e;exact .inl rfl),fun k _ c=>?_,rfl,rfl⟩;rcases c with c|c|c
 ·exact .inl c
 ·exact .inr (.inr c)
 ·exact .inr (.inl c)
theorem blanked_all (rows:List (List Ce)) (cn N:Nat) (hn:rows.length=N) (hx:∀ i,i<N->(rowX rows i).length=cn):blankedR rows 0 N St.zero=newR cn N :=
 ext_rowX _ _ (by rw [blankedR_len];simp [newR];exact hn) fun i hi=>by
  rw [blankedR_len] at hi
  rw [blankedR_at _ _ _ _ _ hi,if_pos (by omega),hx i (by omega),newR_rows _ _ _ (by omega)]
theorem blankGrid_any (cn N base B:Nat) (X:List Value) (t:Te) (v:Tv) (vg vo:List Value) (w:World) (T:TypeId) (h:Scr w T base B X t v vg vo) (hbase:base<=w.heap.size) (hN:t.g.length=N) (h1:1<=N/\N<=30) (hc:1<=cn/\cn<=60) (hx:∀ i,i<N->(rowX t.g i).length=cn) :
  Calls Tryz.prog 269 #[v.g,.agg #[.int .i64 0,.int .i64 0,.bool false,.bool false,.bool false]] w fun e w'=>e=.returned (.tuple #[])/\Res w w' T base B X v vg vo { t with g:=newR cn N } v vg vo:=by
 rcases h.o.1.shape with ⟨_,hs⟩|⟨g,cap,hvg,hbg,hlg,hcap⟩
 ·rw [hs] at hN;simp at hN;omega
 rw [hN] at hvg hcap
 have ho:=h.o.1;rw [hvg] at ho ⊢
 refine (blankRows_s w.heap.size base g N cap 0 N cap (some ⟨g,0,none⟩) vg t.g St.zero w ho hN (by omega) (fun _=>rfl) (Nat.le_refl _) (fun i hi=>by rw [hx i hi];omega) (by omega)).mono ?_;rintro e w' ⟨rfl,hv,hg⟩;rw [blanked_all t.g cn N hN hx] at hv
 refine ⟨rfl,h.rows hbase vg _ (by rw [hvg];exact hv.up hg.size) (by rw [hvg];exact hg.mono (fun k _ c=>.inr c)) (fun k _ c=>c)⟩
theorem setAway_any (cn N base B:Nat) (x0 x1 x2 x3 x4 x5:Value) (t:Te) (v:Tv) (vg vo:List Value) (w:World) (h:Scr w 98 base B [x0,x1,x2,x3,x4,x5] t v vg vo) (hbase:base<=w.heap.size) (rt:RtW t cn N) (b:Bool) :
  Calls Tryz.prog 253 #[.pointer (some ⟨B,0,none⟩),.bool b] w fun e w'=>e=.returned (.tuple #[])/\∃ v' vg' vo',Res w w' 98 base B [x0,x1,x2,x3,x4,x5] v vg vo (modeT b t 1049) v' vg' vo':=by
 obtain ⟨ga,gcp,hvg⟩:=slG_shp (SlG.of_own h.o.1.g);obtain ⟨oa,ocp,hvo⟩:=slG_shp (SlG.of_own h.o.2.1.g);obtain ⟨u1,u2,u3,u4,u5⟩:=v;simp only at hvg hvo;subst hvg;subst hvo;have c21:w.cell? ⟨B,21,none⟩=some (.bool t.away):=h.cell 21;have z21:w.frozen? ⟨B,21,none⟩=false:=h.frozen 21;obtain ⟨a,ha⟩:∃ a,Hid (t.away=a):=⟨_,rfl⟩;rw [ha.out] at c21
 by_cases hab:a=b
 ·subst hab
  have hV:modeT a t 1049=t:=by unfold modeT;rw [if_neg (by omega),if_neg (by omega),if_pos rfl,if_pos ha.out]
  rw [hV]
  have hR:=(show Hid _ from h.res);clear h hbase rt hV ha
  cases a
  ·go_enter Tryz.func253,Tryz.ntmps253
   go_wp2;exact bodyPost_ret (v:=.tuple #[]) (results_none rfl _ _ _) rfl ⟨rfl,_,_,_,hR.out⟩
  ·go_enter Tryz.func253,Tryz.ntmps253
   go_wp2;exact bodyPost_ret (v:=.tuple #[]) (results_none rfl _ _ _) rfl ⟨rfl,_,_,_,hR.out⟩
 have hV:modeT b t 1049={ swapT { t with away:=b } with g:=if b=true then newR cn N else t.o }:=by
  unfold modeT swapT;rw [if_neg (by omega),if_neg (by omega),if_pos rfl,if_neg (by rw [ha.out];exact hab),rt.gc,rt.n,Int.toNat_natCast]
 have p1:=h.put (sCg B [.bool b] 21 w) { t with away:=b } (sCh B 98 [.bool b] 21 w _ h.b) rfl rfl rfl rfl rfl;have hd:=bdr (w.setCell ⟨B,21,none⟩ (.bool b));have p2:=p1.below hd;have p3:=p2.s.swap (grown_tr (sCg B [.int .i64 t.oc,.slice oa t.o.length ocp] 6 _) (sCg B [.int .i64 t.gc,.slice ga t.g.length gcp] 8 _)) (sCh B 98 [.int .i64 t.gc,.slice ga t.g.length gcp] 8 _ _ (sCh B 98 [.int .i64 t.oc,.slice oa t.o.length ocp] 6 _ _ p2.s.b));have hR:=(show Hid _ from p2.trans p3);have rtm:=rt.m;have e6:w.cell? ⟨B,6,none⟩=some (.int .i64 t.gc):=h.cell 6;have e7:w.cell? ⟨B,7,none⟩=some (.slice ga t.g.length gcp):=h.cell 7;have e8:w.cell? ⟨B,8,none⟩=some (.int .i64 t.oc):=h.cell 8;have e9:w.cell? ⟨B,9,none⟩=some (.slice oa t.o.length ocp):=h.cell 9;have f6:w.frozen? ⟨B,6,none⟩=false:=h.frozen 6;have f7:w.frozen? ⟨B,7,none⟩=false:=h.frozen 7;have f8:w.frozen? ⟨B,8,none⟩=false:=h.frozen 8;have f9:w.frozen? ⟨B,9,none⟩=false:=h.frozen 9;clear p1 p2 p3 h hd;rw [hV]
 clear hV
 cases b
 ·obtain rfl:a=true:=by simpa using hab
  clear hab hbase rt rtm ha;go_enter Tryz.func253,Tryz.ntmps253;go_wp2;refine wp_region_noPanic ?_;refine wp_region_held_drew (S:=(fun _=>True)) (by kernel_rfl) (trivial) (fun hHeld=>?_);refine tk 0 ?_;refine tk 1 ?_;refine tk 2 ?_;refine tk 3 ?_;refine tk 4 ?_;refine tk 5 ?_;refine tk 7 ?_;refine tk 8 ?_;refine tk 9 ?_;refine tk 10 ?_;refine rd2 6 11 (fun K hK=>?_) fun K hK=>?_
  ·go_simp
   refine hK.out _ _ (trivial) (fun hHeld=>?_);clear hK K;refine rd 11 fun K hK=>?_
   go_simp;refine hK.out _ _ (trivial) (fun hHeld=>?_);clear hK K;refine tk 12 ?_;refine tk 13 ?_;refine tk 14 ?_;refine rd 15 fun K hK=>?_
   go_simp;refine hK.out _ _ (trivial) (fun hHeld=>?_);clear hK K;refine tk 16 ?_;refine tk 17 ?_;refine tk 18 ?_;refine rd 19 fun K hK=>?_
   go_simp;refine hK.out _ _ (trivial) (fun hHeld=>?_);clear hK K
   (try simp only [Act.put,ZA,ZB,ZC,ZD,ZE,ZF])
   refine dn ?_;go_wp2;refine be ?_;exact ⟨rfl,_,_,_,hR.out⟩
  ·go_simp
   refine hK.out _ _ (trivial) (fun hHeld=>?_);clear hK K;refine rd 6 fun K hK=>?_
   go_simp;refine hK.out _ _ (trivial) (fun hHeld=>?_);clear hK K;refine tk 12 ?_;refine tk 13 ?_;refine tk 14 ?_;refine rd 15 fun K hK=>?_
   go_simp;refine hK.out _ _ (trivial) (fun hHeld=>?_);clear hK K;refine tk 16 ?_;refine tk 17 ?_;refine tk 18 ?_;refine rd 19 fun K hK=>?_
   go_simp;refine hK.out _ _ (trivial) (fun hHeld=>?_);clear hK K
   (try simp only [Act.put,ZA,ZB,ZC,ZD,ZE,ZF])
   refine dn ?_;go_wp2;refine be ?_;exact ⟨rfl,_,_,_,hR.out⟩
 ·obtain rfl:a=false:=by simpa using hab
  have hbl:=fun W (hr:Hid (Res w W 98 base B [x0,x1,x2,x3,x4,x5] ⟨.slice ga t.g.length gcp,.slice oa t.o.length ocp,u3,u4,u5⟩ vg vo (swapT { t with away:=true }) (swapV ⟨.slice ga t.g.length gcp,.slice oa t.o.length ocp,u3,u4,u5⟩) vo vg))=>(show Calls Tryz.prog 269 #[.slice oa t.o.length ocp,.agg #[.int .i64 0,.int .i64 0,.bool false,.bool false,.bool false]] W (fun e w'=>e=.returned (.tuple #[])/\Hid (Res w w' 98 base B [x0,x1,x2,x3,x4,x5] ⟨.slice ga t.g.length gcp,.slice oa t.o.length ocp,u3,u4,u5⟩ vg vo { swapT { t with away:=true } with g:=newR cn N } (swapV ⟨.slice ga t.g.length gcp,.slice oa t.o.length ocp,u3,u4,u5⟩) vo vg)) from
   (blankGrid_any cn N base B [x0,x1,x2,x3,x4,x5] _ _ _ _ W _ hr.out.s (Nat.le_trans hbase hr.out.g.size) rtm rt.n1 rt.c rt.ox).mono (fun _ _ ⟨e,r⟩=>⟨e,hr.out.trans r⟩))
  clear hab ha hbase rt rtm;go_enter Tryz.func253,Tryz.ntmps253;go_wp2;refine wp_region_noPanic ?_;refine wp_region_held_drew (S:=(fun _=>True)) (by kernel_rfl) (trivial) (fun hHeld=>?_);refine tk 0 ?_;refine tk 1 ?_;refine tk 2 ?_;refine tk 3 ?_;refine tk 4 ?_;refine tk 5 ?_;refine tk 7 ?_;refine tk 8 ?_;refine tk 9 ?_;refine tk 10 ?_;refine rd2 6 11 (fun K hK=>?_) fun K hK=>?_
  ·go_simp
   refine hK.out _ _ (trivial) (fun hHeld=>?_);clear hK K;refine rd 11 fun K hK=>?_
   go_simp;refine hK.out _ _ (trivial) (fun hHeld=>?_);clear hK K;refine tk 12 ?_;refine tk 13 ?_;refine tk 14 ?_;refine rd 15 fun K hK=>?_
   go_simp;refine hK.out _ _ (trivial) (fun hHeld=>?_);clear hK K;refine tk 16 ?_;refine tk 17 ?_;refine tk 18 ?_;refine rd 19 fun K hK=>?_
   go_simp;refine hK.out _ _ (trivial) (fun hHeld=>?_);clear hK K
   (try simp only [Act.put,ZA,ZB,ZC,ZD,ZE,ZF])
   refine dn ?_;go_wp2_with fail;refine (hbl _ hR).mono ?_;rintro e w2 ⟨rfl,hF⟩;clear hbl hR;go_wp2;refine be ?_;exact ⟨rfl,_,_,_,hF.out⟩
  ·go_simp
   refine hK.out _ _ (trivial) (fun hHeld=>?_);clear hK K;refine rd 6 fun K hK=>?_
   go_simp;refine hK.out _ _ (trivial) (fun hHeld=>?_);clear hK K;refine tk 12 ?_;refine tk 13 ?_;refine tk 14 ?_;refine rd 15 fun K hK=>?_
   go_simp;refine hK.out _ _ (trivial) (fun hHeld=>?_);clear hK K;refine tk 16 ?_;refine tk 17 ?_;refine tk 18 ?_;refine rd 19 fun K hK=>?_
   go_simp;refine hK.out _ _ (trivial) (fun hHeld=>?_);clear hK K
   (try simp only [Act.put,ZA,ZB,ZC,ZD,ZE,ZF])
   refine dn ?_;go_wp2_with fail;refine (hbl _ hR).mono ?_;rintro e w2 ⟨rfl,hF⟩;clear hbl hR;go_wp2;refine be ?_;exact ⟨rfl,_,_,_,hF.out⟩
theorem setMode_any (cn N base B:Nat) (x0 x1 x2 x3 x4 x5:Value) (t:Te) (v:Tv) (vg vo:List Value) (w:World) (h:Scr w 98 base B [x0,x1,x2,x3,x4,x5] t v vg vo) (hbase:base<=w.heap.size) (rt:RtW t cn N) (m:Int) (b:Bool) :
  Calls Tryz.prog 232 #[.pointer (some ⟨B,0,none⟩),.int .i64 m,.bool b] w fun e w'=>e=.returned (.tuple #[])/\∃ v' vg' vo',Res w w' 98 base B [x0,x1,x2,x3,x4,x5] v vg vo (modeT b t m) v' vg' vo':=by
 have c20:w.cell? ⟨B,20,none⟩=some (.bool t.wrap):=h.cell 20;have z20:w.frozen? ⟨B,20,none⟩=false:=h.frozen 20;have c22:w.cell? ⟨B,22,none⟩=some (.bool t.hid):=h.cell 22;have z22:w.frozen? ⟨B,22,none⟩=false:=h.frozen 22
 by_cases m7:m=7
 ·subst m7
  have hR:=(show Hid (Res w (w.setCell ⟨B,20,none⟩ (.bool b)) 98 base B [x0,x1,x2,x3,x4,x5] v vg vo (modeT b t 7) v vg vo) from h.put (sCg B [.bool b] 20 w) { t with wrap:=b } (sCh B 98 [.bool b] 20 w _ h.b) rfl rfl rfl rfl rfl);clear h hbase rt;go_enter Tryz.func232,Tryz.ntmps232;go_wp2;refine be ?_;exact ⟨rfl,_,_,_,hR.out⟩
 by_cases m25:m=25
 ·subst m25
  have hR:=(show Hid (Res w (w.setCell ⟨B,22,none⟩ (.bool (!b))) 98 base B [x0,x1,x2,x3,x4,x5] v vg vo (modeT b t 25) v vg vo) from h.put (sCg B [.bool (!b)] 22 w) { t with hid:=!b } (sCh B 98 [.bool (!b)] 22 w _ h.b) rfl rfl rfl rfl rfl);clear h hbase rt m7;go_enter Tryz.func232,Tryz.ntmps232;go_wp2;refine be ?_;exact ⟨rfl,_,_,_,hR.out⟩
 by_cases m10:m=1049
 ·subst m10
  have hsa:=setAway_any cn N base B x0 x1 x2 x3 x4 x5 t v vg vo w h hbase rt b;clear h hbase rt m7 m25 c20 z20 c22 z22;go_enter Tryz.func232,Tryz.ntmps232;go_wp2_with fail;refine hsa.mono ?_;rintro e w2 ⟨rfl,v2,g2,o2,hR⟩;go_wp2;refine be ?_;exact ⟨rfl,_,_,_,hR⟩
 have hV:modeT b t m=t:=by unfold modeT;rw [if_neg m7,if_neg m25,if_neg m10]
 rw [hV]
 have q7:(m==7)=false:=by simp [m7]
 have q25:(m==25)=false:=by simp [m25]
 have q10:(m==1049)=false:=by simp [m10]
 have hR:=(show Hid _ from h.res);clear h hbase rt m7 m25 m10 c20 z20 c22 z22 hV;go_enter Tryz.func232,Tryz.ntmps232;go_wp2;refine be ?_;exact ⟨rfl,_,_,_,hR.out⟩
theorem setModes_any (cn N base B:Nat) (x0 x1 x2 x3 x4 x5 pv x:Value) (ps:List Int) (k r m:Int) (t:Te) (v:Tv) (vg vo:List Value) (w:World) (h:Scr w 98 base B [x0,x1,x2,x3,x4,x5] t v vg vo) (hbase:base<=w.heap.size) (rk:RtK t cn N) (hp:SlN w pv ps) (hl:ps.length<=1000) (hap:ApF w B v vg vo pv) :
  Calls Tryz.prog 182 #[.pointer (some ⟨B,0,none⟩),.agg (acA k r pv m x)] w fun e w'=>e=.returned (.tuple #[])/\∃ v' vg' vo',Res w w' 98 base B [x0,x1,x2,x3,x4,x5] v vg vo (if r=104\/r=108 then ps.foldl (modeT (decide (r=104))) t else t) v' vg' vo':=by
 obtain ⟨W,hW⟩:∃ W,W=w.alloc (Obj.cells #[.int .i64 k,.int .i64 r,pv,.int .i64 m,x] 37):=⟨_,rfl⟩;have hb0:Below w.heap.size w W:=by rw [hW];exact bal' _ _
 have hA:BlkC W w.heap.size 37 [.int .i64 k,.int .i64 r,pv,.int .i64 m,x]:=by rw [hW];exact heap_alloc_new w _
 have hA1:W.cell? ⟨w.heap.size,1,none⟩=some (.int .i64 r):=cAl hA 1;have hA2:W.cell? ⟨w.heap.size,2,none⟩=some pv:=cAl hA 2
 have hapA:ApF W B v vg vo (.slice (some ⟨w.heap.size,0,none⟩) 0 0):=fun g e=>by
  obtain rfl:w.heap.size=g:=by simpa [Value.ownBlock] using e
  refine ⟨hA.lt,fun c=>?_⟩;rcases c with c|c|c
  ·have:=h.lt;omega
  ·have:=(GrS.bd h.o.1 c).2;omega
  ·have:=(GrS.bd h.o.2.1 c).2;omega
 have hof:=Res.of_below h hb0;have hbase0:base<=W.heap.size:=Nat.le_trans hbase hb0.size;replace hp:=hp.below hb0;replace hap:=hap.mono hb0.size;replace hW:=(show Hid _ from hW);obtain ⟨pa,pc,rfl⟩:=hp.shp;clear h hbase hb0;unfold acA
 by_cases r104:r=104
 ·subst r104
  rw [if_pos (by omega),show decide ((104:Int)=104)=true from rfl]
  have hfo:∀ j,Hid (j<ps.length->(ps.take (j+1)).foldl (modeT true) t=modeT true ((ps.take j).foldl (modeT true) t) (ps.getD j 0)):=fun j=>fun hj=>by
   rw [List.take_succ_eq_append_getElem hj,List.foldl_append]
   simp [hj]
  go_enter Tryz.func182,Tryz.ntmps182;refine wp_seq_k (fun K hK=>?_);have hH:=(show Hid _ from hK);clear hK;go_wp2;refine hH.out _ _ ?_;rw [<- hW.out]
  clear hH hW;generalize w.heap.size=A at *;have hK:Res w W 98 base B [x0,x1,x2,x3,x4,x5] v vg vo ((ps.take 0).foldl (modeT true) t) v vg vo:=hof;replace hK:=(show Hid _ from hK);clear hof;go_wp2;go_loopw [5,17] (fun _ i wr=>∃ (j:Nat) (v':Tv) (vg' vo':List Value),i=.int .i64 j/\j<=ps.length/\Hid (Res w wr 98 base B [x0,x1,x2,x3,x4,x5] v vg vo ((ps.take j).foldl (modeT true) t) v' vg' vo')/\SlN wr (.slice pa ps.length pc) ps/\ApF wr B v' vg' vo' (.slice pa ps.length pc)/\ApF wr B v' vg' vo' (.slice (some ⟨A,0,none⟩) 0 0)/\BlkC wr A 37 [.int .i64 k,.int .i64 104,.slice pa ps.length pc,.int .i64 m,x]/\base<=wr.heap.size) (fun _ i _=>ps.length-(intOf i).toNat)
  case atStart=>exact ⟨0,v,vg,vo,rfl,Nat.zero_le _,hK,hp,hap,hapA,hA,hbase0⟩
  case round =>
   clear hK hp hap hapA hA hbase0 hA1 hA2;obtain ⟨j,v',vg',vo',rfl,hj,hK,hp,hap,hapA,hA,hbj⟩:=hrel
   by_cases hlt:j<ps.length
   ·have hji:(j:Int)<(ps.length:Int):=by omega
    have hj0:(0:Int)<=(j:Int):=by omega
    have rkj:=RtK.modes true (ps.take j) rk;have hsm:=setMode_any cn N base B x0 x1 x2 x3 x4 x5 _ v' vg' vo' wr hK.out.s hbj rkj.w (ps.getD j 0) true;rw [<- (hfo j).out hlt] at hsm
    have hA1:wr.cell? ⟨A,1,none⟩=some (.int .i64 104):=cAl hA 1
    have hnx:=fun W2 v2 g2 o2 (r':Res wr W2 98 base B [x0,x1,x2,x3,x4,x5] v' vg' vo' ((ps.take (j+1)).foldl (modeT true) t) v2 g2 o2)=>(show Hid (Res w W2 98 base B [x0,x1,x2,x3,x4,x5] v vg vo ((ps.take (j+1)).foldl (modeT true) t) v2 g2 o2)/\SlN W2 (.slice pa ps.length pc) ps/\ApF W2 B v2 g2 o2 (.slice pa ps.length pc)/\ApF W2 B v2 g2 o2 (.slice (some ⟨A,0,none⟩) 0 0)/\BlkC W2 A 37 [.int .i64 k,.int .i64 104,.slice pa ps.length pc,.int .i64 m,x]/\base<=W2.heap.size from by
     have hr:=hp.res hap r';exact ⟨hK.out.trans r',hr.1,hr.2,fun g e=>⟨Nat.lt_of_lt_of_le (hapA g e).1 r'.g.size,fun c=>(hapA g e).2 (r'.c g (hapA g e).1 c)⟩,hA.grp r'.g (hapA A rfl).2,Nat.le_trans hbj r'.g.size⟩)
    obtain ⟨_,_,hpe,hpc,hpn,hpx⟩:=id hp
    have hcj:∀ b off,pa=some ⟨b,off,none⟩->wr.cell? ⟨b,off+j,none⟩=some (.int .i64 (ps.getD j 0)):=fun b off e=>by
     rcases hpx with hz|⟨b',off',he,_,hc⟩
     ·rw [hz] at hlt;simp at hlt
     ·injection hpe with e1
      rw [e] at e1
      rw [<- e1] at he
      injection he with he
      injection he with he1 he2
      subst he1;subst he2;exact hc j hlt
    obtain ⟨pb,po,rfl⟩:∃ b off,pa=some ⟨b,off,none⟩:=by
     rcases hpx with hz|⟨b',off',he,_,hc⟩
     ·rw [hz] at hlt;simp at hlt
     ·injection hpe with e1
      exact ⟨b',off',by rw [e1];exact he⟩
    have hcc:=hcj pb po rfl;clear hcj hpe hpc hpn hpx hK hp hap hapA hA hbj rkj hfo;generalize ps.getD j 0=y at *;go_wp2_with fail;refine hsm.mono ?_;rintro e w2 ⟨rfl,v2,g2,o2,hR⟩;obtain ⟨k1,k2,k3,k4,k5,k6⟩:=hnx _ _ _ _ hR;clear hsm hnx hR hcc hA1;go_wp2;go_roundw
    case rel=>exact ⟨j+1,v2,g2,o2,by go_num,by omega,k1,k2,k3,k4,k5,k6⟩
    case measure=>simp [intOf];omega
   ·have hjn:¬ (j:Int)<(ps.length:Int):=by omega
    have hF:=(show Hid (Res w wr 98 base B [x0,x1,x2,x3,x4,x5] v vg vo (ps.foldl (modeT true) t) v' vg' vo') from by
     have e:ps.take j=ps:=List.take_of_length_le (by omega);rw [<- e]
     exact hK.out)
    clear hK hp hap hapA hA hfo;go_wp2;refine be ?_;exact ⟨rfl,_,_,_,hF.out⟩
 by_cases r108:r=108
 ·subst r108
  rw [if_pos (by omega),show decide ((108:Int)=104)=false from rfl]
  have hfo:∀ j,Hid (j<ps.length->(ps.take (j+1)).foldl (modeT false) t=modeT false ((ps.take j).foldl (modeT false) t) (ps.getD j 0)):=fun j=>fun hj=>by
   rw [List.take_succ_eq_append_getElem hj,List.foldl_append]
   simp [hj]
  go_enter Tryz.func182,Tryz.ntmps182;refine wp_seq_k (fun K hK=>?_);have hH:=(show Hid _ from hK);clear hK;go_wp2;refine hH.out _ _ ?_;rw [<- hW.out]
  clear hH hW;generalize w.heap.size=A at *;have hK:Res w W 98 base B [x0,x1,x2,x3,x4,x5] v vg vo ((ps.take 0).foldl (modeT false) t) v vg vo:=hof;replace hK:=(show Hid _ from hK);clear hof;go_wp2;go_loopw [5,17] (fun _ i wr=>∃ (j:Nat) (v':Tv) (vg' vo':List Value),i=.int .i64 j/\j<=ps.length/\Hid (Res w wr 98 base B [x0,x1,x2,x3,x4,x5] v vg vo ((ps.take j).foldl (modeT false) t) v' vg' vo')/\SlN wr (.slice pa ps.length pc) ps/\ApF wr B v' vg' vo' (.slice pa ps.length pc)/\ApF wr B v' vg' vo' (.slice (some ⟨A,0,none⟩) 0 0)/\BlkC wr A 37 [.int .i64 k,.int .i64 108,.slice pa ps.length pc,.int .i64 m,x]/\base<=wr.heap.size) (fun _ i _=>ps.length-(intOf i).toNat)
  case atStart=>exact ⟨0,v,vg,vo,rfl,Nat.zero_le _,hK,hp,hap,hapA,hA,hbase0⟩
  case round =>
   clear hK hp hap hapA hA hbase0 hA1 hA2;obtain ⟨j,v',vg',vo',rfl,hj,hK,hp,hap,hapA,hA,hbj⟩:=hrel
   by_cases hlt:j<ps.length
   ·have hji:(j:Int)<(ps.length:Int):=by omega
    have hj0:(0:Int)<=(j:Int):=by omega
    have rkj:=RtK.modes false (ps.take j) rk;have hsm:=setMode_any cn N base B x0 x1 x2 x3 x4 x5 _ v' vg' vo' wr hK.out.s hbj rkj.w (ps.getD j 0) false;rw [<- (hfo j).out hlt] at hsm
    have hA1:wr.cell? ⟨A,1,none⟩=some (.int .i64 108):=cAl hA 1
    have hnx:=fun W2 v2 g2 o2 (r':Res wr W2 98 base B [x0,x1,x2,x3,x4,x5] v' vg' vo' ((ps.take (j+1)).foldl (modeT false) t) v2 g2 o2)=>(show Hid (Res w W2 98 base B [x0,x1,x2,x3,x4,x5] v vg vo ((ps.take (j+1)).foldl (modeT false) t) v2 g2 o2)/\SlN W2 (.slice pa ps.length pc) ps/\ApF W2 B v2 g2 o2 (.slice pa ps.length pc)/\ApF W2 B v2 g2 o2 (.slice (some ⟨A,0,none⟩) 0 0)/\BlkC W2 A 37 [.int .i64 k,.int .i64 108,.slice pa ps.length pc,.int .i64 m,x]/\base<=W2.heap.size from by
     have hr:=hp.res hap r';exact ⟨hK.out.trans r',hr.1,hr.2,fun g e=>⟨Nat.lt_of_lt_of_le (hapA g e).1 r'.g.size,fun c=>(hapA g e).2 (r'.c g (hapA g e).1 c)⟩,hA.grp r'.g (hapA A rfl).2,Nat.le_trans hbj r'.g.size⟩)
    obtain ⟨_,_,hpe,hpc,hpn,hpx⟩:=id hp
    have hcj:∀ b off,pa=some ⟨b,off,none⟩->wr.cell? ⟨b,off+j,none⟩=some (.int .i64 (ps.getD j 0)):=fun b off e=>by
     rcases hpx with hz|⟨b',off',he,_,hc⟩
     ·rw [hz] at hlt;simp at hlt
     ·injection hpe with e1
      rw [e] at e1
      rw [<- e1] at he
      injection he with he
      injection he with he1 he2
      subst he1;subst he2;exact hc j hlt
    obtain ⟨pb,po,rfl⟩:∃ b off,pa=some ⟨b,off,none⟩:=by
     rcases hpx with hz|⟨b',off',he,_,hc⟩
     ·rw [hz] at hlt;simp at hlt
     ·injection hpe with e1
      exact ⟨b',off',by rw [e1];exact he⟩
    have hcc:=hcj pb po rfl;clear hcj hpe hpc hpn hpx hK hp hap hapA hA hbj rkj hfo;generalize ps.getD j 0=y at *;go_wp2_with fail;refine hsm.mono ?_;rintro e w2 ⟨rfl,v2,g2,o2,hR⟩;obtain ⟨k1,k2,k3,k4,k5,k6⟩:=hnx _ _ _ _ hR;clear hsm hnx hR hcc hA1;go_wp2;go_roundw
    case rel=>exact ⟨j+1,v2,g2,o2,by go_num,by omega,k1,k2,k3,k4,k5,k6⟩
    case measure=>simp [intOf];omega
   ·have hjn:¬ (j:Int)<(ps.length:Int):=by omega
    have hF:=(show Hid (Res w wr 98 base B [x0,x1,x2,x3,x4,x5] v vg vo (ps.foldl (modeT false) t) v' vg' vo') from by
     have e:ps.take j=ps:=List.take_of_length_le (by omega);rw [<- e]
     exact hK.out)
    clear hK hp hap hapA hA hfo;go_wp2;refine be ?_;exact ⟨rfl,_,_,_,hF.out⟩
 rw [if_neg (by omega)]
 have q0:decide (r=104)=false:=by simp [r104]
 have q3:decide (r=108)=false:=by simp [r108]
 have q1:(r==104)=false:=by simp [r104]
 have q2:(r==108)=false:=by simp [r108]
 have hR:=(show Hid _ from hof);have q5:(r != 104)=true:=by simp [r104]
 have q6:(r != 108)=true:=by simp [r108]
 clear hof hp hap hapA hA hA2 rk;go_enter Tryz.func182,Tryz.ntmps182;refine wp_seq_k (fun K hK=>?_);have hH:=(show Hid _ from hK);clear hK;go_wp2;refine hH.out _ _ ?_;rw [<- hW.out]
 clear hH hW;go_wp2;exact bodyPost_ret (v:=.tuple #[]) (results_none rfl _ _ _) rfl ⟨rfl,_,_,_,hR.out⟩
theorem setMargins_any (cn N base B:Nat) (x0 x1 x2 x3 x4 x5 pv:Value) (ps:List Int) (t:Te) (v:Tv) (vg vo:List Value) (w:World) (h:Scr w 98 base B [x0,x1,x2,x3,x4,x5] t v vg vo) (rk:RtK t cn N) (hp:SlN w pv ps) (hl:ps.length<=1000) (n m:Int) (en:Hid (parN ps 0 1=n)) (em:Hid (parN ps 1 (t.g.length:Int)=m)) (hn:1<=n/\n<=9999) (hm:1<=m/\m<=9999) :
  Calls Tryz.prog 200 #[.pointer (some ⟨B,0,none⟩),pv] w fun e w'=>e=.returned (.tuple #[])/\∃ v' vg' vo',Res w w' 98 base B [x0,x1,x2,x3,x4,x5] v vg vo (if n-1<m-1/\m-1<=(t.g.length:Int)-1 then { t with top:=n-1,bot:=m-1,row:=0,col:=0 } else t) v' vg' vo':=by
 obtain ⟨ga,gc,hvg⟩:∃ a c,v.g=.slice a N c:=by
  obtain ⟨a,c,e⟩:=slG_shp (SlG.of_own h.o.1.g);rw [rk.w.n] at e
  exact ⟨a,c,e⟩
 have c7:∀ W,Below w.heap.size w W->W.cell? ⟨B,7,none⟩=some (.slice ga N gc):=fun W hb=>by rw [(h.below hb).cell 7];show some v.g=_;rw [hvg]
 have hgl:=rk.w.n;have hn1:=rk.w.n1;have em':parN ps 1 (N:Int)=m:=by rw [<- hgl];exact em.out
 have hc1:=fun W (hbW:Below w.heap.size w W)=>countOf_any pv ps W (hp.below hbW) hl
 have hc2:=fun W (hbW:Below w.heap.size w W)=>paramAt_any pv ps 1 (N:Int) W (hp.below hbW) hl
 simp only [en.out] at hc1;simp only [em'] at hc2;have hla:=fun W (hbW:Below w.heap.size w W)=>lastRow_any B ga N gc W (c7 W hbW) (by omega)
 have hwn:IntKind.i64.wrap (n-1)=n-1:=by simp [IntKind.wrap,IntKind.bits,IntKind.signed];omega
 have hwm:IntKind.i64.wrap (m-1)=m-1:=by simp [IntKind.wrap,IntKind.bits,IntKind.signed];omega
 have hd:=bdr w;have hof:=Res.of_below h hd;rw [hgl]
 obtain ⟨n',hn'⟩:∃ q,Hid (n-1=q):=⟨_,rfl⟩;obtain ⟨m',hm'⟩:∃ q,Hid (m-1=q):=⟨_,rfl⟩;rw [hn'.out] at hwn ⊢
 rw [hm'.out] at hwm ⊢
 have p1:=h.put (sCg B [.int .i64 n'] 17 w) { t with top:=n' } (sCh B 98 [.int .i64 n'] 17 w _ h.b) rfl rfl rfl rfl rfl;have p2:=p1.s.put (sCg B [.int .i64 m'] 18 _) { t with top:=n',bot:=m' } (sCh B 98 [.int .i64 m'] 18 _ _ p1.s.b) rfl rfl rfl rfl rfl;have p3:=p2.s.put (sCg B [.int .i64 0] 10 _) { t with top:=n',bot:=m',row:=0 } (sCh B 98 [.int .i64 0] 10 _ _ p2.s.b) rfl rfl rfl rfl rfl;have p4:=p3.s.put (sCg B [.int .i64 0] 11 _) { t with top:=n',bot:=m',row:=0,col:=0 } (sCh B 98 [.int .i64 0] 11 _ _ p3.s.b) rfl rfl rfl rfl rfl;have hR:=(show Hid _ from (((p1.trans p2).trans p3).trans p4).below (bdr _));obtain ⟨d17,d18,d10,d11⟩:w.cell? ⟨B,17,none⟩=some (.int .i64 t.top)/\w.cell? ⟨B,18,none⟩=some (.int .i64 t.bot)/\w.cell? ⟨B,10,none⟩=some (.int .i64 t.row)/\w.cell? ⟨B,11,none⟩=some (.int .i64 t.col):=⟨h.cell 17,h.cell 18,h.cell 10,h.cell 11⟩;have y17:w.frozen? ⟨B,17,none⟩=false:=h.frozen 17;have y18:w.frozen? ⟨B,18,none⟩=false:=h.frozen 18;have y10:w.frozen? ⟨B,10,none⟩=false:=h.frozen 10;have y11:w.frozen? ⟨B,11,none⟩=false:=h.frozen 11;replace hof:=(show Hid _ from hof);obtain ⟨pa,pc,rfl⟩:=hp.shp;have hwn2:=(show Hid _ from hwn);have e1:IntKind.i64.wrap (n-1)=n':=by rw [hn'.out];exact hwn
 have e2:IntKind.i64.wrap (m-1)=m':=by rw [hm'.out];exact hwm
 clear p1 p2 p3 p4 h rk hp hl en em em' hn hm hgl hvg hwn hwm hwn2 hn1 hn' hm'
 by_cases q1:n'<m'
 ·by_cases q2:m'<=(N:Int)-1
  ·rw [if_pos ⟨q1,q2⟩]
   have q1d:decide (n'<m')=true:=decide_eq_true q1;have q2d:decide (m'<=(N:Int)-1)=true:=decide_eq_true q2;clear hof;go_enter Tryz.func200,Tryz.ntmps200;go_wp2;refine wp_region_noPanic ?_;refine wp_region_held_drew (S:=(fun W=>W.cell? ⟨B,7,none⟩=some (.slice ga N gc))) (by kernel_rfl) (c7 _ hd) (fun hHeld=>?_);refine tk 0 ?_;refine tk 3 ?_;refine tk 4 ?_;refine tk 5 ?_;refine tk 6 ?_;refine tk 7 ?_;refine tk 8 ?_;refine tk 9 ?_;refine tk 10 ?_;refine rd 1 fun K hK=>?_
   go_simp;refine (hc1 _ hd).mono ?_;rintro e wk ⟨rfl,hw1⟩;subst hw1;go_wp2_with fail;refine hK.out _ _ (c7 _ hd) (fun hHeld=>?_);clear hK K;refine tk 2 ?_;refine rd 11 fun K hK=>?_
   go_simp;refine (hc2 _ hd).mono ?_;rintro e wk ⟨rfl,hw1⟩;subst hw1;go_wp2_with fail;refine hK.out _ _ (c7 _ hd) (fun hHeld=>?_);clear hK K;refine tk 12 ?_;refine tk 13 ?_;refine tk 14 ?_;simp only [Act.put,ZA,ZB,ZC,ZD,ZE,ZF];refine dn ?_;go_wp2_with fail;refine (hla _ hd).mono ?_;rintro e wk ⟨rfl,hw1⟩;subst hw1;go_wp2;refine be ?_;exact ⟨rfl,_,_,_,hR.out⟩
  ·rw [if_neg (fun e=>q2 e.2)]
   have q1d:decide (n'<m')=true:=decide_eq_true q1;have q2d:decide (m'<=(N:Int)-1)=false:=decide_eq_false q2;clear hR d17 d18 d10 d11 y17 y18 y10 y11;go_enter Tryz.func200,Tryz.ntmps200;go_wp2;refine wp_region_noPanic ?_;refine wp_region_held_drew (S:=(fun W=>W.cell? ⟨B,7,none⟩=some (.slice ga N gc))) (by kernel_rfl) (c7 _ hd) (fun hHeld=>?_);refine tk 0 ?_;refine tk 3 ?_;refine tk 4 ?_;refine tk 5 ?_;refine tk 6 ?_;refine tk 7 ?_;refine tk 8 ?_;refine tk 9 ?_;refine tk 10 ?_;refine rd 1 fun K hK=>?_
   go_simp;refine (hc1 _ hd).mono ?_;rintro e wk ⟨rfl,hw1⟩;subst hw1;go_wp2_with fail;refine hK.out _ _ (c7 _ hd) (fun hHeld=>?_);clear hK K;refine tk 2 ?_;refine rd 11 fun K hK=>?_
   go_simp;refine (hc2 _ hd).mono ?_;rintro e wk ⟨rfl,hw1⟩;subst hw1;go_wp2_with fail;refine hK.out _ _ (c7 _ hd) (fun hHeld=>?_);clear hK K;refine tk 12 ?_;refine tk 13 ?_;refine tk 14 ?_;simp only [Act.put,ZA,ZB,ZC,ZD,ZE,ZF];refine dn ?_;go_wp2_with fail;refine (hla _ hd).mono ?_;rintro e wk ⟨rfl,hw1⟩;subst hw1;go_wp2;refine be ?_;exact ⟨rfl,_,_,_,hof.out⟩
 ·rw [if_neg (fun e=>q1 e.1)]
  have q1d:decide (n'<m')=false:=decide_eq_false q1;clear hR d17 d18 d10 d11 y17 y18 y10 y11 hla;go_enter Tryz.func200,Tryz.ntmps200;go_wp2;refine wp_region_noPanic ?_;refine wp_region_held_drew (S:=(fun W=>W.cell? ⟨B,7,none⟩=some (.slice ga N gc))) (by kernel_rfl) (c7 _ hd) (fun hHeld=>?_);refine tk 0 ?_;refine tk 3 ?_;refine tk 4 ?_;refine tk 5 ?_;refine tk 6 ?_;refine tk 7 ?_;refine tk 8 ?_;refine tk 9 ?_;refine tk 10 ?_;refine rd 1 fun K hK=>?_
  go_simp;refine (hc1 _ hd).mono ?_;rintro e wk ⟨rfl,hw1⟩;subst hw1;go_wp2_with fail;refine hK.out _ _ (c7 _ hd) (fun hHeld=>?_);clear hK K;refine tk 2 ?_;refine rd 11 fun K hK=>?_
  go_simp;refine (hc2 _ hd).mono ?_;rintro e wk ⟨rfl,hw1⟩;subst hw1;go_wp2_with fail;refine hK.out _ _ (c7 _ hd) (fun hHeld=>?_);clear hK K;refine tk 12 ?_;refine tk 13 ?_;refine tk 14 ?_;simp only [Act.put,ZA,ZB,ZC,ZD,ZE,ZF];refine dn ?_;go_wp2;refine be ?_;exact ⟨rfl,_,_,_,hof.out⟩
def erR (t:Te) (how:Int) (i:Nat):List Ce:=if (i:Int)=t.row then clearL (rowX t.g i) (cpF how t.col t.gc).toNat (cpT how t.col t.gc).toNat (backS t.st) else clearL (rowX t.g i) 0 t.gc.toNat (backS t.st)
def cgG (t:Te) (how:Int) (a b:Nat):List (List Ce):=genR t.g.length fun i=>if a<=i/\i<b then erR t how i else rowX t.g i
theorem cgG_len (t:Te) (how:Int) (a b:Nat):(cgG t how a b).length=t.g.length:=genR_len _ _
theorem cgG_at (t:Te) (how:Int) (a b i:Nat) (hi:i<t.g.length):rowX (cgG t how a b) i=if a<=i/\i<b then erR t how i else rowX t.g i:=genR_at _ _ _ hi
theorem rowX_same (l:List (List Ce)) (j i:Nat) (r:List Ce) (hj:j<l.length):rowX (l.set j r) i=if i=j then r else rowX l i:=by
 by_cases e:i=j
 ·subst e
  rw [if_pos rfl,rowX_lt (by rw [List.length_set];exact hj)];simp
 ·rw [if_neg e];unfold rowX;simp [List.getD,Ne.symm e]
theorem cgG_step (t:Te) (how:Int) (a j:Nat) (ha:a<=j) (hj:j<t.g.length):(cgG t how a j).set j (erR t how j)=cgG t how a (j+1) :=
 ext_rowX _ _ (by rw [List.length_set,cgG_len,cgG_len]) fun i hi=>by
  rw [List.length_set,cgG_len] at hi
  rw [rowX_same _ _ _ _ (by rw [cgG_len];exact hj),cgG_at _ _ _ _ _ hi,cgG_at _ _ _ _ _ hi]
  by_cases e:i=j
  ·subst e;rw [if_pos rfl,if_pos ⟨ha,by omega⟩]
  ·rw [if_neg e]
   by_cases c:a<=i/\i<j
   ·rw [if_pos c,if_pos (by omega)]
   ·rw [if_neg c,if_neg (by omega)]
theorem cgG_none (t:Te) (how:Int) (a:Nat):cgG t how a a=t.g :=
 ext_rowX _ _ (cgG_len _ _ _ _) fun i hi=>by
  rw [cgG_len] at hi
  rw [cgG_at _ _ _ _ _ hi,if_neg (by omega)]
theorem clearGrid_any (cn N base B:Nat) (x0 x1 x2 x3 x4 x5 pv:Value) (ps:List Int) (t:Te) (v:Tv) (vg vo:List Value) (w:World) (hSp:SpansAt w) (h:Scr w 98 base B [x0,x1,x2,x3,x4,x5] t v vg vo) (hbase:base<=w.heap.size) (rk:RtK t cn N) (hp:SlN w pv ps) (hl:ps.length<=1000) (hSb:0<base) (hap:ApF w B v vg vo pv) (how:Int) (eh:Hid (parN ps 0 0=how)) :
  Calls Tryz.prog 190 #[.pointer (some ⟨B,0,none⟩),pv] w fun e w'=>e=.returned (.tuple #[])/\∃ v' vg' vo',Res w w' 98 base B [x0,x1,x2,x3,x4,x5] v vg vo (eraseAll t how) v' vg' vo':=by
 obtain ⟨ga,gc,hvg⟩:∃ a c,v.g=.slice a N c:=by
  obtain ⟨a,c,e⟩:=slG_shp (SlG.of_own h.o.1.g);rw [rk.w.n] at e
  exact ⟨a,c,e⟩
 have hn1:=rk.w.n1;have hrow:=rk.w.row;have hcp:=fun W (hb:Below w.heap.size w W)=>clearedPart_any pv ps t.row N W (hp.below hb) hl (by omega)
 simp only [eh.out] at hcp;have hbd:=cp_bd how t.row N (by omega);obtain ⟨f,hf⟩:∃ f,Hid (cpF how t.row N=f):=⟨_,rfl⟩;obtain ⟨g,hg⟩:∃ g,Hid (cpT how t.row N=g):=⟨_,rfl⟩;simp only [hf.out,hg.out] at hcp hbd;obtain ⟨b1,b2,b3⟩:=hbd;have cf:∀ W,Below w.heap.size w W->W.cell? ⟨B,10,none⟩=some (.int .i64 t.row)/\W.cell? ⟨B,7,none⟩=some (.slice ga N gc):=fun W hb=>⟨(h.below hb).cell 10,by rw [(h.below hb).cell 7];show some v.g=_;rw [hvg]⟩
 have hd:=bdr w;have hof:=Res.of_below h hd;obtain ⟨pa,pc,rfl⟩:=hp.shp;clear h hvg;go_enter Tryz.func190,Tryz.ntmps190;go_wp2;refine wp_region_noPanic ?_;refine wp_region_held_drew (S:=(fun W=>W.cell? ⟨B,10,none⟩=some (.int .i64 t.row)/\W.cell? ⟨B,7,none⟩=some (.slice ga N gc))) (by kernel_rfl) (cf _ hd) (fun hHeld=>?_);refine tk 0 ?_;refine tk 1 ?_;refine tk 2 ?_;refine tk 3 ?_;refine tk 4 ?_;refine tk 5 ?_;refine tk 6 ?_;refine tk 7 ?_;refine tk 8 ?_;refine tk 9 ?_;refine tk 10 ?_;refine tk 11 ?_;refine tk 12 ?_;refine rd 13 fun K hK=>?_
 go_simp;refine (hcp _ hd).mono ?_;rintro e wk ⟨rfl,hw1⟩;subst hw1;go_wp2_with fail;refine hK.out _ _ (cf _ hd) (fun hHeld=>?_);clear hK K;refine tk 14 ?_;refine tk 15 ?_;refine tk 16 ?_;refine tk 17 ?_;refine tk 18 ?_;simp only [Act.put,ZA,ZB,ZC,ZD,ZE,ZF];refine dn ?_;replace hp:=hp.below hd;replace hap:=ApF.mono hap hd.size;replace hSp:=hSp.below hd hSp.lt;have hK:Res w w.drew 98 base B [x0,x1,x2,x3,x4,x5] v vg vo { t with g:=cgG t how f.toNat f.toNat } v vg vo:=by rw [cgG_none];exact hof
 clear hcp cf hd;go_wp2;go_loopw [6] (fun i wr=>∃ (j:Nat) (v':Tv) (vg' vo':List Value),i=.int .i64 j/\f<=(j:Int)/\(j:Int)<=g/\Res w wr 98 base B [x0,x1,x2,x3,x4,x5] v vg vo { t with g:=cgG t how f.toNat j } v' vg' vo'/\SlN wr (.slice pa ps.length pc) ps/\ApF wr B v' vg' vo' (.slice pa ps.length pc)/\SpansAt wr) (fun i _=>(g-intOf i).toNat)
 case atStart=>exact ⟨f.toNat,v,vg,vo,by rw [show ((f.toNat:Nat):Int)=f by omega],by omega,by omega,hK,hp,hap,hSp⟩
 case round =>
  clear hK hof hp hap hSp;obtain ⟨j,v',vg',vo',rfl,hj1,hj2,hK,hp,hap,hSp⟩:=hrel
  by_cases hlt:(j:Int)<g
  ·have hj0:(0:Int)<=(j:Int):=by omega
   have rkj:=rk.cg how f.toNat j;have hjN:j<N:=by omega
   have hbj:base<=wr.heap.size:=Nat.le_trans hbase hK.g.size;have c10:wr.cell? ⟨B,10,none⟩=some (.int .i64 t.row):=hK.s.cell 10;have c6:wr.cell? ⟨B,6,none⟩=some (.int .i64 t.gc):=hK.s.cell 6;have hst:=cgG_step t how f.toNat j (by omega) (by rw [rk.w.n];exact hjN);have hat:rowX (cgG t how f.toNat j) j=rowX t.g j:=by rw [cgG_at _ _ _ _ _ (by rw [rk.w.n];exact hjN),if_neg (by omega)]
   have hnx:=fun W v2 g2 o2 (r:Res wr W 98 base B [x0,x1,x2,x3,x4,x5] v' vg' vo' { t with g:=(cgG t how f.toNat j).set j (erR t how j) } v2 g2 o2)=>(show Res w W 98 base B [x0,x1,x2,x3,x4,x5] v vg vo { t with g:=cgG t how f.toNat (j+1) } v2 g2 o2/\SlN W (.slice pa ps.length pc) ps/\ApF W B v2 g2 o2 (.slice pa ps.length pc)/\SpansAt W from by
    have hr:=hp.res hap r;exact ⟨by rw [<- hst];exact hK.trans r,hr.1,hr.2,hSp.below (hK.s.bel hbj r) hSb⟩)
   by_cases hje:(j:Int)=t.row
   ·have hcr:=clearRow_any cn N base B x0 x1 x2 x3 x4 x5 (.slice pa ps.length pc) ps { t with g:=cgG t how f.toNat j } v' vg' vo' wr hSp hK.s hbj rkj hp hl how eh
    have hV:eraseRow { t with g:=cgG t how f.toNat j } how={ t with g:=(cgG t how f.toNat j).set j (erR t how j) }:=by
     rw [rkj.cpV how]
     unfold clearT Go.Proofs.YtgcnmjjlmcnllaaGreatDoor.rowT erR;simp only;rw [if_pos hje,show t.row.toNat=j by omega,hat]
     all_goals rfl
    rw [hV] at hcr
    rw [<- hje] at c10
    clear hV hat hst hje rkj hbj c6 hK hp hap hSp;go_wp2_with fail;refine hcr.mono ?_;rintro e w2 ⟨rfl,v2,g2,o2,hR⟩;obtain ⟨k1,k2,k3,k4⟩:=hnx _ _ _ _ hR;clear hcr hnx hR c10;go_wp2;go_roundw
    case rel=>exact ⟨j+1,v2,g2,o2,by go_num,by omega,by omega,k1,k2,k3,k4⟩
    case measure=>simp [intOf];omega
   ·have hcl:=clearPartK_any cn N base B x0 x1 x2 x3 x4 x5 { t with g:=cgG t how f.toNat j } v' vg' vo' wr hSp hK.s hbj rkj (j:Int) 0 t.gc (by omega) (by have:=rk.w.gc;have:=rk.w.c;omega)
    have hV:clearT { t with g:=cgG t how f.toNat j } (j:Int) 0 t.gc={ t with g:=(cgG t how f.toNat j).set j (erR t how j) }:=by
     unfold clearT Go.Proofs.YtgcnmjjlmcnllaaGreatDoor.rowT erR;simp only;rw [if_neg hje,Int.toNat_natCast,hat]
     all_goals rfl
    rw [hV] at hcl
    have hq:((j:Int)==t.row)=false:=by simp [hje]
    clear hV hat hst hje rkj hbj hK hp hap hSp;go_wp2_with fail;refine hcl.mono ?_;rintro e w2 ⟨rfl,v2,g2,o2,hR⟩;obtain ⟨k1,k2,k3,k4⟩:=hnx _ _ _ _ hR;clear hcl hnx hR c10 c6;go_wp2;go_roundw
    case rel=>exact ⟨j+1,v2,g2,o2,by go_num,by omega,by omega,k1,k2,k3,k4⟩
    case measure=>simp [intOf];omega
  ·have hjg:(j:Int)=g:=by omega
   have hF:=(show Hid (Res w wr 98 base B [x0,x1,x2,x3,x4,x5] v vg vo (eraseAll t how) v' vg' vo') from by
    rw [<- rk.cg_all how]
    have e1:(cpF how t.row N).toNat=f.toNat:=by rw [hf.out]
    have e2:(cpT how t.row N).toNat=j:=by rw [hg.out];omega
    rw [e1,e2]
    exact hK)
   clear hK hp hap hSp hjg;go_wp2;refine be ?_;exact ⟨rfl,_,_,_,hF.out⟩
end Go.Proofs.YtgcnmjjlmcnllaaGreatDoor
namespace Go.Proofs.YtgcnmjjlmcnllaaGreatDoor
set_option maxRecDepth 20000
set_option maxHeartbeats 16000000
open Go.ChangeShapes Go.WideShapes Go.ChangeAt Go.RowKit
def sigsC:Array Value:=#[.nilFunc,.nilFunc,.nilFunc,.nilFunc,.nilFunc,.nilFunc,.nilFunc,.nilFunc,.nilFunc,.nilFunc,.nilFunc,.nilFunc,.nilFunc,.nilFunc,.nilFunc,.nilFunc,.nilFunc,.nilFunc,.nilFunc,.nilFunc,.nilFunc,.nilFunc,.nilFunc,.nilFunc,.nilFunc,.nilFunc,.nilFunc,.nilFunc,.nilFunc,.nilFunc,.nilFunc,.nilFunc,.nilFunc,.nilFunc,.nilFunc,.nilFunc,.nilFunc,.nilFunc,.nilFunc,.nilFunc,.nilFunc,.nilFunc,.nilFunc,.nilFunc,.nilFunc,.nilFunc,.nilFunc,.nilFunc,.nilFunc,.nilFunc,.nilFunc,.nilFunc,.nilFunc,.nilFunc,.nilFunc,.nilFunc,.nilFunc,.nilFunc,.nilFunc,.nilFunc,.nilFunc,.nilFunc,.nilFunc,.nilFunc,.func (.func 195) #[] #[],.func (.func 183) #[] #[],.func (.func 184) #[] #[],.func (.func 185) #[] #[],.func (.func 186) #[] #[],.nilFunc,.nilFunc,.func (.func 187) #[] #[],.func (.func 189) #[] #[],.nilFunc,.func (.func 190) #[] #[],.func (.func 191) #[] #[],.func (.func 193) #[] #[],.func (.func 194) #[] #[],.nilFunc,.nilFunc,.func (.func 196) #[] #[],.nilFunc,.nilFunc,.func (.func 197) #[] #[],.func (.func 198) #[] #[],.nilFunc,.nilFunc,.nilFunc,.func (.func 192) #[] #[],.nilFunc,.nilFunc,.nilFunc,.nilFunc,.nilFunc,.nilFunc,.nilFunc,.nilFunc,.nilFunc,.nilFunc,.nilFunc,.func (.func 188) #[] #[],.nilFunc,.func (.func 189) #[] #[],.nilFunc,.nilFunc,.nilFunc,.nilFunc,.nilFunc,.nilFunc,.func (.func 199) #[] #[],.nilFunc,.nilFunc,.nilFunc,.nilFunc,.func (.func 200) #[] #[],.nilFunc,.nilFunc,.nilFunc,.nilFunc,.nilFunc,.nilFunc,.nilFunc,.nilFunc,.nilFunc,.nilFunc,.nilFunc,.nilFunc,.nilFunc]
theorem inf_sigs:(Tryz.prog.info? 182).map (·.size)=some 128:=by kernel_rfl
attribute [local go_sem ↓] eq_fn_nil eq_nil_nil
set_option maxRecDepth 40000 in
theorem signList_way (base B:Nat) (x0 x1 x2 x3 x4 x5 pv x:Value) (k r m:Int) (t:Te) (v:Tv) (vg vo:List Value) (w:World) (h:Scr w 98 base B [x0,x1,x2,x3,x4,x5] t v vg vo) (_hbase:base<=w.heap.size) (hr:0<=r/\r<128) (hm:m=0) (fn:Nat) (hf:sigsC[r.toNat]?=some (.func (.func fn) #[] #[])) (he:∀ args w,(callFunc fn args).run Tryz.prog w=Result.ok (Next.enter fn args) w) (t2:Te)
  (hc:∀ W,Below w.heap.size w W->Calls Tryz.prog fn #[.pointer (some ⟨B,0,none⟩),pv] W fun e w'=>e=.returned (.tuple #[])/\∃ v' vg' vo',Res W w' 98 base B [x0,x1,x2,x3,x4,x5] v vg vo t2 v' vg' vo') (hpv:∃ a n c,pv=.slice a n c) :
  Calls Tryz.prog 125 #[.pointer (some ⟨B,0,none⟩),.agg (acA k r pv m x)] w fun e w'=>e=.returned (.tuple #[])/\∃ v' vg' vo',Res w w' 98 base B [x0,x1,x2,x3,x4,x5] v vg vo { t2 with full:=t2.full && decide (r=109) } v' vg' vo':=by
 subst hm;obtain ⟨pa,pn,pc,rfl⟩:=hpv;obtain ⟨W,hW⟩:∃ W,W=w.alloc (Obj.cells #[.int .i64 k,.int .i64 r,.slice pa pn pc,.int .i64 0,x] 37):=⟨_,rfl⟩;have hb0:Below w.heap.size w W:=by rw [hW];exact bal' _ _
 have hA:BlkC W w.heap.size 37 [.int .i64 k,.int .i64 r,.slice pa pn pc,.int .i64 0,x]:=by rw [hW];exact heap_alloc_new w _
 have hz0:W.heap.size=w.heap.size+1:=by rw [hW];simp
 have hlt:=h.lt;replace hW:=(show Hid _ from hW);have hA3:W.cell? ⟨w.heap.size,3,none⟩=some (.int .i64 0):=cAl hA 3;unfold acA;go_enter Tryz.func125,Tryz.ntmps125;refine wp_seq_k (fun K hK=>?_);have hH:=(show Hid _ from hK);clear hK;go_wp2;refine hH.out _ _ ?_;rw [<- hW.out]
 clear hH hW;have hS0:(W.alloc (Obj.cells Tryz.zeroCells182 182)).heap[w.heap.size+1]?=some (.cells Tryz.zeroCells182 182 (0,0)):=by rw [<- hz0];exact heap_alloc_new W _
 have hal:=bal' W (Obj.cells Tryz.zeroCells182 182);have hbz:=hb0.trans (hal.mono hb0.size);have i0:0<=r:=hr.1;have i1:r<128:=hr.2;have q1:decide (128<=r)=false:=decide_eq_false (by omega)
 have hnf:∀ g,w.heap.size<=g->¬ Ft B v vg vo g:=fun g hg c=>by
  rcases c with c|c|c
  ·omega
  ·have:=(GrS.bd h.o.1 c).2;omega
  ·have:=(GrS.bd h.o.2.1 c).2;omega
 replace hf:=(show Hid _ from hf);go_wp2_with (refine store_T (cs:=sigsC) (by rfl) 182 _ _ (by rfl) inf_sigs (by kernel_rfl) (by rfl) hS0 (by rfl) (by rfl) ?_;intro W2 hg hS hz2;have hS2:BlkC W2 (w.heap.size+1) 182 sigsC.toList:=hS;have hA2:=BlkC.kept (hA.below hal) hg (fun e=>by injection e with e;omega);have hbW:=(hbz.grown hg hbz.size (fun g e=>by cases e;omega)).trans ((bdr W2).mono (hbz.grown hg hbz.size (fun g e=>by cases e;omega)).size);have e1:W2.cell? ⟨w.heap.size,1,none⟩=some (.int .i64 r):=cAl hA2 1;have dS0:W2.cell? ⟨w.heap.size+1,r.toNat,none⟩=some (.func (.func fn) #[] #[]):=(cAl hS _).trans hf.out;clear hS);clear q1 hS0 hal hA3 hb0 hA hz0;have d1:W2.drew.cell? ⟨w.heap.size,1,none⟩=some (.int .i64 r):=cAl (hA2.below (bdr W2)) 1;have d2:W2.drew.cell? ⟨w.heap.size,2,none⟩=some (.slice pa pn pc):=cAl (hA2.below (bdr W2)) 2;have dS:W2.drew.cell? ⟨w.heap.size+1,r.toNat,none⟩=some (.func (.func fn) #[] #[]):=dS0;clear dS0;refine wp_region_noPanic ?_;refine wp_region_held_drew (S:=(fun W=>W.cell? ⟨w.heap.size,1,none⟩=some (.int .i64 r)/\W.cell? ⟨w.heap.size,2,none⟩=some (.slice pa pn pc)/\W.cell? ⟨w.heap.size+1,r.toNat,none⟩=some (.func (.func fn) #[] #[]))) (by kernel_rfl) ⟨d1,d2,dS⟩ (fun hHeld=>?_);clear d1 d2 dS;refine tk 0 ?_;refine tk 1 ?_;refine tk 2 ?_;refine tk 3 ?_;refine tk 4 ?_;refine tk 5 ?_;refine tk 6 ?_;refine rd 7 fun K hK=>?_
 go_simp;refine (hc _ hbW).mono ?_;rintro e w3 ⟨rfl,v3,g3,o3,hR⟩;have hA3:=BlkC.grp (hA2.below (bdr W2)) hR.g (hnf _ (Nat.le_refl _));have hS3:=BlkC.grp (BlkC.below hS2 (bdr W2)) hR.g (hnf _ (by omega));go_wp2_with fail;refine hK.out _ _ ⟨cAl hA3 1,cAl hA3 2,(cAl hS3 _).trans hf.out⟩ (fun hHeld=>?_);clear hK K
 (try simp only [Act.put])
 refine dn ?_;have c19:w3.cell? ⟨B,19,none⟩=some (.bool t2.full):=hR.s.cell 19;have z19:w3.frozen? ⟨B,19,none⟩=false:=hR.s.frozen 19;have dA:w3.cell? ⟨w.heap.size,1,none⟩=some (.int .i64 r):=cAl hA3 1
 have hF:=fun c (hcc:c=(t2.full && decide (r=109)))=>(show Hid (Res w (w3.setCell ⟨B,19,none⟩ (.bool c)) 98 base B [x0,x1,x2,x3,x4,x5] v vg vo { t2 with full:=t2.full && decide (r=109) } v3 g3 o3) from by
  subst hcc;exact ((Res.of_below h hbW).trans hR).trans (hR.s.put (sCg B [.bool (t2.full && decide (r=109))] 19 w3) { t2 with full:=t2.full && decide (r=109) } (sCh B 98 [.bool (t2.full && decide (r=109))] 19 w3 _ hR.s.b) rfl rfl rfl rfl rfl))
 obtain ⟨b,hb⟩:∃ b,Hid (t2.full=b):=⟨_,rfl⟩;rw [hb.out] at c19
 clear hHeld hA3 hS3 hR hA2 hS2 hbW hc hf hnf hg hz2 hbz
 cases b
 ·have hG:=hF false (by rw [hb.out];rfl)
  clear hF hb h hr;go_wp2;refine be ?_;exact ⟨rfl,_,_,_,hG.out⟩
 ·by_cases r9:r=109
  ·have q9:(r==109)=true:=by simp [r9]
   have hG:=hF true (by rw [hb.out,decide_eq_true r9];rfl);clear hF hb h hr r9;go_wp2;refine be ?_;exact ⟨rfl,_,_,_,hG.out⟩
  ·have q9:(r==109)=false:=by simp [r9]
   have hG:=hF false (by rw [decide_eq_false r9,Bool.and_false]);clear hF hb h hr r9;go_wp2;refine be ?_;exact ⟨rfl,_,_,_,hG.out⟩
end Go.Proofs.YtgcnmjjlmcnllaaGreatDoor
namespace Go.Proofs.YtgcnmjjlmcnllaaGreatDoor
set_option maxRecDepth 20000
set_option maxHeartbeats 16000000
open Go.ChangeShapes Go.WideShapes Go.ChangeAt Go.RowKit
attribute [local go_sem ↓] eq_fn_nil eq_nil_nil
theorem enters_at {P : Program} {f : FuncId} {fn : Func} {c : Code} (hf : P.funcs[f]? = some fn) (hname : (fn.name == "runtime.NumGoroutine") = false) (hb : fn.body = some c) : ∀ args w, (callFunc f args).run P w = Result.ok (Next.enter f args) w := by
 intro args w
  have h1 : fn.name ≠ "runtime.NumGoroutine" := by simpa using hname
 simp [callFunc,hf,h1,hb,mark]
def isNilF:Value->Bool
 | .nilFunc=>true
 | _=>false
theorem sigs_all:((List.range 128).all fun r=>[65,66,67,68,71,100,72,102,74,75,88,76,77,64,80,83,84,109,114].contains r || isNilF (sigsC.getD r (.int .i64 0)))=true:=by kernel_rfl
theorem sigs_nil (r:Nat) (h:r<128) (hn:[65,66,67,68,71,100,72,102,74,75,88,76,77,64,80,83,84,109,114].contains r=false):sigsC[r]?=some .nilFunc:=by
 have h1:=List.all_eq_true.1 sigs_all r (List.mem_range.2 h);rw [hn,Bool.false_or] at h1
 have hs:r<sigsC.size:=h;have e:sigsC.getD r (.int .i64 0)=sigsC[r]:=by unfold Array.getD;rw [dif_pos hs];rfl
 rw [e] at h1
 rw [Array.getElem?_eq_getElem hs]
 cases hv:sigsC[r]<;>rw [hv] at h1<;>first|rfl|cases h1
theorem eraseRow_full (t:Te) (how:Int) (b:Bool):eraseRow { t with full:=b } how={ eraseRow t how with full:=b }:=by
 unfold eraseRow;split
 ·rfl
 ·split
  ·rfl
  ·split<;>rfl
theorem eraseAll_full (t:Te) (how:Int) (b:Bool):eraseAll { t with full:=b } how={ eraseAll t how with full:=b }:=by
 unfold eraseAll;rw [eraseRow_full]
set_option maxRecDepth 40000 in
theorem signList_none (base B:Nat) (x0 x1 x2 x3 x4 x5 x:Value) (pa:Option Addr) (pc:Nat) (ps:List Int) (k r:Int) (t:Te) (v:Tv) (vg vo:List Value) (w:World) (h:Scr w 98 base B [x0,x1,x2,x3,x4,x5] t v vg vo) (hr:0<=r) (hn:r<128->sigsC[r.toNat]?=some .nilFunc) :
  Calls Tryz.prog 125 #[.pointer (some ⟨B,0,none⟩),.agg (acA k r (.slice pa ps.length pc) 0 x)] w fun e w'=>e=.returned (.tuple #[])/\∃ v' vg' vo',Res w w' 98 base B [x0,x1,x2,x3,x4,x5] v vg vo t v' vg' vo':=by
 obtain ⟨W,hW⟩:∃ W,W=w.alloc (Obj.cells #[.int .i64 k,.int .i64 r,.slice pa ps.length pc,.int .i64 0,x] 37):=⟨_,rfl⟩;have hb0:Below w.heap.size w W:=by rw [hW];exact bal' _ _
 have hA:BlkC W w.heap.size 37 [.int .i64 k,.int .i64 r,.slice pa ps.length pc,.int .i64 0,x]:=by rw [hW];exact heap_alloc_new w _
 have hz0:W.heap.size=w.heap.size+1:=by rw [hW];simp
 replace hW:=(show Hid _ from hW);have hA3:W.cell? ⟨w.heap.size,3,none⟩=some (.int .i64 0):=cAl hA 3;unfold acA;have hS0:(W.alloc (Obj.cells Tryz.zeroCells182 182)).heap[w.heap.size+1]?=some (.cells Tryz.zeroCells182 182 (0,0)):=by rw [<- hz0];exact heap_alloc_new W _
 have hal:=bal' W (Obj.cells Tryz.zeroCells182 182);have hbz:=hb0.trans (hal.mono hb0.size);have hres:=fun W (hb:Below w.heap.size w W)=>(show Hid _ from Res.of_below h hb)
 clear h
 by_cases i1:r<128
 ·have hf:=(show Hid _ from hn i1)
  have q1:decide (128<=r)=false:=decide_eq_false (by omega);have i0:0<=r:=hr;go_enter Tryz.func125,Tryz.ntmps125;refine wp_seq_k (fun K hK=>?_);have hH:=(show Hid _ from hK);clear hK;go_wp2;refine hH.out _ _ ?_;rw [<- hW.out]
  clear hH hW;go_wp2_with (refine store_T (cs:=sigsC) (by rfl) 182 _ _ (by rfl) inf_sigs (by kernel_rfl) (by rfl) hS0 (by rfl) (by rfl) ?_;intro W2 hg hS hz2;have hA2:=BlkC.kept (hA.below hal) hg (fun e=>by injection e with e;omega);have hbW:=hbz.grown hg hbz.size (fun g e=>by cases e;omega);have e1:W2.cell? ⟨w.heap.size,1,none⟩=some (.int .i64 r):=cAl hA2 1;have dS0:W2.cell? ⟨w.heap.size+1,r.toNat,none⟩=some .nilFunc:=(cAl hS _).trans hf.out;clear hS);exact bodyPost_ret (v:=.tuple #[]) (results_none rfl _ _ _) rfl ⟨rfl,_,_,_,(hres _ hbW).out⟩
 ·have q1:decide (128<=r)=true:=decide_eq_true (by omega)
  go_enter Tryz.func125,Tryz.ntmps125;refine wp_seq_k (fun K hK=>?_);have hH:=(show Hid _ from hK);clear hK;go_wp2;refine hH.out _ _ ?_;rw [<- hW.out]
  clear hH hW;go_wp2_with (refine store_T (cs:=sigsC) (by rfl) 182 _ _ (by rfl) inf_sigs (by kernel_rfl) (by rfl) hS0 (by rfl) (by rfl) ?_;intro W2 hg hS hz2;have hA2:=BlkC.kept (hA.below hal) hg (fun e=>by injection e with e;omega);have hbW:=hbz.grown hg hbz.size (fun g e=>by cases e;omega);have e1:W2.cell? ⟨w.heap.size,1,none⟩=some (.int .i64 r):=cAl hA2 1;clear hS);exact bodyPost_ret (v:=.tuple #[]) (results_none rfl _ _ _) rfl ⟨rfl,_,_,_,(hres _ hbW).out⟩
set_option maxRecDepth 40000 in
theorem signList_any (cn N base B:Nat) (x0 x1 x2 x3 x4 x5 pv x:Value) (ps:List Int) (k r m:Int) (t:Te) (v:Tv) (vg vo:List Value) (w:World) (hSp:SpansAt w) (hSb:0<base) (h:Scr w 98 base B [x0,x1,x2,x3,x4,x5] t v vg vo) (hbase:base<=w.heap.size) (rk:RtK t cn N) (hp:SlN w pv ps) (hl:ps.length<=16) (hq:∀ x∈ps,0<=x/\x<=9999) (hap:ApF w B v vg vo pv) (hr:0<=r) (hm:m=0\/m=63) :
  Calls Tryz.prog 125 #[.pointer (some ⟨B,0,none⟩),.agg (acA k r pv m x)] w fun e w'=>e=.returned (.tuple #[])/\∃ v' vg' vo',Res w w' 98 base B [x0,x1,x2,x3,x4,x5] v vg vo (if m=63 then (if r=104\/r=108 then ps.foldl (modeT (decide (r=104))) t else t) else listT t r ps) v' vg' vo':=by
 obtain ⟨pa,pc,hpe⟩:=hp.shp;subst hpe;rcases hm with rfl|rfl
 case inr =>
  rw [if_pos rfl]
  obtain ⟨W,hW⟩:∃ W,W=w.alloc (Obj.cells #[.int .i64 k,.int .i64 r,.slice pa ps.length pc,.int .i64 63,x] 37):=⟨_,rfl⟩;have hb0:Below w.heap.size w W:=by rw [hW];exact bal' _ _
  have hA:BlkC W w.heap.size 37 [.int .i64 k,.int .i64 r,.slice pa ps.length pc,.int .i64 63,x]:=by rw [hW];exact heap_alloc_new w _
  have hz0:W.heap.size=w.heap.size+1:=by rw [hW];simp
  replace hW:=(show Hid _ from hW);have hA3:W.cell? ⟨w.heap.size,3,none⟩=some (.int .i64 63):=cAl hA 3;have hsm:=setModes_any cn N base B x0 x1 x2 x3 x4 x5 (.slice pa ps.length pc) x ps k r 63 t v vg vo W (h.below hb0) (Nat.le_trans hbase hb0.size) rk (hp.below hb0) (by omega) (hap.mono hb0.size);obtain ⟨tt,et⟩:∃ tt,Hid ((if r=104\/r=108 then ps.foldl (modeT (decide (r=104))) t else t)=tt):=⟨_,rfl⟩;rw [et.out] at hsm ⊢
  have hof:=Res.of_below h hb0;have a0:W.cell? ⟨w.heap.size,0,none⟩=some (.int .i64 k):=cAl hA 0;have a1:W.cell? ⟨w.heap.size,1,none⟩=some (.int .i64 r):=cAl hA 1;have a2:W.cell? ⟨w.heap.size,2,none⟩=some (.slice pa ps.length pc):=cAl hA 2;have a4:W.cell? ⟨w.heap.size,4,none⟩=some x:=cAl hA 4;unfold acA at *;clear h hbase hp hap hA hz0 rk hSp hSb;go_enter Tryz.func125,Tryz.ntmps125;refine wp_seq_k (fun K hK=>?_);have hH:=(show Hid _ from hK);clear hK;go_wp2;refine hH.out _ _ ?_;rw [<- hW.out]
  clear hH hW;go_wp2_with fail;refine hsm.mono ?_;rintro e w2 ⟨rfl,v2,g2,o2,hR⟩;clear hsm;go_wp2;exact bodyPost_ret (v:=.tuple #[]) (results_none rfl _ _ _) rfl ⟨rfl,_,_,_,hof.trans hR⟩
 rw [if_neg (by decide)]
 have hn:=parN_bd hq 0 1 (by omega);have hn1:=parN_bd hq 1 1 (by omega);have hN:=rk.w.n;have hN1:=rk.w.n1;have hm1:=parN_bd hq 1 (t.g.length:Int) (by omega);have hrow:=rk.w.row;have hcol:=rk.w.col;have hgc:=rk.w.gc;have hcc:=rk.w.c;have er:max 0 (min ((t.g.length:Int)-1) t.row)=t.row:=by omega
 have ec:max 0 (min (t.gc-1) t.col)=t.col:=by omega
 by_cases r65:r=65
 ·subst r65
  have hV:listT t 65 ps={ ({ t with row:=max (if t.top<=t.row then t.top else 0) (t.row-parN ps 0 1) }:Te) with full:=({ t with row:=max (if t.top<=t.row then t.top else 0) (t.row-parN ps 0 1) }:Te).full && decide ((65:Int)=109) }:=by
   rw [show decide ((65:Int)=109)=false from rfl,Bool.and_false]
   rfl
  rw [hV]
  exact signList_way base B x0 x1 x2 x3 x4 x5 _ x k 65 0 t v vg vo w h hbase (by omega) rfl 183 rfl (enters_at Tryz.func183 (by kernel_rfl) rfl) _ (fun W hb=>goUp_any cn N base B x0 x1 x2 x3 x4 x5 (.slice pa ps.length pc) ps t v vg vo W (h.below hb) rk.w (hp.below hb) (by omega) (by omega)) ⟨_,_,_,rfl⟩
 by_cases r66:r=66
 ·subst r66
  have hV:listT t 66 ps={ ({ t with row:=min (if t.row<=t.bot then t.bot else (t.g.length:Int)-1) (t.row+parN ps 0 1) }:Te) with full:=({ t with row:=min (if t.row<=t.bot then t.bot else (t.g.length:Int)-1) (t.row+parN ps 0 1) }:Te).full && decide ((66:Int)=109) }:=by
   rw [show decide ((66:Int)=109)=false from rfl,Bool.and_false]
   rfl
  rw [hV]
  exact signList_way base B x0 x1 x2 x3 x4 x5 _ x k 66 0 t v vg vo w h hbase (by omega) rfl 184 rfl (enters_at Tryz.func184 (by kernel_rfl) rfl) _ (fun W hb=>goDown_any cn N base B x0 x1 x2 x3 x4 x5 (.slice pa ps.length pc) ps t v vg vo W (h.below hb) rk.w (hp.below hb) (by omega) (by omega)) ⟨_,_,_,rfl⟩
 by_cases r67:r=67
 ·subst r67
  have hV:listT t 67 ps={ ({ t with col:=min (t.col+parN ps 0 1) (t.gc-1) }:Te) with full:=({ t with col:=min (t.col+parN ps 0 1) (t.gc-1) }:Te).full && decide ((67:Int)=109) }:=by
   rw [show decide ((67:Int)=109)=false from rfl,Bool.and_false]
   have e0:listT t 67 ps=goT { t with full:=false } (t.row) (t.col+parN ps 0 1):=rfl;rw [e0]
   unfold goT;simp only;rw [er,show max 0 (min (t.gc-1) (t.col+parN ps 0 1))=min (t.col+parN ps 0 1) (t.gc-1) by omega]
  rw [hV]
  exact signList_way base B x0 x1 x2 x3 x4 x5 _ x k 67 0 t v vg vo w h hbase (by omega) rfl 185 rfl (enters_at Tryz.func185 (by kernel_rfl) rfl) _ (fun W hb=>goRight_any cn N base B x0 x1 x2 x3 x4 x5 (.slice pa ps.length pc) ps t v vg vo W (h.below hb) rk.w (hp.below hb) (by omega) _ rfl (by omega)) ⟨_,_,_,rfl⟩
 by_cases r68:r=68
 ·subst r68
  have hV:listT t 68 ps={ ({ t with col:=max 0 (t.col-parN ps 0 1) }:Te) with full:=({ t with col:=max 0 (t.col-parN ps 0 1) }:Te).full && decide ((68:Int)=109) }:=by
   rw [show decide ((68:Int)=109)=false from rfl,Bool.and_false]
   have e0:listT t 68 ps=goT { t with full:=false } (t.row) (t.col-parN ps 0 1):=rfl;rw [e0]
   unfold goT;simp only;rw [er,show max 0 (min (t.gc-1) (t.col-parN ps 0 1))=max 0 (t.col-parN ps 0 1) by omega]
  rw [hV]
  exact signList_way base B x0 x1 x2 x3 x4 x5 _ x k 68 0 t v vg vo w h hbase (by omega) rfl 186 rfl (enters_at Tryz.func186 (by kernel_rfl) rfl) _ (fun W hb=>goLeft_any cn N base B x0 x1 x2 x3 x4 x5 (.slice pa ps.length pc) ps t v vg vo W (h.below hb) rk.w (hp.below hb) (by omega) _ rfl (by omega)) ⟨_,_,_,rfl⟩
 by_cases r71:r=71
 ·subst r71
  have hV:listT t 71 ps={ ({ t with col:=min (parN ps 0 1-1) (t.gc-1) }:Te) with full:=({ t with col:=min (parN ps 0 1-1) (t.gc-1) }:Te).full && decide ((71:Int)=109) }:=by
   rw [show decide ((71:Int)=109)=false from rfl,Bool.and_false]
   have e0:listT t 71 ps=goT { t with full:=false } (t.row) (parN ps 0 1-1):=rfl;rw [e0]
   unfold goT;simp only;rw [er,show max 0 (min (t.gc-1) (parN ps 0 1-1))=min (parN ps 0 1-1) (t.gc-1) by omega]
  rw [hV]
  exact signList_way base B x0 x1 x2 x3 x4 x5 _ x k 71 0 t v vg vo w h hbase (by omega) rfl 187 rfl (enters_at Tryz.func187 (by kernel_rfl) rfl) _ (fun W hb=>toCol_any cn N base B x0 x1 x2 x3 x4 x5 (.slice pa ps.length pc) ps t v vg vo W (h.below hb) rk.w (hp.below hb) (by omega) _ rfl (by omega)) ⟨_,_,_,rfl⟩
 by_cases r100:r=100
 ·subst r100
  have hV:listT t 100 ps={ ({ t with row:=min (parN ps 0 1-1) ((t.g.length:Int)-1) }:Te) with full:=({ t with row:=min (parN ps 0 1-1) ((t.g.length:Int)-1) }:Te).full && decide ((100:Int)=109) }:=by
   rw [show decide ((100:Int)=109)=false from rfl,Bool.and_false]
   have e0:listT t 100 ps=goT { t with full:=false } (parN ps 0 1-1) (t.col):=rfl;rw [e0]
   unfold goT;simp only;rw [ec,show max 0 (min ((t.g.length:Int)-1) (parN ps 0 1-1))=min (parN ps 0 1-1) ((t.g.length:Int)-1) by omega]
  rw [hV]
  exact signList_way base B x0 x1 x2 x3 x4 x5 _ x k 100 0 t v vg vo w h hbase (by omega) rfl 188 rfl (enters_at Tryz.func188 (by kernel_rfl) rfl) _ (fun W hb=>toRow_any cn N base B x0 x1 x2 x3 x4 x5 (.slice pa ps.length pc) ps t v vg vo W (h.below hb) rk.w (hp.below hb) (by omega) _ rfl (by omega)) ⟨_,_,_,rfl⟩
 by_cases r72:r=72
 ·subst r72
  have hV:listT t 72 ps={ ({ t with row:=min (parN ps 0 1-1) ((t.g.length:Int)-1),col:=min (parN ps 1 1-1) (t.gc-1) }:Te) with full:=({ t with row:=min (parN ps 0 1-1) ((t.g.length:Int)-1),col:=min (parN ps 1 1-1) (t.gc-1) }:Te).full && decide ((72:Int)=109) }:=by
   rw [show decide ((72:Int)=109)=false from rfl,Bool.and_false]
   have e0:listT t 72 ps=goT { t with full:=false } (parN ps 0 1-1) (parN ps 1 1-1):=rfl;rw [e0]
   unfold goT;simp only;rw [show max 0 (min ((t.g.length:Int)-1) (parN ps 0 1-1))=min (parN ps 0 1-1) ((t.g.length:Int)-1) by omega,show max 0 (min (t.gc-1) (parN ps 1 1-1))=min (parN ps 1 1-1) (t.gc-1) by omega]
  rw [hV]
  exact signList_way base B x0 x1 x2 x3 x4 x5 _ x k 72 0 t v vg vo w h hbase (by omega) rfl 189 rfl (enters_at Tryz.func189 (by kernel_rfl) rfl) _ (fun W hb=>goCell_any cn N base B x0 x1 x2 x3 x4 x5 (.slice pa ps.length pc) ps t v vg vo W (h.below hb) rk (hp.below hb) (by omega) (hap.mono hb.size) _ _ rfl rfl (by omega) (by omega)) ⟨_,_,_,rfl⟩
 by_cases r102:r=102
 ·subst r102
  have hV:listT t 102 ps={ ({ t with row:=min (parN ps 0 1-1) ((t.g.length:Int)-1),col:=min (parN ps 1 1-1) (t.gc-1) }:Te) with full:=({ t with row:=min (parN ps 0 1-1) ((t.g.length:Int)-1),col:=min (parN ps 1 1-1) (t.gc-1) }:Te).full && decide ((102:Int)=109) }:=by
   rw [show decide ((102:Int)=109)=false from rfl,Bool.and_false]
   have e0:listT t 102 ps=goT { t with full:=false } (parN ps 0 1-1) (parN ps 1 1-1):=rfl;rw [e0]
   unfold goT;simp only;rw [show max 0 (min ((t.g.length:Int)-1) (parN ps 0 1-1))=min (parN ps 0 1-1) ((t.g.length:Int)-1) by omega,show max 0 (min (t.gc-1) (parN ps 1 1-1))=min (parN ps 1 1-1) (t.gc-1) by omega]
  rw [hV]
  exact signList_way base B x0 x1 x2 x3 x4 x5 _ x k 102 0 t v vg vo w h hbase (by omega) rfl 189 rfl (enters_at Tryz.func189 (by kernel_rfl) rfl) _ (fun W hb=>goCell_any cn N base B x0 x1 x2 x3 x4 x5 (.slice pa ps.length pc) ps t v vg vo W (h.below hb) rk (hp.below hb) (by omega) (hap.mono hb.size) _ _ rfl rfl (by omega) (by omega)) ⟨_,_,_,rfl⟩
 by_cases r74:r=74
 ·subst r74
  have hV:listT t 74 ps={ ((eraseAll t (parN ps 0 0)):Te) with full:=((eraseAll t (parN ps 0 0)):Te).full && decide ((74:Int)=109) }:=by
   rw [show decide ((74:Int)=109)=false from rfl,Bool.and_false]
   exact eraseAll_full t _ false
  rw [hV]
  exact signList_way base B x0 x1 x2 x3 x4 x5 _ x k 74 0 t v vg vo w h hbase (by omega) rfl 190 rfl (enters_at Tryz.func190 (by kernel_rfl) rfl) _ (fun W hb=>clearGrid_any cn N base B x0 x1 x2 x3 x4 x5 (.slice pa ps.length pc) ps t v vg vo W (hSp.below hb hSp.lt) (h.below hb) (Nat.le_trans hbase hb.size) rk (hp.below hb) (by omega) hSb (hap.mono hb.size) _ rfl) ⟨_,_,_,rfl⟩
 by_cases r75:r=75
 ·subst r75
  have hV:listT t 75 ps={ ((eraseRow t (parN ps 0 0)):Te) with full:=((eraseRow t (parN ps 0 0)):Te).full && decide ((75:Int)=109) }:=by
   rw [show decide ((75:Int)=109)=false from rfl,Bool.and_false]
   exact eraseRow_full t _ false
  rw [hV]
  exact signList_way base B x0 x1 x2 x3 x4 x5 _ x k 75 0 t v vg vo w h hbase (by omega) rfl 191 rfl (enters_at Tryz.func191 (by kernel_rfl) rfl) _ (fun W hb=>clearRow_any cn N base B x0 x1 x2 x3 x4 x5 (.slice pa ps.length pc) ps t v vg vo W (hSp.below hb hSp.lt) (h.below hb) (Nat.le_trans hbase hb.size) rk (hp.below hb) (by omega) _ rfl) ⟨_,_,_,rfl⟩
 by_cases r88:r=88
 ·subst r88
  have hV:listT t 88 ps={ ((clearT t t.row t.col (min t.gc (t.col+parN ps 0 1))):Te) with full:=((clearT t t.row t.col (min t.gc (t.col+parN ps 0 1))):Te).full && decide ((88:Int)=109) }:=by
   rw [show decide ((88:Int)=109)=false from rfl,Bool.and_false]
   rfl
  rw [hV]
  exact signList_way base B x0 x1 x2 x3 x4 x5 _ x k 88 0 t v vg vo w h hbase (by omega) rfl 192 rfl (enters_at Tryz.func192 (by kernel_rfl) rfl) _ (fun W hb=>clearCells_any cn N base B x0 x1 x2 x3 x4 x5 (.slice pa ps.length pc) ps t v vg vo W (hSp.below hb hSp.lt) (h.below hb) (Nat.le_trans hbase hb.size) rk (hp.below hb) (by omega) _ rfl (by omega)) ⟨_,_,_,rfl⟩
 by_cases r76:r=76
 ·subst r76
  have hV:listT t 76 ps={ ((if t.top<=t.row/\t.row<=t.bot then { moveT t t.row t.bot (-(parN ps 0 1)) with col:=0 } else t):Te) with full:=((if t.top<=t.row/\t.row<=t.bot then { moveT t t.row t.bot (-(parN ps 0 1)) with col:=0 } else t):Te).full && decide ((76:Int)=109) }:=by
   rw [show decide ((76:Int)=109)=false from rfl,Bool.and_false]
   by_cases hc:t.top<=t.row/\t.row<=t.bot
   ·rw [if_pos hc]
    exact if_pos hc
   ·rw [if_neg hc]
    exact if_neg hc
  rw [hV]
  exact signList_way base B x0 x1 x2 x3 x4 x5 _ x k 76 0 t v vg vo w h hbase (by omega) rfl 193 rfl (enters_at Tryz.func193 (by kernel_rfl) rfl) _ (fun W hb=>putRows_any cn N base B x0 x1 x2 x3 x4 x5 (.slice pa ps.length pc) ps t v vg vo W (h.below hb) (Nat.le_trans hbase hb.size) rk.w (hp.below hb) (by omega) _ rfl (by omega)) ⟨_,_,_,rfl⟩
 by_cases r77:r=77
 ·subst r77
  have hV:listT t 77 ps={ ((if t.top<=t.row/\t.row<=t.bot then { moveT t t.row t.bot (parN ps 0 1) with col:=0 } else t):Te) with full:=((if t.top<=t.row/\t.row<=t.bot then { moveT t t.row t.bot (parN ps 0 1) with col:=0 } else t):Te).full && decide ((77:Int)=109) }:=by
   rw [show decide ((77:Int)=109)=false from rfl,Bool.and_false]
   by_cases hc:t.top<=t.row/\t.row<=t.bot
   ·rw [if_pos hc]
    exact if_pos hc
   ·rw [if_neg hc]
    exact if_neg hc
  rw [hV]
  exact signList_way base B x0 x1 x2 x3 x4 x5 _ x k 77 0 t v vg vo w h hbase (by omega) rfl 194 rfl (enters_at Tryz.func194 (by kernel_rfl) rfl) _ (fun W hb=>takeRows_any cn N base B x0 x1 x2 x3 x4 x5 (.slice pa ps.length pc) ps t v vg vo W (h.below hb) (Nat.le_trans hbase hb.size) rk.w (hp.below hb) (by omega) _ rfl (by omega)) ⟨_,_,_,rfl⟩
 by_cases r64:r=64
 ·subst r64
  have hV:listT t 64 ps={ ((rowT t t.row (pushL (rowX t.g t.row.toNat) t.col.toNat (min (parN ps 0 1) (t.gc-t.col)).toNat (backS t.st))):Te) with full:=((rowT t t.row (pushL (rowX t.g t.row.toNat) t.col.toNat (min (parN ps 0 1) (t.gc-t.col)).toNat (backS t.st))):Te).full && decide ((64:Int)=109) }:=by
   rw [show decide ((64:Int)=109)=false from rfl,Bool.and_false]
   rfl
  rw [hV]
  exact signList_way base B x0 x1 x2 x3 x4 x5 _ x k 64 0 t v vg vo w h hbase (by omega) rfl 195 rfl (enters_at Tryz.func195 (by kernel_rfl) rfl) _ (fun W hb=>putCells_any cn N base B x0 x1 x2 x3 x4 x5 (.slice pa ps.length pc) ps t v vg vo W (hSp.below hb hSp.lt) (h.below hb) (Nat.le_trans hbase hb.size) rk (hp.below hb) (by omega) _ rfl (by omega)) ⟨_,_,_,rfl⟩
 by_cases r80:r=80
 ·subst r80
  have hV:listT t 80 ps={ ((rowT t t.row (pullL (rowX t.g t.row.toNat) t.col.toNat (min (parN ps 0 1) (t.gc-t.col)).toNat (backS t.st))):Te) with full:=((rowT t t.row (pullL (rowX t.g t.row.toNat) t.col.toNat (min (parN ps 0 1) (t.gc-t.col)).toNat (backS t.st))):Te).full && decide ((80:Int)=109) }:=by
   rw [show decide ((80:Int)=109)=false from rfl,Bool.and_false]
   rfl
  rw [hV]
  exact signList_way base B x0 x1 x2 x3 x4 x5 _ x k 80 0 t v vg vo w h hbase (by omega) rfl 196 rfl (enters_at Tryz.func196 (by kernel_rfl) rfl) _ (fun W hb=>takeCells_any cn N base B x0 x1 x2 x3 x4 x5 (.slice pa ps.length pc) ps t v vg vo W (hSp.below hb hSp.lt) (h.below hb) (Nat.le_trans hbase hb.size) rk (hp.below hb) (by omega) _ rfl (by omega)) ⟨_,_,_,rfl⟩
 by_cases r83:r=83
 ·subst r83
  have hV:listT t 83 ps={ ((moveT t t.top t.bot (parN ps 0 1)):Te) with full:=((moveT t t.top t.bot (parN ps 0 1)):Te).full && decide ((83:Int)=109) }:=by
   rw [show decide ((83:Int)=109)=false from rfl,Bool.and_false]
   rfl
  rw [hV]
  exact signList_way base B x0 x1 x2 x3 x4 x5 _ x k 83 0 t v vg vo w h hbase (by omega) rfl 197 rfl (enters_at Tryz.func197 (by kernel_rfl) rfl) _ (fun W hb=>scrollUp_any cn N base B x0 x1 x2 x3 x4 x5 (.slice pa ps.length pc) ps t v vg vo W (h.below hb) (Nat.le_trans hbase hb.size) rk.w (hp.below hb) (by omega) _ rfl (by omega)) ⟨_,_,_,rfl⟩
 by_cases r84:r=84
 ·subst r84
  have hV:listT t 84 ps={ ((moveT t t.top t.bot (-(parN ps 0 1))):Te) with full:=((moveT t t.top t.bot (-(parN ps 0 1))):Te).full && decide ((84:Int)=109) }:=by
   rw [show decide ((84:Int)=109)=false from rfl,Bool.and_false]
   rfl
  rw [hV]
  exact signList_way base B x0 x1 x2 x3 x4 x5 _ x k 84 0 t v vg vo w h hbase (by omega) rfl 198 rfl (enters_at Tryz.func198 (by kernel_rfl) rfl) _ (fun W hb=>scrollDown_any cn N base B x0 x1 x2 x3 x4 x5 (.slice pa ps.length pc) ps t v vg vo W (h.below hb) (Nat.le_trans hbase hb.size) rk.w (hp.below hb) (by omega) _ rfl (by omega)) ⟨_,_,_,rfl⟩
 by_cases r109:r=109
 ·subst r109
  have hV:listT t 109 ps={ ({ t with st:=stylN t.st ps }:Te) with full:=({ t with st:=stylN t.st ps }:Te).full && decide ((109:Int)=109) }:=by
   rw [show decide ((109:Int)=109)=true from rfl,Bool.and_true]
   rfl
  rw [hV]
  exact signList_way base B x0 x1 x2 x3 x4 x5 _ x k 109 0 t v vg vo w h hbase (by omega) rfl 199 rfl (enters_at Tryz.func199 (by kernel_rfl) rfl) _ (fun W hb=>restyle_any cn N base B x0 x1 x2 x3 x4 x5 (.slice pa ps.length pc) ps t v vg vo W (hSp.below hb hSp.lt) (h.below hb) (Nat.le_trans hbase hb.size) rk (hp.below hb) (by omega) hl hq) ⟨_,_,_,rfl⟩
 by_cases r114:r=114
 ·subst r114
  have hV:listT t 114 ps={ ((if parN ps 0 1-1<parN ps 1 (t.g.length:Int)-1/\parN ps 1 (t.g.length:Int)-1<=(t.g.length:Int)-1 then { t with top:=parN ps 0 1-1,bot:=parN ps 1 (t.g.length:Int)-1,row:=0,col:=0 } else t):Te) with full:=((if parN ps 0 1-1<parN ps 1 (t.g.length:Int)-1/\parN ps 1 (t.g.length:Int)-1<=(t.g.length:Int)-1 then { t with top:=parN ps 0 1-1,bot:=parN ps 1 (t.g.length:Int)-1,row:=0,col:=0 } else t):Te).full && decide ((114:Int)=109) }:=by
   rw [show decide ((114:Int)=109)=false from rfl,Bool.and_false]
   by_cases hc:parN ps 0 1-1<parN ps 1 (t.g.length:Int)-1/\parN ps 1 (t.g.length:Int)-1<=(t.g.length:Int)-1
   ·rw [if_pos hc]
    exact if_pos hc
   ·rw [if_neg hc]
    exact if_neg hc
  rw [hV]
  exact signList_way base B x0 x1 x2 x3 x4 x5 _ x k 114 0 t v vg vo w h hbase (by omega) rfl 200 rfl (enters_at Tryz.func200 (by kernel_rfl) rfl) _ (fun W hb=>setMargins_any cn N base B x0 x1 x2 x3 x4 x5 (.slice pa ps.length pc) ps t v vg vo W (h.below hb) rk (hp.below hb) (by omega) _ _ rfl rfl (by omega) (by omega)) ⟨_,_,_,rfl⟩
 have hV:listT t r ps=t:=by
  unfold listT;simp only;rw [if_neg r65,if_neg r66,if_neg r67,if_neg r68,if_neg r71,if_neg r100,if_neg (by omega),if_neg r74,if_neg r75,if_neg (by omega),if_neg r64,if_neg r80,if_neg r88,if_neg r83,if_neg r84,if_neg r109,if_neg r114]
 rw [hV]
 refine signList_none base B x0 x1 x2 x3 x4 x5 x pa pc ps k r t v vg vo w h hr (fun h1=>sigs_nil r.toNat (by omega) ?_);simp only [List.contains_eq_any_beq,List.any_cons,List.any_nil,Bool.or_false,Bool.or_eq_false_iff,beq_eq_false_iff_ne,ne_eq];omega
end Go.Proofs.YtgcnmjjlmcnllaaGreatDoor
namespace Go.Proofs.YtgcnmjjlmcnllaaGreatDoor
set_option maxRecDepth 20000
set_option maxHeartbeats 16000000
open Go.ChangeShapes Go.WideShapes Go.ChangeAt Go.RowKit
theorem results_cell_tmp {P:Program} {fn:Func} {p q:Tmp} {ty:TypeId} (h:fn.results=#[.cell p ty,.tmp q]) (tmps:Array Value) (w:World) (g:Nat) (t:TypeId) (cs:Array Value) (fr:Nat×Nat) (d:TypeDesc) (v:Value)
  (hp:tmps.getD p undef=.pointer (some ⟨g,0,none⟩)) (hq:tmps.getD q undef=v) (hg:w.heap[g]?=some (.cells cs t fr))
  (hu:P.underlying ty=some d) (hd:(match d with|.struct _|.array _ _=>true|_=>false)=true) (hi:(P.info? ty).map (·.size)=some cs.size) :
  (results fn tmps).run P w=.ok (.tuple #[.agg cs,v]) w:=by
 have hp':tmps[p]?.getD undef=.pointer (some ⟨g,0,none⟩):=by simpa using hp
 have hq':tmps[q]?.getD undef=v:=by simpa using hq
 simp [results,h,hp',hq',asAddr,run_loadVar_row w g t ty cs fr d hg hu hd hi]
theorem newTm_no {cols n:Int} (h:¬ newOk cols n):newTm cols n=teZ:=by unfold newTm;rw [if_neg h]
theorem newTm_yes {cols n:Int} (h:newOk cols n):newTm cols n=newT cols n (newR cols.toNat n.toNat):=by unfold newTm;rw [if_pos h]
def NtA (w w':World) (cols n:Int) (e:Ending):Prop:=∃ u1 u2,e=.returned (.tuple #[.agg (teCs (newTm cols n) (tvN u1 u2)),.bool (decide (newOk cols n))])/\OwnT w' w.heap.size (newTm cols n) (tvN u1 u2)/\Below w.heap.size w w'
theorem implNewTerm_any (cols n:Int) (w:World) :
  Calls Tryz.prog 14 #[.int .i64 cols,.int .i64 n] w fun e w'=>NtA w w' cols n e:=by
 have hR:=TB.new w [.int .i64 0,.slice none 0 0,.int .i64 0,.slice none 0 0,.int .i64 0,.int .i64 0,.int .i64 0,.int .i64 0,.bool false,.bool false,.bool false,.int .i64 0,.int .i64 0,.bool false,.bool false,.bool false,.bool false,.int .i64 0,.int .i64 0,.int .i64 0,.int .i64 0,.bool false,.bool false,.bool false,.slice none 0 0,.int .i64 0,.slice none 0 0,.int .i64 0,.slice none 0 0,.string ⟨#[]⟩];have hb0:=bal' w (Obj.cells #[.int .i64 0,.slice none 0 0,.int .i64 0,.slice none 0 0,.int .i64 0,.int .i64 0,.int .i64 0,.int .i64 0,.bool false,.bool false,.bool false,.int .i64 0,.int .i64 0,.bool false,.bool false,.bool false,.bool false,.int .i64 0,.int .i64 0,.int .i64 0,.int .i64 0,.bool false,.bool false,.bool false,.slice none 0 0,.int .i64 0,.slice none 0 0,.int .i64 0,.slice none 0 0,.string ⟨#[]⟩] 35);have hz0:(w.alloc (Obj.cells #[.int .i64 0,.slice none 0 0,.int .i64 0,.slice none 0 0,.int .i64 0,.int .i64 0,.int .i64 0,.int .i64 0,.bool false,.bool false,.bool false,.int .i64 0,.int .i64 0,.bool false,.bool false,.bool false,.bool false,.int .i64 0,.int .i64 0,.int .i64 0,.int .i64 0,.bool false,.bool false,.bool false,.slice none 0 0,.int .i64 0,.slice none 0 0,.int .i64 0,.slice none 0 0,.string ⟨#[]⟩] 35)).heap.size=w.heap.size+1:=by simp
 have hG:=fun W=>implNewGrid_any cols n W
 by_cases h:newOk cols n
 ·have hV:=newTm_yes h
  have hd:=decide_eq_true h;simp only [if_pos h,hd] at hG;have hh:=h;unfold newOk at hh;obtain ⟨cn,rfl⟩:∃ k:Nat,cols=k:=⟨cols.toNat,by omega⟩;obtain ⟨nn,rfl⟩:∃ k:Nat,n=k:=⟨n.toNat,by omega⟩;simp only [Int.toNat_natCast] at hV hG;have hni:(1:Int)<=(nn:Int):=by omega
  have hni2:(nn:Int)<=1000:=by omega
  unfold NtA;rw [hV,hd]
  unfold gridV at hG;clear h hV hd hh;go_enter Tryz.func14,Tryz.ntmps14;go_wp2_with fail;refine (hG _).mono ?_;rintro e w1 ⟨u1,rfl,ho1,hb⟩;obtain ⟨xa,xn,xc,hx⟩:=slShp (SlG.of_own ho1);subst hx;have og:OwnR w1 (w.heap.size+1) w1.heap.size (.slice xa xn xc) (newR cn nn):=by rw [<- hz0];exact OwnR.of ho1
  have hal:=bal' w1 (Obj.cells #[.int .i64 cn,.slice xa xn xc] 26);have hG1:=GrN.new w1 cn (.slice xa xn xc) 26;have hb2:=hb.trans (hal.mono hb.size);replace hR:=hR.below hb2;have kb:=hb0.trans (hb2.mono hb0.size);replace og:=og.below hal;have s1:w.heap.size+1<=w1.heap.size:=by rw [<- hz0];exact hb.size
  have sa:(w1.alloc (Obj.cells #[.int .i64 cn,.slice xa xn xc] 26)).heap.size=w1.heap.size+1:=by simp
  clear hb hb0 ho1 hz0 hal hb2;go_wp2_with fail;refine (hG _).mono ?_;rintro e w2 ⟨u2,rfl,ho2,hb⟩;obtain ⟨ya,yn,yc,hy⟩:=slShp (SlG.of_own ho2);subst hy;have oo:OwnR w2 (w1.heap.size+1) w2.heap.size (.slice ya yn yc) (newR cn nn):=by rw [<- sa];exact OwnR.of ho2
  have s2:w1.heap.size+1<=w2.heap.size:=by rw [<- sa];exact hb.size
  have hal:=bal' w2 (Obj.cells #[.int .i64 cn,.slice ya yn yc] 26);have hG2:=GrN.new w2 cn (.slice ya yn yc) 26;have hb2:=hb.trans (hal.mono hb.size);replace hR:=hR.below hb2;replace kb:=kb.trans (hb2.mono kb.size);replace og:=og.below hb2;replace oo:=oo.below hal;replace hG1:=hG1.below hb2;have s3:(w2.alloc (Obj.cells #[.int .i64 cn,.slice ya yn yc] 26)).heap.size=w2.heap.size+1:=by simp
  obtain ⟨_,c0,c1⟩:=hG1;obtain ⟨_,d0,d1⟩:=hG2;clear hb ho2 hal hb2 hG sa;go_wp2_with (refine store_T (cs:=teCs (newT cn nn (newR cn nn)) (tvN (.slice xa xn xc) (.slice ya yn yc))) (by rfl) 35 _ _ (by rfl) info_te (by rfl) (by rfl) hR (by rfl) (by rfl) ?_;intro w4 hg hR4 hz4)
  have hO:OwnT w4 w.heap.size (newT cn nn (newR cn nn)) (tvN (.slice xa xn xc) (.slice ya yn yc)) :=
   ⟨w1.heap.size+1,w2.heap.size,w2.heap.size,⟨((OwnR.low (og.grown hg (by omega)) (by omega)).1).up (by omega),fun g e=>by have:=og.2.1 g e;omega,by rw [hz4,s3];omega⟩,oo.grown hg (by omega),(LiOk.nil _ _).nilc.nilc.nilc,by omega,by omega,Nat.le_refl _,by rw [hz4,s3];omega⟩
  exact bodyPost_ret (v:=.tuple #[.agg (teCs (newT cn nn (newR cn nn)) (tvN (.slice xa xn xc) (.slice ya yn yc))),.bool true]) (results_cell_tmp Tryz.results14 _ _ _ _ _ _ _ _ rfl rfl hR4 Tryz.underlying35 rfl info_te) rfl ⟨_,_,rfl,hO,kb.grown hg kb.size (fun g e=>by cases e;exact Nat.le_refl _)⟩
 ·have hV:=newTm_no h
  have hd:=decide_eq_false h;simp only [if_neg h,hd] at hG;unfold NtA;rw [hV,hd]
  unfold gridV at hG;clear h hV hd;go_enter Tryz.func14,Tryz.ntmps14;go_wp2_with fail;refine (hG _).mono ?_;rintro e w1 ⟨u1,rfl,ho1,hb⟩;obtain ⟨xa,xn,xc,hx⟩:=slShp (SlG.of_own ho1);subst hx;have hal:=bal' w1 (Obj.cells #[.int .i64 0,.slice xa xn xc] 26);have hb2:=hb.trans (hal.mono hb.size);replace hR:=hR.below hb2;have kb:=hb0.trans (hb2.mono hb0.size);have s1:w.heap.size+1<=w1.heap.size:=by rw [<- hz0];exact hb.size
  clear hb hb0 ho1 hz0 hal hb2 hG;go_wp2_with (refine store_T (cs:=teCs teZ (tvN (.slice none 0 0) (.slice none 0 0))) (by rfl) 35 _ _ (by rfl) info_te (by rfl) (by rfl) hR (by rfl) (by rfl) ?_;intro w4 hg hR4 hz4);have s4:w.heap.size<=w4.heap.size:=by rw [hz4];simp;omega
  exact bodyPost_ret (v:=.tuple #[.agg (teCs teZ (tvN (.slice none 0 0) (.slice none 0 0))),.bool false]) (results_cell_tmp Tryz.results14 _ _ _ _ _ _ _ _ rfl rfl hR4 Tryz.underlying35 rfl info_te) rfl ⟨_,_,rfl,ownT_zero w4 _ s4,kb.grown hg kb.size (fun g e=>by cases e;exact Nat.le_refl _)⟩
theorem setV_app:∀ (M X L:List Value),L.length=M.length->setV (X++L) X.length M=X++M
 | [],X,L,h=>by
  obtain rfl:=List.eq_nil_of_length_eq_zero h
  rfl
 | m::M,X,l::L,h=>by
  have e1:(X++l::L).set X.length m=(X++[m])++L:=by simp
  have e2:=setV_app M (X++[m]) L (by simpa using h);rw [List.length_append,List.length_singleton] at e2
  rw [setV,e1,e2]
  simp
theorem allReady_one {P:Program} {ops:Array Oper} {Q:Exit->Act->World->Prop} {md:Region.Mode} {S:World->Prop} {fuel:Nat} {listed:Array Bool} {a:Act} {w:World} {i:Nat} {o:Oper} (ho:ops[i]?=some o) (hg:o.guard=none)
  (h:∀ K':Act->World->Prop,Shut (∀ a w,S w->(S w->wpAnyH P md ops Q S fuel (listed.setIfInBounds i true) a w)->K' a w)->Oper.wp P o a w K' Q):AllReadyH P md ops Q S fuel listed a w [i] :=
 AllReadyH.cons ho (fun K' hK=>by rw [if_pos (by simp [Region.wanted,hg])];exact h K' hK) AllReadyH.nil
theorem wp_store_at {P:Program} {o:Oper} {a:Act} {w:World} {K:Act->World->Prop} {Q:Exit->Act->World->Prop} (t:TypeId) (x y:Operand) (ho:o.op=.store t x y) {e:TypeId} {B k n:Nat} {cs:List Value} {v:Value} (hi:(P.info? t).map (·.size)=some n) (hb:BlkC w B e cs) (hx:a.eval x=.pointer (some ⟨B,k,none⟩)) (hy:a.eval y=v) (hn:v.cells.size=n) (h1:v.cells.toList.all (·.oneCell')=true) (hk:Nat.ble (k+n) cs.length=true)
  (h:K (a.put o.dst undef) (w.setCells B k v.cells.toList)):o.wp P a w K Q:=by
 have hk:=Nat.le_of_ble_eq_true hk;rw [<- hn] at hi hk
 have hs:=run_storeCells_cells (P:=P) B k v.cells.toList 0 w (fun j hj=>by
   rw [cell_of_row w B _ cs.toArray e (0,0) hb]
   simp at hj ⊢;omega) (fun j hj=>frozen_of_row w B _ _ _ hb) (fun u hu=>List.all_eq_true.1 h1 u hu)
 rw [Nat.add_zero] at hs
 unfold Oper.wp
 cases hq:P.info? t with
 | none=>simp [hq] at hi
 | some i =>
  have hsz:v.cells.size=i.size:=by simp [hq] at hi;omega
  simp [execOp,ho,hx,hy,Instr.storeAt,Instr.sureAddr,storeVar,sizeOf,typeInfo,hq,hsz,Result.andThen,hs];exact h
theorem inf_is:(Tryz.prog.info? 29).map (·.size)=some 1:=by kernel_rfl
theorem inf_pa:(Tryz.prog.info? 31).map (·.size)=some 4:=by kernel_rfl
theorem inf_fe:(Tryz.prog.info? 33).map (·.size)=some 1:=by kernel_rfl
theorem beginAnew_any (cn N base B:Nat) (x0 x1 x2 x3 x4 x5:Value) (t:Te) (v:Tv) (vg vo:List Value) (w:World) (h:Scr w 98 base B [x0,x1,x2,x3,x4,x5] t v vg vo) (hbase:base<=w.heap.size) (rt:RtW t cn N) :
  Calls Tryz.prog 181 #[.pointer (some ⟨B,0,none⟩)] w fun e w'=>e=.returned (.tuple #[])/\∃ v' vg' vo',Res w w' 98 base B [x0,x1,x2,x3,x4,x5] v vg vo (anewT t) v' vg' vo':=by
 have hok:newOk (cn:Int) (N:Int):=by have:=rt.c;have:=rt.n1;unfold newOk;omega
 have hNT:=fun W=>implNewTerm_any (cn:Int) (N:Int) W
 unfold NtA at hNT;simp only [newTm_yes hok,decide_eq_true hok,Int.toNat_natCast] at hNT;have hV:anewT t={ newT cn N (newR cn N) with ti:=t.ti,pa:=t.pa,fe:=t.fe }:=by unfold anewT;rw [rt.gc,rt.n,Int.toNat_natCast]
 rw [hV]
 have hgc:=rt.gc;obtain ⟨ga,gcp,hvg⟩:=slG_shp (SlG.of_own h.o.1.g);obtain ⟨oa,ocp,hvo⟩:=slG_shp (SlG.of_own h.o.2.1.g);obtain ⟨tia,tip,hti⟩:=(SlN.of_own h.o.2.2.2.head).shp;obtain ⟨ppa,ppp,hpp⟩:=(SlN.of_own h.o.2.2.2.tail.head).shp;obtain ⟨pta,ptp,hpt⟩:=(SlN.of_own h.o.2.2.2.tail.tail.head).shp;obtain ⟨q1,q2,q3,q4,q5⟩:=v;simp only at hvg hvo hti hpp hpt;subst hvg;subst hvo;subst hti;subst hpp;subst hpt;have hgl:=rt.n;have cfB:∀ W,BlkC W B 98 ([x0,x1,x2,x3,x4,x5]++(teCs t ⟨.slice ga t.g.length gcp,.slice oa t.o.length ocp,.slice tia t.ti.length tip,.slice ppa t.pa.params.length ppp,.slice pta t.pa.text.length ptp⟩).toList)->W.cell? ⟨B,6,none⟩=some (.int .i64 (cn:Int))/\W.cell? ⟨B,7,none⟩=some (.slice ga N gcp):=fun W hb=>⟨by rw [<- hgc];exact cAl hb 6,by rw [<- hgl];exact cAl hb 7⟩
 have cS:∀ W,BlkC W B 98 ([x0,x1,x2,x3,x4,x5]++(teCs t ⟨.slice ga t.g.length gcp,.slice oa t.o.length ocp,.slice tia t.ti.length tip,.slice ppa t.pa.params.length ppp,.slice pta t.pa.text.length ptp⟩).toList)->W.cell? ⟨B,30,none⟩=some (.slice tia t.ti.length tip)/\W.cell? ⟨B,31,none⟩=some (.int .i64 t.pa.state)/\W.cell? ⟨B,32,none⟩=some (.slice ppa t.pa.params.length ppp)/\W.cell? ⟨B,33,none⟩=some (.int .i64 t.pa.mark)/\W.cell? ⟨B,34,none⟩=some (.slice pta t.pa.text.length ptp)/\W.cell? ⟨B,35,none⟩=some (.string t.fe):=fun W hb=>⟨cAl hb 30,cAl hb 31,cAl hb 32,cAl hb 33,cAl hb 34,cAl hb 35⟩
 have hlt:=h.lt;have hd:=bdr w;have hSc:=h.b.below hd;have hon:(teCs (newT cn N (newR cn N)) (tvN (.slice none 0 0) (.slice none 0 0))).toList.all (·.oneCell')=true:=by rfl
 clear hon hV;go_enter Tryz.func181,Tryz.ntmps181;go_wp2;refine wp_region_noPanic ?_;refine wp_region_held_drew (S:=(fun W=>W.cell? ⟨B,6,none⟩=some (.int .i64 (cn:Int))/\W.cell? ⟨B,7,none⟩=some (.slice ga N gcp))) (by kernel_rfl) (cfB _ hSc) (fun hHeld=>?_);refine tk 0 ?_;refine tk 1 ?_;refine tk 2 ?_;refine tk 3 ?_;refine tk 4 ?_;refine tk 5 ?_;refine tk 6 ?_;refine tk 7 ?_;refine tk 8 ?_;refine tk 9 ?_;refine tk 10 ?_;refine tk 11 ?_;refine tk 12 ?_;refine rd2 13 17 (fun K hK=>?_) fun K hK=>?_
 ·have hm0:w.heap.size<=w.drew.heap.size:=hd.size
  go_simp;refine (hNT _).mono ?_;rintro e w1 ⟨u6,u7,rfl,hO,hb⟩;replace hSc:=hSc.below hb;replace hd:=hd.trans (hb.mono hd.size);obtain ⟨c1,c2,c3,hO⟩:=hO;obtain ⟨vg6,vo6,hS6⟩:=RgT.own (show RgT _ _ c1 c2 c3 _ _ from hO);obtain ⟨m,hm,hS6⟩:∃ m,w.heap.size<=m/\OwnS w1 m _ _ vg6 vo6:=⟨_,hm0,hS6⟩;have hon:=hS6.sl.one;have hs1:w.heap.size<=w1.heap.size:=hb.size;go_wp2_with fail;refine hK.out _ _ (cfB _ hSc) (fun hHeld=>?_);clear hK K;refine tk 14 ?_;refine tk 15 ?_;refine tk 16 ?_;refine rd 17 fun K hK=>?_
  have hal:=bal' w1 (Obj.cells #[.int .i64 0,.slice none 0 0,.int .i64 0,.slice none 0 0,.int .i64 0,.int .i64 0,.int .i64 0,.int .i64 0,.bool false,.bool false,.bool false,.int .i64 0,.int .i64 0,.bool false,.bool false,.bool false,.bool false,.int .i64 0,.int .i64 0,.int .i64 0,.int .i64 0,.bool false,.bool false,.bool false,.slice none 0 0,.int .i64 0,.slice none 0 0,.int .i64 0,.slice none 0 0,.string ⟨#[]⟩] 35);have hT:=TB.new w1 [.int .i64 0,.slice none 0 0,.int .i64 0,.slice none 0 0,.int .i64 0,.int .i64 0,.int .i64 0,.int .i64 0,.bool false,.bool false,.bool false,.int .i64 0,.int .i64 0,.bool false,.bool false,.bool false,.bool false,.int .i64 0,.int .i64 0,.int .i64 0,.int .i64 0,.bool false,.bool false,.bool false,.slice none 0 0,.int .i64 0,.slice none 0 0,.int .i64 0,.slice none 0 0,.string ⟨#[]⟩];have hwn:=hd.size;replace hd:=hd.trans (hal.mono hd.size);replace hSc:=hSc.below hal;replace hS6:=hS6.below hal;go_simp;refine hK.out _ _ (cfB _ hSc) (fun hHeld=>?_);clear hK K
  (try simp only [Act.put,ZA,ZB,ZC,ZD,ZE,ZF])
  have hnB:w1.heap.size≠B:=by omega
  clear hal hO hb hs1;refine rd 18 fun K hK=>?_
  refine wp_store_row 35 _ _ rfl w1.heap.size (teCs (newT cn N (newR cn N)) (tvN u6 u7)) rfl rfl 35 _ hT info_te (by rfl) (by rw [<- Array.all_toList];exact hon) ?_;have hg:=setRow_gr (w1.alloc (Obj.cells #[.int .i64 0,.slice none 0 0,.int .i64 0,.slice none 0 0,.int .i64 0,.int .i64 0,.int .i64 0,.int .i64 0,.bool false,.bool false,.bool false,.int .i64 0,.int .i64 0,.bool false,.bool false,.bool false,.bool false,.int .i64 0,.int .i64 0,.int .i64 0,.int .i64 0,.bool false,.bool false,.bool false,.slice none 0 0,.int .i64 0,.slice none 0 0,.int .i64 0,.slice none 0 0,.string ⟨#[]⟩] 35)) w1.heap.size (teCs (newT cn N (newR cn N)) (tvN u6 u7));have hT3:TB ((w1.alloc (Obj.cells #[.int .i64 0,.slice none 0 0,.int .i64 0,.slice none 0 0,.int .i64 0,.int .i64 0,.int .i64 0,.int .i64 0,.bool false,.bool false,.bool false,.int .i64 0,.int .i64 0,.bool false,.bool false,.bool false,.bool false,.int .i64 0,.int .i64 0,.int .i64 0,.int .i64 0,.bool false,.bool false,.bool false,.slice none 0 0,.int .i64 0,.slice none 0 0,.int .i64 0,.slice none 0 0,.string ⟨#[]⟩] 35)).setRow w1.heap.size (teCs (newT cn N (newR cn N)) (tvN u6 u7))) w1.heap.size (teCs (newT cn N (newR cn N)) (tvN u6 u7)).toList:=setRow_heap _ _ _ _ _ _ hT;have hS3:=hS6.grown hg hT (by decide) (by decide) (by decide);have hB3:=BlkC.kept hSc hg (fun e=>hnB (Option.some.inj e));have hW3:Below w.heap.size w ((w1.alloc (Obj.cells #[.int .i64 0,.slice none 0 0,.int .i64 0,.slice none 0 0,.int .i64 0,.int .i64 0,.int .i64 0,.int .i64 0,.bool false,.bool false,.bool false,.int .i64 0,.int .i64 0,.bool false,.bool false,.bool false,.bool false,.int .i64 0,.int .i64 0,.int .i64 0,.int .i64 0,.bool false,.bool false,.bool false,.slice none 0 0,.int .i64 0,.slice none 0 0,.int .i64 0,.slice none 0 0,.string ⟨#[]⟩] 35)).setRow w1.heap.size (teCs (newT cn N (newR cn N)) (tvN u6 u7))):=hd.grown hg hd.size (fun g e=>by cases e;exact hwn);refine hK.out _ _ (cfB _ hB3) (fun hHeld=>?_);clear hK K
  (try simp only [Act.put])
  refine tk 19 ?_
  (try simp only [Act.put,ZA,ZB,ZC,ZD,ZE,ZF])
  refine dn ?_;generalize (w1.alloc (Obj.cells #[.int .i64 0,.slice none 0 0,.int .i64 0,.slice none 0 0,.int .i64 0,.int .i64 0,.int .i64 0,.int .i64 0,.bool false,.bool false,.bool false,.int .i64 0,.int .i64 0,.bool false,.bool false,.bool false,.bool false,.int .i64 0,.int .i64 0,.int .i64 0,.int .i64 0,.bool false,.bool false,.bool false,.slice none 0 0,.int .i64 0,.slice none 0 0,.int .i64 0,.slice none 0 0,.string ⟨#[]⟩] 35)).setRow w1.heap.size (teCs (newT cn N (newR cn N)) (tvN u6 u7))=W3 at *;clear hT hon hg hSc hS6 hNT;replace hB3:=hB3.below (bdr W3);replace hT3:TB W3.drew _ _:=BlkC.below hT3 (bdr W3);replace hS3:=hS3.below (bdr W3);replace hW3:=hW3.trans ((bdr W3).mono hW3.size);have g16:=sCg w1.heap.size [.slice tia t.ti.length tip] 24 W3.drew;have b16:=BlkC.kept hB3 g16 (fun e=>hnB (Option.some.inj e));have t16:=sCh w1.heap.size 35 [.slice tia t.ti.length tip] 24 W3.drew _ hT3;have g18:=sCg w1.heap.size [.int .i64 t.pa.state,.slice ppa t.pa.params.length ppp,.int .i64 t.pa.mark,.slice pta t.pa.text.length ptp] 25 (W3.drew.setCells w1.heap.size 24 [.slice tia t.ti.length tip]);have b18:=BlkC.kept b16 g18 (fun e=>hnB (Option.some.inj e));have t18:=sCh w1.heap.size 35 [.int .i64 t.pa.state,.slice ppa t.pa.params.length ppp,.int .i64 t.pa.mark,.slice pta t.pa.text.length ptp] 25 _ _ t16;have g20:=sCg w1.heap.size [.string t.fe] 29 ((W3.drew.setCells w1.heap.size 24 [.slice tia t.ti.length tip]).setCells w1.heap.size 25 [.int .i64 t.pa.state,.slice ppa t.pa.params.length ppp,.int .i64 t.pa.mark,.slice pta t.pa.text.length ptp]);have b20:=BlkC.kept b18 g20 (fun e=>hnB (Option.some.inj e));have t20:=sCh w1.heap.size 35 [.string t.fe] 29 _ _ t18;have gA:=grown_tr (grown_tr g16 g18) g20;have hW4:=hW3.grown gA hW3.size (fun g e=>by cases e;exact hwn);have hS4:=hS3.grown gA hT3 (by decide) (by decide) (by decide);have hL4:=((h.o.below hW3).grown gA hT3 (by decide) (by decide) (by decide)).2.2.2;have hF4:OwnS _ base { newT cn N (newR cn N) with ti:=t.ti,pa:=t.pa,fe:=t.fe } ⟨u6,u7,.slice tia t.ti.length tip,.slice ppa t.pa.params.length ppp,.slice pta t.pa.text.length ptp⟩ vg6 vo6:=⟨ownV_low hS4.1 (Nat.le_trans hbase hm),ownV_low hS4.2.1 (Nat.le_trans hbase hm),hS4.2.2.1,hL4⟩;have one4:=hF4.sl.one;have e16:=cS _ b16;have e18:=cS _ b18;have e20:=cS _ b20;replace hF4:=(show Hid _ from hF4);replace hW4:=(show Hid _ from hW4);replace hS4:=(show Hid _ from hS4);replace t16:=(show Hid _ from t16);replace t18:=(show Hid _ from t18);replace hT3:=(show Hid _ from hT3);replace t20:=(show Hid _ from t20);replace b20:=(show Hid _ from b20);replace one4:=(show Hid _ from one4);clear g16 g18 g20 b16 b18 gA hL4 hS3 hW3 cfB;go_wp2;refine wp_region_noPanic ?_;refine wp_region_held_drew (S:=(fun W=>W.cell? ⟨B,30,none⟩=some (.slice tia t.ti.length tip)/\W.cell? ⟨B,31,none⟩=some (.int .i64 t.pa.state)/\W.cell? ⟨B,32,none⟩=some (.slice ppa t.pa.params.length ppp)/\W.cell? ⟨B,33,none⟩=some (.int .i64 t.pa.mark)/\W.cell? ⟨B,34,none⟩=some (.slice pta t.pa.text.length ptp)/\W.cell? ⟨B,35,none⟩=some (.string t.fe))) (by kernel_rfl) (cS _ hB3) (fun hHeld=>?_)
  clear cS hB3;refine tk 0 ?_;refine tk 1 ?_;refine tk 2 ?_;refine tk 3 ?_;refine tk 4 ?_;refine tk 5 ?_;refine tk 6 ?_;refine tk 7 ?_;refine tk 8 ?_;refine tk 9 ?_;refine tk 10 ?_;refine tk 11 ?_;refine tk 12 ?_;refine tk 13 ?_;refine tk 14 ?_;refine tk 15 ?_;refine rdo 16 fun K hK=>?_
  refine wp_store_at (v:=Value.slice tia t.ti.length tip) 29 _ _ rfl inf_is hT3.out rfl rfl (by rfl) (by rfl) (by rfl) ?_;refine hK.out _ _ (e16) (fun hHeld=>?_);clear hK K
  (try simp only [Act.put])
  refine tk 17 ?_;refine rdo 18 fun K hK=>?_
  refine wp_store_at (v:=Value.agg #[.int .i64 t.pa.state,.slice ppa t.pa.params.length ppp,.int .i64 t.pa.mark,.slice pta t.pa.text.length ptp]) 31 _ _ rfl inf_pa t16.out rfl rfl (by rfl) (by rfl) (by rfl) ?_;refine hK.out _ _ (e18) (fun hHeld=>?_);clear hK K
  (try simp only [Act.put])
  refine tk 19 ?_;refine rdo 20 fun K hK=>?_
  refine wp_store_at (v:=Value.agg #[.string t.fe]) 33 _ _ rfl inf_fe t18.out rfl rfl (by rfl) (by rfl) (by rfl) ?_;refine hK.out _ _ (e20) (fun hHeld=>?_);clear hK K
  (try simp only [Act.put])
  refine dn ?_;clear e16 e18 e20 hT3 t16 t18
  go_wp2_with (first
   | (refine load_T (cs:=(teCs { newT cn N (newR cn N) with ti:=t.ti,pa:=t.pa,fe:=t.fe } ⟨u6,u7,.slice tia t.ti.length tip,.slice ppa t.pa.params.length ppp,.slice pta t.pa.text.length ptp⟩)) (by rfl) 35 _ (by rfl) Tryz.underlying35 rfl info_te t20.out (by rfl) ?_)
   | (refine store_at (B:=B) (k:=6) (n:=30) (cs:=[x0,x1,x2,x3,x4,x5]++(teCs t ⟨.slice ga t.g.length gcp,.slice oa t.o.length ocp,.slice tia t.ti.length tip,.slice ppa t.pa.params.length ppp,.slice pta t.pa.text.length ptp⟩).toList) (v:=.agg (teCs { newT cn N (newR cn N) with ti:=t.ti,pa:=t.pa,fe:=t.fe } ⟨u6,u7,.slice tia t.ti.length tip,.slice ppa t.pa.params.length ppp,.slice pta t.pa.text.length ptp⟩)) (by rfl) 35 _ _ (by rfl) info_te b20.out (by rfl) (by rfl) (by rfl) one4.out (by rfl) ?_;intro W5 hg5 hB5 hz5))
  have hF5:OwnS _ base { newT cn N (newR cn N) with ti:=t.ti,pa:=t.pa,fe:=t.fe } ⟨u6,u7,.slice tia t.ti.length tip,.slice ppa t.pa.params.length ppp,.slice pta t.pa.text.length ptp⟩ vg6 vo6:=hF4.out;have hS5:=hF5.grown hg5 b20.out h.n1 h.n2 h.n3
  have hB6:BlkC W5 B 98 ([x0,x1,x2,x3,x4,x5]++(teCs { newT cn N (newR cn N) with ti:=t.ti,pa:=t.pa,fe:=t.fe } ⟨u6,u7,.slice tia t.ti.length tip,.slice ppa t.pa.params.length ppp,.slice pta t.pa.text.length ptp⟩).toList):=by
   have e:=setV_app (teCs { newT cn N (newR cn N) with ti:=t.ti,pa:=t.pa,fe:=t.fe } ⟨u6,u7,.slice tia t.ti.length tip,.slice ppa t.pa.params.length ppp,.slice pta t.pa.text.length ptp⟩).toList [x0,x1,x2,x3,x4,x5] (teCs t ⟨.slice ga t.g.length gcp,.slice oa t.o.length ocp,.slice tia t.ti.length tip,.slice ppa t.pa.params.length ppp,.slice pta t.pa.text.length ptp⟩).toList (by rfl);rw [<- e]
   exact hB5
  have hP5:GrP (Ft B ⟨.slice ga t.g.length gcp,.slice oa t.o.length ocp,.slice tia t.ti.length tip,.slice ppa t.pa.params.length ppp,.slice pta t.pa.text.length ptp⟩ vg vo) w W5:=(GrP.of_below hW4.out).trans (GrP.of_grown hg5 (fun g e=>by cases e;exact .inl rfl));have hC5:∀ k,k<w.heap.size->Ft B ⟨u6,u7,.slice tia t.ti.length tip,.slice ppa t.pa.params.length ppp,.slice pta t.pa.text.length ptp⟩ vg6 vo6 k->Ft B ⟨.slice ga t.g.length gcp,.slice oa t.o.length ocp,.slice tia t.ti.length tip,.slice ppa t.pa.params.length ppp,.slice pta t.pa.text.length ptp⟩ vg vo k:=fun k hk c=>c.elim .inl (fun c=>c.elim (fun c=>absurd (GrS.bd hS4.out.1 c).1 (by omega)) (fun c=>absurd (GrS.bd hS4.out.2.1 c).1 (by omega)))
  refine be ?_;rw [hgl] at hP5 hC5
  exact ⟨rfl,⟨u6,u7,.slice tia t.ti.length tip,.slice ppa t.pa.params.length ppp,.slice pta t.pa.text.length ptp⟩,vg6,vo6,⟨⟨hB6,hS5,h.n1,h.n2,h.n3,h.hb⟩,hP5,hC5,rfl,rfl⟩⟩
 ·have hal:=bal' w.drew (Obj.cells #[.int .i64 0,.slice none 0 0,.int .i64 0,.slice none 0 0,.int .i64 0,.int .i64 0,.int .i64 0,.int .i64 0,.bool false,.bool false,.bool false,.int .i64 0,.int .i64 0,.bool false,.bool false,.bool false,.bool false,.int .i64 0,.int .i64 0,.int .i64 0,.int .i64 0,.bool false,.bool false,.bool false,.slice none 0 0,.int .i64 0,.slice none 0 0,.int .i64 0,.slice none 0 0,.string ⟨#[]⟩] 35)
  have hT:=TB.new w.drew [.int .i64 0,.slice none 0 0,.int .i64 0,.slice none 0 0,.int .i64 0,.int .i64 0,.int .i64 0,.int .i64 0,.bool false,.bool false,.bool false,.int .i64 0,.int .i64 0,.bool false,.bool false,.bool false,.bool false,.int .i64 0,.int .i64 0,.int .i64 0,.int .i64 0,.bool false,.bool false,.bool false,.slice none 0 0,.int .i64 0,.slice none 0 0,.int .i64 0,.slice none 0 0,.string ⟨#[]⟩];have hwn:w.heap.size<=w.drew.heap.size:=hd.size;replace hd:=hd.trans (hal.mono hd.size);replace hSc:=hSc.below hal;go_simp;refine hK.out _ _ (cfB _ hSc) (fun hHeld=>?_);clear hK K;refine rd 13 fun K hK=>?_
  have hm0:=hd.size;go_simp;refine (hNT _).mono ?_;rintro e w1 ⟨u6,u7,rfl,hO,hb⟩;replace hSc:=hSc.below hb;replace hT:=hT.below hb;replace hd:=hd.trans (hb.mono hd.size);obtain ⟨c1,c2,c3,hO⟩:=hO;obtain ⟨vg6,vo6,hS6⟩:=RgT.own (show RgT _ _ c1 c2 c3 _ _ from hO);obtain ⟨m,hm,hS6⟩:∃ m,w.heap.size<=m/\OwnS w1 m _ _ vg6 vo6:=⟨_,hm0,hS6⟩;have hon:=hS6.sl.one;go_wp2_with fail;refine hK.out _ _ (cfB _ hSc) (fun hHeld=>?_);clear hK K;refine tk 14 ?_;refine tk 15 ?_;refine tk 16 ?_
  (try simp only [Act.put,ZA,ZB,ZC,ZD,ZE,ZF])
  have hnB:w.heap.size≠B:=by omega
  clear hal hO hb;refine rd 18 fun K hK=>?_
  refine wp_store_row 35 _ _ rfl w.heap.size (teCs (newT cn N (newR cn N)) (tvN u6 u7)) rfl rfl 35 _ hT info_te (by rfl) (by rw [<- Array.all_toList];exact hon) ?_;have hg:=setRow_gr w1 w.heap.size (teCs (newT cn N (newR cn N)) (tvN u6 u7));have hT3:TB (w1.setRow w.heap.size (teCs (newT cn N (newR cn N)) (tvN u6 u7))) w.heap.size (teCs (newT cn N (newR cn N)) (tvN u6 u7)).toList:=setRow_heap _ _ _ _ _ _ hT;have hS3:=hS6.grown hg hT (by decide) (by decide) (by decide);have hB3:=BlkC.kept hSc hg (fun e=>hnB (Option.some.inj e));have hW3:Below w.heap.size w (w1.setRow w.heap.size (teCs (newT cn N (newR cn N)) (tvN u6 u7))):=hd.grown hg hd.size (fun g e=>by cases e;exact hwn);refine hK.out _ _ (cfB _ hB3) (fun hHeld=>?_);clear hK K
  (try simp only [Act.put])
  refine tk 19 ?_
  (try simp only [Act.put,ZA,ZB,ZC,ZD,ZE,ZF])
  refine dn ?_;generalize w1.setRow w.heap.size (teCs (newT cn N (newR cn N)) (tvN u6 u7))=W3 at *;clear hT hon hg hSc hS6 hNT;replace hB3:=hB3.below (bdr W3);replace hT3:TB W3.drew _ _:=BlkC.below hT3 (bdr W3);replace hS3:=hS3.below (bdr W3);replace hW3:=hW3.trans ((bdr W3).mono hW3.size);have g16:=sCg w.heap.size [.slice tia t.ti.length tip] 24 W3.drew;have b16:=BlkC.kept hB3 g16 (fun e=>hnB (Option.some.inj e));have t16:=sCh w.heap.size 35 [.slice tia t.ti.length tip] 24 W3.drew _ hT3;have g18:=sCg w.heap.size [.int .i64 t.pa.state,.slice ppa t.pa.params.length ppp,.int .i64 t.pa.mark,.slice pta t.pa.text.length ptp] 25 (W3.drew.setCells w.heap.size 24 [.slice tia t.ti.length tip]);have b18:=BlkC.kept b16 g18 (fun e=>hnB (Option.some.inj e));have t18:=sCh w.heap.size 35 [.int .i64 t.pa.state,.slice ppa t.pa.params.length ppp,.int .i64 t.pa.mark,.slice pta t.pa.text.length ptp] 25 _ _ t16;have g20:=sCg w.heap.size [.string t.fe] 29 ((W3.drew.setCells w.heap.size 24 [.slice tia t.ti.length tip]).setCells w.heap.size 25 [.int .i64 t.pa.state,.slice ppa t.pa.params.length ppp,.int .i64 t.pa.mark,.slice pta t.pa.text.length ptp]);have b20:=BlkC.kept b18 g20 (fun e=>hnB (Option.some.inj e));have t20:=sCh w.heap.size 35 [.string t.fe] 29 _ _ t18;have gA:=grown_tr (grown_tr g16 g18) g20;have hW4:=hW3.grown gA hW3.size (fun g e=>by cases e;exact hwn);have hS4:=hS3.grown gA hT3 (by decide) (by decide) (by decide);have hL4:=((h.o.below hW3).grown gA hT3 (by decide) (by decide) (by decide)).2.2.2;have hF4:OwnS _ base { newT cn N (newR cn N) with ti:=t.ti,pa:=t.pa,fe:=t.fe } ⟨u6,u7,.slice tia t.ti.length tip,.slice ppa t.pa.params.length ppp,.slice pta t.pa.text.length ptp⟩ vg6 vo6:=⟨ownV_low hS4.1 (Nat.le_trans hbase hm),ownV_low hS4.2.1 (Nat.le_trans hbase hm),hS4.2.2.1,hL4⟩;have one4:=hF4.sl.one;have e16:=cS _ b16;have e18:=cS _ b18;have e20:=cS _ b20;replace hF4:=(show Hid _ from hF4);replace hW4:=(show Hid _ from hW4);replace hS4:=(show Hid _ from hS4);replace t16:=(show Hid _ from t16);replace t18:=(show Hid _ from t18);replace hT3:=(show Hid _ from hT3);replace t20:=(show Hid _ from t20);replace b20:=(show Hid _ from b20);replace one4:=(show Hid _ from one4);clear g16 g18 g20 b16 b18 gA hL4 hS3 hW3 cfB;go_wp2;refine wp_region_noPanic ?_;refine wp_region_held_drew (S:=(fun W=>W.cell? ⟨B,30,none⟩=some (.slice tia t.ti.length tip)/\W.cell? ⟨B,31,none⟩=some (.int .i64 t.pa.state)/\W.cell? ⟨B,32,none⟩=some (.slice ppa t.pa.params.length ppp)/\W.cell? ⟨B,33,none⟩=some (.int .i64 t.pa.mark)/\W.cell? ⟨B,34,none⟩=some (.slice pta t.pa.text.length ptp)/\W.cell? ⟨B,35,none⟩=some (.string t.fe))) (by kernel_rfl) (cS _ hB3) (fun hHeld=>?_);clear cS hB3;refine tk 0 ?_;refine tk 1 ?_;refine tk 2 ?_;refine tk 3 ?_;refine tk 4 ?_;refine tk 5 ?_;refine tk 6 ?_;refine tk 7 ?_;refine tk 8 ?_;refine tk 9 ?_;refine tk 10 ?_;refine tk 11 ?_;refine tk 12 ?_;refine tk 13 ?_;refine tk 14 ?_;refine tk 15 ?_;refine rdo 16 fun K hK=>?_
  refine wp_store_at (v:=Value.slice tia t.ti.length tip) 29 _ _ rfl inf_is hT3.out rfl rfl (by rfl) (by rfl) (by rfl) ?_;refine hK.out _ _ (e16) (fun hHeld=>?_);clear hK K
  (try simp only [Act.put])
  refine tk 17 ?_;refine rdo 18 fun K hK=>?_
  refine wp_store_at (v:=Value.agg #[.int .i64 t.pa.state,.slice ppa t.pa.params.length ppp,.int .i64 t.pa.mark,.slice pta t.pa.text.length ptp]) 31 _ _ rfl inf_pa t16.out rfl rfl (by rfl) (by rfl) (by rfl) ?_;refine hK.out _ _ (e18) (fun hHeld=>?_);clear hK K
  (try simp only [Act.put])
  refine tk 19 ?_;refine rdo 20 fun K hK=>?_
  refine wp_store_at (v:=Value.agg #[.string t.fe]) 33 _ _ rfl inf_fe t18.out rfl rfl (by rfl) (by rfl) (by rfl) ?_;refine hK.out _ _ (e20) (fun hHeld=>?_);clear hK K
  (try simp only [Act.put])
  refine dn ?_;clear e16 e18 e20 hT3 t16 t18
  go_wp2_with (first
   | (refine load_T (cs:=(teCs { newT cn N (newR cn N) with ti:=t.ti,pa:=t.pa,fe:=t.fe } ⟨u6,u7,.slice tia t.ti.length tip,.slice ppa t.pa.params.length ppp,.slice pta t.pa.text.length ptp⟩)) (by rfl) 35 _ (by rfl) Tryz.underlying35 rfl info_te t20.out (by rfl) ?_)
   | (refine store_at (B:=B) (k:=6) (n:=30) (cs:=[x0,x1,x2,x3,x4,x5]++(teCs t ⟨.slice ga t.g.length gcp,.slice oa t.o.length ocp,.slice tia t.ti.length tip,.slice ppa t.pa.params.length ppp,.slice pta t.pa.text.length ptp⟩).toList) (v:=.agg (teCs { newT cn N (newR cn N) with ti:=t.ti,pa:=t.pa,fe:=t.fe } ⟨u6,u7,.slice tia t.ti.length tip,.slice ppa t.pa.params.length ppp,.slice pta t.pa.text.length ptp⟩)) (by rfl) 35 _ _ (by rfl) info_te b20.out (by rfl) (by rfl) (by rfl) one4.out (by rfl) ?_;intro W5 hg5 hB5 hz5))
  have hF5:OwnS _ base { newT cn N (newR cn N) with ti:=t.ti,pa:=t.pa,fe:=t.fe } ⟨u6,u7,.slice tia t.ti.length tip,.slice ppa t.pa.params.length ppp,.slice pta t.pa.text.length ptp⟩ vg6 vo6:=hF4.out;have hS5:=hF5.grown hg5 b20.out h.n1 h.n2 h.n3
  have hB6:BlkC W5 B 98 ([x0,x1,x2,x3,x4,x5]++(teCs { newT cn N (newR cn N) with ti:=t.ti,pa:=t.pa,fe:=t.fe } ⟨u6,u7,.slice tia t.ti.length tip,.slice ppa t.pa.params.length ppp,.slice pta t.pa.text.length ptp⟩).toList):=by
   have e:=setV_app (teCs { newT cn N (newR cn N) with ti:=t.ti,pa:=t.pa,fe:=t.fe } ⟨u6,u7,.slice tia t.ti.length tip,.slice ppa t.pa.params.length ppp,.slice pta t.pa.text.length ptp⟩).toList [x0,x1,x2,x3,x4,x5] (teCs t ⟨.slice ga t.g.length gcp,.slice oa t.o.length ocp,.slice tia t.ti.length tip,.slice ppa t.pa.params.length ppp,.slice pta t.pa.text.length ptp⟩).toList (by rfl);rw [<- e]
   exact hB5
  have hP5:GrP (Ft B ⟨.slice ga t.g.length gcp,.slice oa t.o.length ocp,.slice tia t.ti.length tip,.slice ppa t.pa.params.length ppp,.slice pta t.pa.text.length ptp⟩ vg vo) w W5:=(GrP.of_below hW4.out).trans (GrP.of_grown hg5 (fun g e=>by cases e;exact .inl rfl));have hC5:∀ k,k<w.heap.size->Ft B ⟨u6,u7,.slice tia t.ti.length tip,.slice ppa t.pa.params.length ppp,.slice pta t.pa.text.length ptp⟩ vg6 vo6 k->Ft B ⟨.slice ga t.g.length gcp,.slice oa t.o.length ocp,.slice tia t.ti.length tip,.slice ppa t.pa.params.length ppp,.slice pta t.pa.text.length ptp⟩ vg vo k:=fun k hk c=>c.elim .inl (fun c=>c.elim (fun c=>absurd (GrS.bd hS4.out.1 c).1 (by omega)) (fun c=>absurd (GrS.bd hS4.out.2.1 c).1 (by omega)))
  refine be ?_;rw [hgl] at hP5 hC5
  exact ⟨rfl,⟨u6,u7,.slice tia t.ti.length tip,.slice ppa t.pa.params.length ppp,.slice pta t.pa.text.length ptp⟩,vg6,vo6,⟨⟨hB6,hS5,h.n1,h.n2,h.n3,h.hb⟩,hP5,hC5,rfl,rfl⟩⟩
end Go.Proofs.YtgcnmjjlmcnllaaGreatDoor
