/- Parts of the proof. -/
import Derived.Test.YtgcnmjjlmcnllaaGreatDoorP11
namespace Go.Proofs.YtgcnmjjlmcnllaaGreatDoor
set_option maxRecDepth 20000
set_option maxHeartbeats 16000000
open Go.ChangeShapes Go.WideShapes Go.ChangeAt Go.RowKit
theorem Scr.grid {W0 W1 W':World} {T:TypeId} {base B:Nat} {X:List Value} {t:Te} {v:Tv} {vg vo:List Value} (h:Scr W0 T base B X t v vg vo) (hbase:base<=W0.heap.size) (hb:Below W0.heap.size W0 W1) (u:Value) (vs:List Value) (c:Int) (G:List (List Ce)) (hu:OwnV W1 W0.heap.size W1.heap.size u vs G) (hg:W1.grownBy W' (some B)) (hb':BlkC W' B T (X++(teCs { t with gc:=c,g:=G } ⟨u,v.o,v.ti,v.pp,v.pt⟩).toList)):Res W0 W' T base B X v vg vo { t with gc:=c,g:=G } ⟨u,v.o,v.ti,v.pp,v.pt⟩ vs vo:=by
 have h1:=h.below hb
 have ho:OwnS W1 base { t with gc:=c,g:=G } ⟨u,v.o,v.ti,v.pp,v.pt⟩ vs vo:=⟨ownV_low hu hbase,h1.o.2.1,fun k a b=>by
  have:=(GrS.bd hu a).1;have:=(GrS.bd h.o.2.1 b).2;omega,h1.o.2.2.2⟩
 have ho2:=ho.grown hg h1.b h.n1 h.n2 h.n3;refine ⟨⟨hb',ho2,h.n1,h.n2,h.n3,h.hb⟩,(GrP.of_below hb).trans (GrP.of_grown hg (fun g e=>by cases e;exact .inl rfl)),fun k hk c=>?_,rfl,rfl⟩;rcases c with c|c|c
 ·exact .inl c
 ·have:=(GrS.bd hu c).1;omega
 ·exact .inr (.inr c)
theorem l7Mode_any (cn N base B:Nat) (pv:Value) (ps:List Int) (b:Bool) (t:Te) (v:Tv) (vg vo:List Value) (w:World) (h:Scr w 35 base B [] t v vg vo) (hbase:base<=w.heap.size) (rk:RtK t cn N) (hp:SlN w pv ps) (hl:ps.length<=1000) (hap:ApF w B v vg vo pv) :
  Calls Tryz.prog 145 #[.pointer (some ⟨B,0,none⟩),pv,.bool b] w fun e w'=>e=.returned (.tuple #[])/\∃ v' vg' vo',Res w w' 35 base B [] v vg vo (ps.foldl (modeT b) t) v' vg' vo':=by
 have hfo:∀ j,Hid (j<ps.length->(ps.take (j+1)).foldl (modeT b) t=modeT b ((ps.take j).foldl (modeT b) t) (ps.getD j 0)):=fun j=>fun hj=>by
  rw [List.take_succ_eq_append_getElem hj,List.foldl_append]
  simp [hj]
 obtain ⟨pa,pc,rfl⟩:=hp.shp;have hK:Hid (Res w w 35 base B [] v vg vo ((ps.take 0).foldl (modeT b) t) v vg vo):=h.res;have hNw:=fun W=>l5New_any cn N W (by have:=rk.w.c;omega) (by have:=rk.w.n1;omega)
 unfold gridV at hNw;clear h;go_enter Tryz.func145,Tryz.ntmps145;go_wp2;go_loopw [6] (fun i wr=>∃ (j:Nat) (v':Tv) (vg' vo':List Value),i=.int .i64 j/\j<=ps.length/\Hid (Res w wr 35 base B [] v vg vo ((ps.take j).foldl (modeT b) t) v' vg' vo')/\SlN wr (.slice pa ps.length pc) ps/\ApF wr B v' vg' vo' (.slice pa ps.length pc)/\base<=wr.heap.size) (fun i _=>ps.length-(intOf i).toNat)
 case atStart=>exact ⟨0,v,vg,vo,rfl,Nat.zero_le _,hK,hp,hap,hbase⟩
 case round =>
  clear hK hp hap hbase;obtain ⟨j,v',vg',vo',rfl,hj,hK,hp,hap,hbj⟩:=hrel
  by_cases hlt:j<ps.length
  ·have hji:(j:Int)<(ps.length:Int):=by omega
   have hj0:(0:Int)<=(j:Int):=by omega
   have rkj:=RtK.modes b (ps.take j) rk
   have hnx:=fun W2 v2 g2 o2 (r':Res wr W2 35 base B [] v' vg' vo' (modeT b ((ps.take j).foldl (modeT b) t) (ps.getD j 0)) v2 g2 o2)=>(show Hid (Res w W2 35 base B [] v vg vo ((ps.take (j+1)).foldl (modeT b) t) v2 g2 o2)/\SlN W2 (.slice pa ps.length pc) ps/\ApF W2 B v2 g2 o2 (.slice pa ps.length pc)/\base<=W2.heap.size from by
    rw [<- (hfo j).out hlt] at r'
    have hr:=hp.res hap r';exact ⟨hK.out.trans r',hr.1,hr.2,Nat.le_trans hbj r'.g.size⟩)
   have hs:=hK.out.s;generalize (ps.take j).foldl (modeT b) t=t' at *;obtain ⟨_,_,hpe,hpc,hpn,hpx⟩:=id hp
   obtain ⟨pb,po,rfl,hcc⟩:∃ b off,pa=some ⟨b,off,none⟩/\wr.cell? ⟨b,off+j,none⟩=some (.int .i64 (ps.getD j 0)):=by
    rcases hpx with hz|⟨b',off',he,_,hc⟩
    ·rw [hz] at hlt;simp at hlt
    ·injection hpe with e1
     exact ⟨b',off',by rw [e1];exact he,hc j hlt⟩
   clear hpe hpc hpn hpx hp hap hfo;generalize ps.getD j 0=y at *;have rkw:=rkj.w;have c14:wr.cell? ⟨B,14,none⟩=some (.bool t'.wrap):=hs.cell 14;have z14:wr.frozen? ⟨B,14,none⟩=false:=hs.frozen 14;have c16:wr.cell? ⟨B,16,none⟩=some (.bool t'.hid):=hs.cell 16;have z16:wr.frozen? ⟨B,16,none⟩=false:=hs.frozen 16;clear hK rkj rk
   by_cases y7:y=7
   ·subst y7
    obtain ⟨k1,k2,k3,k4⟩:=hnx _ _ _ _ (show Res wr (wr.setCell ⟨B,14,none⟩ (.bool b)) 35 base B [] v' vg' vo' (modeT b t' 7) v' vg' vo' from hs.put (sCg B [.bool b] 14 wr) { t' with wrap:=b } (sCh B 35 [.bool b] 14 wr _ hs.b) rfl rfl rfl rfl rfl);clear hnx hs rkw hNw;go_wp2;go_roundw
    case rel=>exact ⟨j+1,_,_,_,by go_num,by omega,k1,k2,k3,k4⟩
    case measure=>simp [intOf];omega
   by_cases y25:y=25
   ·subst y25
    obtain ⟨k1,k2,k3,k4⟩:=hnx _ _ _ _ (show Res wr (wr.setCell ⟨B,16,none⟩ (.bool (!b))) 35 base B [] v' vg' vo' (modeT b t' 25) v' vg' vo' from hs.put (sCg B [.bool (!b)] 16 wr) { t' with hid:=!b } (sCh B 35 [.bool (!b)] 16 wr _ hs.b) rfl rfl rfl rfl rfl);clear hnx hs rkw hNw y7;go_wp2;go_roundw
    case rel=>exact ⟨j+1,_,_,_,by go_num,by omega,k1,k2,k3,k4⟩
    case measure=>simp [intOf];omega
   by_cases y10:y=1049
   ·subst y10
    clear y7 y25 c14 z14 c16 z16;obtain ⟨a,ha⟩:∃ a,Hid (t'.away=a):=⟨_,rfl⟩;have c15:wr.cell? ⟨B,15,none⟩=some (.bool a):=by rw [<- ha.out];exact hs.cell 15
    have z15:wr.frozen? ⟨B,15,none⟩=false:=hs.frozen 15
    by_cases hab:a=b
    ·subst hab
     have hV:modeT a t' 1049=t':=by unfold modeT;rw [if_neg (by omega),if_neg (by omega),if_pos rfl,if_pos ha.out]
     rw [hV] at hnx
     obtain ⟨k1,k2,k3,k4⟩:=hnx _ _ _ _ hs.res;clear hnx hs rkw hNw ha hV z15
     cases a
     ·go_wp2
      go_roundw
      case rel=>exact ⟨j+1,_,_,_,by go_num,by omega,k1,k2,k3,k4⟩
      case measure=>simp [intOf];omega
     ·go_wp2
      go_roundw
      case rel=>exact ⟨j+1,_,_,_,by go_num,by omega,k1,k2,k3,k4⟩
      case measure=>simp [intOf];omega
    have hV:modeT b t' 1049={ swapT { t' with away:=b } with g:=if b=true then newR cn N else t'.o }:=by
     unfold modeT swapT;rw [if_neg (by omega),if_neg (by omega),if_pos rfl,if_neg (by rw [ha.out];exact hab),rkw.gc,rkw.n,Int.toNat_natCast]
    rw [hV] at hnx
    have hgc:=rkw.gc;have hgl:=rkw.n;have hoc:t'.gc=t'.oc:=by rw [rkw.gc,rkw.oc]
    clear hV;obtain ⟨ga,gcp,hvg⟩:=slG_shp (SlG.of_own hs.o.1.g);obtain ⟨oa,ocp,hvo⟩:=slG_shp (SlG.of_own hs.o.2.1.g);obtain ⟨q1,q2,q3,q4,q5⟩:=v';simp only at hvg hvo;subst hvg;subst hvo;have c0:wr.cell? ⟨B,0,none⟩=some (.int .i64 t'.gc):=hs.cell 0;have c1:wr.cell? ⟨B,1,none⟩=some (.slice ga t'.g.length gcp):=hs.cell 1;have c2:wr.cell? ⟨B,2,none⟩=some (.int .i64 t'.oc):=hs.cell 2;have c3:wr.cell? ⟨B,3,none⟩=some (.slice oa t'.o.length ocp):=hs.cell 3;have z0:wr.frozen? ⟨B,0,none⟩=false:=hs.frozen 0;have z1:wr.frozen? ⟨B,1,none⟩=false:=hs.frozen 1;have z2:wr.frozen? ⟨B,2,none⟩=false:=hs.frozen 2;have z3:wr.frozen? ⟨B,3,none⟩=false:=hs.frozen 3;have hlt':=hs.lt;have hnB:wr.heap.size≠B:=by omega
    have hnB':B≠wr.heap.size:=by omega
    have p2:=hs.swap (grown_tr (sCg B [.int .i64 t'.oc,.slice oa t'.o.length ocp] 0 wr) (sCg B [.int .i64 t'.gc,.slice ga t'.g.length gcp] 2 _)) (sCh B 35 [.int .i64 t'.gc,.slice ga t'.g.length gcp] 2 _ _ (sCh B 35 [.int .i64 t'.oc,.slice oa t'.o.length ocp] 0 _ _ hs.b));have p4:=(p2.trans (p2.s.put (sCg B [.bool b] 15 _) { swapT t' with away:=b } (sCh B 35 [.bool b] 15 _ _ p2.s.b) rfl rfl rfl rfl rfl)).below (bal' _ (Obj.cells #[.int .i64 t'.gc,.slice ga t'.g.length gcp] 26))
    have hN3:∀ W,Calls Tryz.prog 138 #[.int .i64 t'.gc,.int .i64 (t'.g.length:Int)] W (fun e w'=>∃ u,e=.returned (.agg #[.int .i64 t'.gc,u])/\OwnG w' W.heap.size w'.heap.size u (newR cn N)/\Below W.heap.size W w'):=by
     rw [hgc,hgl]
     exact hNw
    clear p2 hs hNw;replace hoc:=(show Hid _ from hoc);replace hgc:=(show Hid _ from hgc);replace hgl:=(show Hid _ from hgl)
    cases b
    ·obtain rfl:a=true:=by simpa using hab
     obtain ⟨k1,k2,k3,k4⟩:=hnx _ _ _ _ p4;clear hab ha rkw hN3 hnx p4;go_wp2;go_roundw
     case rel=>exact ⟨j+1,_,_,_,by go_num,by omega,k1,k2,k3,k4⟩
     case measure=>simp [intOf];omega
    ·obtain rfl:a=false:=by simpa using hab
     have e:({ swapT { t' with away:=true } with gc:=t'.gc,g:=newR cn N }:Te)={ swapT { t' with away:=true } with g:=if true=true then newR cn N else t'.o }:=by rw [hoc.out];rfl
     rw [<- e] at hnx
     clear hab ha rkw e;replace hnx:=(show Hid _ from hnx);replace p4:=(show Hid _ from p4);go_wp2_with fail;refine (hN3 _).mono ?_;rintro e w5 ⟨u,rfl,hO,hb⟩;have hs5:=p4.out.s.below hb;have d0:w5.cell? ⟨B,0,none⟩=some (.int .i64 t'.oc):=hs5.cell 0;have d1:w5.cell? ⟨B,1,none⟩=some (.slice oa t'.o.length ocp):=hs5.cell 1;have y0:w5.frozen? ⟨B,0,none⟩=false:=hs5.frozen 0;have y1:w5.frozen? ⟨B,1,none⟩=false:=hs5.frozen 1;obtain ⟨ua,ucp,rfl⟩:=slG_shp (SlG.of_own hO);obtain ⟨vs,hu⟩:=hO.v;have p5:=p4.out.trans (Scr.grid p4.out.s (Nat.le_trans hbj p4.out.g.size) hb (.slice ua (newR cn N).length ucp) vs t'.gc (newR cn N) hu (sCg B [.int .i64 t'.gc,.slice ua (newR cn N).length ucp] 0 w5) (sCh B 35 [.int .i64 t'.gc,.slice ua (newR cn N).length ucp] 0 w5 _ hs5.b));obtain ⟨k1,k2,k3,k4⟩:=hnx.out _ _ _ _ p5;clear hN3 hnx p4 p5 hs5 hu hb hO;go_wp2;go_roundw
     case rel=>exact ⟨j+1,_,_,_,by go_num,by omega,k1,k2,k3,k4⟩
     case measure=>simp [intOf];omega
   have hV:modeT b t' y=t':=by unfold modeT;rw [if_neg y7,if_neg y25,if_neg y10]
   rw [hV] at hnx
   have q7:(y==7)=false:=by simp [y7]
   have q25:(y==25)=false:=by simp [y25]
   have q10:(y==1049)=false:=by simp [y10]
   obtain ⟨k1,k2,k3,k4⟩:=hnx _ _ _ _ hs.res;clear hnx hs rkw hNw hV y7 y25 y10 c14 z14 c16 z16;go_wp2;go_roundw
   case rel=>exact ⟨j+1,_,_,_,by go_num,by omega,k1,k2,k3,k4⟩
   case measure=>simp [intOf];omega
  ·have hjn:¬ (j:Int)<(ps.length:Int):=by omega
   have hF:=(show Hid (Res w wr 35 base B [] v vg vo (ps.foldl (modeT b) t) v' vg' vo') from by
    have e:ps.take j=ps:=List.take_of_length_le (by omega);rw [<- e]
    exact hK.out)
   clear hK hp hap hfo hNw;go_wp2;refine be ?_;exact ⟨rfl,_,_,_,hF.out⟩
theorem l7ActionOk_any (k r m:Int) (pv y:Value) (ps xs:List Int) (w:World) (hp:SlN w pv ps) (hy:SlN w y xs) (hpl:ps.length<=1048576) (ht:xs.length<=1048576) :
  Calls Tryz.prog 61 #[.agg (acA k r pv m y)] w fun e w'=>e=.returned (.bool (actB ⟨k,r,ps,m,xs⟩))/\Below w.heap.size w w':=by
 obtain ⟨W,hW⟩:∃ W,W=w.alloc (Obj.cells #[.int .i64 k,.int .i64 r,pv,.int .i64 m,y] 37):=⟨_,rfl⟩;have hb0:Below w.heap.size w W:=by rw [hW];exact bal' _ _
 have hA:BlkC W w.heap.size 37 [.int .i64 k,.int .i64 r,pv,.int .i64 m,y]:=by rw [hW];exact heap_alloc_new w _
 have a0:W.cell? ⟨w.heap.size,0,none⟩=some (.int .i64 k):=cAl hA 0;have a1:W.cell? ⟨w.heap.size,1,none⟩=some (.int .i64 r):=cAl hA 1;have a2:W.cell? ⟨w.heap.size,2,none⟩=some pv:=cAl hA 2;have a3:W.cell? ⟨w.heap.size,3,none⟩=some (.int .i64 m):=cAl hA 3;have a4:W.cell? ⟨w.heap.size,4,none⟩=some y:=cAl hA 4;have hRu:=specRuneOk_any r W;have hR1:=specRunes6_any y xs 40 W (hy.below hb0).si (by omega) (by decide);obtain ⟨rv,hrv⟩:∃ rv,Hid (rv=actB ⟨k,r,ps,m,xs⟩):=⟨_,rfl⟩;rw [<- hrv.out]
 have hval:Hid (rv=(runeOk r && (decide (ps.length<=16) && (decide (m=0\/m=63) && ((decide (xs.length<=40) && runesB xs) && paramsB ps))))):=hrv.out;replace hW:=(show Hid _ from hW);obtain ⟨pa,pc,rfl,hpc⟩:=(hp.below hb0).si.cons;obtain ⟨ya,yc,rfl⟩:=hy.shp;obtain ⟨rt,hrt⟩:∃ rt,(decide (xs.length<=40) && runesB xs)=rt:=⟨_,rfl⟩;rw [hrt] at hval
 generalize runeOk r=ru at *;clear hrv hp hy ht hA;unfold acA
 cases ru
 case false =>
  have hV:Hid (rv=false):=hval.out;clear hval hrt hpc;go_enter Tryz.func61,Tryz.ntmps61;refine wp_seq_k (fun K hK=>?_);have hH:=(show Hid _ from hK);clear hK;go_wp2;refine hH.out _ _ ?_;rw [<- hW.out]
  clear hH hW;go_wp2_with (first|(go_at_call 140;refine hRu.mono ?_;rintro e w' ⟨rfl,rfl⟩)|(go_at_call 75;refine hR1.mono ?_;rintro e w' ⟨rfl,rfl⟩));go_ret;exact ⟨by rw [hV.out];rfl,hb0⟩
 by_cases hl:ps.length<=16
 case neg =>
  have hV:Hid (rv=false):=by show _=_;rw [hval.out,decide_eq_false hl];rfl
  have hli:(16:Int)<(ps.length:Int):=by omega
  clear hval hrt hpc;go_enter Tryz.func61,Tryz.ntmps61;refine wp_seq_k (fun K hK=>?_);have hH:=(show Hid _ from hK);clear hK;go_wp2;refine hH.out _ _ ?_;rw [<- hW.out]
  clear hH hW;go_wp2_with (first|(go_at_call 140;refine hRu.mono ?_;rintro e w' ⟨rfl,rfl⟩)|(go_at_call 75;refine hR1.mono ?_;rintro e w' ⟨rfl,rfl⟩));go_ret;exact ⟨by rw [hV.out];rfl,hb0⟩
 have hli:¬ (16:Int)<(ps.length:Int):=by omega
 by_cases m0:m=0
 ·subst m0
  rw [hrt] at hR1
  cases rt
  case false =>
   have hV:Hid (rv=false):=by show _=_;rw [hval.out,decide_eq_true hl];simp
   clear hval hrt hpc hl;go_enter Tryz.func61,Tryz.ntmps61;refine wp_seq_k (fun K hK=>?_);have hH:=(show Hid _ from hK);clear hK;go_wp2;refine hH.out _ _ ?_;rw [<- hW.out]
   clear hH hW;go_wp2_with (first|(go_at_call 140;refine hRu.mono ?_;rintro e w' ⟨rfl,rfl⟩)|(go_at_call 75;refine hR1.mono ?_;rintro e w' ⟨rfl,rfl⟩));go_ret;exact ⟨by rw [hV.out];rfl,hb0⟩
  have hV0:Hid (rv=paramsB ps):=by show _=_;rw [hval.out,decide_eq_true hl];simp
  clear hval hrt hl;go_enter Tryz.func61,Tryz.ntmps61;refine wp_seq_k (fun K hK=>?_);have hH:=(show Hid _ from hK);clear hK;go_wp2;refine hH.out _ _ ?_;rw [<- hW.out]
  clear hH hW;go_wp2_with (first|(go_at_call 140;refine hRu.mono ?_;rintro e w' ⟨rfl,rfl⟩)|(go_at_call 75;refine hR1.mono ?_;rintro e w' ⟨rfl,rfl⟩));clear hRu hR1;go_loop [2,3] (fun _ i=>∃ j:Nat,i=.int .i64 j/\j<=ps.length/\Hid (∀ k,k<j->0<=ps.getD k 0/\ps.getD k 0<=9999)) (fun _ i=>ps.length-(intOf i).toNat)
  case atStart=>exact ⟨0,rfl,Nat.zero_le _,(fun k hk=>absurd hk (Nat.not_lt_zero k))⟩
  case round =>
   obtain ⟨j,rfl,hj,hall⟩:=hrel
   by_cases hlt:j<ps.length
   ·have hji:(j:Int)<(ps.length:Int):=by omega
    have hj0:(0:Int)<=(j:Int):=by omega
    obtain ⟨b,off,rfl,hcj⟩:=hpc j hlt;have hno:¬ (0<=ps.getD j 0/\ps.getD j 0<=9999)->Hid (paramsB ps=false):=fun h=>paramsB_no j hlt h
    have hstep:(0<=ps.getD j 0/\ps.getD j 0<=9999)->Hid (∀ k,k<j+1->0<=ps.getD k 0/\ps.getD k 0<=9999):=fun h=>(show ∀ k,k<j+1->0<=ps.getD k 0/\ps.getD k 0<=9999 from fun k hk=>by
     by_cases e:k=j
     ·rw [e];exact h
     ·exact hall.out k (by omega))
    have hin:=fun W=>l1In_any (ps.getD j 0) 0 9999 W
    clear hpc hall;generalize ps.getD j 0=x at *
    by_cases hx:0<=x/\x<=9999
    ·have hall2:=hstep hx
     rw [decide_eq_true hx] at hin
     clear hno hstep hx;go_wp2_with (go_at_call 73;refine (hin _).mono ?_;rintro e w' ⟨rfl,rfl⟩);go_round
     case rel=>exact ⟨j+1,by go_num,by omega,hall2⟩
     case measure=>simp [intOf];omega
    ·have hV:Hid (rv=false):=by show _=_;rw [hV0.out,(hno hx).out]
     rw [decide_eq_false hx] at hin
     clear hno hstep hx;go_wp2_with (go_at_call 73;refine (hin _).mono ?_;rintro e w' ⟨rfl,rfl⟩);go_ret;exact ⟨by rw [hV.out];rfl,hb0⟩
   ·have hjn:j=ps.length:=by omega
    have hji:¬ (j:Int)<(ps.length:Int):=by omega
    have hV:Hid (rv=true):=by show _=_;rw [hV0.out];exact paramsB_yes (by rw [<- hjn];exact hall.out)
    clear hpc hall hjn;go_wp2;go_ret;exact ⟨by rw [hV.out];rfl,hb0⟩
 by_cases m63:m=63
 ·subst m63
  rw [hrt] at hR1
  cases rt
  case false =>
   have hV:Hid (rv=false):=by show _=_;rw [hval.out,decide_eq_true hl];simp
   clear hval hrt hpc hl;go_enter Tryz.func61,Tryz.ntmps61;refine wp_seq_k (fun K hK=>?_);have hH:=(show Hid _ from hK);clear hK;go_wp2;refine hH.out _ _ ?_;rw [<- hW.out]
   clear hH hW;go_wp2_with (first|(go_at_call 140;refine hRu.mono ?_;rintro e w' ⟨rfl,rfl⟩)|(go_at_call 75;refine hR1.mono ?_;rintro e w' ⟨rfl,rfl⟩));go_ret;exact ⟨by rw [hV.out];rfl,hb0⟩
  have hV0:Hid (rv=paramsB ps):=by show _=_;rw [hval.out,decide_eq_true hl];simp
  clear hval hrt hl;go_enter Tryz.func61,Tryz.ntmps61;refine wp_seq_k (fun K hK=>?_);have hH:=(show Hid _ from hK);clear hK;go_wp2;refine hH.out _ _ ?_;rw [<- hW.out]
  clear hH hW;go_wp2_with (first|(go_at_call 140;refine hRu.mono ?_;rintro e w' ⟨rfl,rfl⟩)|(go_at_call 75;refine hR1.mono ?_;rintro e w' ⟨rfl,rfl⟩));clear hRu hR1;go_loop [2,3] (fun _ i=>∃ j:Nat,i=.int .i64 j/\j<=ps.length/\Hid (∀ k,k<j->0<=ps.getD k 0/\ps.getD k 0<=9999)) (fun _ i=>ps.length-(intOf i).toNat)
  case atStart=>exact ⟨0,rfl,Nat.zero_le _,(fun k hk=>absurd hk (Nat.not_lt_zero k))⟩
  case round =>
   obtain ⟨j,rfl,hj,hall⟩:=hrel
   by_cases hlt:j<ps.length
   ·have hji:(j:Int)<(ps.length:Int):=by omega
    have hj0:(0:Int)<=(j:Int):=by omega
    obtain ⟨b,off,rfl,hcj⟩:=hpc j hlt;have hno:¬ (0<=ps.getD j 0/\ps.getD j 0<=9999)->Hid (paramsB ps=false):=fun h=>paramsB_no j hlt h
    have hstep:(0<=ps.getD j 0/\ps.getD j 0<=9999)->Hid (∀ k,k<j+1->0<=ps.getD k 0/\ps.getD k 0<=9999):=fun h=>(show ∀ k,k<j+1->0<=ps.getD k 0/\ps.getD k 0<=9999 from fun k hk=>by
     by_cases e:k=j
     ·rw [e];exact h
     ·exact hall.out k (by omega))
    have hin:=fun W=>l1In_any (ps.getD j 0) 0 9999 W
    clear hpc hall;generalize ps.getD j 0=x at *
    by_cases hx:0<=x/\x<=9999
    ·have hall2:=hstep hx
     rw [decide_eq_true hx] at hin
     clear hno hstep hx;go_wp2_with (go_at_call 73;refine (hin _).mono ?_;rintro e w' ⟨rfl,rfl⟩);go_round
     case rel=>exact ⟨j+1,by go_num,by omega,hall2⟩
     case measure=>simp [intOf];omega
    ·have hV:Hid (rv=false):=by show _=_;rw [hV0.out,(hno hx).out]
     rw [decide_eq_false hx] at hin
     clear hno hstep hx;go_wp2_with (go_at_call 73;refine (hin _).mono ?_;rintro e w' ⟨rfl,rfl⟩);go_ret;exact ⟨by rw [hV.out];rfl,hb0⟩
   ·have hjn:j=ps.length:=by omega
    have hji:¬ (j:Int)<(ps.length:Int):=by omega
    have hV:Hid (rv=true):=by show _=_;rw [hV0.out];exact paramsB_yes (by rw [<- hjn];exact hall.out)
    clear hpc hall hjn;go_wp2;go_ret;exact ⟨by rw [hV.out];rfl,hb0⟩
 have hV:Hid (rv=false):=by show _=_;rw [hval.out,decide_eq_false (show ¬ (m=0\/m=63) by omega)];simp
 have q0:(m==0)=false:=by simp [m0]
 have q63:(m==63)=false:=by simp [m63]
 have q1:(m != 0)=true:=by simp [m0]
 have q2:(m != 63)=true:=by simp [m63]
 clear hval hrt hpc;go_enter Tryz.func61,Tryz.ntmps61;refine wp_seq_k (fun K hK=>?_);have hH:=(show Hid _ from hK);clear hK;go_wp2;refine hH.out _ _ ?_;rw [<- hW.out]
 clear hH hW;go_wp2_with (first|(go_at_call 140;refine hRu.mono ?_;rintro e w' ⟨rfl,rfl⟩)|(go_at_call 75;refine hR1.mono ?_;rintro e w' ⟨rfl,rfl⟩));go_ret;exact ⟨by rw [hV.out];rfl,hb0⟩
theorem clearL_whole (x y:List Ce) (n:Nat) (s:St) (hx:x.length=n) (hy:y.length=n):clearL x 0 n s=clearL y 0 n s:=by
 unfold clearL
 have e:fillUp x 0 n s=fillUp y 0 n s:=by
  refine List.ext_getElem (by rw [fillUp_len,fillUp_len,hx,hy]) fun i h1 h2=>?_
  rw [fillUp_len,hx] at h1
  simp [fillUp,h1,hx,hy]
 rw [e]
def eaP (t:Te) (how:Int) (i:Nat):Prop:=how=2\/how=0/\t.row<(i:Int)\/how=1/\(i:Int)<t.row
instance (t:Te) (how:Int) (i:Nat):Decidable (eaP t how i):=by unfold eaP;infer_instance
def eaG (t:Te) (how:Int) (cn j:Nat):List (List Ce):=genR t.g.length fun i=>if i<j/\eaP t how i then clearL (rowX (Go.Proofs.YtgcnmjjlmcnllaaGreatDoor.eraseRow t how).g i) 0 cn (backS t.st) else rowX (Go.Proofs.YtgcnmjjlmcnllaaGreatDoor.eraseRow t how).g i
theorem eaG_len (t:Te) (how:Int) (cn j:Nat):(eaG t how cn j).length=t.g.length:=genR_len _ _
theorem eaG_at (t:Te) (how:Int) (cn j i:Nat) (hi:i<t.g.length):rowX (eaG t how cn j) i=if i<j/\eaP t how i then clearL (rowX (Go.Proofs.YtgcnmjjlmcnllaaGreatDoor.eraseRow t how).g i) 0 cn (backS t.st) else rowX (Go.Proofs.YtgcnmjjlmcnllaaGreatDoor.eraseRow t how).g i:=genR_at _ _ _ hi
theorem eraseRow_len (t:Te) (how:Int):(Go.Proofs.YtgcnmjjlmcnllaaGreatDoor.eraseRow t how).g.length=t.g.length:=by
 unfold Go.Proofs.YtgcnmjjlmcnllaaGreatDoor.eraseRow clearT Go.Proofs.YtgcnmjjlmcnllaaGreatDoor.rowT;split
 ·simp
 split
 ·simp
 split
 ·simp
 rfl
theorem eraseRow_g (t:Te) (how:Int):{ t with g:=(Go.Proofs.YtgcnmjjlmcnllaaGreatDoor.eraseRow t how).g }=Go.Proofs.YtgcnmjjlmcnllaaGreatDoor.eraseRow t how:=by
 unfold Go.Proofs.YtgcnmjjlmcnllaaGreatDoor.eraseRow clearT Go.Proofs.YtgcnmjjlmcnllaaGreatDoor.rowT;split
 ·rfl
 split
 ·rfl
 split<;>rfl
theorem eraseRow_rl (t:Te) (how:Int) (i:Nat) (_hi:i<t.g.length):(rowX (Go.Proofs.YtgcnmjjlmcnllaaGreatDoor.eraseRow t how).g i).length=(rowX t.g i).length:=by
 have hs:∀ (r:Nat) (xs:List Ce),xs.length=(rowX t.g r).length->(rowX (t.g.set r xs) i).length=(rowX t.g i).length:=fun r xs hx=>by
  by_cases hr:r<t.g.length
  ·rw [rowX_same _ _ _ _ hr]
   split
   ·rename_i e;rw [hx,e]
   ·rfl
  ·rw [List.set_eq_of_length_le (by omega)]
 unfold Go.Proofs.YtgcnmjjlmcnllaaGreatDoor.eraseRow clearT Go.Proofs.YtgcnmjjlmcnllaaGreatDoor.rowT;split
 ·exact hs _ _ (clearL_len _ _ _ _)
 split
 ·exact hs _ _ (clearL_len _ _ _ _)
 split
 ·exact hs _ _ (clearL_len _ _ _ _)
 rfl
theorem eaG_zero (t:Te) (how:Int) (cn:Nat):({ t with g:=eaG t how cn 0 }:Te)=Go.Proofs.YtgcnmjjlmcnllaaGreatDoor.eraseRow t how:=by
 rw [<- eraseRow_g]
 congr 1
 refine ext_rowX _ _ (by rw [eaG_len,eraseRow_len]) fun i hi=>?_
 rw [eaG_len] at hi
 rw [eaG_at _ _ _ _ _ hi,if_neg (by omega)]
theorem eaG_skip (t:Te) (how:Int) (cn j:Nat) (hp:¬ eaP t how j):eaG t how cn (j+1)=eaG t how cn j :=
 ext_rowX _ _ (by rw [eaG_len,eaG_len]) fun i hi=>by
  rw [eaG_len] at hi
  rw [eaG_at _ _ _ _ _ hi,eaG_at _ _ _ _ _ hi]
  by_cases e:i=j
  ·subst e;rw [if_neg (fun e=>hp e.2),if_neg (by omega)]
  ·by_cases c:i<j/\eaP t how i
   ·rw [if_pos ⟨by omega,c.2⟩,if_pos c]
   ·rw [if_neg (fun q=>c ⟨by omega,q.2⟩),if_neg c]
theorem eaG_step (t:Te) (how:Int) (cn j:Nat) (hj:j<t.g.length) (hp:eaP t how j):clearT { t with g:=eaG t how cn j } (j:Int) 0 (cn:Int)={ t with g:=eaG t how cn (j+1) }:=by
 unfold clearT Go.Proofs.YtgcnmjjlmcnllaaGreatDoor.rowT;simp only;rw [Int.toNat_natCast,Int.toNat_natCast,eaG_at _ _ _ _ _ hj,if_neg (by omega)]
 congr 1
 refine ext_rowX _ _ (by rw [List.length_set,eaG_len,eaG_len]) fun i hi=>?_
 rw [List.length_set,eaG_len] at hi
 rw [rowX_same _ _ _ _ (by rw [eaG_len];exact hj),eaG_at _ _ _ _ _ hi,eaG_at _ _ _ _ _ hi]
 by_cases e:i=j
 ·subst e;rw [if_pos rfl,if_pos ⟨by omega,hp⟩];rfl
 ·rw [if_neg e]
  by_cases c:i<j/\eaP t how i
  ·rw [if_pos c,if_pos ⟨by omega,c.2⟩]
  ·rw [if_neg c,if_neg (fun q=>c ⟨by omega,q.2⟩)]
theorem eaG_end {t:Te} {cn N:Nat} (rt:RtW t cn N) (how:Int):({ t with g:=eaG t how cn N }:Te)=Go.Proofs.YtgcnmjjlmcnllaaGreatDoor.eraseAll t how:=by
 have hN:=rt.n;unfold Go.Proofs.YtgcnmjjlmcnllaaGreatDoor.eraseAll
 congr 1
 refine ext_rowX _ _ (by rw [eaG_len,genR_len]) fun i hi=>?_
 rw [eaG_len] at hi
 rw [eaG_at _ _ _ _ _ hi,genR_at _ _ _ hi]
 by_cases c:eaP t how i
 ·rw [if_pos ⟨by omega,c⟩,rt.gc,Int.toNat_natCast]
  unfold eaP at c;rw [if_pos c]
  exact clearL_whole _ _ _ _ (by rw [eraseRow_rl _ _ _ hi];exact rt.gx i (by omega)) (rt.gx i (by omega))
 ·rw [if_neg (fun q=>c q.2)]
  unfold eaP at c;rw [if_neg c]
theorem RtW.ea {t:Te} {cn N:Nat} (rt:RtW t cn N) (how:Int) (j:Nat):RtW { t with g:=eaG t how cn j } cn N :=
 ⟨rt.gc,rt.oc,rt.c,by rw [<- rt.n];exact eaG_len _ _ _ _,rt.m,rt.n1,fun i hi=>by
  have hi2:i<t.g.length:=by rw [rt.n];exact hi
  show (rowX (eaG t how cn j) i).length=cn
  rw [eaG_at _ _ _ _ _ hi2]
  split
  ·rw [clearL_len,eraseRow_rl _ _ _ hi2];exact rt.gx i hi
  ·rw [eraseRow_rl _ _ _ hi2];exact rt.gx i hi,rt.ox,rt.row,rt.col,rt.tb⟩
theorem l7Erase_0f (cn N base B:Nat) (t:Te) (v:Tv) (vg vo:List Value) (w:World) (h:Scr w 35 base B [] t v vg vo) (hbase:base<=w.heap.size) (rt:RtW t cn N) :
  Calls Tryz.prog 214 #[.pointer (some ⟨B,0,none⟩),.int .i64 0,.bool false] w fun e w'=>e=.returned (.tuple #[])/\∃ v' vg' vo',Res w w' 35 base B [] v vg vo (if false=true then Go.Proofs.YtgcnmjjlmcnllaaGreatDoor.eraseAll t 0 else Go.Proofs.YtgcnmjjlmcnllaaGreatDoor.eraseRow t 0) v' vg' vo':=by
 have hrow:=rt.row;have hcol:=rt.col;have hcc:=rt.c;have hn1:=rt.n1;have c0:w.cell? ⟨B,0,none⟩=some (.int .i64 (cn:Int)):=by rw [<- rt.gc];exact h.cell 0
 have c4:w.cell? ⟨B,4,none⟩=some (.int .i64 t.row):=h.cell 4;have c5:w.cell? ⟨B,5,none⟩=some (.int .i64 t.col):=h.cell 5
 have hin:∀ (j:Nat) (wr:World) (v':Tv) (vg' vo':List Value),Res w wr 35 base B [] v vg vo { t with g:=eaG t 0 cn j } v' vg' vo'->wr.cell? ⟨B,4,none⟩=some (.int .i64 t.row)/\∃ a c,wr.cell? ⟨B,1,none⟩=some (.slice a N c):=fun j wr v' vg' vo' hr=>by
  refine ⟨hr.s.cell 4,?_⟩;obtain ⟨a,c,e⟩:=slG_shp (SlG.of_own hr.s.o.1.g);have en:(eaG t 0 cn j).length=N:=by rw [eaG_len];exact rt.n
  refine ⟨a,c,?_⟩;rw [hr.s.cell 1]
  show some v'.g=_
  rw [e]
  show some (Value.slice a (eaG t 0 cn j).length c)=_
  rw [en]
 have hE:clearT t t.row t.col (cn:Int)=Go.Proofs.YtgcnmjjlmcnllaaGreatDoor.eraseRow t 0:=by rw [<- rt.gc];rfl
 have hd:=bdr w;have hcl:=l7Clear_any cn N base B t v vg vo w.drew (h.below hd) (Nat.le_trans hbase hd.size) rt t.row t.col (cn:Int) (by omega) (by omega);rw [hE] at hcl
 have cf:∀ W,Below w.heap.size w W->W.cell? ⟨B,4,none⟩=some (.int .i64 t.row)/\W.cell? ⟨B,5,none⟩=some (.int .i64 t.col):=fun W hb=>⟨(h.below hb).cell 4,(h.below hb).cell 5⟩
 have cg:∀ W v1 vg1 vo1,Res w.drew W 35 base B [] v vg vo (Go.Proofs.YtgcnmjjlmcnllaaGreatDoor.eraseRow t 0) v1 vg1 vo1->W.cell? ⟨B,4,none⟩=some (.int .i64 t.row)/\W.cell? ⟨B,5,none⟩=some (.int .i64 t.col):=fun W v1 vg1 vo1 r=>by
  rw [<- hE] at r
  exact ⟨r.s.cell 4,r.s.cell 5⟩
 clear hE;go_enter Tryz.func214,Tryz.ntmps214;go_wp2;clear c0 c4 c5;refine wp_region_noPanic ?_;refine wp_region_held_drew (S:=(fun W=>W.cell? ⟨B,4,none⟩=some (.int .i64 t.row)/\W.cell? ⟨B,5,none⟩=some (.int .i64 t.col))) (by kernel_rfl) (cf _ hd) (fun hHeld=>?_);refine tk 0 ?_;refine tk 1 ?_;refine tk 2 ?_;refine tk 3 ?_;refine tk 4 ?_;refine tk 5 ?_;refine tk 6 ?_;refine tk 7 ?_;refine tk 8 ?_;refine tk 9 ?_;refine rd 10 fun K hK=>?_
 go_simp;refine hcl.mono ?_;rintro e w1 ⟨rfl,v1,vg1,vo1,hR⟩;go_wp2_with fail;refine hK.out _ _ (cg _ _ _ _ hR) (fun hHeld=>?_);clear hK K
 (try simp only [Act.put,ZA,ZB,ZC,ZD,ZE,ZF])
 refine dn ?_;replace hR:=(Res.of_below h hd).trans hR;clear hcl cf cg hd hHeld;have hK:=(show Hid (Res w _ 35 base B [] v vg vo { t with g:=eaG t 0 cn 0 } _ _ _) from by rw [eaG_zero];exact hR);clear hR;go_wp2;go_loopw [7] (fun i wr=>∃ (j:Nat) (v':Tv) (vg' vo':List Value),i=.int .i64 j/\j<=N/\Hid (false=false->j=0)/\Hid (Res w wr 35 base B [] v vg vo { t with g:=eaG t 0 cn j } v' vg' vo')) (fun i _=>N-(intOf i).toNat)
 case atStart=>exact ⟨0,_,_,_,rfl,Nat.zero_le _,(fun _=>rfl),hK⟩
 case round =>
  clear hK;obtain ⟨j,v',vg',vo',rfl,hj,hz,hK⟩:=hrel;obtain ⟨c4,la,lc,hlc⟩:=hin j wr v' vg' vo' hK.out;have hla:=l7Last_any B la N lc wr hlc (by omega);have hj0:(0:Int)<=(j:Int):=by omega
  obtain rfl:j=0:=hz.out rfl;clear hin hz
  by_cases hle:(0:Int)<=(N:Int)-1
  ·rw [eaG_zero] at hK
   go_wp2_with fail;refine hla.mono ?_;rintro e wk ⟨rfl,hw⟩;subst hw;clear hla hlc c4;go_wp2;refine be ?_;exact ⟨rfl,_,_,_,hK.out⟩
  ·omega
theorem l7Erase_0t (cn N base B:Nat) (t:Te) (v:Tv) (vg vo:List Value) (w:World) (h:Scr w 35 base B [] t v vg vo) (hbase:base<=w.heap.size) (rt:RtW t cn N) :
  Calls Tryz.prog 214 #[.pointer (some ⟨B,0,none⟩),.int .i64 0,.bool true] w fun e w'=>e=.returned (.tuple #[])/\∃ v' vg' vo',Res w w' 35 base B [] v vg vo (if true=true then Go.Proofs.YtgcnmjjlmcnllaaGreatDoor.eraseAll t 0 else Go.Proofs.YtgcnmjjlmcnllaaGreatDoor.eraseRow t 0) v' vg' vo':=by
 have hrow:=rt.row;have hcol:=rt.col;have hcc:=rt.c;have hn1:=rt.n1;have c0:w.cell? ⟨B,0,none⟩=some (.int .i64 (cn:Int)):=by rw [<- rt.gc];exact h.cell 0
 have c4:w.cell? ⟨B,4,none⟩=some (.int .i64 t.row):=h.cell 4;have c5:w.cell? ⟨B,5,none⟩=some (.int .i64 t.col):=h.cell 5
 have hin:∀ (j:Nat) (wr:World) (v':Tv) (vg' vo':List Value),Res w wr 35 base B [] v vg vo { t with g:=eaG t 0 cn j } v' vg' vo'->wr.cell? ⟨B,4,none⟩=some (.int .i64 t.row)/\∃ a c,wr.cell? ⟨B,1,none⟩=some (.slice a N c):=fun j wr v' vg' vo' hr=>by
  refine ⟨hr.s.cell 4,?_⟩;obtain ⟨a,c,e⟩:=slG_shp (SlG.of_own hr.s.o.1.g);have en:(eaG t 0 cn j).length=N:=by rw [eaG_len];exact rt.n
  refine ⟨a,c,?_⟩;rw [hr.s.cell 1]
  show some v'.g=_
  rw [e]
  show some (Value.slice a (eaG t 0 cn j).length c)=_
  rw [en]
 have hE:clearT t t.row t.col (cn:Int)=Go.Proofs.YtgcnmjjlmcnllaaGreatDoor.eraseRow t 0:=by rw [<- rt.gc];rfl
 have hd:=bdr w;have hcl:=l7Clear_any cn N base B t v vg vo w.drew (h.below hd) (Nat.le_trans hbase hd.size) rt t.row t.col (cn:Int) (by omega) (by omega);rw [hE] at hcl
 have cf:∀ W,Below w.heap.size w W->W.cell? ⟨B,4,none⟩=some (.int .i64 t.row)/\W.cell? ⟨B,5,none⟩=some (.int .i64 t.col):=fun W hb=>⟨(h.below hb).cell 4,(h.below hb).cell 5⟩
 have cg:∀ W v1 vg1 vo1,Res w.drew W 35 base B [] v vg vo (Go.Proofs.YtgcnmjjlmcnllaaGreatDoor.eraseRow t 0) v1 vg1 vo1->W.cell? ⟨B,4,none⟩=some (.int .i64 t.row)/\W.cell? ⟨B,5,none⟩=some (.int .i64 t.col):=fun W v1 vg1 vo1 r=>by
  rw [<- hE] at r
  exact ⟨r.s.cell 4,r.s.cell 5⟩
 clear hE;go_enter Tryz.func214,Tryz.ntmps214;go_wp2;clear c0 c4 c5;refine wp_region_noPanic ?_;refine wp_region_held_drew (S:=(fun W=>W.cell? ⟨B,4,none⟩=some (.int .i64 t.row)/\W.cell? ⟨B,5,none⟩=some (.int .i64 t.col))) (by kernel_rfl) (cf _ hd) (fun hHeld=>?_);refine tk 0 ?_;refine tk 1 ?_;refine tk 2 ?_;refine tk 3 ?_;refine tk 4 ?_;refine tk 5 ?_;refine tk 6 ?_;refine tk 7 ?_;refine tk 8 ?_;refine tk 9 ?_;refine rd 10 fun K hK=>?_
 go_simp;refine hcl.mono ?_;rintro e w1 ⟨rfl,v1,vg1,vo1,hR⟩;go_wp2_with fail;refine hK.out _ _ (cg _ _ _ _ hR) (fun hHeld=>?_);clear hK K
 (try simp only [Act.put,ZA,ZB,ZC,ZD,ZE,ZF])
 refine dn ?_;replace hR:=(Res.of_below h hd).trans hR;clear hcl cf cg hd hHeld;have hK:=(show Hid (Res w _ 35 base B [] v vg vo { t with g:=eaG t 0 cn 0 } _ _ _) from by rw [eaG_zero];exact hR);clear hR;go_wp2;go_loopw [7] (fun i wr=>∃ (j:Nat) (v':Tv) (vg' vo':List Value),i=.int .i64 j/\j<=N/\Hid (true=false->j=0)/\Hid (Res w wr 35 base B [] v vg vo { t with g:=eaG t 0 cn j } v' vg' vo')) (fun i _=>N-(intOf i).toNat)
 case atStart=>exact ⟨0,_,_,_,rfl,Nat.zero_le _,(fun _=>rfl),hK⟩
 case round =>
  clear hK;obtain ⟨j,v',vg',vo',rfl,hj,hz,hK⟩:=hrel;obtain ⟨c4,la,lc,hlc⟩:=hin j wr v' vg' vo' hK.out;have hla:=l7Last_any B la N lc wr hlc (by omega);have hj0:(0:Int)<=(j:Int):=by omega
  by_cases hlt:j<N
  ·have hle:(j:Int)<=(N:Int)-1:=by omega
   have hbj:base<=wr.heap.size:=Nat.le_trans hbase hK.out.g.size
   by_cases hc:t.row<(j:Int)
   ·have hcl:=l7Clear_any cn N base B { t with g:=eaG t 0 cn j } v' vg' vo' wr hK.out.s hbj (rt.ea 0 j) (j:Int) 0 (cn:Int) (by omega) (by omega)
    rw [eaG_step t 0 cn j (by rw [rt.n];exact hlt) (.inr (.inl ⟨rfl,hc⟩))] at hcl
    have hnx:=fun W v2 g2 o2 (r:Res wr W 35 base B [] v' vg' vo' { t with g:=eaG t 0 cn (j+1) } v2 g2 o2)=>(show Hid (Res w W 35 base B [] v vg vo { t with g:=eaG t 0 cn (j+1) } v2 g2 o2) from hK.out.trans r)
    clear hK hin hz hbj rt hbase h hlc;go_wp2_with fail;refine hla.mono ?_;rintro e wk ⟨rfl,hw⟩;subst hw;clear hla;go_wp2_with fail;refine hcl.mono ?_;rintro e w2 ⟨rfl,v2,g2,o2,hR⟩;have hF:=hnx _ _ _ _ hR;clear hcl hnx hR c4;go_wp2;go_roundw
    case rel=>exact ⟨j+1,v2,g2,o2,by go_num,by omega,(fun e=>by simp at e),hF⟩
    case measure=>simp [intOf];omega
   ·rw [<- eaG_skip t 0 cn j (fun e=>by unfold eaP at e;omega)] at hK
    clear hin hz hbj rt hbase h hlc;go_wp2_with fail;refine hla.mono ?_;rintro e wk ⟨rfl,hw⟩;subst hw;clear hla;go_wp2;go_roundw
    case rel=>exact ⟨j+1,_,_,_,by go_num,by omega,(fun e=>by simp at e),hK⟩
    case measure=>simp [intOf];omega
  ·have hle:¬ (j:Int)<=(N:Int)-1:=by omega
   obtain rfl:j=N:=by omega
   rw [eaG_end rt 0] at hK
   clear hin hz;go_wp2_with fail;refine hla.mono ?_;rintro e wk ⟨rfl,hw⟩;subst hw;clear hla hlc c4;go_wp2;refine be ?_;exact ⟨rfl,_,_,_,hK.out⟩
theorem l7Erase_1f (cn N base B:Nat) (t:Te) (v:Tv) (vg vo:List Value) (w:World) (h:Scr w 35 base B [] t v vg vo) (hbase:base<=w.heap.size) (rt:RtW t cn N) :
  Calls Tryz.prog 214 #[.pointer (some ⟨B,0,none⟩),.int .i64 1,.bool false] w fun e w'=>e=.returned (.tuple #[])/\∃ v' vg' vo',Res w w' 35 base B [] v vg vo (if false=true then Go.Proofs.YtgcnmjjlmcnllaaGreatDoor.eraseAll t 1 else Go.Proofs.YtgcnmjjlmcnllaaGreatDoor.eraseRow t 1) v' vg' vo':=by
 have hrow:=rt.row;have hcol:=rt.col;have hcc:=rt.c;have hn1:=rt.n1;have c0:w.cell? ⟨B,0,none⟩=some (.int .i64 (cn:Int)):=by rw [<- rt.gc];exact h.cell 0
 have c4:w.cell? ⟨B,4,none⟩=some (.int .i64 t.row):=h.cell 4;have c5:w.cell? ⟨B,5,none⟩=some (.int .i64 t.col):=h.cell 5
 have hin:∀ (j:Nat) (wr:World) (v':Tv) (vg' vo':List Value),Res w wr 35 base B [] v vg vo { t with g:=eaG t 1 cn j } v' vg' vo'->wr.cell? ⟨B,4,none⟩=some (.int .i64 t.row)/\∃ a c,wr.cell? ⟨B,1,none⟩=some (.slice a N c):=fun j wr v' vg' vo' hr=>by
  refine ⟨hr.s.cell 4,?_⟩;obtain ⟨a,c,e⟩:=slG_shp (SlG.of_own hr.s.o.1.g);have en:(eaG t 1 cn j).length=N:=by rw [eaG_len];exact rt.n
  refine ⟨a,c,?_⟩;rw [hr.s.cell 1]
  show some v'.g=_
  rw [e]
  show some (Value.slice a (eaG t 1 cn j).length c)=_
  rw [en]
 have hE:clearT t t.row 0 (t.col+1)=Go.Proofs.YtgcnmjjlmcnllaaGreatDoor.eraseRow t 1:=by rfl
 have hw:IntKind.i64.wrap (t.col+1)=t.col+1:=by simp [IntKind.wrap,IntKind.bits,IntKind.signed];omega
 have hd:=bdr w;have hcl:=l7Clear_any cn N base B t v vg vo w.drew (h.below hd) (Nat.le_trans hbase hd.size) rt t.row 0 (t.col+1) (by omega) (by omega);rw [hE] at hcl
 have cf:∀ W,Below w.heap.size w W->W.cell? ⟨B,4,none⟩=some (.int .i64 t.row)/\W.cell? ⟨B,5,none⟩=some (.int .i64 t.col):=fun W hb=>⟨(h.below hb).cell 4,(h.below hb).cell 5⟩
 have cg:∀ W v1 vg1 vo1,Res w.drew W 35 base B [] v vg vo (Go.Proofs.YtgcnmjjlmcnllaaGreatDoor.eraseRow t 1) v1 vg1 vo1->W.cell? ⟨B,4,none⟩=some (.int .i64 t.row)/\W.cell? ⟨B,5,none⟩=some (.int .i64 t.col):=fun W v1 vg1 vo1 r=>by
  rw [<- hE] at r
  exact ⟨r.s.cell 4,r.s.cell 5⟩
 clear hE;go_enter Tryz.func214,Tryz.ntmps214;go_wp2;clear c0 c4 c5;refine wp_region_noPanic ?_;refine wp_region_held_drew (S:=(fun W=>W.cell? ⟨B,4,none⟩=some (.int .i64 t.row)/\W.cell? ⟨B,5,none⟩=some (.int .i64 t.col))) (by kernel_rfl) (cf _ hd) (fun hHeld=>?_);refine tk 0 ?_;refine tk 1 ?_;refine tk 2 ?_;refine tk 3 ?_;refine tk 4 ?_;refine tk 5 ?_;refine tk 6 ?_;refine tk 7 ?_;refine tk 8 ?_;refine tk 9 ?_;refine rd 10 fun K hK=>?_
 go_simp;refine hcl.mono ?_;rintro e w1 ⟨rfl,v1,vg1,vo1,hR⟩;go_wp2_with fail;refine hK.out _ _ (cg _ _ _ _ hR) (fun hHeld=>?_);clear hK K
 (try simp only [Act.put,ZA,ZB,ZC,ZD,ZE,ZF])
 refine dn ?_;replace hR:=(Res.of_below h hd).trans hR;clear hcl cf cg hd hHeld;have hK:=(show Hid (Res w _ 35 base B [] v vg vo { t with g:=eaG t 1 cn 0 } _ _ _) from by rw [eaG_zero];exact hR);clear hR;go_wp2;go_loopw [7] (fun i wr=>∃ (j:Nat) (v':Tv) (vg' vo':List Value),i=.int .i64 j/\j<=N/\Hid (false=false->j=0)/\Hid (Res w wr 35 base B [] v vg vo { t with g:=eaG t 1 cn j } v' vg' vo')) (fun i _=>N-(intOf i).toNat)
 case atStart=>exact ⟨0,_,_,_,rfl,Nat.zero_le _,(fun _=>rfl),hK⟩
 case round =>
  clear hK;obtain ⟨j,v',vg',vo',rfl,hj,hz,hK⟩:=hrel;obtain ⟨c4,la,lc,hlc⟩:=hin j wr v' vg' vo' hK.out;have hla:=l7Last_any B la N lc wr hlc (by omega);have hj0:(0:Int)<=(j:Int):=by omega
  obtain rfl:j=0:=hz.out rfl;clear hin hz
  by_cases hle:(0:Int)<=(N:Int)-1
  ·rw [eaG_zero] at hK
   go_wp2_with fail;refine hla.mono ?_;rintro e wk ⟨rfl,hw⟩;subst hw;clear hla hlc c4;go_wp2;refine be ?_;exact ⟨rfl,_,_,_,hK.out⟩
  ·omega
theorem l7Erase_1t (cn N base B:Nat) (t:Te) (v:Tv) (vg vo:List Value) (w:World) (h:Scr w 35 base B [] t v vg vo) (hbase:base<=w.heap.size) (rt:RtW t cn N) :
  Calls Tryz.prog 214 #[.pointer (some ⟨B,0,none⟩),.int .i64 1,.bool true] w fun e w'=>e=.returned (.tuple #[])/\∃ v' vg' vo',Res w w' 35 base B [] v vg vo (if true=true then Go.Proofs.YtgcnmjjlmcnllaaGreatDoor.eraseAll t 1 else Go.Proofs.YtgcnmjjlmcnllaaGreatDoor.eraseRow t 1) v' vg' vo':=by
 have hrow:=rt.row;have hcol:=rt.col;have hcc:=rt.c;have hn1:=rt.n1;have c0:w.cell? ⟨B,0,none⟩=some (.int .i64 (cn:Int)):=by rw [<- rt.gc];exact h.cell 0
 have c4:w.cell? ⟨B,4,none⟩=some (.int .i64 t.row):=h.cell 4;have c5:w.cell? ⟨B,5,none⟩=some (.int .i64 t.col):=h.cell 5
 have hin:∀ (j:Nat) (wr:World) (v':Tv) (vg' vo':List Value),Res w wr 35 base B [] v vg vo { t with g:=eaG t 1 cn j } v' vg' vo'->wr.cell? ⟨B,4,none⟩=some (.int .i64 t.row)/\∃ a c,wr.cell? ⟨B,1,none⟩=some (.slice a N c):=fun j wr v' vg' vo' hr=>by
  refine ⟨hr.s.cell 4,?_⟩;obtain ⟨a,c,e⟩:=slG_shp (SlG.of_own hr.s.o.1.g);have en:(eaG t 1 cn j).length=N:=by rw [eaG_len];exact rt.n
  refine ⟨a,c,?_⟩;rw [hr.s.cell 1]
  show some v'.g=_
  rw [e]
  show some (Value.slice a (eaG t 1 cn j).length c)=_
  rw [en]
 have hE:clearT t t.row 0 (t.col+1)=Go.Proofs.YtgcnmjjlmcnllaaGreatDoor.eraseRow t 1:=by rfl
 have hw:IntKind.i64.wrap (t.col+1)=t.col+1:=by simp [IntKind.wrap,IntKind.bits,IntKind.signed];omega
 have hd:=bdr w;have hcl:=l7Clear_any cn N base B t v vg vo w.drew (h.below hd) (Nat.le_trans hbase hd.size) rt t.row 0 (t.col+1) (by omega) (by omega);rw [hE] at hcl
 have cf:∀ W,Below w.heap.size w W->W.cell? ⟨B,4,none⟩=some (.int .i64 t.row)/\W.cell? ⟨B,5,none⟩=some (.int .i64 t.col):=fun W hb=>⟨(h.below hb).cell 4,(h.below hb).cell 5⟩
 have cg:∀ W v1 vg1 vo1,Res w.drew W 35 base B [] v vg vo (Go.Proofs.YtgcnmjjlmcnllaaGreatDoor.eraseRow t 1) v1 vg1 vo1->W.cell? ⟨B,4,none⟩=some (.int .i64 t.row)/\W.cell? ⟨B,5,none⟩=some (.int .i64 t.col):=fun W v1 vg1 vo1 r=>by
  rw [<- hE] at r
  exact ⟨r.s.cell 4,r.s.cell 5⟩
 clear hE;go_enter Tryz.func214,Tryz.ntmps214;go_wp2;clear c0 c4 c5;refine wp_region_noPanic ?_;refine wp_region_held_drew (S:=(fun W=>W.cell? ⟨B,4,none⟩=some (.int .i64 t.row)/\W.cell? ⟨B,5,none⟩=some (.int .i64 t.col))) (by kernel_rfl) (cf _ hd) (fun hHeld=>?_);refine tk 0 ?_;refine tk 1 ?_;refine tk 2 ?_;refine tk 3 ?_;refine tk 4 ?_;refine tk 5 ?_;refine tk 6 ?_;refine tk 7 ?_;refine tk 8 ?_;refine tk 9 ?_;refine rd 10 fun K hK=>?_
 go_simp;refine hcl.mono ?_;rintro e w1 ⟨rfl,v1,vg1,vo1,hR⟩;go_wp2_with fail;refine hK.out _ _ (cg _ _ _ _ hR) (fun hHeld=>?_);clear hK K
 (try simp only [Act.put,ZA,ZB,ZC,ZD,ZE,ZF])
 refine dn ?_;replace hR:=(Res.of_below h hd).trans hR;clear hcl cf cg hd hHeld;have hK:=(show Hid (Res w _ 35 base B [] v vg vo { t with g:=eaG t 1 cn 0 } _ _ _) from by rw [eaG_zero];exact hR);clear hR;go_wp2;go_loopw [7] (fun i wr=>∃ (j:Nat) (v':Tv) (vg' vo':List Value),i=.int .i64 j/\j<=N/\Hid (true=false->j=0)/\Hid (Res w wr 35 base B [] v vg vo { t with g:=eaG t 1 cn j } v' vg' vo')) (fun i _=>N-(intOf i).toNat)
 case atStart=>exact ⟨0,_,_,_,rfl,Nat.zero_le _,(fun _=>rfl),hK⟩
 case round =>
  clear hK;obtain ⟨j,v',vg',vo',rfl,hj,hz,hK⟩:=hrel;obtain ⟨c4,la,lc,hlc⟩:=hin j wr v' vg' vo' hK.out;have hla:=l7Last_any B la N lc wr hlc (by omega);have hj0:(0:Int)<=(j:Int):=by omega
  by_cases hlt:j<N
  ·have hle:(j:Int)<=(N:Int)-1:=by omega
   have hbj:base<=wr.heap.size:=Nat.le_trans hbase hK.out.g.size
   by_cases hc:(j:Int)<t.row
   ·have hcl:=l7Clear_any cn N base B { t with g:=eaG t 1 cn j } v' vg' vo' wr hK.out.s hbj (rt.ea 1 j) (j:Int) 0 (cn:Int) (by omega) (by omega)
    rw [eaG_step t 1 cn j (by rw [rt.n];exact hlt) (.inr (.inr ⟨rfl,hc⟩))] at hcl
    have hnx:=fun W v2 g2 o2 (r:Res wr W 35 base B [] v' vg' vo' { t with g:=eaG t 1 cn (j+1) } v2 g2 o2)=>(show Hid (Res w W 35 base B [] v vg vo { t with g:=eaG t 1 cn (j+1) } v2 g2 o2) from hK.out.trans r)
    clear hK hin hz hbj rt hbase h hlc;go_wp2_with fail;refine hla.mono ?_;rintro e wk ⟨rfl,hw⟩;subst hw;clear hla;go_wp2_with fail;refine hcl.mono ?_;rintro e w2 ⟨rfl,v2,g2,o2,hR⟩;have hF:=hnx _ _ _ _ hR;clear hcl hnx hR c4;go_wp2;go_roundw
    case rel=>exact ⟨j+1,v2,g2,o2,by go_num,by omega,(fun e=>by simp at e),hF⟩
    case measure=>simp [intOf];omega
   ·rw [<- eaG_skip t 1 cn j (fun e=>by unfold eaP at e;omega)] at hK
    clear hin hz hbj rt hbase h hlc;go_wp2_with fail;refine hla.mono ?_;rintro e wk ⟨rfl,hw⟩;subst hw;clear hla;go_wp2;go_roundw
    case rel=>exact ⟨j+1,_,_,_,by go_num,by omega,(fun e=>by simp at e),hK⟩
    case measure=>simp [intOf];omega
  ·have hle:¬ (j:Int)<=(N:Int)-1:=by omega
   obtain rfl:j=N:=by omega
   rw [eaG_end rt 1] at hK
   clear hin hz;go_wp2_with fail;refine hla.mono ?_;rintro e wk ⟨rfl,hw⟩;subst hw;clear hla hlc c4;go_wp2;refine be ?_;exact ⟨rfl,_,_,_,hK.out⟩
theorem l7Erase_2f (cn N base B:Nat) (t:Te) (v:Tv) (vg vo:List Value) (w:World) (h:Scr w 35 base B [] t v vg vo) (hbase:base<=w.heap.size) (rt:RtW t cn N) :
  Calls Tryz.prog 214 #[.pointer (some ⟨B,0,none⟩),.int .i64 2,.bool false] w fun e w'=>e=.returned (.tuple #[])/\∃ v' vg' vo',Res w w' 35 base B [] v vg vo (if false=true then Go.Proofs.YtgcnmjjlmcnllaaGreatDoor.eraseAll t 2 else Go.Proofs.YtgcnmjjlmcnllaaGreatDoor.eraseRow t 2) v' vg' vo':=by
 have hrow:=rt.row;have hcol:=rt.col;have hcc:=rt.c;have hn1:=rt.n1;have c0:w.cell? ⟨B,0,none⟩=some (.int .i64 (cn:Int)):=by rw [<- rt.gc];exact h.cell 0
 have c4:w.cell? ⟨B,4,none⟩=some (.int .i64 t.row):=h.cell 4;have c5:w.cell? ⟨B,5,none⟩=some (.int .i64 t.col):=h.cell 5
 have hin:∀ (j:Nat) (wr:World) (v':Tv) (vg' vo':List Value),Res w wr 35 base B [] v vg vo { t with g:=eaG t 2 cn j } v' vg' vo'->wr.cell? ⟨B,4,none⟩=some (.int .i64 t.row)/\∃ a c,wr.cell? ⟨B,1,none⟩=some (.slice a N c):=fun j wr v' vg' vo' hr=>by
  refine ⟨hr.s.cell 4,?_⟩;obtain ⟨a,c,e⟩:=slG_shp (SlG.of_own hr.s.o.1.g);have en:(eaG t 2 cn j).length=N:=by rw [eaG_len];exact rt.n
  refine ⟨a,c,?_⟩;rw [hr.s.cell 1]
  show some v'.g=_
  rw [e]
  show some (Value.slice a (eaG t 2 cn j).length c)=_
  rw [en]
 have hE:clearT t t.row 0 (cn:Int)=Go.Proofs.YtgcnmjjlmcnllaaGreatDoor.eraseRow t 2:=by rw [<- rt.gc];rfl
 have hcl:=l7Clear_any cn N base B t v vg vo w h hbase rt t.row 0 (cn:Int) (by omega) (by omega);rw [hE] at hcl
 clear hE;go_enter Tryz.func214,Tryz.ntmps214;go_wp2_with fail;refine hcl.mono ?_;rintro e w1 ⟨rfl,v1,vg1,vo1,hR⟩;clear hcl c0 c4 c5;have hK:=(show Hid (Res w _ 35 base B [] v vg vo { t with g:=eaG t 2 cn 0 } _ _ _) from by rw [eaG_zero];exact hR);clear hR;go_wp2;go_loopw [7] (fun i wr=>∃ (j:Nat) (v':Tv) (vg' vo':List Value),i=.int .i64 j/\j<=N/\Hid (false=false->j=0)/\Hid (Res w wr 35 base B [] v vg vo { t with g:=eaG t 2 cn j } v' vg' vo')) (fun i _=>N-(intOf i).toNat)
 case atStart=>exact ⟨0,_,_,_,rfl,Nat.zero_le _,(fun _=>rfl),hK⟩
 case round =>
  clear hK;obtain ⟨j,v',vg',vo',rfl,hj,hz,hK⟩:=hrel;obtain ⟨c4,la,lc,hlc⟩:=hin j wr v' vg' vo' hK.out;have hla:=l7Last_any B la N lc wr hlc (by omega);have hj0:(0:Int)<=(j:Int):=by omega
  obtain rfl:j=0:=hz.out rfl;clear hin hz
  by_cases hle:(0:Int)<=(N:Int)-1
  ·rw [eaG_zero] at hK
   go_wp2_with fail;refine hla.mono ?_;rintro e wk ⟨rfl,hw⟩;subst hw;clear hla hlc c4;go_wp2;refine be ?_;exact ⟨rfl,_,_,_,hK.out⟩
  ·omega
theorem l7Erase_2t (cn N base B:Nat) (t:Te) (v:Tv) (vg vo:List Value) (w:World) (h:Scr w 35 base B [] t v vg vo) (hbase:base<=w.heap.size) (rt:RtW t cn N) :
  Calls Tryz.prog 214 #[.pointer (some ⟨B,0,none⟩),.int .i64 2,.bool true] w fun e w'=>e=.returned (.tuple #[])/\∃ v' vg' vo',Res w w' 35 base B [] v vg vo (if true=true then Go.Proofs.YtgcnmjjlmcnllaaGreatDoor.eraseAll t 2 else Go.Proofs.YtgcnmjjlmcnllaaGreatDoor.eraseRow t 2) v' vg' vo':=by
 have hrow:=rt.row;have hcol:=rt.col;have hcc:=rt.c;have hn1:=rt.n1;have c0:w.cell? ⟨B,0,none⟩=some (.int .i64 (cn:Int)):=by rw [<- rt.gc];exact h.cell 0
 have c4:w.cell? ⟨B,4,none⟩=some (.int .i64 t.row):=h.cell 4;have c5:w.cell? ⟨B,5,none⟩=some (.int .i64 t.col):=h.cell 5
 have hin:∀ (j:Nat) (wr:World) (v':Tv) (vg' vo':List Value),Res w wr 35 base B [] v vg vo { t with g:=eaG t 2 cn j } v' vg' vo'->wr.cell? ⟨B,4,none⟩=some (.int .i64 t.row)/\∃ a c,wr.cell? ⟨B,1,none⟩=some (.slice a N c):=fun j wr v' vg' vo' hr=>by
  refine ⟨hr.s.cell 4,?_⟩;obtain ⟨a,c,e⟩:=slG_shp (SlG.of_own hr.s.o.1.g);have en:(eaG t 2 cn j).length=N:=by rw [eaG_len];exact rt.n
  refine ⟨a,c,?_⟩;rw [hr.s.cell 1]
  show some v'.g=_
  rw [e]
  show some (Value.slice a (eaG t 2 cn j).length c)=_
  rw [en]
 have hE:clearT t t.row 0 (cn:Int)=Go.Proofs.YtgcnmjjlmcnllaaGreatDoor.eraseRow t 2:=by rw [<- rt.gc];rfl
 have hcl:=l7Clear_any cn N base B t v vg vo w h hbase rt t.row 0 (cn:Int) (by omega) (by omega);rw [hE] at hcl
 clear hE;go_enter Tryz.func214,Tryz.ntmps214;go_wp2_with fail;refine hcl.mono ?_;rintro e w1 ⟨rfl,v1,vg1,vo1,hR⟩;clear hcl c0 c4 c5;have hK:=(show Hid (Res w _ 35 base B [] v vg vo { t with g:=eaG t 2 cn 0 } _ _ _) from by rw [eaG_zero];exact hR);clear hR;go_wp2;go_loopw [7] (fun i wr=>∃ (j:Nat) (v':Tv) (vg' vo':List Value),i=.int .i64 j/\j<=N/\Hid (true=false->j=0)/\Hid (Res w wr 35 base B [] v vg vo { t with g:=eaG t 2 cn j } v' vg' vo')) (fun i _=>N-(intOf i).toNat)
 case atStart=>exact ⟨0,_,_,_,rfl,Nat.zero_le _,(fun _=>rfl),hK⟩
 case round =>
  clear hK;obtain ⟨j,v',vg',vo',rfl,hj,hz,hK⟩:=hrel;obtain ⟨c4,la,lc,hlc⟩:=hin j wr v' vg' vo' hK.out;have hla:=l7Last_any B la N lc wr hlc (by omega);have hj0:(0:Int)<=(j:Int):=by omega
  by_cases hlt:j<N
  ·have hle:(j:Int)<=(N:Int)-1:=by omega
   have hbj:base<=wr.heap.size:=Nat.le_trans hbase hK.out.g.size;have hcl:=l7Clear_any cn N base B { t with g:=eaG t 2 cn j } v' vg' vo' wr hK.out.s hbj (rt.ea 2 j) (j:Int) 0 (cn:Int) (by omega) (by omega);rw [eaG_step t 2 cn j (by rw [rt.n];exact hlt) (.inl rfl)] at hcl
   have hnx:=fun W v2 g2 o2 (r:Res wr W 35 base B [] v' vg' vo' { t with g:=eaG t 2 cn (j+1) } v2 g2 o2)=>(show Hid (Res w W 35 base B [] v vg vo { t with g:=eaG t 2 cn (j+1) } v2 g2 o2) from hK.out.trans r)
   clear hK hin hz hbj rt hbase h hlc;go_wp2_with fail;refine hla.mono ?_;rintro e wk ⟨rfl,hw⟩;subst hw;clear hla;go_wp2_with fail;refine hcl.mono ?_;rintro e w2 ⟨rfl,v2,g2,o2,hR⟩;have hF:=hnx _ _ _ _ hR;clear hcl hnx hR c4;go_wp2;go_roundw
   case rel=>exact ⟨j+1,v2,g2,o2,by go_num,by omega,(fun e=>by simp at e),hF⟩
   case measure=>simp [intOf];omega
  ·have hle:¬ (j:Int)<=(N:Int)-1:=by omega
   obtain rfl:j=N:=by omega
   rw [eaG_end rt 2] at hK
   clear hin hz;go_wp2_with fail;refine hla.mono ?_;rintro e wk ⟨rfl,hw⟩;subst hw;clear hla hlc c4;go_wp2;refine be ?_;exact ⟨rfl,_,_,_,hK.out⟩
theorem l7Erase_xf (cn N base B:Nat) (t:Te) (v:Tv) (vg vo:List Value) (w:World) (h:Scr w 35 base B [] t v vg vo) (_hbase:base<=w.heap.size) (rt:RtW t cn N) (how:Int) (h0:how≠0) (h1:how≠1) (h2:how≠2) :
  Calls Tryz.prog 214 #[.pointer (some ⟨B,0,none⟩),.int .i64 how,.bool false] w fun e w'=>e=.returned (.tuple #[])/\∃ v' vg' vo',Res w w' 35 base B [] v vg vo (if false=true then Go.Proofs.YtgcnmjjlmcnllaaGreatDoor.eraseAll t how else Go.Proofs.YtgcnmjjlmcnllaaGreatDoor.eraseRow t how) v' vg' vo':=by
 have hrow:=rt.row;have hcol:=rt.col;have hcc:=rt.c;have hn1:=rt.n1;have c0:w.cell? ⟨B,0,none⟩=some (.int .i64 (cn:Int)):=by rw [<- rt.gc];exact h.cell 0
 have c4:w.cell? ⟨B,4,none⟩=some (.int .i64 t.row):=h.cell 4;have c5:w.cell? ⟨B,5,none⟩=some (.int .i64 t.col):=h.cell 5
 have hin:∀ (j:Nat) (wr:World) (v':Tv) (vg' vo':List Value),Res w wr 35 base B [] v vg vo { t with g:=eaG t how cn j } v' vg' vo'->wr.cell? ⟨B,4,none⟩=some (.int .i64 t.row)/\∃ a c,wr.cell? ⟨B,1,none⟩=some (.slice a N c):=fun j wr v' vg' vo' hr=>by
  refine ⟨hr.s.cell 4,?_⟩;obtain ⟨a,c,e⟩:=slG_shp (SlG.of_own hr.s.o.1.g);have en:(eaG t how cn j).length=N:=by rw [eaG_len];exact rt.n
  refine ⟨a,c,?_⟩;rw [hr.s.cell 1]
  show some v'.g=_
  rw [e]
  show some (Value.slice a (eaG t how cn j).length c)=_
  rw [en]
 have q0:(how==0)=false:=by simp [h0]
 have q1:(how==1)=false:=by simp [h1]
 have q2:(how==2)=false:=by simp [h2]
 have hR:=h.res;have hE:t=Go.Proofs.YtgcnmjjlmcnllaaGreatDoor.eraseRow t how:=by unfold Go.Proofs.YtgcnmjjlmcnllaaGreatDoor.eraseRow;rw [if_neg h0,if_neg h1,if_neg h2]
 rw [show Res w w 35 base B [] v vg vo t v vg vo=Res w w 35 base B [] v vg vo (Go.Proofs.YtgcnmjjlmcnllaaGreatDoor.eraseRow t how) v vg vo by rw [<- hE]] at hR
 clear hE;have hK:=(show Hid (Res w _ 35 base B [] v vg vo { t with g:=eaG t how cn 0 } _ _ _) from by rw [eaG_zero];exact hR);clear hR;go_enter Tryz.func214,Tryz.ntmps214;go_wp2;clear c0 c4 c5;go_loopw [7] (fun i wr=>∃ (j:Nat) (v':Tv) (vg' vo':List Value),i=.int .i64 j/\j<=N/\Hid (false=false->j=0)/\Hid (Res w wr 35 base B [] v vg vo { t with g:=eaG t how cn j } v' vg' vo')) (fun i _=>N-(intOf i).toNat)
 case atStart=>exact ⟨0,_,_,_,rfl,Nat.zero_le _,(fun _=>rfl),hK⟩
 case round =>
  clear hK;obtain ⟨j,v',vg',vo',rfl,hj,hz,hK⟩:=hrel;obtain ⟨c4,la,lc,hlc⟩:=hin j wr v' vg' vo' hK.out;have hla:=l7Last_any B la N lc wr hlc (by omega);have hj0:(0:Int)<=(j:Int):=by omega
  obtain rfl:j=0:=hz.out rfl;clear hin hz
  by_cases hle:(0:Int)<=(N:Int)-1
  ·rw [eaG_zero] at hK
   go_wp2_with fail;refine hla.mono ?_;rintro e wk ⟨rfl,hw⟩;subst hw;clear hla hlc c4;go_wp2;refine be ?_;exact ⟨rfl,_,_,_,hK.out⟩
  ·omega
theorem l7Erase_xt (cn N base B:Nat) (t:Te) (v:Tv) (vg vo:List Value) (w:World) (h:Scr w 35 base B [] t v vg vo) (hbase:base<=w.heap.size) (rt:RtW t cn N) (how:Int) (h0:how≠0) (h1:how≠1) (h2:how≠2) :
  Calls Tryz.prog 214 #[.pointer (some ⟨B,0,none⟩),.int .i64 how,.bool true] w fun e w'=>e=.returned (.tuple #[])/\∃ v' vg' vo',Res w w' 35 base B [] v vg vo (if true=true then Go.Proofs.YtgcnmjjlmcnllaaGreatDoor.eraseAll t how else Go.Proofs.YtgcnmjjlmcnllaaGreatDoor.eraseRow t how) v' vg' vo':=by
 have hrow:=rt.row;have hcol:=rt.col;have hcc:=rt.c;have hn1:=rt.n1;have c0:w.cell? ⟨B,0,none⟩=some (.int .i64 (cn:Int)):=by rw [<- rt.gc];exact h.cell 0
 have c4:w.cell? ⟨B,4,none⟩=some (.int .i64 t.row):=h.cell 4;have c5:w.cell? ⟨B,5,none⟩=some (.int .i64 t.col):=h.cell 5
 have hin:∀ (j:Nat) (wr:World) (v':Tv) (vg' vo':List Value),Res w wr 35 base B [] v vg vo { t with g:=eaG t how cn j } v' vg' vo'->wr.cell? ⟨B,4,none⟩=some (.int .i64 t.row)/\∃ a c,wr.cell? ⟨B,1,none⟩=some (.slice a N c):=fun j wr v' vg' vo' hr=>by
  refine ⟨hr.s.cell 4,?_⟩;obtain ⟨a,c,e⟩:=slG_shp (SlG.of_own hr.s.o.1.g);have en:(eaG t how cn j).length=N:=by rw [eaG_len];exact rt.n
  refine ⟨a,c,?_⟩;rw [hr.s.cell 1]
  show some v'.g=_
  rw [e]
  show some (Value.slice a (eaG t how cn j).length c)=_
  rw [en]
 have q0:(how==0)=false:=by simp [h0]
 have q1:(how==1)=false:=by simp [h1]
 have q2:(how==2)=false:=by simp [h2]
 have hR:=h.res;have hE:t=Go.Proofs.YtgcnmjjlmcnllaaGreatDoor.eraseRow t how:=by unfold Go.Proofs.YtgcnmjjlmcnllaaGreatDoor.eraseRow;rw [if_neg h0,if_neg h1,if_neg h2]
 rw [show Res w w 35 base B [] v vg vo t v vg vo=Res w w 35 base B [] v vg vo (Go.Proofs.YtgcnmjjlmcnllaaGreatDoor.eraseRow t how) v vg vo by rw [<- hE]] at hR
 clear hE;have hK:=(show Hid (Res w _ 35 base B [] v vg vo { t with g:=eaG t how cn 0 } _ _ _) from by rw [eaG_zero];exact hR);clear hR;go_enter Tryz.func214,Tryz.ntmps214;go_wp2;clear c0 c4 c5;go_loopw [7] (fun i wr=>∃ (j:Nat) (v':Tv) (vg' vo':List Value),i=.int .i64 j/\j<=N/\Hid (true=false->j=0)/\Hid (Res w wr 35 base B [] v vg vo { t with g:=eaG t how cn j } v' vg' vo')) (fun i _=>N-(intOf i).toNat)
 case atStart=>exact ⟨0,_,_,_,rfl,Nat.zero_le _,(fun _=>rfl),hK⟩
 case round =>
  clear hK;obtain ⟨j,v',vg',vo',rfl,hj,hz,hK⟩:=hrel;obtain ⟨c4,la,lc,hlc⟩:=hin j wr v' vg' vo' hK.out;have hla:=l7Last_any B la N lc wr hlc (by omega);have hj0:(0:Int)<=(j:Int):=by omega
  by_cases hlt:j<N
  ·have hle:(j:Int)<=(N:Int)-1:=by omega
   have hbj:base<=wr.heap.size:=Nat.le_trans hbase hK.out.g.size;rw [<- eaG_skip t how cn j (fun e=>by unfold eaP at e;omega)] at hK
   clear hin hz hbj rt hbase h hlc;go_wp2_with fail;refine hla.mono ?_;rintro e wk ⟨rfl,hw⟩;subst hw;clear hla;go_wp2;go_roundw
   case rel=>exact ⟨j+1,_,_,_,by go_num,by omega,(fun e=>by simp at e),hK⟩
   case measure=>simp [intOf];omega
  ·have hle:¬ (j:Int)<=(N:Int)-1:=by omega
   obtain rfl:j=N:=by omega
   rw [eaG_end rt how] at hK
   clear hin hz;go_wp2_with fail;refine hla.mono ?_;rintro e wk ⟨rfl,hw⟩;subst hw;clear hla hlc c4;go_wp2;refine be ?_;exact ⟨rfl,_,_,_,hK.out⟩
theorem l7Erase_any (cn N base B:Nat) (t:Te) (v:Tv) (vg vo:List Value) (w:World) (h:Scr w 35 base B [] t v vg vo) (hbase:base<=w.heap.size) (rt:RtW t cn N) (how:Int) (b:Bool) :
  Calls Tryz.prog 214 #[.pointer (some ⟨B,0,none⟩),.int .i64 how,.bool b] w fun e w'=>e=.returned (.tuple #[])/\∃ v' vg' vo',Res w w' 35 base B [] v vg vo (if b=true then Go.Proofs.YtgcnmjjlmcnllaaGreatDoor.eraseAll t how else Go.Proofs.YtgcnmjjlmcnllaaGreatDoor.eraseRow t how) v' vg' vo':=by
 by_cases h0:how=0
 ·subst h0;cases b
  ·exact l7Erase_0f cn N base B t v vg vo w h hbase rt
  ·exact l7Erase_0t cn N base B t v vg vo w h hbase rt
 by_cases h1:how=1
 ·subst h1;cases b
  ·exact l7Erase_1f cn N base B t v vg vo w h hbase rt
  ·exact l7Erase_1t cn N base B t v vg vo w h hbase rt
 by_cases h2:how=2
 ·subst h2;cases b
  ·exact l7Erase_2f cn N base B t v vg vo w h hbase rt
  ·exact l7Erase_2t cn N base B t v vg vo w h hbase rt
 cases b
 ·exact l7Erase_xf cn N base B t v vg vo w h hbase rt how h0 h1 h2
 ·exact l7Erase_xt cn N base B t v vg vo w h hbase rt how h0 h1 h2
def PrC (B g N cap i a:Nat) (s:St) (W:World):Prop:=W.cell? ⟨B,1,none⟩=some (.slice (some ⟨g,0,none⟩) N cap)/\W.cell? ⟨B,4,none⟩=some (.int .i64 (i:Int))/\W.cell? ⟨B,5,none⟩=some (.int .i64 (a:Int))/\W.cell? ⟨B,6,none⟩=some (.int .i64 s.fore)/\W.cell? ⟨B,7,none⟩=some (.int .i64 s.back)/\W.cell? ⟨B,8,none⟩=some (.bool s.bold)/\W.cell? ⟨B,9,none⟩=some (.bool s.under)/\W.cell? ⟨B,10,none⟩=some (.bool s.turned)
theorem print_facts (cn N base B:Nat) (u:Te) (v:Tv) (vg vo:List Value) (w:World) (h:Scr w 35 base B [] u v vg vo) (hbase:base<=w.heap.size) (rt:RtW u cn N) (r:Int) (hw1:1<=wdV r) (hq:u.col+wdV r<=cn) :
  ∃ (g cap i a:Nat) (ra:Option Addr) (rn rc:Nat) (R:List Ce),u.row=(i:Int)/\u.col=(a:Int)/\i<N/\R=writeL (rowX u.g u.row.toNat) u.col.toNat r u.st /\
   (∀ W,Below w.heap.size w W->PrC B g N cap i a u.st W) /\
   (∀ W,Below w.heap.size w W->W.cell? ⟨g,i,none⟩=some (.slice ra rn rc)) /\
   (∀ W,Below w.heap.size w W->W.frozen? ⟨g,i,none⟩=false) /\
   (∀ W,Below w.heap.size w W->Calls Tryz.prog 208 #[.slice ra rn rc,.int .i64 (a:Int),.int .i64 r,.agg #[.int .i64 u.st.fore,.int .i64 u.st.back,.bool u.st.bold,.bool u.st.under,.bool u.st.turned]] W fun e w'=>∃ x,e=.returned x/\OwnC w' W.heap.size x R/\Below W.heap.size W w') /\
   (∀ W x,Below w.heap.size w W->OwnC W w.heap.size x R->Res w (W.setCell ⟨g,i,none⟩ x) 35 base B [] v vg vo (rowT u u.row R) v (vg.set i x) vo) /\
   (∀ W x,Below w.heap.size w W->PrC B g N cap i a u.st (W.setCell ⟨g,i,none⟩ x)):=by
 obtain ⟨r1,r2⟩:=rt.row;obtain ⟨q1,q2⟩:=rt.col;have hn2:=rt.n1;have hcc:=rt.c;have hN:=rt.n;have hlt:=h.lt;obtain ⟨i,hie⟩:∃ i:Nat,u.row=(i:Int):=⟨u.row.toNat,by omega⟩;obtain ⟨a,hae⟩:∃ a:Nat,u.col=(a:Int):=⟨u.col.toNat,by omega⟩;have hi:i<N:=by omega
 rcases h.o.1.shape with ⟨_,hs⟩|⟨g,cap,hvg,hbg,hlg,hcap⟩
 ·rw [hs] at hN;simp at hN;omega
 rw [hN] at hvg hcap
 have ho:=h.o.1;have hro:=ho.2.2.1 i (by omega);rw [hvg] at ho
 have hci:=ho.cell hN i hi;obtain ⟨ra,rn,rc,hre⟩:=hro.isSl;rw [hre] at hci hro
 have hgx:=rt.gx i hi;have hsl:SlC w (.slice ra rn rc) (rowX u.g i):=SlC.of_own hro;have e1:u.row.toNat=i:=by rw [hie];rfl
 have e2:u.col.toNat=a:=by rw [hae];rfl
 have cf:∀ W,Below w.heap.size w W->PrC B g N cap i a u.st W:=fun W hb=>by
  have k:=h.below hb;refine ⟨by rw [k.cell 1];show some v.g=_;rw [hvg],by rw [k.cell 4,<- hie];rfl,by rw [k.cell 5,<- hae];rfl,k.cell 6,k.cell 7,k.cell 8,k.cell 9,k.cell 10⟩
 refine ⟨g,cap,i,a,ra,rn,rc,writeL (rowX u.g i) a r u.st,hie,hae,hi,by rw [e1,e2],cf,fun W hb=>(hb.cell (p:=⟨g,i,none⟩) hlg).trans hci,fun W hb=>(ho.below hb).frozen hN i,fun W hb=>?_,fun W x hb hx=>?_,fun W x hb=>?_⟩
 ·exact l4Written_any (.slice ra rn rc) (rowX u.g i) a r u.st W (hsl.below hb) hw1 (by omega) (by omega)
 ·have:=h.row hbase hb hvg hN i hi x _ hx
  unfold rowT;rw [e1]
  exact this
 ·have hne:g≠B:=fun e=>grS_not h.o.1 h.b h.n1 h.n2 (.inl (by rw [hvg,<- e];rfl))
  have hk:∀ k,(W.setCell ⟨g,i,none⟩ x).cell? ⟨B,k,none⟩=W.cell? ⟨B,k,none⟩:=fun k=>World.cell?_of_block (w:=W) (a:=⟨B,k,none⟩) ((setCell_gr W g i x).block B (Nat.lt_of_lt_of_le hlt hb.size) (fun e=>hne (Option.some.inj e).symm))
  unfold PrC;simp only [hk];exact cf W hb
theorem drwP (w:World) (n:Nat):Below w.heap.size w (w.drewN n):=⟨rfl,rfl,rfl,Nat.le_refl _,fun _ _=>rfl⟩
theorem print_end (base B:Nat) (u:Te) (v0 v1:Tv) (vg0 vo0 vg1 vo1:List Value) (w0 W:World) (R:List Ce) (g r:Int) (h:Res w0 W 35 base B [] v0 vg0 vo0 (rowT u u.row R) v1 vg1 vo1) (hR:R=writeL (rowX u.g u.row.toNat) u.col.toNat r u.st) (he:g<=u.col+wdV r) (q:Nat) :
  Res w0 ((((W.setCell ⟨B,5,none⟩ (.int .i64 (u.col+wdV r))).drewN q).setCell ⟨B,5,none⟩ (.int .i64 (g-1))).setCell ⟨B,13,none⟩ (.bool true)) 35 base B [] v0 vg0 vo0 (p3T u g r) v1 vg1 vo1:=by
 have hV:p3T u g r={ Go.Proofs.YtgcnmjjlmcnllaaGreatDoor.rowT u u.row R with col:=g-1,full:=true }:=by unfold p3T;rw [if_pos he,hR]
 rw [hV]
 have k1:=h.s.put (sCg B [.int .i64 (u.col+wdV r)] 5 W) { Go.Proofs.YtgcnmjjlmcnllaaGreatDoor.rowT u u.row R with col:=u.col+wdV r } (sCh B 35 [.int .i64 (u.col+wdV r)] 5 W _ h.s.b) rfl rfl rfl rfl rfl;have k2:=k1.below (drwP _ q);have k3:=k2.s.put (sCg B [.int .i64 (g-1)] 5 _) { Go.Proofs.YtgcnmjjlmcnllaaGreatDoor.rowT u u.row R with col:=g-1 } (sCh B 35 [.int .i64 (g-1)] 5 _ _ k2.s.b) rfl rfl rfl rfl rfl;have k4:=k3.s.put (sCg B [.bool true] 13 _) { Go.Proofs.YtgcnmjjlmcnllaaGreatDoor.rowT u u.row R with col:=g-1,full:=true } (sCh B 35 [.bool true] 13 _ _ k3.s.b) rfl rfl rfl rfl rfl;exact ((h.trans k2).trans k3).trans k4
theorem print_on (base B:Nat) (u:Te) (v0 v1:Tv) (vg0 vo0 vg1 vo1:List Value) (w0 W:World) (R:List Ce) (g r:Int) (h:Res w0 W 35 base B [] v0 vg0 vo0 (rowT u u.row R) v1 vg1 vo1) (hR:R=writeL (rowX u.g u.row.toNat) u.col.toNat r u.st) (he:¬ g<=u.col+wdV r) (q:Nat) :
  Res w0 ((W.setCell ⟨B,5,none⟩ (.int .i64 (u.col+wdV r))).drewN q) 35 base B [] v0 vg0 vo0 (p3T u g r) v1 vg1 vo1:=by
 have hV:p3T u g r={ Go.Proofs.YtgcnmjjlmcnllaaGreatDoor.rowT u u.row R with col:=u.col+wdV r }:=by unfold p3T;rw [if_neg he,hR]
 rw [hV]
 have k1:=h.s.put (sCg B [.int .i64 (u.col+wdV r)] 5 W) { Go.Proofs.YtgcnmjjlmcnllaaGreatDoor.rowT u u.row R with col:=u.col+wdV r } (sCh B 35 [.int .i64 (u.col+wdV r)] 5 W _ h.s.b) rfl rfl rfl rfl rfl;exact h.trans (k1.below (drwP _ q))
theorem l7Print_A0 (cn N base B:Nat) (t:Te) (v:Tv) (vg vo:List Value) (w:World) (h:Scr w 35 base B [] t v vg vo) (hbase:base<=w.heap.size) (rk:RtK t cn N) (r:Int) (hw1:1<=wdV r) (hw2:wdV r<=t.gc) (hf:t.full=true) (hwr:t.wrap=true) (hend:¬ t.gc<=0+wdV r) :
  Calls Tryz.prog 141 #[.pointer (some ⟨B,0,none⟩),.int .i64 r] w fun e w'=>e=.returned (.tuple #[])/\∃ v' vg' vo',Res w w' 35 base B [] v vg vo (printT t r) v' vg' vo':=by
 have rt:=rk.w;have hcc:=rt.c;have hgc:=rt.gc;have hcol:=rt.col;have hwb:=widthV_bd r;have hwd:=specWidth_any r w;obtain ⟨u,hu⟩:∃ u,Hid (u=lineT { t with full:=false,col:=0 }):=⟨_,rfl⟩
 have hV:printT t r=p3T u t.gc r:=by
  have e1:p1T t=(lineT { t with full:=false,col:=0 }):=by unfold p1T;rw [if_pos ⟨hf,hwr⟩]
  have e2:p2T (lineT { t with full:=false,col:=0 }) t.gc r=lineT { t with full:=false,col:=0 }:=by unfold p2T;rw [if_neg (by rw [lineT_col { t with full:=false } 0];show ¬ t.gc<0+wdV r;omega)]
  rw [printT_eq t r hw1 hw2,hu.out,e1,e2]
 have rku:RtK u cn N:=by rw [hu.out];exact ((rk.nofull.colp 0 (by omega) rfl).line)
 have hug:u.gc=t.gc:=by rw [hu.out];exact lineT_gc _
 have huc:u.col=0:=by rw [hu.out,lineT_col { t with full:=false } 0]
 rw [hV]
 clear hV;have c13:w.cell? ⟨B,13,none⟩=some (.bool t.full):=h.cell 13;have c0:w.cell? ⟨B,0,none⟩=some (.int .i64 t.gc):=h.cell 0;have z13:w.frozen? ⟨B,13,none⟩=false:=h.frozen 13;have h1:Res w (w.setCell ⟨B,13,none⟩ (.bool false)) 35 base B [] v vg vo { t with full:=false } v vg vo:=h.put (sCg B [.bool false] 13 w) _ (sCh B 35 [.bool false] 13 w _ h.b) rfl rfl rfl rfl rfl;have hb1:=Nat.le_trans hbase h1.g.size;obtain ⟨W1,hW1⟩:∃ W1,Hid (W1=w.setCell ⟨B,13,none⟩ (.bool false)):=⟨_,rfl⟩;rw [<- hW1.out] at h1 hb1
 have f14w:w.cell? ⟨B,14,none⟩=some (.bool t.wrap):=h.cell 14;have f14:W1.cell? ⟨B,14,none⟩=some (.bool t.wrap):=h1.s.cell 14;have f5:W1.cell? ⟨B,5,none⟩=some (.int .i64 t.col):=h1.s.cell 5;have f0:W1.cell? ⟨B,0,none⟩=some (.int .i64 t.gc):=h1.s.cell 0;have z5:W1.frozen? ⟨B,5,none⟩=false:=h1.s.frozen 5;have f5w:w.cell? ⟨B,5,none⟩=some (.int .i64 t.col):=h.cell 5;have z5w:w.frozen? ⟨B,5,none⟩=false:=h.frozen 5;rw [hf] at c13
 rw [hwr] at f14 f14w
 obtain ⟨wd,hwde⟩:∃ wd,Hid (wdV r=wd):=⟨_,rfl⟩;have hwdo:=hwde.out;rw [hwdo] at hwd hw1 hw2 hwb hend
 try rw [hwdo] at huc
 have q0:(wd==0)=false:=by simp;omega
 have q1:¬ t.gc<wd:=by omega
 obtain ⟨sx,hsx⟩:∃ sx,Hid (t.col+wd=sx):=⟨_,rfl⟩;have esx:IntKind.i64.wrap (t.col+wd)=sx:=by rw [<- hsx.out];simp [IntKind.wrap,IntKind.bits,IntKind.signed];omega
 have hov2:¬ t.gc<wd:=by omega
 have hqu:u.col+wdV r<=cn:=by rw [hwdo,huc];omega
 obtain ⟨sy,hsy⟩:∃ sy,Hid (u.col+wd=sy):=⟨_,rfl⟩;have hend2:¬ t.gc<=sy:=by rw [<- hsy.out,huc];exact hend
 have hw1r:1<=wdV r:=by rw [hwdo];exact hw1
 clear hwb;obtain ⟨W2,hW2⟩:∃ W2,Hid (W2=W1.setCell ⟨B,5,none⟩ (.int .i64 0)):=⟨_,rfl⟩;have h2:=h1.trans (h1.s.put (sCg B [.int .i64 0] 5 W1) { t with full:=false,col:=0 } (sCh B 35 [.int .i64 0] 5 W1 _ h1.s.b) rfl rfl rfl rfl rfl);have hW2o:Res w W2 35 base B [] v vg vo { t with full:=false,col:=0 } v vg vo:=by rw [hW2.out];exact h2
 clear h2;have hli:=l7Line_any cn N base B { t with full:=false,col:=0 } v vg vo W2 hW2o.s (Nat.le_trans hbase hW2o.g.size) (rk.nofull.colp 0 (by omega) rfl).w;have hbw:=hbase;have ewd:IntKind.i64.wrap wd=wd:=by simp [IntKind.wrap,IntKind.bits,IntKind.signed];omega
 replace hW2o:=(show Hid _ from hW2o);replace rku:=(show Hid _ from rku);replace hbw:=(show Hid _ from hbw);clear h1 hb1;clear h rt rk hbase hcc hcol hgc;go_enter Tryz.func141,Tryz.ntmps141;go_wp2_with fail;refine hwd.mono ?_;rintro e wk ⟨rfl,hk⟩;replace hk:=hk.symm;subst hk;clear hwd;go_wp2_with fail;rw [<- hW1.out,<- hW2.out]
 refine hli.mono ?_;rintro e w3 ⟨rfl,v3,vg3,vo3,hR3⟩;have hZ0:=hW2o.out.trans hR3;have g5:w3.cell? ⟨B,5,none⟩=some (.int .i64 0):=by rw [hR3.s.cell 5];show some (Value.int .i64 (lineT { t with full:=false,col:=0 }).col)=_;rw [lineT_col { t with full:=false } 0]
 have g0:w3.cell? ⟨B,0,none⟩=some (.int .i64 t.gc):=by rw [hR3.s.cell 0];show some (Value.int .i64 (lineT { t with full:=false,col:=0 }).gc)=_;rw [lineT_gc]
 replace hZ0:=(show Hid _ from hZ0);clear hli hR3;go_wp2;go_quiet (fail);go_wp2;have hZ:=hZ0.out.below (drwP w3 nq);have hbz:base<=(w3.drewN nq).heap.size:=Nat.le_trans hbw.out (Nat.le_trans hZ0.out.g.size (drwP w3 nq).size);obtain ⟨Wz,hWz⟩:∃ Wz,Hid (Wz=w3.drewN nq):=⟨_,rfl⟩;rw [<- hWz.out] at hZ hbz
 have hd:Below Wz.heap.size Wz (w3.drewN (nq+1)):=by rw [hWz.out];exact ⟨rfl,rfl,rfl,Nat.le_refl _,fun _ _=>rfl⟩
 clear g5 g0 hZ0;obtain ⟨g,cap,i,a,ra,rn,rc,R,hie,hae,hiN,hRe,cf,ci,zi,hcd,hfr,hsc⟩:=print_facts cn N base B u _ _ _ Wz (by rw [hu.out];exact hZ.s) hbz rku.out.w r hw1r hqu;unfold PrC at cf hsc;replace hZ:=(show Hid _ from hZ);replace hRe:=(show Hid _ from hRe);replace hie:=(show Hid _ from hie);have esy:IntKind.i64.wrap ((a:Int)+wd)=sy:=by rw [<- hae,hsy.out];have h9:=hsy.out;have h8:=rku.out.w.col;have h7:=rku.out.w.c;simp [IntKind.wrap,IntKind.bits,IntKind.signed];omega
 have egc:IntKind.i64.wrap (t.gc-1)=t.gc-1:=by have h8:=rku.out.w.gc;have h7:=rku.out.w.c;simp [IntKind.wrap,IntKind.bits,IntKind.signed];omega
 replace hae:=(show Hid _ from hae);have i0:(0:Int)<=(i:Int):=by omega
 have i1:(i:Int)<(N:Int):=by omega
 have di:=ci _ hd;clear rku hqu;refine wp_region_noPanic ?_;refine wp_region_held_drew (S:=(fun W=>W.cell? ⟨B,1,none⟩=some (.slice (some ⟨g,0,none⟩) N cap)/\W.cell? ⟨B,4,none⟩=some (.int .i64 (i:Int))/\W.cell? ⟨B,5,none⟩=some (.int .i64 (a:Int))/\W.cell? ⟨B,6,none⟩=some (.int .i64 u.st.fore)/\W.cell? ⟨B,7,none⟩=some (.int .i64 u.st.back)/\W.cell? ⟨B,8,none⟩=some (.bool u.st.bold)/\W.cell? ⟨B,9,none⟩=some (.bool u.st.under)/\W.cell? ⟨B,10,none⟩=some (.bool u.st.turned))) (by kernel_rfl) (cf _ hd) (fun hHeld=>?_);refine tk 0 ?_;refine tk 1 ?_;refine tk 2 ?_;refine tk 3 ?_;refine tk 4 ?_;refine tk 5 ?_;refine tk 6 ?_;refine tk 7 ?_;refine tk 8 ?_;refine tk 9 ?_;refine tk 10 ?_;refine tk 11 ?_;refine tk 12 ?_;refine tk 13 ?_;refine tk 14 ?_;refine tk 15 ?_;refine tk 16 ?_;refine tk 17 ?_;refine tk 18 ?_;refine tk 20 ?_;refine tk 21 ?_;refine tk 22 ?_;refine tk 23 ?_;refine tk 24 ?_;refine tk 25 ?_;refine tk 26 ?_;refine tk 27 ?_;refine tk 28 ?_;refine rdo 19 fun K hK=>?_
 go_simp;refine hK.out _ _ (hHeld) (fun hHeld=>?_);clear hK K;refine rdo 29 fun K hK=>?_
 go_simp;refine (hcd _ hd).mono ?_;rintro e w2 ⟨x,rfl,hx,hb⟩;have hx2:=hx.low hd.size;replace hd:=hd.trans (hb.mono hd.size);obtain ⟨ua,un,uc,hue⟩:=hx2.isSl;subst hue;have di:=ci _ hd;have zj:=zi _ hd;go_wp2_with fail;refine hK.out _ _ (cf _ hd) (fun hHeld=>?_);clear hK K;refine tk 30 ?_;refine rdo 31 fun K hK=>?_
 go_simp;refine hK.out _ _ (hsc _ _ hd) (fun hHeld=>?_);clear hK K
 (try simp only [Act.put,ZA,ZB,ZC,ZD,ZE,ZF])
 refine dn ?_;have hRow:=hZ.out.trans (hfr _ _ hd hx2);clear hfr hcd cf hsc ci zi di zj hd hx hx2 hb hHeld hZ;generalize w2.setCell ⟨g,i,none⟩ (.slice ua un uc)=Wq at *;have y5:Wq.cell? ⟨B,5,none⟩=some (.int .i64 (a:Int)):=by rw [<- hae.out];exact hRow.s.cell 5
 have y0:Wq.cell? ⟨B,0,none⟩=some (.int .i64 t.gc):=by rw [<- hug];exact hRow.s.cell 0
 have x5:Wq.frozen? ⟨B,5,none⟩=false:=hRow.s.frozen 5;have x13:Wq.frozen? ⟨B,13,none⟩=false:=hRow.s.frozen 13;have y13:∃ bb,Wq.cell? ⟨B,13,none⟩=some (.bool bb):=⟨_,hRow.s.cell 13⟩;obtain ⟨bb,y13⟩:=y13;have hfin:=fun q=>print_on base B u v _ vg vo _ _ w Wq R t.gc r hRow hRe.out (by rw [hwdo,hsy.out];omega) q
 rw [hwdo,hsy.out] at hfin
 replace hfin:=(show Hid _ from hfin);clear hRow hug hwdo huc;go_wp2;go_quiet (fail);go_wp2;refine be ?_;exact ⟨rfl,_,_,_,hfin.out _⟩
theorem l7Print_A1 (cn N base B:Nat) (t:Te) (v:Tv) (vg vo:List Value) (w:World) (h:Scr w 35 base B [] t v vg vo) (hbase:base<=w.heap.size) (rk:RtK t cn N) (r:Int) (hw1:1<=wdV r) (hw2:wdV r<=t.gc) (hf:t.full=true) (hwr:t.wrap=true) (hend:t.gc<=0+wdV r) :
  Calls Tryz.prog 141 #[.pointer (some ⟨B,0,none⟩),.int .i64 r] w fun e w'=>e=.returned (.tuple #[])/\∃ v' vg' vo',Res w w' 35 base B [] v vg vo (printT t r) v' vg' vo':=by
 have rt:=rk.w;have hcc:=rt.c;have hgc:=rt.gc;have hcol:=rt.col;have hwb:=widthV_bd r;have hwd:=specWidth_any r w;obtain ⟨u,hu⟩:∃ u,Hid (u=lineT { t with full:=false,col:=0 }):=⟨_,rfl⟩
 have hV:printT t r=p3T u t.gc r:=by
  have e1:p1T t=(lineT { t with full:=false,col:=0 }):=by unfold p1T;rw [if_pos ⟨hf,hwr⟩]
  have e2:p2T (lineT { t with full:=false,col:=0 }) t.gc r=lineT { t with full:=false,col:=0 }:=by unfold p2T;rw [if_neg (by rw [lineT_col { t with full:=false } 0];show ¬ t.gc<0+wdV r;omega)]
  rw [printT_eq t r hw1 hw2,hu.out,e1,e2]
 have rku:RtK u cn N:=by rw [hu.out];exact ((rk.nofull.colp 0 (by omega) rfl).line)
 have hug:u.gc=t.gc:=by rw [hu.out];exact lineT_gc _
 have huc:u.col=0:=by rw [hu.out,lineT_col { t with full:=false } 0]
 rw [hV]
 clear hV;have c13:w.cell? ⟨B,13,none⟩=some (.bool t.full):=h.cell 13;have c0:w.cell? ⟨B,0,none⟩=some (.int .i64 t.gc):=h.cell 0;have z13:w.frozen? ⟨B,13,none⟩=false:=h.frozen 13;have h1:Res w (w.setCell ⟨B,13,none⟩ (.bool false)) 35 base B [] v vg vo { t with full:=false } v vg vo:=h.put (sCg B [.bool false] 13 w) _ (sCh B 35 [.bool false] 13 w _ h.b) rfl rfl rfl rfl rfl;have hb1:=Nat.le_trans hbase h1.g.size;obtain ⟨W1,hW1⟩:∃ W1,Hid (W1=w.setCell ⟨B,13,none⟩ (.bool false)):=⟨_,rfl⟩;rw [<- hW1.out] at h1 hb1
 have f14w:w.cell? ⟨B,14,none⟩=some (.bool t.wrap):=h.cell 14;have f14:W1.cell? ⟨B,14,none⟩=some (.bool t.wrap):=h1.s.cell 14;have f5:W1.cell? ⟨B,5,none⟩=some (.int .i64 t.col):=h1.s.cell 5;have f0:W1.cell? ⟨B,0,none⟩=some (.int .i64 t.gc):=h1.s.cell 0;have z5:W1.frozen? ⟨B,5,none⟩=false:=h1.s.frozen 5;have f5w:w.cell? ⟨B,5,none⟩=some (.int .i64 t.col):=h.cell 5;have z5w:w.frozen? ⟨B,5,none⟩=false:=h.frozen 5;rw [hf] at c13
 rw [hwr] at f14 f14w
 obtain ⟨wd,hwde⟩:∃ wd,Hid (wdV r=wd):=⟨_,rfl⟩;have hwdo:=hwde.out;rw [hwdo] at hwd hw1 hw2 hwb hend
 try rw [hwdo] at huc
 have q0:(wd==0)=false:=by simp;omega
 have q1:¬ t.gc<wd:=by omega
 obtain ⟨sx,hsx⟩:∃ sx,Hid (t.col+wd=sx):=⟨_,rfl⟩;have esx:IntKind.i64.wrap (t.col+wd)=sx:=by rw [<- hsx.out];simp [IntKind.wrap,IntKind.bits,IntKind.signed];omega
 have hov2:¬ t.gc<wd:=by omega
 have hqu:u.col+wdV r<=cn:=by rw [hwdo,huc];omega
 obtain ⟨sy,hsy⟩:∃ sy,Hid (u.col+wd=sy):=⟨_,rfl⟩;have hend2:t.gc<=sy:=by rw [<- hsy.out,huc];exact hend
 have hw1r:1<=wdV r:=by rw [hwdo];exact hw1
 clear hwb;obtain ⟨W2,hW2⟩:∃ W2,Hid (W2=W1.setCell ⟨B,5,none⟩ (.int .i64 0)):=⟨_,rfl⟩;have h2:=h1.trans (h1.s.put (sCg B [.int .i64 0] 5 W1) { t with full:=false,col:=0 } (sCh B 35 [.int .i64 0] 5 W1 _ h1.s.b) rfl rfl rfl rfl rfl);have hW2o:Res w W2 35 base B [] v vg vo { t with full:=false,col:=0 } v vg vo:=by rw [hW2.out];exact h2
 clear h2;have hli:=l7Line_any cn N base B { t with full:=false,col:=0 } v vg vo W2 hW2o.s (Nat.le_trans hbase hW2o.g.size) (rk.nofull.colp 0 (by omega) rfl).w;have hbw:=hbase;have ewd:IntKind.i64.wrap wd=wd:=by simp [IntKind.wrap,IntKind.bits,IntKind.signed];omega
 replace hW2o:=(show Hid _ from hW2o);replace rku:=(show Hid _ from rku);replace hbw:=(show Hid _ from hbw);clear h1 hb1;clear h rt rk hbase hcc hcol hgc;go_enter Tryz.func141,Tryz.ntmps141;go_wp2_with fail;refine hwd.mono ?_;rintro e wk ⟨rfl,hk⟩;replace hk:=hk.symm;subst hk;clear hwd;go_wp2_with fail;rw [<- hW1.out,<- hW2.out]
 refine hli.mono ?_;rintro e w3 ⟨rfl,v3,vg3,vo3,hR3⟩;have hZ0:=hW2o.out.trans hR3;have g5:w3.cell? ⟨B,5,none⟩=some (.int .i64 0):=by rw [hR3.s.cell 5];show some (Value.int .i64 (lineT { t with full:=false,col:=0 }).col)=_;rw [lineT_col { t with full:=false } 0]
 have g0:w3.cell? ⟨B,0,none⟩=some (.int .i64 t.gc):=by rw [hR3.s.cell 0];show some (Value.int .i64 (lineT { t with full:=false,col:=0 }).gc)=_;rw [lineT_gc]
 replace hZ0:=(show Hid _ from hZ0);clear hli hR3;go_wp2;go_quiet (fail);go_wp2;have hZ:=hZ0.out.below (drwP w3 nq);have hbz:base<=(w3.drewN nq).heap.size:=Nat.le_trans hbw.out (Nat.le_trans hZ0.out.g.size (drwP w3 nq).size);obtain ⟨Wz,hWz⟩:∃ Wz,Hid (Wz=w3.drewN nq):=⟨_,rfl⟩;rw [<- hWz.out] at hZ hbz
 have hd:Below Wz.heap.size Wz (w3.drewN (nq+1)):=by rw [hWz.out];exact ⟨rfl,rfl,rfl,Nat.le_refl _,fun _ _=>rfl⟩
 clear g5 g0 hZ0;obtain ⟨g,cap,i,a,ra,rn,rc,R,hie,hae,hiN,hRe,cf,ci,zi,hcd,hfr,hsc⟩:=print_facts cn N base B u _ _ _ Wz (by rw [hu.out];exact hZ.s) hbz rku.out.w r hw1r hqu;unfold PrC at cf hsc;replace hZ:=(show Hid _ from hZ);replace hRe:=(show Hid _ from hRe);replace hie:=(show Hid _ from hie);have esy:IntKind.i64.wrap ((a:Int)+wd)=sy:=by rw [<- hae,hsy.out];have h9:=hsy.out;have h8:=rku.out.w.col;have h7:=rku.out.w.c;simp [IntKind.wrap,IntKind.bits,IntKind.signed];omega
 have egc:IntKind.i64.wrap (t.gc-1)=t.gc-1:=by have h8:=rku.out.w.gc;have h7:=rku.out.w.c;simp [IntKind.wrap,IntKind.bits,IntKind.signed];omega
 replace hae:=(show Hid _ from hae);have i0:(0:Int)<=(i:Int):=by omega
 have i1:(i:Int)<(N:Int):=by omega
 have di:=ci _ hd;clear rku hqu;refine wp_region_noPanic ?_;refine wp_region_held_drew (S:=(fun W=>W.cell? ⟨B,1,none⟩=some (.slice (some ⟨g,0,none⟩) N cap)/\W.cell? ⟨B,4,none⟩=some (.int .i64 (i:Int))/\W.cell? ⟨B,5,none⟩=some (.int .i64 (a:Int))/\W.cell? ⟨B,6,none⟩=some (.int .i64 u.st.fore)/\W.cell? ⟨B,7,none⟩=some (.int .i64 u.st.back)/\W.cell? ⟨B,8,none⟩=some (.bool u.st.bold)/\W.cell? ⟨B,9,none⟩=some (.bool u.st.under)/\W.cell? ⟨B,10,none⟩=some (.bool u.st.turned))) (by kernel_rfl) (cf _ hd) (fun hHeld=>?_);refine tk 0 ?_;refine tk 1 ?_;refine tk 2 ?_;refine tk 3 ?_;refine tk 4 ?_;refine tk 5 ?_;refine tk 6 ?_;refine tk 7 ?_;refine tk 8 ?_;refine tk 9 ?_;refine tk 10 ?_;refine tk 11 ?_;refine tk 12 ?_;refine tk 13 ?_;refine tk 14 ?_;refine tk 15 ?_;refine tk 16 ?_;refine tk 17 ?_;refine tk 18 ?_;refine tk 20 ?_;refine tk 21 ?_;refine tk 22 ?_;refine tk 23 ?_;refine tk 24 ?_;refine tk 25 ?_;refine tk 26 ?_;refine tk 27 ?_;refine tk 28 ?_;refine rdo 19 fun K hK=>?_
 go_simp;refine hK.out _ _ (hHeld) (fun hHeld=>?_);clear hK K;refine rdo 29 fun K hK=>?_
 go_simp;refine (hcd _ hd).mono ?_;rintro e w2 ⟨x,rfl,hx,hb⟩;have hx2:=hx.low hd.size;replace hd:=hd.trans (hb.mono hd.size);obtain ⟨ua,un,uc,hue⟩:=hx2.isSl;subst hue;have di:=ci _ hd;have zj:=zi _ hd;go_wp2_with fail;refine hK.out _ _ (cf _ hd) (fun hHeld=>?_);clear hK K;refine tk 30 ?_;refine rdo 31 fun K hK=>?_
 go_simp;refine hK.out _ _ (hsc _ _ hd) (fun hHeld=>?_);clear hK K
 (try simp only [Act.put,ZA,ZB,ZC,ZD,ZE,ZF])
 refine dn ?_;have hRow:=hZ.out.trans (hfr _ _ hd hx2);clear hfr hcd cf hsc ci zi di zj hd hx hx2 hb hHeld hZ;generalize w2.setCell ⟨g,i,none⟩ (.slice ua un uc)=Wq at *;have y5:Wq.cell? ⟨B,5,none⟩=some (.int .i64 (a:Int)):=by rw [<- hae.out];exact hRow.s.cell 5
 have y0:Wq.cell? ⟨B,0,none⟩=some (.int .i64 t.gc):=by rw [<- hug];exact hRow.s.cell 0
 have x5:Wq.frozen? ⟨B,5,none⟩=false:=hRow.s.frozen 5;have x13:Wq.frozen? ⟨B,13,none⟩=false:=hRow.s.frozen 13;have y13:∃ bb,Wq.cell? ⟨B,13,none⟩=some (.bool bb):=⟨_,hRow.s.cell 13⟩;obtain ⟨bb,y13⟩:=y13;have hfin:=fun q=>print_end base B u v _ vg vo _ _ w Wq R t.gc r hRow hRe.out (by rw [hwdo,hsy.out];omega) q
 rw [hwdo,hsy.out] at hfin
 replace hfin:=(show Hid _ from hfin);clear hRow hug hwdo huc;go_wp2;go_quiet (fail);go_wp2;refine be ?_;exact ⟨rfl,_,_,_,hfin.out _⟩
theorem l7Print_B0 (cn N base B:Nat) (t:Te) (v:Tv) (vg vo:List Value) (w:World) (h:Scr w 35 base B [] t v vg vo) (hbase:base<=w.heap.size) (rk:RtK t cn N) (r:Int) (hw1:1<=wdV r) (hw2:wdV r<=t.gc) (hf:t.full=false) (hwr:t.wrap=true) (hov:t.gc<t.col+wdV r) (hend:¬ t.gc<=0+wdV r) :
  Calls Tryz.prog 141 #[.pointer (some ⟨B,0,none⟩),.int .i64 r] w fun e w'=>e=.returned (.tuple #[])/\∃ v' vg' vo',Res w w' 35 base B [] v vg vo (printT t r) v' vg' vo':=by
 have rt:=rk.w;have hcc:=rt.c;have hgc:=rt.gc;have hcol:=rt.col;have hwb:=widthV_bd r;have hwd:=specWidth_any r w;obtain ⟨u,hu⟩:∃ u,Hid (u=lineT { t with full:=false,col:=0 }):=⟨_,rfl⟩
 have hV:printT t r=p3T u t.gc r:=by
  have e1:p1T t=({ t with full:=false }:Te):=by unfold p1T;rw [if_neg (by simp [hf])]
  have e2:p2T ({ t with full:=false }:Te) t.gc r=lineT { t with full:=false,col:=0 }:=by unfold p2T;rw [if_pos hov,if_pos hwr]
  rw [printT_eq t r hw1 hw2,hu.out,e1,e2]
 have rku:RtK u cn N:=by rw [hu.out];exact ((rk.nofull.colp 0 (by omega) rfl).line)
 have hug:u.gc=t.gc:=by rw [hu.out];exact lineT_gc _
 have huc:u.col=0:=by rw [hu.out,lineT_col { t with full:=false } 0]
 rw [hV]
 clear hV;have c13:w.cell? ⟨B,13,none⟩=some (.bool t.full):=h.cell 13;have c0:w.cell? ⟨B,0,none⟩=some (.int .i64 t.gc):=h.cell 0;have z13:w.frozen? ⟨B,13,none⟩=false:=h.frozen 13;have h1:Res w (w.setCell ⟨B,13,none⟩ (.bool false)) 35 base B [] v vg vo { t with full:=false } v vg vo:=h.put (sCg B [.bool false] 13 w) _ (sCh B 35 [.bool false] 13 w _ h.b) rfl rfl rfl rfl rfl;have hb1:=Nat.le_trans hbase h1.g.size;obtain ⟨W1,hW1⟩:∃ W1,Hid (W1=w.setCell ⟨B,13,none⟩ (.bool false)):=⟨_,rfl⟩;rw [<- hW1.out] at h1 hb1
 have f14w:w.cell? ⟨B,14,none⟩=some (.bool t.wrap):=h.cell 14;have f14:W1.cell? ⟨B,14,none⟩=some (.bool t.wrap):=h1.s.cell 14;have f5:W1.cell? ⟨B,5,none⟩=some (.int .i64 t.col):=h1.s.cell 5;have f0:W1.cell? ⟨B,0,none⟩=some (.int .i64 t.gc):=h1.s.cell 0;have z5:W1.frozen? ⟨B,5,none⟩=false:=h1.s.frozen 5;have f5w:w.cell? ⟨B,5,none⟩=some (.int .i64 t.col):=h.cell 5;have z5w:w.frozen? ⟨B,5,none⟩=false:=h.frozen 5;rw [hf] at c13
 rw [hwr] at f14 f14w
 obtain ⟨wd,hwde⟩:∃ wd,Hid (wdV r=wd):=⟨_,rfl⟩;have hwdo:=hwde.out;rw [hwdo] at hwd hw1 hw2 hwb hov hend
 try rw [hwdo] at huc
 have q0:(wd==0)=false:=by simp;omega
 have q1:¬ t.gc<wd:=by omega
 obtain ⟨sx,hsx⟩:∃ sx,Hid (t.col+wd=sx):=⟨_,rfl⟩;have esx:IntKind.i64.wrap (t.col+wd)=sx:=by rw [<- hsx.out];simp [IntKind.wrap,IntKind.bits,IntKind.signed];omega
 have hov2:t.gc<sx:=by rw [<- hsx.out];exact hov
 have hqu:u.col+wdV r<=cn:=by rw [hwdo,huc];omega
 obtain ⟨sy,hsy⟩:∃ sy,Hid (u.col+wd=sy):=⟨_,rfl⟩;have hend2:¬ t.gc<=sy:=by rw [<- hsy.out,huc];exact hend
 have hw1r:1<=wdV r:=by rw [hwdo];exact hw1
 clear hwb;replace h1:=(show Hid _ from h1);replace rku:=(show Hid _ from rku);replace hb1:=(show Hid _ from hb1);have rt2:=(rk.nofull.colp 0 (by omega) rfl).w;have hli:=fun W2 (h2:Scr W2 35 base B [] { t with full:=false,col:=0 } v vg vo) (hb2:base<=W2.heap.size)=>l7Line_any cn N base B { t with full:=false,col:=0 } v vg vo W2 h2 hb2 rt2
 replace hli:=(show Hid _ from hli);have hbw:=hbase;replace hbw:=(show Hid _ from hbw);clear rt2 hb1;clear h rt rk hbase hcc hcol hgc;go_enter Tryz.func141,Tryz.ntmps141;go_wp2_with fail;refine hwd.mono ?_;rintro e wk ⟨rfl,hk⟩;replace hk:=hk.symm;subst hk;clear hwd;go_wp2;rw [<- hW1.out]
 go_quiet (fail);have h1d:=h1.out.below (drwP W1 nq);have h2:Res w ((W1.drewN nq).setCell ⟨B,5,none⟩ (.int .i64 0)) 35 base B [] v vg vo { t with full:=false,col:=0 } v vg vo:=h1d.trans (h1d.s.put (sCg B [.int .i64 0] 5 _) { t with full:=false,col:=0 } (sCh B 35 [.int .i64 0] 5 _ _ h1d.s.b) rfl rfl rfl rfl rfl);have hli2:=hli.out _ h2.s (Nat.le_trans hbw.out h2.g.size);replace h2:=(show Hid _ from h2);clear h1d hli;go_wp2_with fail;refine hli2.mono ?_;rintro e w3 ⟨rfl,v3,vg3,vo3,hR3⟩;have hZ:=h2.out.trans hR3;have hbz:base<=w3.heap.size:=Nat.le_trans hbw.out hZ.g.size;obtain ⟨Wz,hWz⟩:∃ Wz,Hid (Wz=w3):=⟨_,rfl⟩;rw [<- hWz.out] at hZ hbz
 have hd:Below Wz.heap.size Wz w3.drew:=by rw [hWz.out];exact ⟨rfl,rfl,rfl,Nat.le_refl _,fun _ _=>rfl⟩
 clear hli2 hR3 h2;go_wp2;obtain ⟨g,cap,i,a,ra,rn,rc,R,hie,hae,hiN,hRe,cf,ci,zi,hcd,hfr,hsc⟩:=print_facts cn N base B u _ _ _ Wz (by rw [hu.out];exact hZ.s) hbz rku.out.w r hw1r hqu;unfold PrC at cf hsc;replace hZ:=(show Hid _ from hZ);replace hRe:=(show Hid _ from hRe);replace hie:=(show Hid _ from hie);have esy:IntKind.i64.wrap ((a:Int)+wd)=sy:=by rw [<- hae,hsy.out];have h9:=hsy.out;have h8:=rku.out.w.col;have h7:=rku.out.w.c;simp [IntKind.wrap,IntKind.bits,IntKind.signed];omega
 have egc:IntKind.i64.wrap (t.gc-1)=t.gc-1:=by have h8:=rku.out.w.gc;have h7:=rku.out.w.c;simp [IntKind.wrap,IntKind.bits,IntKind.signed];omega
 replace hae:=(show Hid _ from hae);have i0:(0:Int)<=(i:Int):=by omega
 have i1:(i:Int)<(N:Int):=by omega
 have di:=ci _ hd;clear rku hqu;refine wp_region_noPanic ?_;refine wp_region_held_drew (S:=(fun W=>W.cell? ⟨B,1,none⟩=some (.slice (some ⟨g,0,none⟩) N cap)/\W.cell? ⟨B,4,none⟩=some (.int .i64 (i:Int))/\W.cell? ⟨B,5,none⟩=some (.int .i64 (a:Int))/\W.cell? ⟨B,6,none⟩=some (.int .i64 u.st.fore)/\W.cell? ⟨B,7,none⟩=some (.int .i64 u.st.back)/\W.cell? ⟨B,8,none⟩=some (.bool u.st.bold)/\W.cell? ⟨B,9,none⟩=some (.bool u.st.under)/\W.cell? ⟨B,10,none⟩=some (.bool u.st.turned))) (by kernel_rfl) (cf _ hd) (fun hHeld=>?_);refine tk 0 ?_;refine tk 1 ?_;refine tk 2 ?_;refine tk 3 ?_;refine tk 4 ?_;refine tk 5 ?_;refine tk 6 ?_;refine tk 7 ?_;refine tk 8 ?_;refine tk 9 ?_;refine tk 10 ?_;refine tk 11 ?_;refine tk 12 ?_;refine tk 13 ?_;refine tk 14 ?_;refine tk 15 ?_;refine tk 16 ?_;refine tk 17 ?_;refine tk 18 ?_;refine tk 20 ?_;refine tk 21 ?_;refine tk 22 ?_;refine tk 23 ?_;refine tk 24 ?_;refine tk 25 ?_;refine tk 26 ?_;refine tk 27 ?_;refine tk 28 ?_;refine rdo 19 fun K hK=>?_
 go_simp;refine hK.out _ _ (hHeld) (fun hHeld=>?_);clear hK K;refine rdo 29 fun K hK=>?_
 go_simp;refine (hcd _ hd).mono ?_;rintro e w2 ⟨x,rfl,hx,hb⟩;have hx2:=hx.low hd.size;replace hd:=hd.trans (hb.mono hd.size);obtain ⟨ua,un,uc,hue⟩:=hx2.isSl;subst hue;have di:=ci _ hd;have zj:=zi _ hd;go_wp2_with fail;refine hK.out _ _ (cf _ hd) (fun hHeld=>?_);clear hK K;refine tk 30 ?_;refine rdo 31 fun K hK=>?_
 go_simp;refine hK.out _ _ (hsc _ _ hd) (fun hHeld=>?_);clear hK K
 (try simp only [Act.put,ZA,ZB,ZC,ZD,ZE,ZF])
 refine dn ?_;have hRow:=hZ.out.trans (hfr _ _ hd hx2);clear hfr hcd cf hsc ci zi di zj hd hx hx2 hb hHeld hZ;generalize w2.setCell ⟨g,i,none⟩ (.slice ua un uc)=Wq at *;have y5:Wq.cell? ⟨B,5,none⟩=some (.int .i64 (a:Int)):=by rw [<- hae.out];exact hRow.s.cell 5
 have y0:Wq.cell? ⟨B,0,none⟩=some (.int .i64 t.gc):=by rw [<- hug];exact hRow.s.cell 0
 have x5:Wq.frozen? ⟨B,5,none⟩=false:=hRow.s.frozen 5;have x13:Wq.frozen? ⟨B,13,none⟩=false:=hRow.s.frozen 13;have y13:∃ bb,Wq.cell? ⟨B,13,none⟩=some (.bool bb):=⟨_,hRow.s.cell 13⟩;obtain ⟨bb,y13⟩:=y13;have hfin:=fun q=>print_on base B u v _ vg vo _ _ w Wq R t.gc r hRow hRe.out (by rw [hwdo,hsy.out];omega) q
 rw [hwdo,hsy.out] at hfin
 replace hfin:=(show Hid _ from hfin);clear hRow hug hwdo huc;go_wp2;go_quiet (fail);go_wp2;refine be ?_;exact ⟨rfl,_,_,_,hfin.out _⟩
theorem l7Print_B1 (cn N base B:Nat) (t:Te) (v:Tv) (vg vo:List Value) (w:World) (h:Scr w 35 base B [] t v vg vo) (hbase:base<=w.heap.size) (rk:RtK t cn N) (r:Int) (hw1:1<=wdV r) (hw2:wdV r<=t.gc) (hf:t.full=false) (hwr:t.wrap=true) (hov:t.gc<t.col+wdV r) (hend:t.gc<=0+wdV r) :
  Calls Tryz.prog 141 #[.pointer (some ⟨B,0,none⟩),.int .i64 r] w fun e w'=>e=.returned (.tuple #[])/\∃ v' vg' vo',Res w w' 35 base B [] v vg vo (printT t r) v' vg' vo':=by
 have rt:=rk.w;have hcc:=rt.c;have hgc:=rt.gc;have hcol:=rt.col;have hwb:=widthV_bd r;have hwd:=specWidth_any r w;obtain ⟨u,hu⟩:∃ u,Hid (u=lineT { t with full:=false,col:=0 }):=⟨_,rfl⟩
 have hV:printT t r=p3T u t.gc r:=by
  have e1:p1T t=({ t with full:=false }:Te):=by unfold p1T;rw [if_neg (by simp [hf])]
  have e2:p2T ({ t with full:=false }:Te) t.gc r=lineT { t with full:=false,col:=0 }:=by unfold p2T;rw [if_pos hov,if_pos hwr]
  rw [printT_eq t r hw1 hw2,hu.out,e1,e2]
 have rku:RtK u cn N:=by rw [hu.out];exact ((rk.nofull.colp 0 (by omega) rfl).line)
 have hug:u.gc=t.gc:=by rw [hu.out];exact lineT_gc _
 have huc:u.col=0:=by rw [hu.out,lineT_col { t with full:=false } 0]
 rw [hV]
 clear hV;have c13:w.cell? ⟨B,13,none⟩=some (.bool t.full):=h.cell 13;have c0:w.cell? ⟨B,0,none⟩=some (.int .i64 t.gc):=h.cell 0;have z13:w.frozen? ⟨B,13,none⟩=false:=h.frozen 13;have h1:Res w (w.setCell ⟨B,13,none⟩ (.bool false)) 35 base B [] v vg vo { t with full:=false } v vg vo:=h.put (sCg B [.bool false] 13 w) _ (sCh B 35 [.bool false] 13 w _ h.b) rfl rfl rfl rfl rfl;have hb1:=Nat.le_trans hbase h1.g.size;obtain ⟨W1,hW1⟩:∃ W1,Hid (W1=w.setCell ⟨B,13,none⟩ (.bool false)):=⟨_,rfl⟩;rw [<- hW1.out] at h1 hb1
 have f14w:w.cell? ⟨B,14,none⟩=some (.bool t.wrap):=h.cell 14;have f14:W1.cell? ⟨B,14,none⟩=some (.bool t.wrap):=h1.s.cell 14;have f5:W1.cell? ⟨B,5,none⟩=some (.int .i64 t.col):=h1.s.cell 5;have f0:W1.cell? ⟨B,0,none⟩=some (.int .i64 t.gc):=h1.s.cell 0;have z5:W1.frozen? ⟨B,5,none⟩=false:=h1.s.frozen 5;have f5w:w.cell? ⟨B,5,none⟩=some (.int .i64 t.col):=h.cell 5;have z5w:w.frozen? ⟨B,5,none⟩=false:=h.frozen 5;rw [hf] at c13
 rw [hwr] at f14 f14w
 obtain ⟨wd,hwde⟩:∃ wd,Hid (wdV r=wd):=⟨_,rfl⟩;have hwdo:=hwde.out;rw [hwdo] at hwd hw1 hw2 hwb hov hend
 try rw [hwdo] at huc
 have q0:(wd==0)=false:=by simp;omega
 have q1:¬ t.gc<wd:=by omega
 obtain ⟨sx,hsx⟩:∃ sx,Hid (t.col+wd=sx):=⟨_,rfl⟩;have esx:IntKind.i64.wrap (t.col+wd)=sx:=by rw [<- hsx.out];simp [IntKind.wrap,IntKind.bits,IntKind.signed];omega
 have hov2:t.gc<sx:=by rw [<- hsx.out];exact hov
 have hqu:u.col+wdV r<=cn:=by rw [hwdo,huc];omega
 obtain ⟨sy,hsy⟩:∃ sy,Hid (u.col+wd=sy):=⟨_,rfl⟩;have hend2:t.gc<=sy:=by rw [<- hsy.out,huc];exact hend
 have hw1r:1<=wdV r:=by rw [hwdo];exact hw1
 clear hwb;replace h1:=(show Hid _ from h1);replace rku:=(show Hid _ from rku);replace hb1:=(show Hid _ from hb1);have rt2:=(rk.nofull.colp 0 (by omega) rfl).w;have hli:=fun W2 (h2:Scr W2 35 base B [] { t with full:=false,col:=0 } v vg vo) (hb2:base<=W2.heap.size)=>l7Line_any cn N base B { t with full:=false,col:=0 } v vg vo W2 h2 hb2 rt2
 replace hli:=(show Hid _ from hli);have hbw:=hbase;replace hbw:=(show Hid _ from hbw);clear rt2 hb1;clear h rt rk hbase hcc hcol hgc;go_enter Tryz.func141,Tryz.ntmps141;go_wp2_with fail;refine hwd.mono ?_;rintro e wk ⟨rfl,hk⟩;replace hk:=hk.symm;subst hk;clear hwd;go_wp2;rw [<- hW1.out]
 go_quiet (fail);have h1d:=h1.out.below (drwP W1 nq);have h2:Res w ((W1.drewN nq).setCell ⟨B,5,none⟩ (.int .i64 0)) 35 base B [] v vg vo { t with full:=false,col:=0 } v vg vo:=h1d.trans (h1d.s.put (sCg B [.int .i64 0] 5 _) { t with full:=false,col:=0 } (sCh B 35 [.int .i64 0] 5 _ _ h1d.s.b) rfl rfl rfl rfl rfl);have hli2:=hli.out _ h2.s (Nat.le_trans hbw.out h2.g.size);replace h2:=(show Hid _ from h2);clear h1d hli;go_wp2_with fail;refine hli2.mono ?_;rintro e w3 ⟨rfl,v3,vg3,vo3,hR3⟩;have hZ:=h2.out.trans hR3;have hbz:base<=w3.heap.size:=Nat.le_trans hbw.out hZ.g.size;obtain ⟨Wz,hWz⟩:∃ Wz,Hid (Wz=w3):=⟨_,rfl⟩;rw [<- hWz.out] at hZ hbz
 have hd:Below Wz.heap.size Wz w3.drew:=by rw [hWz.out];exact ⟨rfl,rfl,rfl,Nat.le_refl _,fun _ _=>rfl⟩
 clear hli2 hR3 h2;go_wp2;obtain ⟨g,cap,i,a,ra,rn,rc,R,hie,hae,hiN,hRe,cf,ci,zi,hcd,hfr,hsc⟩:=print_facts cn N base B u _ _ _ Wz (by rw [hu.out];exact hZ.s) hbz rku.out.w r hw1r hqu;unfold PrC at cf hsc;replace hZ:=(show Hid _ from hZ);replace hRe:=(show Hid _ from hRe);replace hie:=(show Hid _ from hie);have esy:IntKind.i64.wrap ((a:Int)+wd)=sy:=by rw [<- hae,hsy.out];have h9:=hsy.out;have h8:=rku.out.w.col;have h7:=rku.out.w.c;simp [IntKind.wrap,IntKind.bits,IntKind.signed];omega
 have egc:IntKind.i64.wrap (t.gc-1)=t.gc-1:=by have h8:=rku.out.w.gc;have h7:=rku.out.w.c;simp [IntKind.wrap,IntKind.bits,IntKind.signed];omega
 replace hae:=(show Hid _ from hae);have i0:(0:Int)<=(i:Int):=by omega
 have i1:(i:Int)<(N:Int):=by omega
 have di:=ci _ hd;clear rku hqu;refine wp_region_noPanic ?_;refine wp_region_held_drew (S:=(fun W=>W.cell? ⟨B,1,none⟩=some (.slice (some ⟨g,0,none⟩) N cap)/\W.cell? ⟨B,4,none⟩=some (.int .i64 (i:Int))/\W.cell? ⟨B,5,none⟩=some (.int .i64 (a:Int))/\W.cell? ⟨B,6,none⟩=some (.int .i64 u.st.fore)/\W.cell? ⟨B,7,none⟩=some (.int .i64 u.st.back)/\W.cell? ⟨B,8,none⟩=some (.bool u.st.bold)/\W.cell? ⟨B,9,none⟩=some (.bool u.st.under)/\W.cell? ⟨B,10,none⟩=some (.bool u.st.turned))) (by kernel_rfl) (cf _ hd) (fun hHeld=>?_);refine tk 0 ?_;refine tk 1 ?_;refine tk 2 ?_;refine tk 3 ?_;refine tk 4 ?_;refine tk 5 ?_;refine tk 6 ?_;refine tk 7 ?_;refine tk 8 ?_;refine tk 9 ?_;refine tk 10 ?_;refine tk 11 ?_;refine tk 12 ?_;refine tk 13 ?_;refine tk 14 ?_;refine tk 15 ?_;refine tk 16 ?_;refine tk 17 ?_;refine tk 18 ?_;refine tk 20 ?_;refine tk 21 ?_;refine tk 22 ?_;refine tk 23 ?_;refine tk 24 ?_;refine tk 25 ?_;refine tk 26 ?_;refine tk 27 ?_;refine tk 28 ?_;refine rdo 19 fun K hK=>?_
 go_simp;refine hK.out _ _ (hHeld) (fun hHeld=>?_);clear hK K;refine rdo 29 fun K hK=>?_
 go_simp;refine (hcd _ hd).mono ?_;rintro e w2 ⟨x,rfl,hx,hb⟩;have hx2:=hx.low hd.size;replace hd:=hd.trans (hb.mono hd.size);obtain ⟨ua,un,uc,hue⟩:=hx2.isSl;subst hue;have di:=ci _ hd;have zj:=zi _ hd;go_wp2_with fail;refine hK.out _ _ (cf _ hd) (fun hHeld=>?_);clear hK K;refine tk 30 ?_;refine rdo 31 fun K hK=>?_
 go_simp;refine hK.out _ _ (hsc _ _ hd) (fun hHeld=>?_);clear hK K
 (try simp only [Act.put,ZA,ZB,ZC,ZD,ZE,ZF])
 refine dn ?_;have hRow:=hZ.out.trans (hfr _ _ hd hx2);clear hfr hcd cf hsc ci zi di zj hd hx hx2 hb hHeld hZ;generalize w2.setCell ⟨g,i,none⟩ (.slice ua un uc)=Wq at *;have y5:Wq.cell? ⟨B,5,none⟩=some (.int .i64 (a:Int)):=by rw [<- hae.out];exact hRow.s.cell 5
 have y0:Wq.cell? ⟨B,0,none⟩=some (.int .i64 t.gc):=by rw [<- hug];exact hRow.s.cell 0
 have x5:Wq.frozen? ⟨B,5,none⟩=false:=hRow.s.frozen 5;have x13:Wq.frozen? ⟨B,13,none⟩=false:=hRow.s.frozen 13;have y13:∃ bb,Wq.cell? ⟨B,13,none⟩=some (.bool bb):=⟨_,hRow.s.cell 13⟩;obtain ⟨bb,y13⟩:=y13;have hfin:=fun q=>print_end base B u v _ vg vo _ _ w Wq R t.gc r hRow hRe.out (by rw [hwdo,hsy.out];omega) q
 rw [hwdo,hsy.out] at hfin
 replace hfin:=(show Hid _ from hfin);clear hRow hug hwdo huc;go_wp2;go_quiet (fail);go_wp2;refine be ?_;exact ⟨rfl,_,_,_,hfin.out _⟩
end Go.Proofs.YtgcnmjjlmcnllaaGreatDoor
