/- Parts of the proof. -/
import Derived.Test.YtgcnmjjlmcnllaaGreatDoorP2
import Derived.Laws.StructEq
import Derived.Lib.AppendZeros
import Derived.Laws.CopyOwn
import Derived.Deep.RegionHeld3
namespace Go.Proofs.YtgcnmjjlmcnllaaGreatDoor
set_option maxRecDepth 20000
set_option maxHeartbeats 16000000
open Go.ChangeShapes Go.WideShapes Go.ChangeAt Go.RowKit
theorem szI_any (v:Value) (xs:List Int) (left:Nat) (w:World) (hv:SlI w v xs) (hl:xs.length<=maxLen) (hf:left<=4611686018427387904) :
  Calls Tryz.prog 88 #[v,.int .i64 left] w fun e w'=>e=.returned (.int .i64 (if left<xs.length then -1 else ((left-xs.length:Nat):Int)))/\w'=w:=by
 unfold maxLen at hl;obtain ⟨a,c,rfl⟩:=hv.shp;clear hv;generalize xs.length=n at *
 by_cases h:left<n
 ·have h2:(left:Int)-(n:Int)<0:=by omega
  rw [if_pos h]
  go_enter Tryz.func88,Tryz.ntmps88;go_wp2;go_ret;exact ⟨rfl,rfl⟩
 ·have h2:¬ (left:Int)-(n:Int)<0:=by omega
  have h3:Hid (((left-n:Nat):Int)=(left:Int)-(n:Int)):=by show _=_;omega
  rw [if_neg h]
  go_enter Tryz.func88,Tryz.ntmps88;go_wp2;go_ret;exact ⟨by rw [h3.out];rfl,rfl⟩
def szP (n m left:Nat):Int:=if left<n then -1 else if left-n<m then -1 else ((left-n-m:Nat):Int)
theorem szParser_any (p:Pa) (pv tv:Value) (left:Nat) (w:World) (hp:SlI w pv p.params) (ht:SlI w tv p.text) (hpl:p.params.length<=maxLen) (htl:p.text.length<=maxLen) (hf:left<=4611686018427387904) :
  Calls Tryz.prog 89 #[paV p pv tv,.int .i64 left] w fun e w'=>e=.returned (.int .i64 (szP p.params.length p.text.length left))/\Below w.heap.size w w':=by
 obtain ⟨s,ps,m,ts⟩:=p;have hb:=bal' w (Obj.cells #[.int .i64 s,pv,.int .i64 m,tv] 62);have hP:=PaC.new w s m pv tv 62;have h1:=szI_any pv ps left _ (hp.below hb) hpl hf;have h2:=fun l h=>szI_any tv ts l _ (ht.below hb) htl h
 unfold paV at *;simp only at *;obtain ⟨pa,pc,hpv⟩:=hp.shp;obtain ⟨ta,tc,htv⟩:=ht.shp;subst hpv;subst htv;obtain ⟨_,⟨c0,c1,c2,c3⟩,_⟩:=id hP;obtain ⟨rv,hrv⟩:∃ rv,Hid (rv=szP ps.length ts.length left):=⟨_,rfl⟩;rw [<- hrv.out]
 by_cases q1:left<ps.length
 ·have hv:Hid (rv=-1):=by show _=_;rw [hrv.out];unfold szP;rw [if_pos q1]
  rw [if_pos q1] at h1
  clear h2 hp ht hP hrv;go_enter Tryz.func89,Tryz.ntmps89;go_wp2_with (go_at_call 88;refine h1.mono ?_;rintro e w' ⟨rfl,rfl⟩);go_ret;exact ⟨by rw [hv.out];rfl,hb⟩
 ·rw [if_neg q1] at h1
  have h3:=h2 (left-ps.length) (by omega);have hn:¬ (((left-ps.length:Nat):Int)<0):=by omega
  obtain ⟨l2,hl2⟩:∃ l2,Hid (l2=left-ps.length):=⟨_,rfl⟩;rw [<- hl2.out] at h1 h3 hn
  by_cases q2:l2<ts.length
  ·have hv:Hid (rv=-1):=by show _=_;rw [hrv.out];unfold szP;rw [if_neg q1,if_pos (by rw [<- hl2.out];exact q2)]
   rw [if_pos q2] at h3
   clear h2 hp ht hP hrv hl2;go_enter Tryz.func89,Tryz.ntmps89;go_wp2_with fail;refine h1.mono ?_;rintro e w3 ⟨rfl,hw⟩;subst hw;clear h1;go_wp2_with fail;refine h3.mono ?_;rintro e w4 ⟨rfl,hw⟩;subst hw;clear h3;go_wp2;go_ret;exact ⟨by rw [hv.out];rfl,hb⟩
  ·obtain ⟨l3,hl3⟩:∃ l3,Hid (l3=l2-ts.length):=⟨_,rfl⟩
   have hv:Hid (rv=(l3:Int)):=by show _=_;rw [hrv.out,hl3.out,hl2.out];unfold szP;rw [if_neg q1,if_neg (by rw [<- hl2.out];exact q2)]
   rw [if_neg q2,<- hl3.out] at h3
   have hn3:¬ ((l3:Int)<0):=by omega
   clear h2 hp ht hP hrv hl2 hl3;go_enter Tryz.func89,Tryz.ntmps89;go_wp2_with fail;refine h1.mono ?_;rintro e w3 ⟨rfl,hw⟩;subst hw;clear h1;go_wp2_with fail;refine h3.mono ?_;rintro e w4 ⟨rfl,hw⟩;subst hw;clear h3;go_wp2;go_ret;exact ⟨by rw [hv.out];rfl,hb⟩
theorem drewN_bel (w:World) (n:Nat):Below w.heap.size w (w.drewN n):=by
 induction n with
 | zero=>exact Below.refl _ _
 | succ n ih=>exact ih.trans ((bdr _).mono ih.size)
theorem eqParser_same (p:Pa) (pv tv pv2 tv2:Value) (w:World) (hp:SlI w pv p.params) (ht:SlI w tv p.text) (hp2:SlI w pv2 p.params) (ht2:SlI w tv2 p.text) (hpl:p.params.length<=1073741824) (htl:p.text.length<=1073741824) :
  Calls Tryz.prog 99 #[paV p pv tv,paV p pv2 tv2] w fun e w'=>e=.returned (.bool true)/\Below w.heap.size w w':=by
 obtain ⟨s,ps,m,ts⟩:=p;have hb1:=bal' w (Obj.cells #[.int .i64 s,pv,.int .i64 m,tv] 31);have hb2:=bal' (w.alloc (Obj.cells #[.int .i64 s,pv,.int .i64 m,tv] 31)) (Obj.cells #[.int .i64 s,pv2,.int .i64 m,tv2] 31);have hbb:=hb1.trans (hb2.mono hb1.size);have hP:=(PaC.new w s m pv tv 31).below hb2;have hR:=PaC.new (w.alloc (Obj.cells #[.int .i64 s,pv,.int .i64 m,tv] 31)) s m pv2 tv2 31;rw [show (w.alloc (Obj.cells #[.int .i64 s,pv,.int .i64 m,tv] 31)).heap.size=w.heap.size+1 by simp] at hR
 have e1:=eqI_same pv pv2 ps _ (hp.below hbb) (hp2.below hbb) hpl;have e2:=fun W h1 h2=>eqI_same tv tv2 ts W h1 h2 htl
 have ht3:=ht.below hbb;have ht4:=ht2.below hbb;unfold paV at *;simp only at *;obtain ⟨pa,pc,hpv⟩:=hp.shp;obtain ⟨ta,tc,htv⟩:=ht.shp;obtain ⟨pa2,pc2,hpv2⟩:=hp2.shp;obtain ⟨ta2,tc2,htv2⟩:=ht2.shp;subst hpv;subst htv;subst hpv2;subst htv2;obtain ⟨_,⟨c0,c1,c2,c3⟩,_⟩:=id hP;obtain ⟨_,⟨d0,d1,d2,d3⟩,_⟩:=id hR;clear hp ht hp2 ht2 hb1 hb2;go_enter Tryz.func99,Tryz.ntmps99;go_wp2_with fail;refine e1.mono ?_;rintro e w3 ⟨rfl,n,hw⟩;have hbn:Below _ _ w3:=hw ▸ drewN_bel _ n;have hP3:=hP.below hbn;have hR3:=hR.below hbn;have e3:=e2 w3 (ht3.below hbn) (ht4.below hbn);have hb3:=hbb.trans (hbn.mono hbb.size);clear hw hbn hP hR e1 e2 ht3 ht4 hbb c0 c1 c2 c3 d0 d1 d2 d3;obtain ⟨_,⟨c0,c1,c2,c3⟩,_⟩:=hP3;obtain ⟨_,⟨d0,d1,d2,d3⟩,_⟩:=hR3;go_wp2_with fail;refine e3.mono ?_;rintro e w4 ⟨rfl,n2,hw⟩;have hbn:Below w3.heap.size w3 w4:=hw ▸ drewN_bel _ n2;have hb4:=hb3.trans (hbn.mono hb3.size);clear hw hbn e3 hb3 c0 c1 c2 c3 d0 d1 d2 d3;go_wp2;go_ret;exact ⟨rfl,hb4⟩
theorem toParser_copy (p:Pa) (pv tv:Value) (w:World) (hp:SlI w pv p.params) (ht:SlI w tv p.text) (hpl:p.params.length<=1073741824) (htl:p.text.length<=1073741824) :
  Calls Tryz.prog 94 #[paV p pv tv] w fun e w'=>∃ pv' tv',e=.returned (paV p pv' tv')/\LiOk w' w.heap.size [(pv',p.params),(tv',p.text)]/\Below w.heap.size w w':=by
 obtain ⟨s,ps,m,ts⟩:=p;have hto1:=fun W h=>toI_copy pv ps W h hpl
 have hto2:=fun W h=>toI_copy tv ts W h htl
 unfold paV at *;simp only at *;obtain ⟨pa,pc,hpv⟩:=hp.shp;obtain ⟨ta,tc,htv⟩:=ht.shp;subst hpv;subst htv;have hb0:=bal' w (Obj.cells #[.int .i64 s,.slice pa ps.length pc,.int .i64 m,.slice ta ts.length tc] 62);have hA:=PaC.new w s m (.slice pa ps.length pc) (.slice ta ts.length tc) 62;have z0:(w.alloc (Obj.cells #[.int .i64 s,.slice pa ps.length pc,.int .i64 m,.slice ta ts.length tc] 62)).heap.size=w.heap.size+1:=by simp
 have hp1:=hp.below hb0;have ht1:=ht.below hb0;generalize hw1:w.alloc (Obj.cells #[.int .i64 s,.slice pa ps.length pc,.int .i64 m,.slice ta ts.length tc] 62)=w1 at *;have hb1:=bal' w1 (Obj.cells #[.int .i64 0,.slice none 0 0,.int .i64 0,.slice none 0 0] 31);have hb2:=bal' (w1.alloc (Obj.cells #[.int .i64 0,.slice none 0 0,.int .i64 0,.slice none 0 0] 31)) (Obj.cells #[.int .i64 s,.slice none 0 0,.int .i64 0,.slice none 0 0] 31);have hbb:=hb1.trans (hb2.mono hb1.size);have hR:=(PbB.new w1 0 0 (.slice none 0 0) (.slice none 0 0)).below hb2;have hO:=PbB.new (w1.alloc (Obj.cells #[.int .i64 0,.slice none 0 0,.int .i64 0,.slice none 0 0] 31)) s 0 (.slice none 0 0) (.slice none 0 0);rw [show (w1.alloc (Obj.cells #[.int .i64 0,.slice none 0 0,.int .i64 0,.slice none 0 0] 31)).heap.size=w.heap.size+2 by simp [z0]] at hO
 rw [z0] at hR
 have hA2:=hA.below hbb;have hp2:=hp1.below hbb;have ht2:=ht1.below hbb;have z3:((w1.alloc (Obj.cells #[.int .i64 0,.slice none 0 0,.int .i64 0,.slice none 0 0] 31)).alloc (Obj.cells #[.int .i64 s,.slice none 0 0,.int .i64 0,.slice none 0 0] 31)).heap.size=w.heap.size+3:=by simp [z0]
 have hbw:=hb0.trans (hbb.mono hb0.size);obtain ⟨_,⟨c0,c1,c2,c3⟩,_⟩:=id hA2;have hT:=hto1 _ hp2;subst hw1;have htw:=ht;clear hA hp hp1 ht ht1 hb0 hb1 hb2 hto1 hp2;go_enter Tryz.func94,Tryz.ntmps94;go_wp2_with fail;refine hT.mono ?_;rintro e w4 ⟨u,rfl,hou,hb4⟩;have hR4:=hR.below hb4;have hO4:=hO.below hb4;have hA4:=hA2.below hb4;have ht4:=ht2.below hb4;have hou:OwnI w4 (w.heap.size+3) u ps:=by rw [<- z3];exact hou
 obtain ⟨ua,un,uc,hu⟩:=hou.shape;subst hu;have hs4:w.heap.size+3<=w4.heap.size:=by rw [<- z3];exact hb4.size
 have hb4w:=hbw.trans (hb4.mono hbw.size)
  -- the first list and the mark are stored
 have g1:=setCell_gr w4 (w.heap.size+2) 1 (.slice ua un uc);have k1:PbB (w4.setCell ⟨w.heap.size+2,1,none⟩ (.slice ua un uc)) (w.heap.size+2) s (.slice ua un uc) 0 (.slice none 0 0):=hO4.set 1 _;have g2:=setCell_gr (w4.setCell ⟨w.heap.size+2,1,none⟩ (.slice ua un uc)) (w.heap.size+2) 2 (.int .i64 m);have k2:PbB ((w4.setCell ⟨w.heap.size+2,1,none⟩ (.slice ua un uc)).setCell ⟨w.heap.size+2,2,none⟩ (.int .i64 m)) (w.heap.size+2) s (.slice ua un uc) m (.slice none 0 0):=k1.set 2 _;have gg:=grown_tr g1 g2;have hb5:Below (w.heap.size+2) w4 ((w4.setCell ⟨w.heap.size+2,1,none⟩ (.slice ua un uc)).setCell ⟨w.heap.size+2,2,none⟩ (.int .i64 m)):=(Below.refl _ _).grown gg (by omega) (fun k e=>by cases e;exact Nat.le_refl _);have hou5:=hou.kept gg (.inr (fun e=>by have:=(hou.lt _ e).1;omega));have hA5:=hA4.grown gg (by simp);have hR5:=hR4.kept gg (by simp);have ht0:SlI ((w4.setCell ⟨w.heap.size+2,1,none⟩ (.slice ua un uc)).setCell ⟨w.heap.size+2,2,none⟩ (.int .i64 m)) (.slice ta ts.length tc) ts:=htw.below (hb4w.grown gg (by omega) (fun k e=>by cases e;omega));have z5:((w4.setCell ⟨w.heap.size+2,1,none⟩ (.slice ua un uc)).setCell ⟨w.heap.size+2,2,none⟩ (.int .i64 m)).heap.size=w4.heap.size:=by simp
 have hT2:=hto2 _ ht0;obtain ⟨_,⟨e0,e1,e2,e3⟩,_⟩:=id hA4;obtain ⟨r0,r1,r2,r3⟩:=hO4.cells;obtain ⟨y0,y1,y2,y3⟩:=hO4.frozen;have hb5w:=hb4w.grown gg (by omega) (fun k e=>by cases e;omega);clear hT hb4 hR hO hA2 c0 c1 c2 c3 ht2 ht4 hbb hR4 hO4 hA4 hou k1 g1 g2 gg hb5 ht0 htw hto2 hb4w;obtain ⟨W5,hW5⟩:∃ W5,W5=(w4.setCell ⟨w.heap.size+2,1,none⟩ (.slice ua un uc)).setCell ⟨w.heap.size+2,2,none⟩ (.int .i64 m):=⟨_,rfl⟩;rw [<- hW5] at k2 hou5 hA5 hR5 z5 hb5w
 have hW6:=(show Hid _ from hW5);clear hW5;go_wp2_with fail;refine hT2.mono ?_;rintro e w6 ⟨t,rfl,hot,hb6⟩;rw [<- hW6.out] at hot hb6
 clear hT2 e0 e1 e2 e3 r0 r1 r2 r3 y0 y1 y2 y3 hW6;have k6:=k2.below hb6;have hR6:=hR5.below hb6;have hou6:=hou5.below hb6;have hot:OwnI w6 w4.heap.size t ts:=by rw [<- z5];exact hot
 obtain ⟨sa,sn,sc,hu⟩:=hot.shape;subst hu;have g7:=setCell_gr w6 (w.heap.size+2) 3 (.slice sa sn sc);have k7:PbB (w6.setCell ⟨w.heap.size+2,3,none⟩ (.slice sa sn sc)) (w.heap.size+2) s (.slice ua un uc) m (.slice sa sn sc):=k6.set 3 _;have hR7:=hR6.kept g7 (by simp)
 have hL6:LiOk w6 w.heap.size [(.slice ua un uc,ps),(.slice sa sn sc,ts)] :=
  ((show LiOk W5 w.heap.size [(.slice ua un uc,ps)] from ⟨fun p hp=>by rw [List.mem_singleton] at hp;subst hp;exact hou5.low (by omega),List.pairwise_singleton _ _⟩).new hb6 (hot.low (by omega)) (fun g e=>by rw [z5];exact (hot.lt g e).1)).perm (List.Perm.swap _ _ _)
 have hne:∀ p∈[((.slice ua un uc:Value),ps),(.slice sa sn sc,ts)],∀ k,p.1.ownBlock=some k->w.heap.size+3<=k:=fun p hp k e=>by
  simp only [List.mem_cons,List.mem_nil_iff,or_false] at hp;rcases hp with rfl|rfl
  ·exact (hou6.lt k e).1
  ·have:=(hot.lt k e).1;omega
 have hb6w:=hb5w.trans (hb6.mono hb5w.size);have hs6:w4.heap.size<=w6.heap.size:=by rw [<- z5];exact hb6.size
 have hb7:=hb6w.grown g7 (by omega) (fun k e=>by cases e;omega);have hL7:=hL6.kept g7 (fun p hp=>.inr fun e=>by have:=hne p hp _ e;omega);have g8:=putP_grown (w6.setCell ⟨w.heap.size+2,3,none⟩ (.slice sa sn sc)) (w.heap.size+1) s (.slice ua un uc) m (.slice sa sn sc);have hF:=(hR7.put s m (.slice ua un uc) (.slice sa sn sc)).cells;have hL8:=hL7.kept g8 (fun p hp=>.inr fun e=>by have:=hne p hp _ e;omega);have hb8:=hb7.grown g8 (by simp;omega) (fun k e=>by cases e;omega);obtain ⟨e0,e1,e2,e3⟩:=k6.cells;obtain ⟨y0,y1,y2,y3⟩:=k6.frozen;obtain ⟨r0,r1,r2,r3⟩:=hR7.cells;obtain ⟨q0,q1,q2,q3⟩:=hR7.frozen;obtain ⟨f0,f1,f2,f3⟩:=hF;obtain ⟨j0,j1,j2,j3⟩:=k7.cells;simp only [putP] at f0 f1 f2 f3 hL8 hb8;have hfin:=(show Hid _ from And.intro hL8 hb8);clear hL8 hb8 hL7 hb7 hL6 hne hb6w hs6 g7 g8 k6 k7 hR6 hR7 hou6 hot hb6 hou5 k2 hA5 hR5 hb5w z5;go_wp2;exact bodyPost_ret (v:=.agg #[.int .i64 s,.slice ua un uc,.int .i64 m,.slice sa sn sc]) (by simp [results,Tryz.results94,go_sem,f0,f1,f2,f3]) rfl ⟨_,_,rfl,hfin.out⟩
theorem szFeeder_any (h:ByteArray) (n:Int) (w:World) (hs:h.size<=maxLen) (hn:0<=n/\n<=1048576) :
  Calls Tryz.prog 90 #[.agg #[.string h],.int .i64 n] w fun e w'=>e=.returned (.int .i64 (if n-(h.size:Int)<0 then -1 else n-(h.size:Int)))/\Below w.heap.size w w':=by
 unfold maxLen at hs
 by_cases hl:n-(h.size:Int)<0
 ·rw [if_pos hl]
  go_enter Tryz.func90,Tryz.ntmps90;go_wp2;go_ret;exact ⟨rfl,(Below.refl _ _).alloc (Nat.le_refl _) _⟩
 ·rw [if_neg hl]
  go_enter Tryz.func90,Tryz.ntmps90;go_wp2;go_ret;exact ⟨rfl,(Below.refl _ _).alloc (Nat.le_refl _) _⟩

theorem toFeeder_any (h:ByteArray) (w:World) :
  Calls Tryz.prog 95 #[.agg #[.string h]] w fun e w'=>e=.returned (.agg #[.string h])/\Below w.heap.size w w':=by
 go_enter Tryz.func95,Tryz.ntmps95;go_wp2;refine bodyPost_ret (v:=.agg #[.string h]) (by simp [results,Tryz.results95,go_sem]) rfl ⟨rfl,?_⟩;exact (((Below.refl _ _).alloc (Nat.le_refl _) _).alloc (by simp) _).alloc (by simp;omega) _
def TB (w:World) (B:Nat) (cs:List Value):Prop:=BlkC w B 35 cs
theorem TB.lt {w:World} {B:Nat} {cs:List Value} (h:TB w B cs):B<w.heap.size:=(Array.getElem?_eq_some_iff.1 h).1
theorem inf_i:(Tryz.prog.info? 2).map (·.size)=some 1:=by kernel_rfl
theorem inf_b:(Tryz.prog.info? 4).map (·.size)=some 1:=by kernel_rfl
theorem inf_g:(Tryz.prog.info? 26).map (·.size)=some 2:=by kernel_rfl
theorem inf_s:(Tryz.prog.info? 28).map (·.size)=some 5:=by kernel_rfl
theorem inf_l:(Tryz.prog.info? 29).map (·.size)=some 1:=by kernel_rfl
theorem inf_p:(Tryz.prog.info? 31).map (·.size)=some 4:=by kernel_rfl
theorem inf_f:(Tryz.prog.info? 33).map (·.size)=some 1:=by kernel_rfl
theorem TB.kept {w w':World} {B:Nat} {cs:List Value} {row:Option Nat} (h:TB w B cs) (hg:w.grownBy w' row) (hne:row≠some B):TB w' B cs:=by
 unfold TB BlkC;rw [hg.block B h.lt (Ne.symm hne)]
 exact h
theorem TB.below {w w':World} {B:Nat} {cs:List Value} (h:TB w B cs) (hb:Below w.heap.size w w'):TB w' B cs:=h.kept (gbl hb none) (by simp)
theorem TB.new (w:World) (cs:List Value):TB (w.alloc (.cells cs.toArray 35)) w.heap.size cs:=heap_alloc_new w _
theorem cAl {w:World} {B:Nat} {cs:Array Value} {T:TypeId} (h:w.heap[B]?=some (.cells cs T (0,0))) (k:Nat):w.cell? ⟨B,k,none⟩=cs[k]?:=cell_of_row w B _ _ _ (0,0) h
theorem LiOk.join {w:World} {b c:Nat} {L M:List (Value×List Int)} (h:LiOk w b L) (hl:∀ p∈L,∀ g,p.1.ownBlock=some g->g<c) (k:LiOk w c M) (hbc:b<=c):LiOk w b (L++M) :=
 ⟨fun p hp=>(List.mem_append.1 hp).elim (h.1 p) (fun hm=>(k.1 p hm).low hbc),List.pairwise_append.2 ⟨h.2,k.2,fun p hp q hq g e1 e2=>by have:=hl p hp g e1;have:=((k.1 q hq).lt g e2).1;omega⟩⟩
theorem OwnR.low {w:World} {lo lo' hi:Nat} {v:Value} {rows:List (List Ce)} (h:OwnR w lo hi v rows) (hb:lo'<=lo):OwnR w lo' hi v rows:=⟨h.1.low hb,h.2.1,h.2.2⟩
def OwnT (w:World) (base:Nat) (t:Te) (v:Tv):Prop:=∃ b1 b2 b3,OwnR w base b1 v.g t.g/\OwnR w b1 b2 v.o t.o/\LiOk w b3 [(v.ti,t.ti),(v.pp,t.pa.params),(v.pt,t.pa.text)]/\base<=b1/\b1<=b2/\b2<=b3/\b3<=w.heap.size
theorem OwnT.sl {w:World} {base:Nat} {t:Te} {v:Tv} (h:OwnT w base t v):SlT w t v:=by
 obtain ⟨b1,b2,b3,h1,h2,h3,_⟩:=h;exact ⟨h1.sl,h2.sl,SlN.of_own h3.head,SlN.of_own h3.tail.head,SlN.of_own h3.tail.tail.head⟩
theorem OwnR.grown {w w':World} {lo hi B:Nat} {v:Value} {rows:List (List Ce)} (h:OwnR w lo hi v rows) (hg:w.grownBy w' (some B)) (hB:B<lo):OwnR w' lo hi v rows :=
 ⟨h.1.kept hg (fun g e=>by cases e;exact hB),h.2.1,Nat.le_trans h.2.2 hg.size⟩
set_option maxRecDepth 40000 in
theorem toTerm_copy (t:Te) (v:Tv) (w:World) (h:SlT w t v) (hz:SzT 1048576 t) :
  Calls Tryz.prog 30 #[teV t v] w fun e w'=>∃ v',e=.returned (teV t v')/\OwnT w' w.heap.size t v'/\Below w.heap.size w w':=by
 obtain ⟨vg,vo,vti,vpp,vpt⟩:=v;obtain ⟨hg,ho,hti,hpp,hpt⟩:=h;simp only at hg ho hti hpp hpt;obtain ⟨z1,z2,z3,z4,z5,z6,z7⟩:=hz;have cG:=fun W hW=>toGrid_copy t.gc vg t.g W hW (by omega) (fun i hi=>by have:=z2 i hi;omega)
 have cO:=fun W hW=>toGrid_copy t.oc vo t.o W hW (by omega) (fun i hi=>by have:=z4 i hi;omega)
 have cS:=fun W=>toStyle_any t.st W
 have cSs:=fun W=>toStyle_any t.ss W
 have cT:=fun W hW=>toI_copy vti t.ti W hW (by omega)
 have cP:=fun W h1 h2=>toParser_copy t.pa vpp vpt W h1 h2 (by omega) (by omega)
 have cF:=fun W=>toFeeder_any t.fe W
 have hb0:=bal' w (Obj.cells (teCs t ⟨vg,vo,vti,vpp,vpt⟩) 65);have hX0:=TeB.new w 65 t ⟨vg,vo,vti,vpp,vpt⟩;obtain ⟨ga,gp,hq1⟩:=slG_shp hg;obtain ⟨oa,op,hq2⟩:=slG_shp ho;obtain ⟨tia,tip,hq3⟩:=hti.shp;obtain ⟨ppa,ppp,hq4⟩:=hpp.shp;obtain ⟨pta,ptp,hq5⟩:=hpt.shp;subst hq1;subst hq2;subst hq3;subst hq4;subst hq5;obtain ⟨w1,hw1⟩:∃ w1,w1=w.alloc (Obj.cells (teCs t ⟨.slice ga t.g.length gp,.slice oa t.o.length op,.slice tia t.ti.length tip,.slice ppa t.pa.params.length ppp,.slice pta t.pa.text.length ptp⟩) 65):=⟨_,rfl⟩;rw [<- hw1] at hX0 hb0
 have zs1:w1.heap.size=w.heap.size+1:=by rw [hw1];simp
 obtain ⟨w2,hw2⟩:∃ w2,w2=(w1.alloc (Obj.cells #[.int .i64 0,.slice none 0 0,.int .i64 0,.slice none 0 0,.int .i64 0,.int .i64 0,.int .i64 0,.int .i64 0,.bool false,.bool false,.bool false,.int .i64 0,.int .i64 0,.bool false,.bool false,.bool false,.bool false,.int .i64 0,.int .i64 0,.int .i64 0,.int .i64 0,.bool false,.bool false,.bool false,.slice none 0 0,.int .i64 0,.slice none 0 0,.int .i64 0,.slice none 0 0,.string ⟨#[]⟩] 35)).alloc (Obj.cells #[.int .i64 0,.slice none 0 0,.int .i64 0,.slice none 0 0,.int .i64 0,.int .i64 0,.int .i64 0,.int .i64 0,.bool false,.bool false,.bool false,.int .i64 0,.int .i64 0,.bool false,.bool false,.bool false,.bool false,.int .i64 0,.int .i64 0,.int .i64 0,.int .i64 0,.bool false,.bool false,.bool false,.slice none 0 0,.int .i64 0,.slice none 0 0,.int .i64 0,.slice none 0 0,.string ⟨#[]⟩] 35):=⟨_,rfl⟩;have hb1:=bal' w1 (Obj.cells #[.int .i64 0,.slice none 0 0,.int .i64 0,.slice none 0 0,.int .i64 0,.int .i64 0,.int .i64 0,.int .i64 0,.bool false,.bool false,.bool false,.int .i64 0,.int .i64 0,.bool false,.bool false,.bool false,.bool false,.int .i64 0,.int .i64 0,.int .i64 0,.int .i64 0,.bool false,.bool false,.bool false,.slice none 0 0,.int .i64 0,.slice none 0 0,.int .i64 0,.slice none 0 0,.string ⟨#[]⟩] 35);have hb2:=bal' (w1.alloc (Obj.cells #[.int .i64 0,.slice none 0 0,.int .i64 0,.slice none 0 0,.int .i64 0,.int .i64 0,.int .i64 0,.int .i64 0,.bool false,.bool false,.bool false,.int .i64 0,.int .i64 0,.bool false,.bool false,.bool false,.bool false,.int .i64 0,.int .i64 0,.int .i64 0,.int .i64 0,.bool false,.bool false,.bool false,.slice none 0 0,.int .i64 0,.slice none 0 0,.int .i64 0,.slice none 0 0,.string ⟨#[]⟩] 35)) (Obj.cells #[.int .i64 0,.slice none 0 0,.int .i64 0,.slice none 0 0,.int .i64 0,.int .i64 0,.int .i64 0,.int .i64 0,.bool false,.bool false,.bool false,.int .i64 0,.int .i64 0,.bool false,.bool false,.bool false,.bool false,.int .i64 0,.int .i64 0,.int .i64 0,.int .i64 0,.bool false,.bool false,.bool false,.slice none 0 0,.int .i64 0,.slice none 0 0,.int .i64 0,.slice none 0 0,.string ⟨#[]⟩] 35);have hR0:=(TB.new w1 [.int .i64 0,.slice none 0 0,.int .i64 0,.slice none 0 0,.int .i64 0,.int .i64 0,.int .i64 0,.int .i64 0,.bool false,.bool false,.bool false,.int .i64 0,.int .i64 0,.bool false,.bool false,.bool false,.bool false,.int .i64 0,.int .i64 0,.int .i64 0,.int .i64 0,.bool false,.bool false,.bool false,.slice none 0 0,.int .i64 0,.slice none 0 0,.int .i64 0,.slice none 0 0,.string ⟨#[]⟩]).below hb2;have hB0:=TB.new (w1.alloc (Obj.cells #[.int .i64 0,.slice none 0 0,.int .i64 0,.slice none 0 0,.int .i64 0,.int .i64 0,.int .i64 0,.int .i64 0,.bool false,.bool false,.bool false,.int .i64 0,.int .i64 0,.bool false,.bool false,.bool false,.bool false,.int .i64 0,.int .i64 0,.int .i64 0,.int .i64 0,.bool false,.bool false,.bool false,.slice none 0 0,.int .i64 0,.slice none 0 0,.int .i64 0,.slice none 0 0,.string ⟨#[]⟩] 35)) [.int .i64 0,.slice none 0 0,.int .i64 0,.slice none 0 0,.int .i64 0,.int .i64 0,.int .i64 0,.int .i64 0,.bool false,.bool false,.bool false,.int .i64 0,.int .i64 0,.bool false,.bool false,.bool false,.bool false,.int .i64 0,.int .i64 0,.int .i64 0,.int .i64 0,.bool false,.bool false,.bool false,.slice none 0 0,.int .i64 0,.slice none 0 0,.int .i64 0,.slice none 0 0,.string ⟨#[]⟩]
 have hbb:=hb1.trans (hb2.mono hb1.size);have zs2:w2.heap.size=w.heap.size+3:=by rw [hw2];simp;omega
 rw [<- hw2] at hR0 hB0 hbb
 rw [zs1] at hR0
 rw [show (w1.alloc (Obj.cells #[.int .i64 0,.slice none 0 0,.int .i64 0,.slice none 0 0,.int .i64 0,.int .i64 0,.int .i64 0,.int .i64 0,.bool false,.bool false,.bool false,.int .i64 0,.int .i64 0,.bool false,.bool false,.bool false,.bool false,.int .i64 0,.int .i64 0,.int .i64 0,.int .i64 0,.bool false,.bool false,.bool false,.slice none 0 0,.int .i64 0,.slice none 0 0,.int .i64 0,.slice none 0 0,.string ⟨#[]⟩] 35)).heap.size=w.heap.size+2 by simp;omega] at hB0
 have hX:=hX0.below hbb;have kb:=hb0.trans (hbb.mono hb0.size);rw [hw1] at hw2
 replace hw2:=(show Hid _ from hw2);clear z1 z2 z3 z4 z5 z6 z7 hb0 hb1 hb2 hbb hX0 hw1 zs1;unfold teV gridV stV paV at *;go_enter Tryz.func30,Tryz.ntmps30;refine wp_seq_k (fun K hK=>?_);have hH:=(show Hid _ from hK);clear hK;go_wp2;refine hH.out _ _ ?_;clear hH;refine wp_seq_k (fun K hK=>?_);have hH:=(show Hid _ from hK);clear hK;go_wp2;refine hH.out _ _ ?_;rw [<- hw2.out,show w.heap.size+1+1=w.heap.size+2 from rfl]
 clear hH hw2;obtain ⟨c0,c1,c2,c3,c4,c5,c6,c7,c8,c9,c10,c11,c12,c13,c14,c15,c16,c17,c18,c19,c20,c21,c22,c23,c24,c25,c26,c27,c28,c29⟩:=hX.cells;go_wp2_with fail;refine (cG _ (hg.below kb)).mono ?_;rintro e w3 ⟨xg,rfl,hng,hb⟩;clear c0 c1 c2 c3 c4 c5 c6 c7 c8 c9 c10 c11 c12 c13 c14 c15 c16 c17 c18 c19 c20 c21 c22 c23 c24 c25 c26 c27 c28 c29;have hB:=hB0.below hb;replace hX:=hX.below hb;have hR:=hR0.below hb;have s23:w2.heap.size<=w3.heap.size:=hb.size;replace kb:=kb.trans (hb.mono kb.size);clear hB0 hR0 hb;obtain ⟨xga,xgn,xgp,hxg⟩:=slShp (SlG.of_own hng);subst hxg;have og:OwnR w3 w2.heap.size w3.heap.size (.slice xga xgn xgp) t.g:=OwnR.of hng;clear hng;have hBl:=hB;have hac:=World.grownBy.refl w3 (some (w.heap.size+2));obtain ⟨z3,hz3⟩:∃ z,Hid (w3.heap.size=z):=⟨_,rfl⟩;have zc:=hz3;obtain ⟨c0,c1,c2,c3,c4,c5,c6,c7,c8,c9,c10,c11,c12,c13,c14,c15,c16,c17,c18,c19,c20,c21,c22,c23,c24,c25,c26,c27,c28,c29⟩:=hX.cells;go_wp2_with (first|(refine store_at (by rfl) 26 _ _ (by rfl) inf_g hB (by rfl) (by rfl) (by rfl) (by rfl) (by rfl) ?_;intro W hg1 hB1 hz1;clear c0 c1 c2 c3 c4 c5 c6 c7 c8 c9 c10 c11 c12 c13 c14 c15 c16 c17 c18 c19 c20 c21 c22 c23 c24 c25 c26 c27 c28 c29;have hX1:=hX.kept hg1 (by simp);have hac1:=grown_tr hac hg1;have zc1:=(show Hid _ from hz1.trans zc.out);clear hX hB hac zc hg1 hz1;have hX:=hX1;have hB:=hB1;have hac:=hac1;have zc:=zc1;clear hX1 hB1 hac1 zc1;obtain ⟨c0,c1,c2,c3,c4,c5,c6,c7,c8,c9,c10,c11,c12,c13,c14,c15,c16,c17,c18,c19,c20,c21,c22,c23,c24,c25,c26,c27,c28,c29⟩:=hX.cells));clear c0 c1 c2 c3 c4 c5 c6 c7 c8 c9 c10 c11 c12 c13 c14 c15 c16 c17 c18 c19 c20 c21 c22 c23 c24 c25 c26 c27 c28 c29;have kbc:=kb.grown hac kb.size (fun g e=>by cases e;omega);have hR:=hR.kept hac (by simp);have og:=og.grown hac (by omega);replace hB:TB _ (w.heap.size+2) [.int .i64 t.gc,.slice xga xgn xgp,.int .i64 0,.slice none 0 0,.int .i64 0,.int .i64 0,.int .i64 0,.int .i64 0,.bool false,.bool false,.bool false,.int .i64 0,.int .i64 0,.bool false,.bool false,.bool false,.bool false,.int .i64 0,.int .i64 0,.int .i64 0,.int .i64 0,.bool false,.bool false,.bool false,.slice none 0 0,.int .i64 0,.slice none 0 0,.int .i64 0,.slice none 0 0,.string ⟨#[]⟩]:=hB;clear hac hBl;refine (cO _ (ho.below kbc)).mono ?_;rintro e w4 ⟨xo,rfl,hno,hb⟩;replace hB:=hB.below hb;replace hX:=hX.below hb;replace hR:=hR.below hb;replace kb:=kbc.trans (hb.mono kbc.size);have s34:w3.heap.size<=w4.heap.size:=by have:=hb.size;rw [zc.out,<- hz3.out] at this;exact this
 replace og:=og.below hb;clear kbc hb;rw [zc.out,<- hz3.out] at hno
 obtain ⟨xoa,xon,xop,hxo⟩:=slShp (SlG.of_own hno);subst hxo;have oo:OwnR w4 w3.heap.size w4.heap.size (.slice xoa xon xop) t.o:=OwnR.of hno;clear hno;clear zc;have hBl:=hB;have hac:=World.grownBy.refl w4 (some (w.heap.size+2));obtain ⟨z4,hz4⟩:∃ z,Hid (w4.heap.size=z):=⟨_,rfl⟩;have zc:=hz4;obtain ⟨c0,c1,c2,c3,c4,c5,c6,c7,c8,c9,c10,c11,c12,c13,c14,c15,c16,c17,c18,c19,c20,c21,c22,c23,c24,c25,c26,c27,c28,c29⟩:=hX.cells;go_wp2_with (first|(refine store_at (by rfl) 26 _ _ (by rfl) inf_g hB (by rfl) (by rfl) (by rfl) (by rfl) (by rfl) ?_;intro W hg1 hB1 hz1;clear c0 c1 c2 c3 c4 c5 c6 c7 c8 c9 c10 c11 c12 c13 c14 c15 c16 c17 c18 c19 c20 c21 c22 c23 c24 c25 c26 c27 c28 c29;have hX1:=hX.kept hg1 (by simp);have hac1:=grown_tr hac hg1;have zc1:=(show Hid _ from hz1.trans zc.out);clear hX hB hac zc hg1 hz1;have hX:=hX1;have hB:=hB1;have hac:=hac1;have zc:=zc1;clear hX1 hB1 hac1 zc1;obtain ⟨c0,c1,c2,c3,c4,c5,c6,c7,c8,c9,c10,c11,c12,c13,c14,c15,c16,c17,c18,c19,c20,c21,c22,c23,c24,c25,c26,c27,c28,c29⟩:=hX.cells)|(refine store_at (by rfl) 2 _ _ (by rfl) inf_i hB (by rfl) (by rfl) (by rfl) (by rfl) (by rfl) ?_;intro W hg1 hB1 hz1;clear c0 c1 c2 c3 c4 c5 c6 c7 c8 c9 c10 c11 c12 c13 c14 c15 c16 c17 c18 c19 c20 c21 c22 c23 c24 c25 c26 c27 c28 c29;have hX1:=hX.kept hg1 (by simp);have hac1:=grown_tr hac hg1;have zc1:=(show Hid _ from hz1.trans zc.out);clear hX hB hac zc hg1 hz1;have hX:=hX1;have hB:=hB1;have hac:=hac1;have zc:=zc1;clear hX1 hB1 hac1 zc1;obtain ⟨c0,c1,c2,c3,c4,c5,c6,c7,c8,c9,c10,c11,c12,c13,c14,c15,c16,c17,c18,c19,c20,c21,c22,c23,c24,c25,c26,c27,c28,c29⟩:=hX.cells));clear c0 c1 c2 c3 c4 c5 c6 c7 c8 c9 c10 c11 c12 c13 c14 c15 c16 c17 c18 c19 c20 c21 c22 c23 c24 c25 c26 c27 c28 c29;have kbc:=kb.grown hac kb.size (fun g e=>by cases e;omega);have hR:=hR.kept hac (by simp);have og:=og.grown hac (by omega);have oo:=oo.grown hac (by omega);replace hB:TB _ (w.heap.size+2) [.int .i64 t.gc,.slice xga xgn xgp,.int .i64 t.oc,.slice xoa xon xop,.int .i64 t.row,.int .i64 t.col,.int .i64 0,.int .i64 0,.bool false,.bool false,.bool false,.int .i64 0,.int .i64 0,.bool false,.bool false,.bool false,.bool false,.int .i64 0,.int .i64 0,.int .i64 0,.int .i64 0,.bool false,.bool false,.bool false,.slice none 0 0,.int .i64 0,.slice none 0 0,.int .i64 0,.slice none 0 0,.string ⟨#[]⟩]:=hB;clear hac hBl;refine (cS _).mono ?_;rintro e w5 ⟨rfl,hb⟩;replace hB:=hB.below hb;replace hX:=hX.below hb;replace hR:=hR.below hb;replace kb:=kbc.trans (hb.mono kbc.size);have s45:w4.heap.size<=w5.heap.size:=by have:=hb.size;rw [zc.out,<- hz4.out] at this;exact this
 replace og:=og.below hb;replace oo:=oo.below hb;clear kbc hb;clear zc;have hBl:=hB;have hac:=World.grownBy.refl w5 (some (w.heap.size+2));obtain ⟨z5,hz5⟩:∃ z,Hid (w5.heap.size=z):=⟨_,rfl⟩;have zc:=hz5;obtain ⟨c0,c1,c2,c3,c4,c5,c6,c7,c8,c9,c10,c11,c12,c13,c14,c15,c16,c17,c18,c19,c20,c21,c22,c23,c24,c25,c26,c27,c28,c29⟩:=hX.cells;go_wp2_with (first|(refine store_at (by rfl) 28 _ _ (by rfl) inf_s hB (by rfl) (by rfl) (by rfl) (by rfl) (by rfl) ?_;intro W hg1 hB1 hz1;clear c0 c1 c2 c3 c4 c5 c6 c7 c8 c9 c10 c11 c12 c13 c14 c15 c16 c17 c18 c19 c20 c21 c22 c23 c24 c25 c26 c27 c28 c29;have hX1:=hX.kept hg1 (by simp);have hac1:=grown_tr hac hg1;have zc1:=(show Hid _ from hz1.trans zc.out);clear hX hB hac zc hg1 hz1;have hX:=hX1;have hB:=hB1;have hac:=hac1;have zc:=zc1;clear hX1 hB1 hac1 zc1;obtain ⟨c0,c1,c2,c3,c4,c5,c6,c7,c8,c9,c10,c11,c12,c13,c14,c15,c16,c17,c18,c19,c20,c21,c22,c23,c24,c25,c26,c27,c28,c29⟩:=hX.cells)|(refine store_at (by rfl) 2 _ _ (by rfl) inf_i hB (by rfl) (by rfl) (by rfl) (by rfl) (by rfl) ?_;intro W hg1 hB1 hz1;clear c0 c1 c2 c3 c4 c5 c6 c7 c8 c9 c10 c11 c12 c13 c14 c15 c16 c17 c18 c19 c20 c21 c22 c23 c24 c25 c26 c27 c28 c29;have hX1:=hX.kept hg1 (by simp);have hac1:=grown_tr hac hg1;have zc1:=(show Hid _ from hz1.trans zc.out);clear hX hB hac zc hg1 hz1;have hX:=hX1;have hB:=hB1;have hac:=hac1;have zc:=zc1;clear hX1 hB1 hac1 zc1;obtain ⟨c0,c1,c2,c3,c4,c5,c6,c7,c8,c9,c10,c11,c12,c13,c14,c15,c16,c17,c18,c19,c20,c21,c22,c23,c24,c25,c26,c27,c28,c29⟩:=hX.cells)|(refine store_at (by rfl) 4 _ _ (by rfl) inf_b hB (by rfl) (by rfl) (by rfl) (by rfl) (by rfl) ?_;intro W hg1 hB1 hz1;clear c0 c1 c2 c3 c4 c5 c6 c7 c8 c9 c10 c11 c12 c13 c14 c15 c16 c17 c18 c19 c20 c21 c22 c23 c24 c25 c26 c27 c28 c29;have hX1:=hX.kept hg1 (by simp);have hac1:=grown_tr hac hg1;have zc1:=(show Hid _ from hz1.trans zc.out);clear hX hB hac zc hg1 hz1;have hX:=hX1;have hB:=hB1;have hac:=hac1;have zc:=zc1;clear hX1 hB1 hac1 zc1;obtain ⟨c0,c1,c2,c3,c4,c5,c6,c7,c8,c9,c10,c11,c12,c13,c14,c15,c16,c17,c18,c19,c20,c21,c22,c23,c24,c25,c26,c27,c28,c29⟩:=hX.cells));clear c0 c1 c2 c3 c4 c5 c6 c7 c8 c9 c10 c11 c12 c13 c14 c15 c16 c17 c18 c19 c20 c21 c22 c23 c24 c25 c26 c27 c28 c29;have kbc:=kb.grown hac kb.size (fun g e=>by cases e;omega);have hR:=hR.kept hac (by simp);have og:=og.grown hac (by omega);have oo:=oo.grown hac (by omega);replace hB:TB _ (w.heap.size+2) [.int .i64 t.gc,.slice xga xgn xgp,.int .i64 t.oc,.slice xoa xon xop,.int .i64 t.row,.int .i64 t.col,.int .i64 t.st.fore,.int .i64 t.st.back,.bool t.st.bold,.bool t.st.under,.bool t.st.turned,.int .i64 t.top,.int .i64 t.bot,.bool t.full,.bool t.wrap,.bool t.away,.bool t.hid,.int .i64 t.sr,.int .i64 t.sc,.int .i64 0,.int .i64 0,.bool false,.bool false,.bool false,.slice none 0 0,.int .i64 0,.slice none 0 0,.int .i64 0,.slice none 0 0,.string ⟨#[]⟩]:=hB;clear hac hBl;refine (cSs _).mono ?_;rintro e w6 ⟨rfl,hb⟩;replace hB:=hB.below hb;replace hX:=hX.below hb;replace hR:=hR.below hb;replace kb:=kbc.trans (hb.mono kbc.size)
 have s56:w5.heap.size<=w6.heap.size:=by have:=hb.size;rw [zc.out,<- hz5.out] at this;exact this
 replace og:=og.below hb;replace oo:=oo.below hb;clear kbc hb;clear zc;have hBl:=hB;have hac:=World.grownBy.refl w6 (some (w.heap.size+2));obtain ⟨z6,hz6⟩:∃ z,Hid (w6.heap.size=z):=⟨_,rfl⟩;have zc:=hz6;obtain ⟨c0,c1,c2,c3,c4,c5,c6,c7,c8,c9,c10,c11,c12,c13,c14,c15,c16,c17,c18,c19,c20,c21,c22,c23,c24,c25,c26,c27,c28,c29⟩:=hX.cells;go_wp2_with (first|(refine store_at (by rfl) 28 _ _ (by rfl) inf_s hB (by rfl) (by rfl) (by rfl) (by rfl) (by rfl) ?_;intro W hg1 hB1 hz1;clear c0 c1 c2 c3 c4 c5 c6 c7 c8 c9 c10 c11 c12 c13 c14 c15 c16 c17 c18 c19 c20 c21 c22 c23 c24 c25 c26 c27 c28 c29;have hX1:=hX.kept hg1 (by simp);have hac1:=grown_tr hac hg1;have zc1:=(show Hid _ from hz1.trans zc.out);clear hX hB hac zc hg1 hz1;have hX:=hX1;have hB:=hB1;have hac:=hac1;have zc:=zc1;clear hX1 hB1 hac1 zc1;obtain ⟨c0,c1,c2,c3,c4,c5,c6,c7,c8,c9,c10,c11,c12,c13,c14,c15,c16,c17,c18,c19,c20,c21,c22,c23,c24,c25,c26,c27,c28,c29⟩:=hX.cells));clear c0 c1 c2 c3 c4 c5 c6 c7 c8 c9 c10 c11 c12 c13 c14 c15 c16 c17 c18 c19 c20 c21 c22 c23 c24 c25 c26 c27 c28 c29;have kbc:=kb.grown hac kb.size (fun g e=>by cases e;omega);have hR:=hR.kept hac (by simp);have og:=og.grown hac (by omega);have oo:=oo.grown hac (by omega);replace hB:TB _ (w.heap.size+2) [.int .i64 t.gc,.slice xga xgn xgp,.int .i64 t.oc,.slice xoa xon xop,.int .i64 t.row,.int .i64 t.col,.int .i64 t.st.fore,.int .i64 t.st.back,.bool t.st.bold,.bool t.st.under,.bool t.st.turned,.int .i64 t.top,.int .i64 t.bot,.bool t.full,.bool t.wrap,.bool t.away,.bool t.hid,.int .i64 t.sr,.int .i64 t.sc,.int .i64 t.ss.fore,.int .i64 t.ss.back,.bool t.ss.bold,.bool t.ss.under,.bool t.ss.turned,.slice none 0 0,.int .i64 0,.slice none 0 0,.int .i64 0,.slice none 0 0,.string ⟨#[]⟩]:=hB;clear hac hBl;refine (cT _ (hti.below kbc).l.sl).mono ?_;rintro e w7 ⟨xt,rfl,hnt,hb⟩;replace hB:=hB.below hb;replace hX:=hX.below hb;replace hR:=hR.below hb;replace kb:=kbc.trans (hb.mono kbc.size);have s67:w6.heap.size<=w7.heap.size:=by have:=hb.size;rw [zc.out,<- hz6.out] at this;exact this
 replace og:=og.below hb;replace oo:=oo.below hb;clear kbc hb;rw [zc.out,<- hz6.out] at hnt
 obtain ⟨xta,xtn,xtp,hxt⟩:=OwnI.shape hnt;subst hxt;have ol:LiOk w7 w6.heap.size [((.slice xta xtn xtp:Value),t.ti)]:=⟨fun p hp=>by rw [List.mem_singleton] at hp;subst hp;exact hnt,List.pairwise_singleton _ _⟩;clear hnt;clear zc;have olt:∀ p∈[((.slice xta xtn xtp:Value),t.ti)],∀ g,p.1.ownBlock=some g->g<w7.heap.size:=fun p hp g e=>((ol.1 p hp).lt g e).2
 have hBl:=hB;have hac:=World.grownBy.refl w7 (some (w.heap.size+2));obtain ⟨z7,hz7⟩:∃ z,Hid (w7.heap.size=z):=⟨_,rfl⟩;have zc:=hz7;obtain ⟨c0,c1,c2,c3,c4,c5,c6,c7,c8,c9,c10,c11,c12,c13,c14,c15,c16,c17,c18,c19,c20,c21,c22,c23,c24,c25,c26,c27,c28,c29⟩:=hX.cells;go_wp2_with (first|(refine store_at (by rfl) 29 _ _ (by rfl) inf_l hB (by rfl) (by rfl) (by rfl) (by rfl) (by rfl) ?_;intro W hg1 hB1 hz1;clear c0 c1 c2 c3 c4 c5 c6 c7 c8 c9 c10 c11 c12 c13 c14 c15 c16 c17 c18 c19 c20 c21 c22 c23 c24 c25 c26 c27 c28 c29;have hX1:=hX.kept hg1 (by simp);have hac1:=grown_tr hac hg1;have zc1:=(show Hid _ from hz1.trans zc.out);clear hX hB hac zc hg1 hz1;have hX:=hX1;have hB:=hB1;have hac:=hac1;have zc:=zc1;clear hX1 hB1 hac1 zc1;obtain ⟨c0,c1,c2,c3,c4,c5,c6,c7,c8,c9,c10,c11,c12,c13,c14,c15,c16,c17,c18,c19,c20,c21,c22,c23,c24,c25,c26,c27,c28,c29⟩:=hX.cells));clear c0 c1 c2 c3 c4 c5 c6 c7 c8 c9 c10 c11 c12 c13 c14 c15 c16 c17 c18 c19 c20 c21 c22 c23 c24 c25 c26 c27 c28 c29;have kbc:=kb.grown hac kb.size (fun g e=>by cases e;omega);have hR:=hR.kept hac (by simp);have og:=og.grown hac (by omega);have oo:=oo.grown hac (by omega);have ol:=ol.kept hac (fun p hp=>.inr ((ol.1 p hp).not_block hBl (by decide)));replace hB:TB _ (w.heap.size+2) [.int .i64 t.gc,.slice xga xgn xgp,.int .i64 t.oc,.slice xoa xon xop,.int .i64 t.row,.int .i64 t.col,.int .i64 t.st.fore,.int .i64 t.st.back,.bool t.st.bold,.bool t.st.under,.bool t.st.turned,.int .i64 t.top,.int .i64 t.bot,.bool t.full,.bool t.wrap,.bool t.away,.bool t.hid,.int .i64 t.sr,.int .i64 t.sc,.int .i64 t.ss.fore,.int .i64 t.ss.back,.bool t.ss.bold,.bool t.ss.under,.bool t.ss.turned,.slice xta xtn xtp,.int .i64 0,.slice none 0 0,.int .i64 0,.slice none 0 0,.string ⟨#[]⟩]:=hB;clear hac hBl;refine (cP _ (hpp.below kbc).l.sl (hpt.below kbc).l.sl).mono ?_;rintro e w8 ⟨xp,xq,rfl,hnp,hb⟩;replace hB:=hB.below hb;replace hX:=hX.below hb;replace hR:=hR.below hb;replace kb:=kbc.trans (hb.mono kbc.size);have s78:w7.heap.size<=w8.heap.size:=by have:=hb.size;rw [zc.out,<- hz7.out] at this;exact this
 replace og:=og.below hb;replace oo:=oo.below hb;replace ol:=ol.below hb;clear kbc hb;rw [zc.out,<- hz7.out] at hnp
 obtain ⟨xpa,xpn,xpp,hxp⟩:=hnp.head.shape;obtain ⟨xqa,xqn,xqp,hxq⟩:=hnp.tail.head.shape;simp only at hxp hxq;subst hxp;subst hxq;have ol8:LiOk w8 w6.heap.size ([((.slice xta xtn xtp:Value),t.ti)]++[(.slice xpa xpn xpp,t.pa.params),(.slice xqa xqn xqp,t.pa.text)]):=ol.join olt hnp s67;clear ol hnp olt;have ol:=ol8;clear ol8;clear zc;have hBl:=hB;have hac:=World.grownBy.refl w8 (some (w.heap.size+2));obtain ⟨z8,hz8⟩:∃ z,Hid (w8.heap.size=z):=⟨_,rfl⟩;have zc:=hz8;obtain ⟨c0,c1,c2,c3,c4,c5,c6,c7,c8,c9,c10,c11,c12,c13,c14,c15,c16,c17,c18,c19,c20,c21,c22,c23,c24,c25,c26,c27,c28,c29⟩:=hX.cells;go_wp2_with (first|(refine store_at (by rfl) 31 _ _ (by rfl) inf_p hB (by rfl) (by rfl) (by rfl) (by rfl) (by rfl) ?_;intro W hg1 hB1 hz1;clear c0 c1 c2 c3 c4 c5 c6 c7 c8 c9 c10 c11 c12 c13 c14 c15 c16 c17 c18 c19 c20 c21 c22 c23 c24 c25 c26 c27 c28 c29;have hX1:=hX.kept hg1 (by simp);have hac1:=grown_tr hac hg1;have zc1:=(show Hid _ from hz1.trans zc.out);clear hX hB hac zc hg1 hz1;have hX:=hX1;have hB:=hB1;have hac:=hac1;have zc:=zc1;clear hX1 hB1 hac1 zc1;obtain ⟨c0,c1,c2,c3,c4,c5,c6,c7,c8,c9,c10,c11,c12,c13,c14,c15,c16,c17,c18,c19,c20,c21,c22,c23,c24,c25,c26,c27,c28,c29⟩:=hX.cells));clear c0 c1 c2 c3 c4 c5 c6 c7 c8 c9 c10 c11 c12 c13 c14 c15 c16 c17 c18 c19 c20 c21 c22 c23 c24 c25 c26 c27 c28 c29;have kbc:=kb.grown hac kb.size (fun g e=>by cases e;omega);have hR:=hR.kept hac (by simp);have og:=og.grown hac (by omega);have oo:=oo.grown hac (by omega);have ol:=ol.kept hac (fun p hp=>.inr ((ol.1 p hp).not_block hBl (by decide)));replace hB:TB _ (w.heap.size+2) [.int .i64 t.gc,.slice xga xgn xgp,.int .i64 t.oc,.slice xoa xon xop,.int .i64 t.row,.int .i64 t.col,.int .i64 t.st.fore,.int .i64 t.st.back,.bool t.st.bold,.bool t.st.under,.bool t.st.turned,.int .i64 t.top,.int .i64 t.bot,.bool t.full,.bool t.wrap,.bool t.away,.bool t.hid,.int .i64 t.sr,.int .i64 t.sc,.int .i64 t.ss.fore,.int .i64 t.ss.back,.bool t.ss.bold,.bool t.ss.under,.bool t.ss.turned,.slice xta xtn xtp,.int .i64 t.pa.state,.slice xpa xpn xpp,.int .i64 t.pa.mark,.slice xqa xqn xqp,.string ⟨#[]⟩]:=hB;clear hac hBl;refine (cF _).mono ?_;rintro e w9 ⟨rfl,hb⟩;replace hB:=hB.below hb;replace hX:=hX.below hb;replace hR:=hR.below hb;replace kb:=kbc.trans (hb.mono kbc.size);have s89:w8.heap.size<=w9.heap.size:=by have:=hb.size;rw [zc.out,<- hz8.out] at this;exact this
 replace og:=og.below hb;replace oo:=oo.below hb;replace ol:=ol.below hb;clear kbc hb;clear zc;have hBl:=hB;have hac:=World.grownBy.refl w9 (some (w.heap.size+2));obtain ⟨z9,hz9⟩:∃ z,Hid (w9.heap.size=z):=⟨_,rfl⟩;have zc:=hz9;obtain ⟨c0,c1,c2,c3,c4,c5,c6,c7,c8,c9,c10,c11,c12,c13,c14,c15,c16,c17,c18,c19,c20,c21,c22,c23,c24,c25,c26,c27,c28,c29⟩:=hX.cells;go_wp2_with (first|(refine load_T (cs:=#[.int .i64 t.gc,.slice xga xgn xgp,.int .i64 t.oc,.slice xoa xon xop,.int .i64 t.row,.int .i64 t.col,.int .i64 t.st.fore,.int .i64 t.st.back,.bool t.st.bold,.bool t.st.under,.bool t.st.turned,.int .i64 t.top,.int .i64 t.bot,.bool t.full,.bool t.wrap,.bool t.away,.bool t.hid,.int .i64 t.sr,.int .i64 t.sc,.int .i64 t.ss.fore,.int .i64 t.ss.back,.bool t.ss.bold,.bool t.ss.under,.bool t.ss.turned,.slice xta xtn xtp,.int .i64 t.pa.state,.slice xpa xpn xpp,.int .i64 t.pa.mark,.slice xqa xqn xqp,.string t.fe]) (by rfl) 35 _ (by rfl) Tryz.underlying35 rfl info_te hB (by rfl) ?_)|(refine store_T (cs:=#[.int .i64 t.gc,.slice xga xgn xgp,.int .i64 t.oc,.slice xoa xon xop,.int .i64 t.row,.int .i64 t.col,.int .i64 t.st.fore,.int .i64 t.st.back,.bool t.st.bold,.bool t.st.under,.bool t.st.turned,.int .i64 t.top,.int .i64 t.bot,.bool t.full,.bool t.wrap,.bool t.away,.bool t.hid,.int .i64 t.sr,.int .i64 t.sc,.int .i64 t.ss.fore,.int .i64 t.ss.back,.bool t.ss.bold,.bool t.ss.under,.bool t.ss.turned,.slice xta xtn xtp,.int .i64 t.pa.state,.slice xpa xpn xpp,.int .i64 t.pa.mark,.slice xqa xqn xqp,.string t.fe]) (by rfl) 35 _ _ (by rfl) info_te (by rfl) (by rfl) (hR.kept hac (by simp)) (by rfl) (by rfl) ?_;intro w10 hg10 hR10 zz10)|(refine store_at (by rfl) 33 _ _ (by rfl) inf_f hB (by rfl) (by rfl) (by rfl) (by rfl) (by rfl) ?_;intro W hg1 hB1 hz1;clear c0 c1 c2 c3 c4 c5 c6 c7 c8 c9 c10 c11 c12 c13 c14 c15 c16 c17 c18 c19 c20 c21 c22 c23 c24 c25 c26 c27 c28 c29;have hX1:=hX.kept hg1 (by simp);have hac1:=grown_tr hac hg1;have zc1:=(show Hid _ from hz1.trans zc.out);clear hX hB hac zc hg1 hz1;have hX:=hX1;have hB:=hB1;have hac:=hac1;have zc:=zc1;clear hX1 hB1 hac1 zc1;obtain ⟨c0,c1,c2,c3,c4,c5,c6,c7,c8,c9,c10,c11,c12,c13,c14,c15,c16,c17,c18,c19,c20,c21,c22,c23,c24,c25,c26,c27,c28,c29⟩:=hX.cells));have kbc:=kb.grown hac kb.size (fun g e=>by cases e;omega);have hRR:=hR.kept hac (by simp)
 have hfin:OwnT w10 w.heap.size t ⟨.slice xga xgn xgp,.slice xoa xon xop,.slice xta xtn xtp,.slice xpa xpn xpp,.slice xqa xqn xqp⟩ :=
  ⟨w3.heap.size,w4.heap.size,w6.heap.size,OwnR.low ((og.grown hac (by omega)).grown hg10 (by omega)) (by omega),(oo.grown hac (by omega)).grown hg10 (by omega),(ol.kept hac (fun p hp=>.inr ((ol.1 p hp).not_block hBl (by decide)))).kept hg10 (fun p hp=>.inr (((ol.kept hac (fun p hp=>.inr ((ol.1 p hp).not_block hBl (by decide)))).1 p hp).not_block hRR (by decide))),by omega,by omega,by omega,by rw [zz10,zc.out,<- hz9.out];omega⟩
 exact bodyPost_ret (v:=.agg #[.int .i64 t.gc,.slice xga xgn xgp,.int .i64 t.oc,.slice xoa xon xop,.int .i64 t.row,.int .i64 t.col,.int .i64 t.st.fore,.int .i64 t.st.back,.bool t.st.bold,.bool t.st.under,.bool t.st.turned,.int .i64 t.top,.int .i64 t.bot,.bool t.full,.bool t.wrap,.bool t.away,.bool t.hid,.int .i64 t.sr,.int .i64 t.sc,.int .i64 t.ss.fore,.int .i64 t.ss.back,.bool t.ss.bold,.bool t.ss.under,.bool t.ss.turned,.slice xta xtn xtp,.int .i64 t.pa.state,.slice xpa xpn xpp,.int .i64 t.pa.mark,.slice xqa xqn xqp,.string t.fe]) (results_cell_row Tryz.results30 _ _ _ _ _ _ _ rfl hR10 Tryz.underlying35 rfl info_te) rfl ⟨_,rfl,hfin,kbc.grown hg10 kbc.size (fun g e=>by cases e;omega)⟩
theorem run_loadVar_part {P:Program} (w:World) (B k:Nat) (e ty:TypeId) (cs:List Value) (part:List Value) (d:TypeDesc) (hb:BlkC w B e cs)
  (hu:P.underlying ty=some d) (hd:(match d with|.struct _|.array _ _=>true|_=>false)=true) (hi:(P.info? ty).map (·.size)=some part.length) (hp:(cs.drop k).take part.length=part) :
  (loadVar ty ⟨B,k,none⟩).run P w=.ok (.agg part.toArray) w:=by
 have hl:(loadCells ⟨B,k,none⟩ part.length).run P w=.ok part.toArray w :=
  run_loadCells_list (P:=P) w ⟨B,k,none⟩ part (fun j v hv=>by
   have hadd:(⟨B,k,none⟩:Addr).add j=⟨B,k+j,none⟩:=by unfold Addr.add;split<;>simp_all
   rw [hadd,cell_of_row w B _ cs.toArray e (0,0) hb]
   have hj:=(List.getElem?_eq_some_iff.1 hv).1;rw [<- hp,List.getElem?_take_of_lt hj,List.getElem?_drop] at hv
   simpa using hv)
 cases hq:P.info? ty with
 | none=>simp [hq] at hi
 | some i =>
  have hs:i.size=part.length:=by simpa [hq] using hi
  have hagg:(isAgg ty).run P w=.ok true w:=by
   unfold isAgg;rw [Sem.run_bind,run_underlying hu w]
   cases d<;>simp_all
  simp [loadVar,Sem.run_bind,hagg,sizeOf,typeInfo,hq,hs,hl]
theorem load_at {P:Program} {w:World} {ops:Array Oper} {rest:List Oper} {o:Oper} {a:Act} {Q:Exit->Act->World->Prop} (hgd:Region.wanted o (yielded ops a.tmps)=true) (t:TypeId) (x:Operand)
  (ho:o.op=.load t x) {e:TypeId} {B k:Nat} {cs:List Value} (part:List Value) {d:TypeDesc} (hu:P.underlying t=some d) (hd:(match d with|.struct _|.array _ _=>true|_=>false)=true) (hi:(P.info? t).map (·.size)=some part.length) (hb:BlkC w B e cs) (hx:a.eval x=.pointer (some ⟨B,k,none⟩)) (hp:(cs.drop k).take part.length=part)
  (h:wpList P ops Q rest (a.put o.dst (.agg part.toArray)) w):wpList P ops Q (o::rest) a w:=by
 refine wpList_step fun K hK=>?_
 rw [if_pos hgd]
 unfold Oper.wp execOp;simp only [ho,hx,Instr.loadAt,Instr.sureAddr,Sem.run_bind,Sem.run_pure,Result.andThen_ok,run_loadVar_part w B k e t cs part d hb hu hd hi hp];exact hK _ _ h
theorem BlkC.lt {w:World} {B:Nat} {e:TypeId} {cs:List Value} (h:BlkC w B e cs):B<w.heap.size:=(Array.getElem?_eq_some_iff.1 h).1
theorem BlkC.kept {w w':World} {B:Nat} {e:TypeId} {cs:List Value} {row:Option Nat} (h:BlkC w B e cs) (hg:w.grownBy w' row) (hne:row≠some B):BlkC w' B e cs:=by
 unfold BlkC;rw [hg.block B h.lt (Ne.symm hne)]
 exact h
theorem BlkC.below {w w':World} {B:Nat} {e:TypeId} {cs:List Value} (h:BlkC w B e cs) (hb:Below w.heap.size w w'):BlkC w' B e cs:=by
 unfold BlkC;rw [hb.block B h.lt]
 exact h
theorem BlkC.new (w:World) (e:TypeId) (cs:List Value):BlkC (w.alloc (.cells cs.toArray e)) w.heap.size e cs:=heap_alloc_new w _
def GrV (u v:Value) (w w':World):Prop:=w'.os=w.os/\w'.tape=w.tape/\w'.output=w.output/\w.heap.size<=w'.heap.size/\∀ k,k<w.heap.size->u.ownBlock≠some k->v.ownBlock≠some k->w'.heap[k]?=w.heap[k]?
theorem GrV.of_below {u v:Value} {w w':World} (h:Below w.heap.size w w'):GrV u v w w':=⟨h.os,h.tape,h.output,h.size,fun k hk _ _=>h.block k hk⟩
theorem GrV.grown {u v:Value} {a b c:World} {row:Option Nat} (h:GrV u v a b) (k:b.grownBy c row) (hr:∀ g,row=some g->u.ownBlock=some g\/v.ownBlock=some g\/a.heap.size<=g):GrV u v a c :=
 ⟨k.os.trans h.1,k.tape.trans h.2.1,k.output.trans h.2.2.1,Nat.le_trans h.2.2.2.1 k.size,fun i hi h1 h2=>(k.block i (Nat.lt_of_lt_of_le hi h.2.2.2.1) (fun e=>by
  rcases hr i e.symm with h3|h3|h3
  ·exact h1 h3
  ·exact h2 h3
  ·omega)).trans (h.2.2.2.2 i hi h1 h2)⟩
theorem l6State_any (s:Int) (w:World) :
  Calls Tryz.prog 40 #[.int .i64 s] w fun e w'=>e=.returned (.agg #[.int .i64 s,.slice none 0 0,.int .i64 0,.slice none 0 0])/\Below w.heap.size w w':=by
 have hb:=bal' w (Obj.cells #[.int .i64 s,.slice none 0 0,.int .i64 0,.slice none 0 0] 31);obtain ⟨f0,f1,f2,f3⟩:=(PbB.new w s 0 (.slice none 0 0) (.slice none 0 0)).cells;go_enter Tryz.func40,Tryz.ntmps40;go_wp2;exact bodyPost_ret (v:=.agg #[.int .i64 s,.slice none 0 0,.int .i64 0,.slice none 0 0]) (by simp [results,Tryz.results40,go_sem]) rfl ⟨rfl,hb⟩
theorem copy_g {w:World} {ops:Array Oper} {rest:List Oper} {o:Oper} {ac:Act} {Q:Exit->Act->World->Prop} (hgd:o.guard=none) (s x:Operand)
  (ho:o.op=.call { callee:=.builtin .append,args:=#[s,x],argTypes:=#[29,29] })
  (g:Nat) (hg:w.heap.size=g) (v:Value) (xs:List Int) (hs:ac.eval s=.slice (some ⟨g,0,none⟩) 0 0) (k:SlN w v xs) (hl:xs.length<=1073741824) (hx:ac.eval x=v)
  (h:∀ v' w',OwnI w' w.heap.size v' xs->Below w.heap.size w w'->wpList Tryz.prog ops Q rest (ac.put o.dst v') w') :
  wpList Tryz.prog ops Q (o::rest) ac (w.alloc (.cells #[] 2)):=by
 subst hg;exact copy_i hgd s x ho v xs hs k hl hx h
theorem l6Copy_any (p:Pa) (pv tv:Value) (w:World) (hp:SlN w pv p.params) (ht:SlN w tv p.text) (hpl:p.params.length<=1073741824) (htl:p.text.length<=1073741824) :
  Calls Tryz.prog 112 #[paV p pv tv] w fun e w'=>∃ pv' tv',e=.returned (paV p pv' tv')/\LiOk w' w.heap.size [(pv',p.params),(tv',p.text)]/\Below w.heap.size w w':=by
 obtain ⟨s,ps,m,ts⟩:=p;have hb0:=bal' w (Obj.cells #[.int .i64 s,pv,.int .i64 m,tv] 31);have hb1:=bal' (w.alloc (Obj.cells #[.int .i64 s,pv,.int .i64 m,tv] 31)) (Obj.cells #[.int .i64 0,.slice none 0 0,.int .i64 0,.slice none 0 0] 31);have hbb:=hb0.trans (hb1.mono hb0.size);have hP:=(PbB.new w s m pv tv).below hb1;have hR:=PbB.new (w.alloc (Obj.cells #[.int .i64 s,pv,.int .i64 m,tv] 31)) 0 0 (.slice none 0 0) (.slice none 0 0);rw [show (w.alloc (Obj.cells #[.int .i64 s,pv,.int .i64 m,tv] 31)).heap.size=w.heap.size+1 by simp] at hR
 have hs2:((w.alloc (Obj.cells #[.int .i64 s,pv,.int .i64 m,tv] 31)).alloc (Obj.cells #[.int .i64 0,.slice none 0 0,.int .i64 0,.slice none 0 0] 31)).heap.size=w.heap.size+2:=by simp
 have hp2:=hp.below hbb;have ht2:=ht.below hbb;unfold paV at *;simp only at *;obtain ⟨pa,pc,hpv⟩:=hp.shp;obtain ⟨ta,tc,htv⟩:=ht.shp;subst hpv;subst htv;generalize hw2:(w.alloc (Obj.cells #[.int .i64 s,.slice pa ps.length pc,.int .i64 m,.slice ta ts.length tc] 31)).alloc (Obj.cells #[.int .i64 0,.slice none 0 0,.int .i64 0,.slice none 0 0] 31)=w2 at *;have hP2:=hP.below (bal' w2 (Obj.cells #[] 2));obtain ⟨c0,c1,c2,c3⟩:=hP2.cells;subst hw2;have ht0:=ht;clear hb0 hb1 hp ht hP2;go_enter Tryz.func112,Tryz.ntmps112;go_wp2_with (refine copy_g (by rfl) _ _ (by rfl) _ hs2 _ ps (by rfl) hp2 hpl (by rfl) ?_);intro u w3 hou hb3;have hP3:=hP.below (hs2.symm ▸ hb3);have hR3:=hR.below (hs2.symm ▸ hb3);obtain ⟨ua,un,uc,hu⟩:=hou.shape;subst hu;have hg3:=setCell_gr w3 w.heap.size 1 (.slice ua un uc);have hP4:PbB (w3.setCell ⟨w.heap.size,1,none⟩ (.slice ua un uc)) w.heap.size s (.slice ua un uc) m (.slice ta ts.length tc):=hP3.set 1 _;have hR4:=hR3.kept hg3 (by simp)
 try rw [hs2] at hou hb3
 have hs3:w.heap.size+2<=w3.heap.size:=by have:=hb3.size;rw [hs2] at this;exact this
 have hou4:=hou.kept hg3 (.inr (fun e=>by have:=(hou.lt _ e).1;omega));have hbw3:=hbb.trans (hb3.mono (show w.heap.size<=w.heap.size+2 by omega));have hbw4:=hbw3.grown hg3 (by omega) (fun k e=>by cases e;exact Nat.le_refl _);have ht4:=ht0.below hbw4;have hs4:(w3.setCell ⟨w.heap.size,1,none⟩ (.slice ua un uc)).heap.size=w3.heap.size:=by simp
 obtain ⟨d0,d1,d2,d3⟩:=hP3.cells;obtain ⟨y0,y1,y2,y3⟩:=hP3.frozen;obtain ⟨g0,g1,g2,g3⟩:=(hP4.below (bal' _ (Obj.cells #[] 2))).cells;clear hp2 ht2 hP hR hb3 c0 c1 c2 c3 hR3 hP3 hbw3 hbb;go_wp2_with (refine copy_g (by rfl) _ _ (by rfl) _ hs4 _ ts (by rfl) ht4 htl (by rfl) ?_);intro t w5 hot hb5;have hb5:=(show Below (w3.setCell ⟨w.heap.size,1,none⟩ (.slice ua un uc)).heap.size _ w5 from hs4.symm ▸ hb5);have hP5:=hP4.below hb5;have hR5:=hR4.below hb5;have hou5:=hou4.below hb5;obtain ⟨sa,sn,sc,hu⟩:=hot.shape;subst hu;have hg5:=setCell_gr w5 w.heap.size 3 (.slice sa sn sc);have hP6:PbB (w5.setCell ⟨w.heap.size,3,none⟩ (.slice sa sn sc)) w.heap.size s (.slice ua un uc) m (.slice sa sn sc):=hP5.set 3 _;have hR6:=hR5.kept hg5 (by simp)
 try rw [hs4] at hot
 have hL5:LiOk w5 w.heap.size [(.slice ua un uc,ps),(.slice sa sn sc,ts)] :=
  ((show LiOk (w3.setCell ⟨w.heap.size,1,none⟩ (.slice ua un uc)) w.heap.size [(.slice ua un uc,ps)] from ⟨fun p hp=>by rw [List.mem_singleton] at hp;subst hp;exact hou4.low (by omega),List.pairwise_singleton _ _⟩).new hb5 (hot.low (by omega)) (fun g e=>by rw [hs4];exact (hot.lt g e).1)).perm (List.Perm.swap _ _ _)
 have hL6:=hL5.kept hg5 (fun p hp=>.inr fun e=>by
  simp only [List.mem_cons,List.mem_nil_iff,or_false] at hp;rcases hp with rfl|rfl
  ·have:=(hou5.lt _ e).1;omega
  ·have:=(hot.lt _ e).1;omega)
 have hbw6:=(hbw4.trans (hb5.mono hbw4.size)).grown hg5 (by have:=hb5.size;simp at this;omega) (fun k e=>by cases e;exact Nat.le_refl _);have hg7:=putP_grown (w5.setCell ⟨w.heap.size,3,none⟩ (.slice sa sn sc)) (w.heap.size+1) s (.slice ua un uc) m (.slice sa sn sc);have hF:=(hR6.put s m (.slice ua un uc) (.slice sa sn sc)).cells
 have hL7:=hL6.kept hg7 (fun p hp=>.inr fun e=>by
  simp only [List.mem_cons,List.mem_nil_iff,or_false] at hp;rcases hp with rfl|rfl
  ·have:=(hou5.lt _ e).1;omega
  ·have:=(hot.lt _ e).1;omega)
 have hbw7:=hbw6.grown hg7 (by have:=hb5.size;simp at this ⊢;omega) (fun k e=>by cases e;omega);obtain ⟨e0,e1,e2,e3⟩:=hP5.cells;obtain ⟨z0,z1,z2,z3⟩:=hP5.frozen;obtain ⟨f0,f1,f2,f3⟩:=hF;obtain ⟨r0,r1,r2,r3⟩:=hR6.cells;obtain ⟨q0,q1,q2,q3⟩:=hR6.frozen;simp only [putP] at f0 f1 f2 f3 hL7 hbw7;have hfin:=(show Hid _ from And.intro hL7 hbw7);clear hL5 hL6 hL7 hbw7 hbw6 hg7 hg5 hP6 hR6 hP5 hR5 hou5 hot hb5 hP4 hR4 hou4 hbw4 ht4 hg3 hou d0 d1 d2 d3 y0 y1 y2 y3 g0 g1 g2 g3 hs3 hs4;go_wp2;exact bodyPost_ret (v:=.agg #[.int .i64 s,.slice ua un uc,.int .i64 m,.slice sa sn sc]) (by simp [results,Tryz.results112,go_sem,f0,f1,f2,f3]) rfl ⟨_,_,rfl,hfin.out⟩
def AxC (w:World) (B:Nat) (k r:Int) (pv:Value) (m:Int) (tv:Value):Prop:=w.heap[B]?=some (.cells #[.int .i64 k,.int .i64 r,pv,.int .i64 m,tv] 37 (0,0))
theorem AxC.lt {w:World} {B:Nat} {k r m:Int} {pv tv:Value} (h:AxC w B k r pv m tv):B<w.heap.size:=(Array.getElem?_eq_some_iff.1 h).1
theorem AxC.below {w w':World} {B:Nat} {k r m:Int} {pv tv:Value} (h:AxC w B k r pv m tv) (hb:Below w.heap.size w w'):AxC w' B k r pv m tv:=by
 unfold AxC;rw [hb.block B h.lt]
 exact h
theorem AxC.new (w:World) (k r m:Int) (pv tv:Value):AxC (w.alloc (.cells #[.int .i64 k,.int .i64 r,pv,.int .i64 m,tv] 37)) w.heap.size k r pv m tv:=heap_alloc_new w _
theorem AxC.cells {w:World} {B:Nat} {k r m:Int} {pv tv:Value} (h:AxC w B k r pv m tv) :
  w.cell? ⟨B,0,none⟩=some (.int .i64 k)/\w.cell? ⟨B,1,none⟩=some (.int .i64 r)/\w.cell? ⟨B,2,none⟩=some pv/\w.cell? ⟨B,3,none⟩=some (.int .i64 m)/\w.cell? ⟨B,4,none⟩=some tv:=by
 refine ⟨?_,?_,?_,?_,?_⟩<;>(rw [cell_of_row w B _ _ _ (0,0) h];rfl)
theorem eqAction_same (a:Ac) (pv tv pv2 tv2:Value) (w:World) (hp:SlI w pv a.params) (ht:SlI w tv a.text) (hp2:SlI w pv2 a.params) (ht2:SlI w tv2 a.text) (hpl:a.params.length<=1073741824) (htl:a.text.length<=1073741824) :
  Calls Tryz.prog 33 #[axV ⟨a,pv,tv⟩,axV ⟨a,pv2,tv2⟩] w fun e w'=>e=.returned (.bool true)/\Below w.heap.size w w':=by
 obtain ⟨k,r,ps,m,ts⟩:=a;have hb1:=bal' w (Obj.cells #[.int .i64 k,.int .i64 r,pv,.int .i64 m,tv] 37);have hb2:=bal' (w.alloc (Obj.cells #[.int .i64 k,.int .i64 r,pv,.int .i64 m,tv] 37)) (Obj.cells #[.int .i64 k,.int .i64 r,pv2,.int .i64 m,tv2] 37);have hbb:=hb1.trans (hb2.mono hb1.size);have hP:=(AxC.new w k r m pv tv).below hb2;have hR:=AxC.new (w.alloc (Obj.cells #[.int .i64 k,.int .i64 r,pv,.int .i64 m,tv] 37)) k r m pv2 tv2;rw [show (w.alloc (Obj.cells #[.int .i64 k,.int .i64 r,pv,.int .i64 m,tv] 37)).heap.size=w.heap.size+1 by simp] at hR
 have e1:=eqI_same pv pv2 ps _ (hp.below hbb) (hp2.below hbb) hpl;have e2:=fun W h1 h2=>eqI_same tv tv2 ts W h1 h2 htl
 have ht3:=ht.below hbb;have ht4:=ht2.below hbb;unfold axV at *;simp only at *;obtain ⟨pa,pc,hpv⟩:=hp.shp;obtain ⟨ta,tc,htv⟩:=ht.shp;obtain ⟨pa2,pc2,hpv2⟩:=hp2.shp;obtain ⟨ta2,tc2,htv2⟩:=ht2.shp;subst hpv;subst htv;subst hpv2;subst htv2;obtain ⟨c0,c1,c2,c3,c4⟩:=hP.cells;obtain ⟨d0,d1,d2,d3,d4⟩:=hR.cells;clear hp ht hp2 ht2 hb1 hb2;go_enter Tryz.func33,Tryz.ntmps33;go_wp2_with fail;refine e1.mono ?_;rintro e w3 ⟨rfl,n,hw⟩;have hbn:Below _ _ w3:=hw ▸ drewN_bel _ n;have hP3:=hP.below hbn;have hR3:=hR.below hbn;have e3:=e2 w3 (ht3.below hbn) (ht4.below hbn);have hb3:=hbb.trans (hbn.mono hbb.size);clear hw hbn hP hR e1 e2 ht3 ht4 hbb c0 c1 c2 c3 c4 d0 d1 d2 d3 d4;obtain ⟨c0,c1,c2,c3,c4⟩:=hP3.cells;obtain ⟨d0,d1,d2,d3,d4⟩:=hR3.cells;go_wp2_with fail;refine e3.mono ?_;rintro e w4 ⟨rfl,n2,hw⟩;have hbn:Below w3.heap.size w3 w4:=hw ▸ drewN_bel _ n2;have hb4:=hb3.trans (hbn.mono hb3.size);clear hw hbn e3 hb3 c0 c1 c2 c3 c4 d0 d1 d2 d3 d4;go_wp2;go_ret;exact ⟨rfl,hb4⟩
theorem heldParser_marks (p:Pa) (pv tv:Value) (k n m2:Nat) (w:World) (hp:SlI w pv (marksI k n)) (ht:SlI w tv (marksI ((k+n:Nat):Int) m2)) (hpp:p.params=marksI k n) (htt:p.text=marksI ((k+n:Nat):Int) m2) (hk:k<=1048576) (hn:n<=1048576) (hm:m2<=1048576) :
  Calls Tryz.prog 106 #[paV p pv tv,.int .i64 k] w fun e w'=>e=.returned (.int .i64 ((k+n+m2:Nat):Int))/\Below w.heap.size w w':=by
 obtain ⟨s,ps,m,ts⟩:=p;have hb0:=bal' w (Obj.cells #[.int .i64 s,pv,.int .i64 m,tv] 31);have hP:=PbB.new w s m pv tv;have q1:=heldI_marks pv k n _ (hp.below hb0) ⟨by omega,by omega⟩ (by omega);have q2:=heldI_marks tv ((k+n:Nat):Int) m2 _ (ht.below hb0) ⟨by omega,by omega⟩ (by omega);have n1:Hid ((k:Int)+(n:Int)=((k+n:Nat):Int)):=by show _=_;omega
 have n2:Hid (((k+n:Nat):Int)+(m2:Int)=((k+n+m2:Nat):Int)):=by show _=_;omega
 rw [n1.out] at q1
 rw [n2.out] at q2
 have g1:¬ (((k+n:Nat):Int)<0):=by omega
 have g2:¬ (((k+n+m2:Nat):Int)<0):=by omega
 unfold paV at *;simp only at *;obtain ⟨pa,pc,hpv⟩:=hp.shp;obtain ⟨ta,tc,htv⟩:=ht.shp;rw [marksI_len] at hpv htv
 subst hpv;subst htv;obtain ⟨c0,c1,c2,c3⟩:=hP.cells;clear hp ht hP hpp htt;go_enter Tryz.func106,Tryz.ntmps106;go_wp2_with fail;refine q1.mono ?_;rintro e w3 ⟨rfl,hw⟩;subst hw;clear q1;go_wp2_with fail;refine q2.mono ?_;rintro e w4 ⟨rfl,hw⟩;subst hw;clear q2;go_wp2;go_ret;exact ⟨rfl,hb0⟩
def RgT (w:World) (base b1 b2 b3:Nat) (t:Te) (v:Tv):Prop:=OwnR w base b1 v.g t.g/\OwnR w b1 b2 v.o t.o/\LiOk w b3 [(v.ti,t.ti),(v.pp,t.pa.params),(v.pt,t.pa.text)]/\base<=b1/\b1<=b2/\b2<=b3/\b3<=w.heap.size
def mkN (t:Te):Nat:=7*sumG t.g t.g.length+7*sumG t.o t.o.length+t.ti.length+t.pa.params.length+t.pa.text.length
def mkT (t:Te):Te:={ t with
 g:=marksG 1 t.g
 o:=marksG (1+7*sumG t.g t.g.length) t.o
 ti:=marksI ((1+7*sumG t.g t.g.length+7*sumG t.o t.o.length:Nat):Int) t.ti.length
 pa:=⟨t.pa.state,marksI ((1+7*sumG t.g t.g.length+7*sumG t.o t.o.length+t.ti.length:Nat):Int) t.pa.params.length,t.pa.mark,marksI ((1+7*sumG t.g t.g.length+7*sumG t.o t.o.length+t.ti.length+t.pa.params.length:Nat):Int) t.pa.text.length⟩ }
theorem heldTerm_r (t:Te) (v:Tv) (w:World) (h:SlT w (mkT t) v) (hs1:sumG t.g t.g.length<=60000) (hs2:sumG t.o t.o.length<=60000) (hl1:t.g.length<=100000) (hl2:t.o.length<=100000) (hti:t.ti.length<=10000) (hpp:t.pa.params.length<=10000) (hpt:t.pa.text.length<=10000) :
  Calls Tryz.prog 36 #[teV t v,.int .i64 1] w fun e w'=>e=.returned (.int .i64 ((1+mkN t:Nat):Int))/\Below w.heap.size w w':=by
 obtain ⟨vg,vo,vti,vpp,vpt⟩:=v;obtain ⟨hg,ho,hT,hP,hQ⟩:=h;simp only [mkT] at hg ho hT hP hQ;have cG:=fun W (hW:SlG W vg (marksG 1 t.g))=>heldGrid_marks t.gc vg 1 t.g W hW (by decide) (by omega) (by omega)
 have cO:=fun W (hW:SlG W vo (marksG (1+7*sumG t.g t.g.length) t.o))=>heldGrid_marks t.oc vo (1+7*sumG t.g t.g.length) t.o W hW (by omega) (by omega) (by omega)
 have cT:=fun W hW=>heldI_marks vti ((1+7*sumG t.g t.g.length+7*sumG t.o t.o.length:Nat):Int) t.ti.length W hW ⟨by omega,by omega⟩ (by omega)
 have cP:=fun W h1 h2=>heldParser_marks ⟨t.pa.state,marksI ((1+7*sumG t.g t.g.length+7*sumG t.o t.o.length+t.ti.length:Nat):Int) t.pa.params.length,t.pa.mark,marksI ((1+7*sumG t.g t.g.length+7*sumG t.o t.o.length+t.ti.length+t.pa.params.length:Nat):Int) t.pa.text.length⟩ vpp vpt (1+7*sumG t.g t.g.length+7*sumG t.o t.o.length+t.ti.length) t.pa.params.length t.pa.text.length W h1 h2 rfl rfl (by omega) (by omega) (by omega)
 obtain ⟨ga,gn,gp,hq1⟩:=slShp hg;obtain ⟨oa,on,op,hq2⟩:=slShp ho;obtain ⟨ta,tp,hq3⟩:=hT.shp;obtain ⟨pa,pp,hq4⟩:=hP.shp;obtain ⟨qa,qp,hq5⟩:=hQ.shp;rw [marksI_len] at hq3 hq4 hq5
 obtain ⟨tn,htn⟩:∃ tn,Hid (t.ti.length=tn):=⟨_,rfl⟩;obtain ⟨pn,hpn⟩:∃ pn,Hid (t.pa.params.length=pn):=⟨_,rfl⟩;obtain ⟨qn,hqn⟩:∃ qn,Hid (t.pa.text.length=qn):=⟨_,rfl⟩;rw [htn.out] at hq3
 rw [hpn.out] at hq4
 rw [hqn.out] at hq5
 subst hq1;subst hq2;subst hq3;subst hq4;subst hq5;have hb0:=bal' w (Obj.cells (teCs t ⟨.slice ga gn gp,.slice oa on op,.slice ta tn tp,.slice pa pn pp,.slice qa qn qp⟩) 35);have hX:=TeB.new w 35 t ⟨.slice ga gn gp,.slice oa on op,.slice ta tn tp,.slice pa pn pp,.slice qa qn qp⟩;obtain ⟨w1,hw1⟩:∃ w1,w1=w.alloc (Obj.cells (teCs t ⟨.slice ga gn gp,.slice oa on op,.slice ta tn tp,.slice pa pn pp,.slice qa qn qp⟩) 35):=⟨_,rfl⟩;rw [<- hw1] at hb0 hX
 replace hw1:=(show Hid _ from hw1);unfold teV gridV paV at *;have e1:Hid (1+7*sumG t.g t.g.length+7*sumG t.o t.o.length+t.ti.length+t.pa.params.length+t.pa.text.length=1+mkN t):=by show _=_;unfold mkN;omega
 have e2:Hid (((1+7*sumG t.g t.g.length+7*sumG t.o t.o.length:Nat):Int)+(t.ti.length:Int)=((1+7*sumG t.g t.g.length+7*sumG t.o t.o.length+t.ti.length:Nat):Int)):=by show _=_;omega
 simp only [e2.out] at cT;simp only [e1.out] at cP;have n1:¬ (((1+7*sumG t.g t.g.length:Nat):Int)<0):=by omega
 have n2:¬ (((1+7*sumG t.g t.g.length+7*sumG t.o t.o.length:Nat):Int)<0):=by omega
 have n3:¬ (((1+7*sumG t.g t.g.length+7*sumG t.o t.o.length+t.ti.length:Nat):Int)<0):=by omega
 have n4:¬ (((1+mkN t:Nat):Int)<0):=by omega
 generalize 1+mkN t=m4 at *;generalize ((1+7*sumG t.g t.g.length+7*sumG t.o t.o.length+t.ti.length:Nat):Int)=m3 at *;have hb:=hb0;have kb:=hb0;clear e1 e2 hb hs1 hs2 hl1 hl2 hti hpp hpt htn hpn hqn;go_enter Tryz.func36,Tryz.ntmps36;refine wp_seq_k (fun K hK=>?_);have hH:=(show Hid _ from hK);clear hK;go_wp2;refine hH.out _ _ ?_;rw [<- hw1.out]
 clear hH hw1;obtain ⟨c0,c1,c2,c3,c4,c5,c6,c7,c8,c9,c10,c11,c12,c13,c14,c15,c16,c17,c18,c19,c20,c21,c22,c23,c24,c25,c26,c27,c28,c29⟩:=hX.cells;go_wp2_with fail;refine (cG _ (hg.below kb)).mono ?_;rintro e w2 ⟨rfl,hb⟩;replace kb:=kb.trans (hb.mono kb.size);replace hX:=hX.below hb;clear c0 c1 c2 c3 c4 c5 c6 c7 c8 c9 c10 c11 c12 c13 c14 c15 c16 c17 c18 c19 c20 c21 c22 c23 c24 c25 c26 c27 c28 c29;clear hb;obtain ⟨c0,c1,c2,c3,c4,c5,c6,c7,c8,c9,c10,c11,c12,c13,c14,c15,c16,c17,c18,c19,c20,c21,c22,c23,c24,c25,c26,c27,c28,c29⟩:=hX.cells;go_wp2_with fail;refine (cO _ (ho.below kb)).mono ?_;rintro e w3 ⟨rfl,hb⟩;replace kb:=kb.trans (hb.mono kb.size);replace hX:=hX.below hb;clear c0 c1 c2 c3 c4 c5 c6 c7 c8 c9 c10 c11 c12 c13 c14 c15 c16 c17 c18 c19 c20 c21 c22 c23 c24 c25 c26 c27 c28 c29;clear hb;obtain ⟨c0,c1,c2,c3,c4,c5,c6,c7,c8,c9,c10,c11,c12,c13,c14,c15,c16,c17,c18,c19,c20,c21,c22,c23,c24,c25,c26,c27,c28,c29⟩:=hX.cells;go_wp2_with fail;refine (cT _ (hT.below kb).l.sl).mono ?_;rintro e w4 ⟨rfl,hw⟩;subst hw;go_wp2_with fail;refine (cP _ (hP.below kb).l.sl (hQ.below kb).l.sl).mono ?_;rintro e w5 ⟨rfl,hb⟩;replace kb:=kb.trans (hb.mono kb.size);replace hX:=hX.below hb;clear c0 c1 c2 c3 c4 c5 c6 c7 c8 c9 c10 c11 c12 c13 c14 c15 c16 c17 c18 c19 c20 c21 c22 c23 c24 c25 c26 c27 c28 c29;clear hb;obtain ⟨c0,c1,c2,c3,c4,c5,c6,c7,c8,c9,c10,c11,c12,c13,c14,c15,c16,c17,c18,c19,c20,c21,c22,c23,c24,c25,c26,c27,c28,c29⟩:=hX.cells;clear c0 c1 c2 c3 c4 c5 c6 c7 c8 c9 c10 c11 c12 c13 c14 c15 c16 c17 c18 c19 c20 c21 c22 c23 c24 c25 c26 c27 c28 c29;go_wp2;go_ret;exact ⟨rfl,kb⟩
def RwS (vs:List Value) (k:Nat):Prop:=∃ i,i<vs.length/\(rowV vs i).ownBlock=some k
def GrS (v:Value) (vs:List Value) (k:Nat):Prop:=v.ownBlock=some k\/RwS vs k
def GrP (S:Nat->Prop) (w w':World):Prop:=w'.os=w.os/\w'.tape=w.tape/\w'.output=w.output/\w.heap.size<=w'.heap.size/\∀ k,k<w.heap.size->¬ S k->w'.heap[k]?=w.heap[k]?
theorem GrP.refl (S:Nat->Prop) (w:World):GrP S w w:=⟨rfl,rfl,rfl,Nat.le_refl _,fun _ _ _=>rfl⟩
theorem GrP.trans {S:Nat->Prop} {a b c:World} (h:GrP S a b) (k:GrP S b c):GrP S a c :=
 ⟨k.1.trans h.1,k.2.1.trans h.2.1,k.2.2.1.trans h.2.2.1,Nat.le_trans h.2.2.2.1 k.2.2.2.1,fun i hi ho=>(k.2.2.2.2 i (Nat.lt_of_lt_of_le hi h.2.2.2.1) ho).trans (h.2.2.2.2 i hi ho)⟩
theorem GrP.size {S:Nat->Prop} {w w':World} (h:GrP S w w'):w.heap.size<=w'.heap.size:=h.2.2.2.1
theorem GrP.of_below {S:Nat->Prop} {w w':World} (h:Below w.heap.size w w'):GrP S w w':=⟨h.os,h.tape,h.output,h.size,fun k hk _=>h.block k hk⟩
theorem GrP.of_grown {S:Nat->Prop} {w w':World} {row:Option Nat} (h:w.grownBy w' row) (hr:∀ g,row=some g->S g):GrP S w w' :=
 ⟨h.os,h.tape,h.output,h.size,fun k hk ho=>h.block k hk (fun e=>ho (hr k e.symm))⟩
theorem GrP.mono {S S':Nat->Prop} {w w':World} (h:GrP S w w') (hs:∀ k,k<w.heap.size->S k->S' k):GrP S' w w' :=
 ⟨h.1,h.2.1,h.2.2.1,h.2.2.2.1,fun k hk ho=>h.2.2.2.2 k hk (fun c=>ho (hs k hk c))⟩
theorem GrP.to_below {S:Nat->Prop} {B:Nat} {w w':World} (h:GrP S w w') (hB:∀ k,S k->B<=k) (hs:B<=w.heap.size):Below B w w' :=
 ⟨h.1,h.2.1,h.2.2.1,h.2.2.2.1,fun k hk=>h.2.2.2.2 k (by omega) (fun c=>by have:=hB k c;omega)⟩
theorem _root_.Go.World.ownsRow.grp {S:Nat->Prop} {w w':World} {base:Nat} {e:TypeId} {size:Nat} {v:Value} {n:Nat} {xs:List Value} (h:w.ownsRow base e size v n xs) (hg:GrP S w w') (hne:∀ g,v.ownBlock=some g->¬ S g):w'.ownsRow base e size v n xs:=by
 refine ⟨h.1,?_⟩;rcases h.2 with h2|⟨g,cap,cur,hv,hbg,hgg,r⟩
 ·exact .inl h2
 ·exact .inr ⟨g,cap,cur,hv,hbg,by rw [hg.2.2.2.2 g (Array.getElem?_eq_some_iff.1 hgg).1 (hne g (by rw [hv];rfl))];exact hgg,r⟩
theorem OwnC.grp {S:Nat->Prop} {w w':World} {base:Nat} {v:Value} {xs:List Ce} (h:OwnC w base v xs) (hg:GrP S w w') (hne:∀ g,v.ownBlock=some g->¬ S g):OwnC w' base v xs:=World.ownsRow.grp (show w.ownsRow _ _ _ _ _ _ from h) hg hne
theorem OwnI.grp {S:Nat->Prop} {w w':World} {base:Nat} {v:Value} {xs:List Int} (h:OwnI w base v xs) (hg:GrP S w w') (hne:∀ g,v.ownBlock=some g->¬ S g):OwnI w' base v xs:=World.ownsRow.grp (show w.ownsRow _ _ _ _ _ _ from h) hg hne
theorem OwnV.grp {S:Nat->Prop} {w w':World} {base B:Nat} {v:Value} {vs:List Value} {rows:List (List Ce)} (h:OwnV w base B v vs rows) (hg:GrP S w w') (hne:∀ k,GrS v vs k->¬ S k):OwnV w' base B v vs rows :=
 ⟨h.1,World.ownsRow.grp h.2.1 hg (fun g e=>hne g (.inl e)),fun i hi=>(h.2.2.1 i hi).grp hg (fun g e=>hne g (.inr ⟨i,by rw [h.1];exact hi,e⟩)),h.2.2.2.1,h.2.2.2.2⟩
theorem LiOk.grp {S:Nat->Prop} {base:Nat} {w w':World} {L:List (Value×List Int)} (h:LiOk w base L) (hg:GrP S w w') (hne:∀ p∈L,∀ g,p.1.ownBlock=some g->¬ S g):LiOk w' base L :=
 ⟨fun p hp=>(h.1 p hp).grp hg (hne p hp),h.2⟩
theorem BlkC.grp {S:Nat->Prop} {w w':World} {B:Nat} {e:TypeId} {cs:List Value} (h:BlkC w B e cs) (hg:GrP S w w') (hne:¬ S B):BlkC w' B e cs:=by
 unfold BlkC;rw [hg.2.2.2.2 B h.lt hne]
 exact h
theorem OwnC.blk {w:World} {base:Nat} {v:Value} {xs:List Ce} (h:OwnC w base v xs) {g:Nat} (e:v.ownBlock=some g):∃ cs,w.heap[g]?=some (.cells cs 146 (0,0)):=by
 rcases h.2 with ⟨hv,_⟩|⟨g',cap,cur,hv,_,hg,_⟩
 ·rw [hv] at e;simp [Value.ownBlock] at e
 ·rw [hv] at e
  simp only [Value.ownBlock,Option.some.injEq] at e;subst e;exact ⟨_,hg⟩
theorem own_blk {w:World} {base:Nat} {T:TypeId} {size:Nat} {v:Value} {n:Nat} {xs:List Value} (h:w.ownsRow base T size v n xs) {g:Nat} (e:v.ownBlock=some g):∃ cs,w.heap[g]?=some (.cells cs T (0,0)):=by
 rcases h.2 with ⟨hv,_⟩|⟨g',cap,cur,hv,_,hg,_⟩
 ·rw [hv] at e;simp [Value.ownBlock] at e
 ·rw [hv] at e
  simp only [Value.ownBlock,Option.some.injEq] at e;subst e;exact ⟨_,hg⟩
theorem blk_ne {w:World} {g:Nat} {cs cs':Array Value} {T T':TypeId} (h:w.heap[g]?=some (.cells cs T (0,0))) (h':w.heap[g]?=some (.cells cs' T' (0,0))) (hT:T≠T'):False:=by
 rw [h] at h'
 simp only [Option.some.injEq,Obj.cells.injEq] at h';exact hT h'.2.1
theorem GrS.blk {w:World} {base B:Nat} {v:Value} {vs:List Value} {rows:List (List Ce)} (h:OwnV w base B v vs rows) {k:Nat} (hk:GrS v vs k):∃ cs T,w.heap[k]?=some (.cells cs T (0,0))/\(T=120\/T=146):=by
 rcases hk with e|⟨i,hi,e⟩
 ·obtain ⟨cs,hc⟩:=own_blk h.2.1 e
  exact ⟨cs,_,hc,.inl rfl⟩
 ·obtain ⟨cs,hc⟩:=(h.2.2.1 i (by rw [<- h.1];exact hi)).blk e
  exact ⟨cs,_,hc,.inr rfl⟩
theorem RwS.blk {w:World} {base B:Nat} {v:Value} {vs:List Value} {rows:List (List Ce)} (h:OwnV w base B v vs rows) {k:Nat} (hk:RwS vs k):∃ cs,w.heap[k]?=some (.cells cs 146 (0,0)):=by
 obtain ⟨i,hi,e⟩:=hk;exact (h.2.2.1 i (by rw [<- h.1];exact hi)).blk e
theorem grS_not {w:World} {base B:Nat} {v:Value} {vs:List Value} {rows:List (List Ce)} (h:OwnV w base B v vs rows) {k:Nat} {cs:Array Value} {T:TypeId} (hb:w.heap[k]?=some (.cells cs T (0,0))) (h1:T≠120) (h2:T≠146):¬ GrS v vs k:=fun c=>by
 obtain ⟨cs',T',hc,hT⟩:=c.blk h;rcases hT with rfl|rfl
 ·exact blk_ne hb hc h1
 ·exact blk_ne hb hc h2
theorem li_not_grS {w:World} {base base' B:Nat} {u v:Value} {vs:List Value} {rows:List (List Ce)} {xs:List Int} (h:OwnV w base B v vs rows) (hu:OwnI w base' u xs):∀ k,u.ownBlock=some k->¬ GrS v vs k:=fun k e=>by
 obtain ⟨cs,hc⟩:=own_blk (show w.ownsRow _ _ _ _ _ _ from hu) e;exact grS_not h hc (by decide) (by decide)
theorem GrS.bd {w:World} {base B:Nat} {v:Value} {vs:List Value} {rows:List (List Ce)} (h:OwnV w base B v vs rows) {k:Nat} (hk:GrS v vs k):base<=k/\k<w.heap.size:=by
 rcases hk with e|⟨i,hi,e⟩
 ·exact h.g.lt k e
 ·exact (h.2.2.1 i (by rw [<- h.1];exact hi)).lt k e
theorem RwS.bd {w:World} {base B:Nat} {v:Value} {vs:List Value} {rows:List (List Ce)} (h:OwnV w base B v vs rows) {k:Nat} (hk:RwS vs k):base<=k/\k<w.heap.size:=GrS.bd h (.inr hk)
def OwnS (w:World) (base:Nat) (t:Te) (v:Tv) (vg vo:List Value):Prop :=
 OwnV w base w.heap.size v.g vg t.g/\OwnV w base w.heap.size v.o vo t.o/\(∀ k,GrS v.g vg k->¬ GrS v.o vo k)/\LiOk w base [(v.ti,t.ti),(v.pp,t.pa.params),(v.pt,t.pa.text)]
theorem OwnS.below {w w':World} {base:Nat} {t:Te} {v:Tv} {vg vo:List Value} (h:OwnS w base t v vg vo) (hb:Below w.heap.size w w'):OwnS w' base t v vg vo :=
 ⟨(h.1.below hb).up hb.size,(h.2.1.below hb).up hb.size,h.2.2.1,h.2.2.2.below hb⟩
theorem OwnS.sl {w:World} {base:Nat} {t:Te} {v:Tv} {vg vo:List Value} (h:OwnS w base t v vg vo):SlT w t v :=
 ⟨SlG.of_own h.1.g,SlG.of_own h.2.1.g,SlN.of_own h.2.2.2.head,SlN.of_own h.2.2.2.tail.head,SlN.of_own h.2.2.2.tail.tail.head⟩
theorem ownV_low {w:World} {base base' B:Nat} {v:Value} {vs:List Value} {rows:List (List Ce)} (h:OwnV w base B v vs rows) (hb:base'<=base):OwnV w base' B v vs rows :=
 ⟨h.1,own_low' h.2.1 hb,fun i hi=>(h.2.2.1 i hi).low hb,h.2.2.2.1,h.2.2.2.2⟩
theorem OwnS.low {w:World} {base base':Nat} {t:Te} {v:Tv} {vg vo:List Value} (h:OwnS w base t v vg vo) (hb:base'<=base):OwnS w base' t v vg vo :=
 ⟨ownV_low h.1 hb,ownV_low h.2.1 hb,h.2.2.1,h.2.2.2.low hb⟩
theorem OwnS.grown {w w':World} {base B:Nat} {t:Te} {v:Tv} {vg vo:List Value} {T:TypeId} {cs:Array Value} (h:OwnS w base t v vg vo) (hg:w.grownBy w' (some B)) (hT:w.heap[B]?=some (.cells cs T (0,0))) (h1:T≠120) (h2:T≠146) (h3:T≠2):OwnS w' base t v vg vo:=by
 have hp:GrP (fun k=>k=B) w w':=GrP.of_grown hg (fun g e=>by cases e;rfl)
 exact ⟨(h.1.grp hp (fun k hk e=>by subst e;exact grS_not h.1 hT h1 h2 hk)).up hg.size,(h.2.1.grp hp (fun k hk e=>by subst e;exact grS_not h.2.1 hT h1 h2 hk)).up hg.size,h.2.2.1,
  h.2.2.2.kept hg (fun p hp=>.inr ((h.2.2.2.1 p hp).not_block hT h3))⟩
theorem apart_ranges {w:World} {lo hi lo' hi':Nat} {v v':Value} {vs vs':List Value} {rows rows':List (List Ce)} (h:OwnV w lo hi v vs rows) (h':OwnV w lo' hi' v' vs' rows') (hv:∀ g,v.ownBlock=some g->g<hi) (hv':∀ g,v'.ownBlock=some g->g<hi') (hd:hi<=lo'\/hi'<=lo):∀ k,GrS v vs k->¬ GrS v' vs' k:=fun k hk hk'=>by
 have a:=GrS.bd h hk;have b:=GrS.bd h' hk'
 have a2:k<hi:=by
  rcases hk with e|⟨i,hi,e⟩
  ·exact hv k e
  ·exact h.2.2.2.1 i (by rw [<- h.1];exact hi) k e
 have b2:k<hi':=by
  rcases hk' with e|⟨i,hi,e⟩
  ·exact hv' k e
  ·exact h'.2.2.2.1 i (by rw [<- h'.1];exact hi) k e
 omega
theorem RgT.own {w:World} {base b1 b2 b3:Nat} {t:Te} {v:Tv} (h:RgT w base b1 b2 b3 t v):∃ vg vo,OwnS w base t v vg vo:=by
 obtain ⟨⟨h1,h1v,h1s⟩,⟨h2,h2v,h2s⟩,h3,h4,h5,h6,h7⟩:=h;obtain ⟨vg,hg⟩:=h1.v;obtain ⟨vo,ho⟩:=h2.v;exact ⟨vg,vo,hg.up h1s,(ownV_low ho h4).up h2s,apart_ranges hg ho h1v h2v (.inl (Nat.le_refl _)),h3.low (by omega)⟩
theorem colorOk_any (x:Int) (w:World) :
  Calls Tryz.prog 148 #[.int .i64 x] w fun e w'=>e=.returned (.bool (decide (0<=x/\x<=8)))/\w'=w:=by
 by_cases h1:0<=x
 ·go_enter Tryz.func148,Tryz.ntmps148
  go_wp2;go_ret;exact ⟨ret_bool (by simp [h1]),rfl⟩
 ·go_enter Tryz.func148,Tryz.ntmps148
  go_wp2;go_ret;exact ⟨ret_bool (by simp;omega),rfl⟩
theorem implStyleOk_any (s:St) (w:World) :
  Calls Tryz.prog 67 #[stV s] w fun e w'=>e=.returned (.bool s.ok)/\Below w.heap.size w w':=by
 obtain ⟨f,b,bo,un,tu⟩:=s;have hok:Hid ((St.mk f b bo un tu).ok=decide (0<=f/\f<=8/\0<=b/\b<=8)):=rfl;unfold stV;simp only;go_enter Tryz.func67,Tryz.ntmps67;go_wp2_with (go_at_call 148;refine (colorOk_any _ _).mono ?_;rintro e w' ⟨rfl,hw⟩;subst hw)
 all_goals
  go_ret;refine ⟨ret_bool ?_,(Below.refl _ _).alloc (Nat.le_refl _) _⟩;rw [hok.out]
  clear hok
  by_cases h1:0<=f/\f<=8
  ·by_cases h2:0<=b/\b<=8
   ·have h3:0<=f/\f<=8/\0<=b/\b<=8:=⟨h1.1,h1.2,h2⟩
    simp_all
   ·have h3:¬ (0<=f/\f<=8/\0<=b/\b<=8):=fun h=>h2 h.2.2
    simp_all
    try omega
  ·have h3:¬ (0<=f/\f<=8/\0<=b/\b<=8):=fun h=>h1 ⟨h.1,h.2.1⟩
   simp_all
theorem st_iff (f b:Int) (bo un tu:Bool) (f' b':Int) (bo' un' tu':Bool):(St.mk f b bo un tu=St.mk f' b' bo' un' tu') ↔ (f=f'/\b=b'/\bo=bo'/\un=un'/\tu=tu'):=by
 constructor
 ·intro e;cases e;simp
 ·rintro ⟨rfl,rfl,rfl,rfl,rfl⟩;rfl
theorem eq_st (a b:St) (W:World):(Op.equalIn 10000 28 (.agg #[.int .i64 a.fore,.int .i64 a.back,.bool a.bold,.bool a.under,.bool a.turned]) (.agg #[.int .i64 b.fore,.int .i64 b.back,.bool b.bold,.bool b.under,.bool b.turned])).run Tryz.prog W=.ok (decide (a=b)) W:=by
 have hu:=Tryz.underlying28;have hi:=Tryz.underlying2;have hb:=Tryz.underlying4;obtain ⟨f,g,bo,un,tu⟩:=a;obtain ⟨f',g',bo',un',tu'⟩:=b;simp only [st_iff];rw [run_equalIn_struct W 9999 _ _ _ (by simp [Program.fieldsOf,hu]) (by kernel_rfl)]
 by_cases h1:f=f'<;>by_cases h2:g=g'<;>by_cases h3:bo=bo'<;>by_cases h4:un=un'<;>by_cases h5:tu=tu'<;>simp [Program.fieldsOf,hu,hi,hb,Op.eqFields,go_sem,h1,h2,h3,h4,h5,Result.andThen]
end Go.Proofs.YtgcnmjjlmcnllaaGreatDoor
namespace Go.Proofs.YtgcnmjjlmcnllaaGreatDoor
set_option maxRecDepth 20000
set_option maxHeartbeats 16000000
open Go.ChangeShapes Go.WideShapes Go.ChangeAt Go.RowKit
attribute [local go_sem ↓] eq_st
def c1B (c:Ce):Bool:=c.st.ok && (if c.part=0 then decide (wdV c.rune=1) else if c.part=1 then decide (wdV c.rune=2) else if c.part=2 then decide (c.rune=0) else false)
theorem c1B_iff (c:Ce):c1B c=true ↔ c1 c:=by
 unfold c1B c1;rw [Bool.and_eq_true]
 constructor
 ·rintro ⟨h,h2⟩
  refine ⟨h,?_⟩;split at h2
  ·rename_i e;exact .inl ⟨e,by simpa using h2⟩
  ·split at h2
   ·rename_i e;exact .inr (.inl ⟨e,by simpa using h2⟩)
   ·split at h2
    ·rename_i e;exact .inr (.inr ⟨e,by simpa using h2⟩)
    ·cases h2
 ·rintro ⟨h,⟨e,h2⟩|⟨e,h2⟩|⟨e,h2⟩⟩
  ·exact ⟨h,by rw [if_pos e];simpa using h2⟩
  ·exact ⟨h,by rw [if_neg (by rw [e];decide),if_pos e];simpa using h2⟩
  ·exact ⟨h,by rw [if_neg (by rw [e];decide),if_neg (by rw [e];decide),if_pos e];simpa using h2⟩
def joinB (a c:Ce):Bool:=if a.part=1 then decide (c.part=2) && decide (c.st=a.st) else !decide (c.part=2)
theorem cellOk_any (c:Ce) (w:World) (hS:SpansAt w) :
  Calls Tryz.prog 220 #[ceV c] w fun e w'=>e=.returned (.bool (c1B c))/\Below w.heap.size w w':=by
 obtain ⟨r,⟨f,b,bo,un,tu⟩,p⟩:=c;have hok:=fun W=>implStyleOk_any ⟨f,b,bo,un,tu⟩ W
 have hwd:=fun W h=>implWidth_any r W h
 have hB:Hid (c1B ⟨r,⟨f,b,bo,un,tu⟩,p⟩=((St.mk f b bo un tu).ok && (if p=0 then decide (wdV r=1) else if p=1 then decide (wdV r=2) else if p=2 then decide (r=0) else false))):=rfl;have hbA:=bal' w (Obj.cells #[.int .i64 r,.int .i64 f,.int .i64 b,.bool bo,.bool un,.bool tu,.int .i64 p] 146);have hlt:=hS.lt;unfold ceV stV at *;generalize (St.mk f b bo un tu).ok=ok at *;generalize wdV r=wd at *
 cases ok
 ·go_enter Tryz.func220,Tryz.ntmps220
  go_wp2_with fail;refine (hok _).mono ?_;rintro e w1 ⟨rfl,hb1⟩;go_wp2;go_ret;exact ⟨by rw [hB.out];rfl,hbA.trans (hb1.mono hbA.size)⟩
 ·have hsp:=hS.below hbA hlt
  have hcp:(w.alloc (Obj.cells #[.int .i64 r,.int .i64 f,.int .i64 b,.bool bo,.bool un,.bool tu,.int .i64 p] 146)).cell? ⟨w.heap.size,6,none⟩=some (.int .i64 p):=by simp [go_sem]
  have hcr:(w.alloc (Obj.cells #[.int .i64 r,.int .i64 f,.int .i64 b,.bool bo,.bool un,.bool tu,.int .i64 p] 146)).cell? ⟨w.heap.size,0,none⟩=some (.int .i64 r):=by simp [go_sem]
  have hsz:w.heap.size<(w.alloc (Obj.cells #[.int .i64 r,.int .i64 f,.int .i64 b,.bool bo,.bool un,.bool tu,.int .i64 p] 146)).heap.size:=by simp
  go_enter Tryz.func220,Tryz.ntmps220;go_wp2_with fail;generalize w.alloc (Obj.cells #[.int .i64 r,.int .i64 f,.int .i64 b,.bool bo,.bool un,.bool tu,.int .i64 p] 146)=W0 at *;refine (hok _).mono ?_;rintro e w1 ⟨rfl,hb1⟩;have d6:w1.cell? ⟨w.heap.size,6,none⟩=some (.int .i64 p):=(hb1.cell (p:=⟨w.heap.size,6,none⟩) hsz).trans hcp;have d0:w1.cell? ⟨w.heap.size,0,none⟩=some (.int .i64 r):=(hb1.cell (p:=⟨w.heap.size,0,none⟩) hsz).trans hcr;have hs1:=hsp.below hb1 hsp.lt;have kb:=hbA.trans (hb1.mono hbA.size);clear hb1 hcp hcr hok hsp hbA hsz;have hwd1:=hwd w1 hs1;clear hwd hs1 hS
  by_cases p0:p=0
  ·have e0:(p==0)=true:=by simp [p0]
   have hB2:Hid (c1B ⟨r,⟨f,b,bo,un,tu⟩,p⟩=decide (wd=1)):=by show _=_;rw [hB.out,if_pos p0];rfl
   clear p0 hB;go_wp2_with fail;refine hwd1.mono ?_;rintro e w2 ⟨rfl,hb2⟩;go_wp2;go_ret;exact ⟨by rw [hB2.out];first|rfl|(simp;done),kb.trans (hb2.mono kb.size)⟩
  ·have e0:(p==0)=false:=by simp [p0]
   by_cases p1:p=1
   ·have e1:(p==1)=true:=by simp [p1]
    have hB2:Hid (c1B ⟨r,⟨f,b,bo,un,tu⟩,p⟩=decide (wd=2)):=by show _=_;rw [hB.out,if_neg p0,if_pos p1];rfl
    clear p0 p1 hB;go_wp2_with fail;refine hwd1.mono ?_;rintro e w2 ⟨rfl,hb2⟩;go_wp2;go_ret;exact ⟨by rw [hB2.out];first|rfl|(simp;done),kb.trans (hb2.mono kb.size)⟩
   ·have e1:(p==1)=false:=by simp [p1]
    clear hwd1
    by_cases p2:p=2
    ·have e2:(p==2)=true:=by simp [p2]
     have hB2:Hid (c1B ⟨r,⟨f,b,bo,un,tu⟩,p⟩=decide (r=0)):=by show _=_;rw [hB.out,if_neg p0,if_neg p1,if_pos p2];rfl
     clear p0 p1 p2 hB;go_wp2;go_ret;exact ⟨by rw [hB2.out];first|rfl|(simp;done),kb⟩
    ·have e2:(p==2)=false:=by simp [p2]
     have hB2:Hid (c1B ⟨r,⟨f,b,bo,un,tu⟩,p⟩=false):=by show _=_;rw [hB.out,if_neg p0,if_neg p1,if_neg p2];rfl
     clear p0 p1 p2 hB;go_wp2;go_ret;exact ⟨by rw [hB2.out];rfl,kb⟩
theorem joins_any (a c:Ce) (w:World) :
  Calls Tryz.prog 221 #[ceV a,ceV c] w fun e w'=>e=.returned (.bool (joinB a c))/\Below w.heap.size w w':=by
 have hB:Hid (joinB a c=if a.part=1 then decide (c.part=2) && decide (c.st=a.st) else !decide (c.part=2)):=rfl;have kb:Below w.heap.size w ((w.alloc (Obj.cells #[.int .i64 a.rune,.int .i64 a.st.fore,.int .i64 a.st.back,.bool a.st.bold,.bool a.st.under,.bool a.st.turned,.int .i64 a.part] 146)).alloc (Obj.cells #[.int .i64 c.rune,.int .i64 c.st.fore,.int .i64 c.st.back,.bool c.st.bold,.bool c.st.under,.bool c.st.turned,.int .i64 c.part] 146)):=((Below.refl _ _).alloc (Nat.le_refl _) _).alloc (by simp) _;unfold ceV
 by_cases h1:a.part=1
 ·have b1:(a.part==1)=true:=by simp [h1]
  by_cases h2:c.part=2
  ·have b2:(c.part==2)=true:=by simp [h2]
   have hB2:Hid (joinB a c=decide (c.st=a.st)):=by show _=_;rw [hB.out,if_pos h1,decide_eq_true h2];rfl
   clear h1 h2 hB;go_enter Tryz.func221,Tryz.ntmps221;go_wp2;go_ret;exact ⟨by rw [hB2.out];first|rfl|(simp;done),kb⟩
  ·have b2:(c.part==2)=false:=by simp [h2]
   have hB2:Hid (joinB a c=false):=by show _=_;rw [hB.out,if_pos h1,decide_eq_false h2];rfl
   clear h1 h2 hB;go_enter Tryz.func221,Tryz.ntmps221;go_wp2;go_ret;exact ⟨by rw [hB2.out];first|rfl|(simp;done),kb⟩
 ·have b1:(a.part==1)=false:=by simp [h1]
  have hB2:Hid (joinB a c=!decide (c.part=2)):=by show _=_;rw [hB.out,if_neg h1]
  clear h1 hB;go_enter Tryz.func221,Tryz.ntmps221;go_wp2;go_ret;exact ⟨by rw [hB2.out];first|rfl|(simp;done),kb⟩
end Go.Proofs.YtgcnmjjlmcnllaaGreatDoor
namespace Go.Proofs.YtgcnmjjlmcnllaaGreatDoor
set_option maxRecDepth 20000
set_option maxHeartbeats 16000000
open Go.ChangeShapes Go.WideShapes Go.ChangeAt Go.RowKit
def aheadC (xs:List Ce) (j:Nat):Ce:=if j=0 then Ce.zero else atC xs (j-1)
theorem aheadC_zero (xs:List Ce):aheadC xs 0=Ce.zero:=rfl
theorem aheadC_succ (xs:List Ce) (j:Nat):aheadC xs (j+1)=atC xs j:=by simp [aheadC]
theorem row_joins {xs:List Ce} (h:Right xs) (i:Nat):joinB (aheadC xs i) (atC xs i)=true:=by
 unfold joinB
 cases i with
 | zero =>
  rw [aheadC_zero,if_neg (by decide)]
  have:¬ (atC xs 0).part=2:=fun e=>absurd (h.2.2 0 e).1 (by decide)
  simp [this]
 | succ i =>
  rw [aheadC_succ]
  by_cases e:(atC xs i).part=1
  ·have:=h.2.1 i e
   rw [if_pos e];simp [this.1,this.2]
  ·rw [if_neg e]
   have:¬ (atC xs (i+1)).part=2:=fun e2=>by
    have:=(h.2.2 _ e2).2;rw [Nat.add_sub_cancel] at this;exact e this
   simp [this]
theorem row_no_cell {xs:List Ce} {i:Nat} (hi:i<xs.length) (h:c1B (atC xs i)=false):rowOkB xs=false:=by
 cases hr:rowOkB xs with
 | false=>rfl
 | true =>
  have:=(c1B_iff _).2 (((right_iff xs).1 hr).2.1 i hi);rw [h] at this;cases this
theorem row_no_join {xs:List Ce} {i:Nat} (h:joinB (aheadC xs i) (atC xs i)=false):rowOkB xs=false:=by
 cases hr:rowOkB xs with
 | false=>rfl
 | true =>
  have:=row_joins ((right_iff xs).1 hr).2 i;rw [h] at this;cases this
theorem row_end {xs:List Ce} (hl:1<=xs.length/\xs.length<=60) (h:∀ i,i<xs.length->c1B (atC xs i)=true/\joinB (aheadC xs i) (atC xs i)=true):rowOkB xs=!decide ((aheadC xs xs.length).part=1):=by
 have hlast:aheadC xs xs.length=atC xs (xs.length-1):=by unfold aheadC;rw [if_neg (by omega)]
 by_cases e:(aheadC xs xs.length).part=1
 ·rw [decide_eq_true e]
  cases hr:rowOkB xs with
  | false=>rfl
  | true =>
   rw [hlast] at e
   have:=(((right_iff xs).1 hr).2.2.1 _ e).1;rw [atC_ge (by omega)] at this
   exact absurd this (by decide)
 ·rw [decide_eq_false e]
  show rowOkB xs=true
  rw [right_iff]
  refine ⟨hl,fun i hi=>(c1B_iff _).1 (h i hi).1,fun i h1=>?_,fun i h2=>?_⟩
  ·have hi:i<xs.length:=part_lt (by rw [h1];decide)
   by_cases c:i+1<xs.length
   ·have:=(h (i+1) c).2
    unfold joinB at this;rw [aheadC_succ,if_pos h1] at this
    simpa using this
   ·exfalso
    rw [hlast,show xs.length-1=i by omega] at e
    exact e h1
  ·have hi:i<xs.length:=part_lt (by rw [h2];decide)
   have:=(h i hi).2;unfold joinB at this
   cases i with
   | zero=>rw [aheadC_zero,if_neg (by decide),h2] at this;simp at this
   | succ i =>
    rw [aheadC_succ] at this
    by_cases c:(atC xs i).part=1
    ·exact ⟨by omega,by rw [Nat.add_sub_cancel];exact c⟩
    ·rw [if_neg c,h2] at this;simp at this
theorem implRowOk_any (v:Value) (xs:List Ce) (w:World) (hS:SpansAt w) (hv:SlC w v xs) (hl:xs.length<=1048576) :
  Calls Tryz.prog 156 #[v] w fun e w'=>e=.returned (.bool (rowOkB xs))/\Below w.heap.size w w':=by
 obtain ⟨a,c,rfl,hcp,hnc,_⟩:=id hv;have hlt:=hS.lt
 by_cases h0:xs.length<1
 ·have h0i:(xs.length:Int)<1:=by omega
  have hV:Hid (rowOkB xs=false):=rowOkB_len xs (by omega);go_enter Tryz.func156,Tryz.ntmps156;go_wp2;go_ret;exact ⟨by rw [hV.out];rfl,Below.refl _ _⟩
 ·have h0i:¬ (xs.length:Int)<1:=by omega
  by_cases h60:60<xs.length
  ·have h60i:(60:Int)<(xs.length:Int):=by omega
   have hV:Hid (rowOkB xs=false):=rowOkB_len xs (by omega);go_enter Tryz.func156,Tryz.ntmps156;go_wp2;go_ret;exact ⟨by rw [hV.out];rfl,Below.refl _ _⟩
  ·have h60i:¬ (60:Int)<(xs.length:Int):=by omega
   have hco:=fun c W h=>cellOk_any c W h
   have hjo:=fun a c W=>joins_any a c W
   have hbA:=bal' w (Obj.cells #[.int .i64 0,.int .i64 0,.int .i64 0,.bool false,.bool false,.bool false,.int .i64 0] 146);have hz:=CeF.new w Ce.zero 146;simp only [Ce.zero,St.zero] at hz;unfold ceV at *;go_enter Tryz.func156,Tryz.ntmps156;go_wp2;go_loopw [17,5] (fun i _ wr=>∃ j:Nat,i=.int .i64 j/\j<=xs.length/\CeF wr w.heap.size (aheadC xs j)/\Below w.heap.size w wr/\Hid (∀ i,i<j->c1B (atC xs i)=true/\joinB (aheadC xs i) (atC xs i)=true)) (fun i _ _=>xs.length-(intOf i).toNat)
   case atStart=>exact ⟨0,rfl,Nat.zero_le _,hz,hbA,fun i h=>absurd h (Nat.not_lt_zero i)⟩
   case round =>
    clear hz hbA;obtain ⟨j,rfl,hj,hA,hb,hall⟩:=hrel
    by_cases hlj:j<xs.length
    ·have hji:(j:Int)<(xs.length:Int):=by omega
     have hj0:(0:Int)<=(j:Int):=by omega
     obtain ⟨b,off,rfl,hsrc⟩:=(hv.below hb).src (by omega);have hat:=hsrc j hlj;have hno1:=fun h=>row_no_cell (xs:=xs) hlj h
     have hno2:=fun h=>row_no_join (xs:=xs) (i:=j) h
     have hsu:Hid (aheadC xs (j+1)=atC xs j):=aheadC_succ xs j;have hX:=CeF.new wr (atC xs j) 146;have hbX:=bal' wr (Obj.cells #[.int .i64 (atC xs j).rune,.int .i64 (atC xs j).st.fore,.int .i64 (atC xs j).st.back,.bool (atC xs j).st.bold,.bool (atC xs j).st.under,.bool (atC xs j).st.turned,.int .i64 (atC xs j).part] 146);have hA1:=hA.below hbX;have hb1:=hb.trans (hbX.mono hb.size)
     have hstep:c1B (atC xs j)=true->joinB (aheadC xs j) (atC xs j)=true->Hid (∀ i,i<j+1->c1B (atC xs i)=true/\joinB (aheadC xs i) (atC xs i)=true):=fun h1 h2=>(show ∀ i,i<j+1->c1B (atC xs i)=true/\joinB (aheadC xs i) (atC xs i)=true from fun i hi=>by
      by_cases e:i=j
      ·rw [e];exact ⟨h1,h2⟩
      ·exact hall.out i (by omega))
     obtain ⟨c0,c1,c2,c3,c4,c5,c6⟩:=hat;have hne:w.heap.size≠wr.heap.size:=by have:=hA.1;omega
     generalize atC xs j=x at *;generalize aheadC xs j=ah at *;clear hsrc hall hA hb hbX;go_wp2_with fail;generalize wr.alloc (Obj.cells #[.int .i64 x.rune,.int .i64 x.st.fore,.int .i64 x.st.back,.bool x.st.bold,.bool x.st.under,.bool x.st.turned,.int .i64 x.part] 146)=W1 at *;refine (hco x _ (hS.below hb1 hlt)).mono ?_;rintro e w2 ⟨rfl,hb2⟩;have hX2:=hX.below hb2;have hA2:=hA1.below hb2;have hb2':=hb1.trans (hb2.mono hb1.size);clear hX hA1 hb2 c0 c1 c2 c3 c4 c5 c6 hb1 hco
     cases hc1:c1B x
     ·have hV:Hid (rowOkB xs=false):=hno1 hc1
      clear hno1 hno2 hstep hc1 hX2 hA2 hjo;go_wp2;go_ret;exact ⟨by rw [hV.out];rfl,hb2'⟩
     ·obtain ⟨_,⟨c0,c1,c2,c3,c4,c5,c6⟩,_⟩:=id hX2
      obtain ⟨_,⟨d0,d1,d2,d3,d4,d5,d6⟩,_⟩:=id hA2;go_wp2_with fail;refine (hjo ah x _).mono ?_;rintro e w3 ⟨rfl,hb3⟩;have hX3:=hX2.below hb3;have hA3:=hA2.below hb3;have hb3':=hb2'.trans (hb3.mono hb2'.size);clear hX2 hA2 hb3 c0 c1 c2 c3 c4 c5 c6 d0 d1 d2 d3 d4 d5 d6 hb2' hjo
      cases hc2:joinB ah x
      ·have hV:Hid (rowOkB xs=false):=hno2 hc2
       clear hno1 hno2 hstep hc1 hc2 hX3 hA3;go_wp2;go_ret;exact ⟨by rw [hV.out];rfl,hb3'⟩
      ·have hall:=hstep hc1 hc2
       have hAp:=hA3.put x;have hbp:=hb3'.grown (putF_grown w3 w.heap.size x) hb3'.size (fun k hk=>by cases hk;exact Nat.le_refl _);obtain ⟨_,⟨c0,c1,c2,c3,c4,c5,c6⟩,_⟩:=id hX3;obtain ⟨_,⟨d0,d1,d2,d3,d4,d5,d6⟩,⟨f0,f1,f2,f3,f4,f5,f6⟩⟩:=id hA3;clear hno1 hno2 hstep hc1 hc2 hX3 hA3;simp only [putF] at hAp hbp;go_wp2;go_roundw
       case rel=>exact ⟨j+1,by go_num,by omega,by rw [hsu.out];exact hAp,hbp,hall⟩
       case measure=>simp [intOf];omega
    ·have hjn:j=xs.length:=by omega
     have hji:¬ (j:Int)<(xs.length:Int):=by omega
     have hV:Hid (rowOkB xs=!decide ((aheadC xs xs.length).part=1)):=row_end ⟨by omega,by omega⟩ (by rw [<- hjn];exact hall.out);rw [<- hjn] at hV
     obtain ⟨_,⟨d0,d1,d2,d3,d4,d5,d6⟩,_⟩:=id hA;clear hco hjo hall;generalize aheadC xs j=ah at *;go_wp2;go_ret;exact ⟨by rw [hV.out];first|rfl|(simp;done),hb⟩
theorem gridOk_of {cols:Int} {rows:List (List Ce)} (hn:1<=rows.length/\rows.length<=30) (h:∀ i,i<rows.length->fitB cols (rowX rows i)=true):gridOkB cols rows=true:=by
 rw [gridOk_iff]
 refine ⟨?_,hn,h⟩;have h0:=h 0 (by omega);unfold fitB at h0;rw [Bool.and_eq_true,decide_eq_true_eq] at h0
 have:=((right_iff _).1 h0.2).1;omega
theorem implGridOk_any (cols:Int) (v:Value) (rows:List (List Ce)) (w:World) (hS:SpansAt w) (hv:SlG w v rows) (hl:rows.length<=1048576) (hx:∀ i,i<rows.length->(rowX rows i).length<=1048576) :
  Calls Tryz.prog 81 #[gridV cols v] w fun e w'=>e=.returned (.bool (gridOkB cols rows))/\Below w.heap.size w w':=by
 have hb0:=bal' w (Obj.cells #[.int .i64 cols,v] 26);have hG0:=GrN.new w cols v 26;obtain ⟨a,c,vs,rfl,hcp,_,hr,hs⟩:=id hv;unfold gridV;obtain ⟨_,g0,g1⟩:=id hG0
 by_cases hn1:rows.length<1
 ·have hn1i:(rows.length:Int)<1:=by omega
  have hV:Hid (gridOkB cols rows=false):=gridOk_len (by omega);clear hs hr;go_enter Tryz.func81,Tryz.ntmps81;go_wp2;go_ret;exact ⟨by rw [hV.out];rfl,hb0⟩
 ·have hn1i:¬ (rows.length:Int)<1:=by omega
  by_cases hn2:30<rows.length
  ·have hn2i:30<(rows.length:Int):=by omega
   have hV:Hid (gridOkB cols rows=false):=gridOk_len (by omega);clear hs hr;go_enter Tryz.func81,Tryz.ntmps81;go_wp2;go_ret;exact ⟨by rw [hV.out];rfl,hb0⟩
  ·have hn2i:¬ 30<(rows.length:Int):=by omega
   rcases hr with h|⟨b,off,rfl,hbb,hrc⟩
   ·rw [h] at hn1;simp at hn1
   go_enter Tryz.func81,Tryz.ntmps81;go_wp2;go_loopw [4,18] (fun _ i wr=>∃ j:Nat,i=.int .i64 j/\j<=rows.length/\Hid (∀ k,k<j->fitB cols (rowX rows k)=true)/\GrN wr w.heap.size cols (.slice (some ⟨b,off,none⟩) rows.length c)/\Below w.heap.size w wr) (fun _ i _=>rows.length-(intOf i).toNat)
   case atStart=>exact ⟨0,rfl,Nat.zero_le _,(fun k hk=>absurd hk (Nat.not_lt_zero k)),hG0,hb0⟩
   case round =>
    clear hG0 hb0;obtain ⟨j,rfl,hj,hall,hG,kb⟩:=hrel;obtain ⟨_,g0,g1⟩:=id hG
    by_cases hlt:j<rows.length
    ·have hji:(j:Int)<(rows.length:Int):=by omega
     have hj0:(0:Int)<=(j:Int):=by omega
     have hcj:=(kb.cell (p:=⟨b,off+j,none⟩) hbb).trans (hrc j hlt);have hsj:=(hs j hlt).below kb;obtain ⟨aj,cj,ev,_⟩:=id hsj;rw [ev] at hcj hsj
     have hno:fitB cols (rowX rows j)=false->Hid (gridOkB cols rows=false):=fun h=>gridOk_no hlt h
     have hstep:fitB cols (rowX rows j)=true->Hid (∀ k,k<j+1->fitB cols (rowX rows k)=true):=fun h=>(show ∀ k,k<j+1->fitB cols (rowX rows k)=true from fun k hk=>by
      by_cases e:k=j
      ·rw [e];exact h
      ·exact hall.out k (by omega))
     have hok:=implRowOk_any _ _ wr (hS.below kb hS.lt) hsj (hx j hlt);have hfit:fitB cols (rowX rows j)=(decide (((rowX rows j).length:Int)=cols) && rowOkB (rowX rows j)):=rfl;clear hs hrc ev hsj hall
     by_cases hc:((rowX rows j).length:Int)=cols
     ·have hcb:(((rowX rows j).length:Int) != cols)=false:=by simp [hc]
      rw [decide_eq_true hc,Bool.true_and] at hfit
      rw [hfit] at hno hstep
      clear hfit;generalize rowOkB (rowX rows j)=ok at *;clear hc;go_wp2_with fail;refine hok.mono ?_;rintro e w2 ⟨rfl,hb2⟩;have hG2:=hG.below hb2;have kb2:=kb.trans (hb2.mono kb.size);clear hG kb hb2 hok g0 g1
      cases ok
      ·have hV:=hno rfl
       clear hno hstep;go_wp2;go_ret;exact ⟨by rw [hV.out];rfl,kb2⟩
      ·have hall2:=hstep rfl
       clear hno hstep;go_wp2;go_roundw
       case rel=>exact ⟨j+1,by go_num,by omega,hall2,hG2,kb2⟩
       case measure=>simp [intOf];omega
     ·have hcb:(((rowX rows j).length:Int) != cols)=true:=by simp [hc]
      rw [decide_eq_false hc,Bool.false_and] at hfit
      have hV:=hno hfit;clear hok hno hstep hfit hc;go_wp2;go_ret;exact ⟨by rw [hV.out];rfl,kb⟩
    ·have hjn:j=rows.length:=by omega
     have hji:¬ (j:Int)<(rows.length:Int):=by omega
     have hV:Hid (gridOkB cols rows=true):=gridOk_of ⟨by omega,by omega⟩ (by rw [<- hjn];exact hall.out);subst hjn;clear hs hrc hall;go_wp2;go_ret;exact ⟨by rw [hV.out];rfl,kb⟩
def zeroUp (L:List Ce) (q k j:Nat) (s:St):List Ce:=genL L.length fun i=>if q<=i/\i<q+j then blankC s else if q<=i/\i<q+k then Ce.zero else atC L i
theorem zeroUp_len (L:List Ce) (q k j:Nat) (s:St):(zeroUp L q k j s).length=L.length:=genL_len _ _
theorem zeroUp_at (L:List Ce) (q k j:Nat) (s:St) (i:Nat) (h:i<L.length):atC (zeroUp L q k j s) i=if q<=i/\i<q+j then blankC s else if q<=i/\i<q+k then Ce.zero else atC L i:=genL_at _ _ _ h
theorem zeroUp_start (L:List Ce) (q k:Nat) (s:St) (h:q+k<=L.length):windL L q (List.replicate k Ce.zero)=zeroUp L q k 0 s:=ext_atC _ _ (by rw [windL_len _ _ _ (by simpa using h),zeroUp_len]) fun i hi=>by
 rw [windL_len _ _ _ (by simpa using h)] at hi
 rw [windL_at _ _ _ (by simpa using h),zeroUp_at _ _ _ _ _ _ hi,if_neg (show ¬ (q<=i/\i<q+0) by omega),List.length_replicate]
 by_cases c:q<=i/\i<q+k
 ·rw [if_pos c,if_pos c,atC_lt (by simp;omega)];simp
 ·rw [if_neg c,if_neg c]
theorem zeroUp_end (L:List Ce) (q k:Nat) (s:St):zeroUp L q k k s=fillUp L q (q+k) s:=ext_atC _ _ (by rw [zeroUp_len,fillUp_len]) fun i hi=>by
 rw [zeroUp_len] at hi
 rw [zeroUp_at _ _ _ _ _ _ hi,fillUp_at _ _ _ _ _ hi]
 by_cases c:q<=i/\i<q+k
 ·rw [if_pos c,if_pos c]
 ·rw [if_neg c,if_neg c,if_neg c]
theorem zeroUp_step (L:List Ce) (q k j:Nat) (s:St) (hj:j<k) (h:q+k<=L.length):zeroUp L q k (j+1) s=(zeroUp L q k j s).set (q+j) ⟨32,s,(atC (zeroUp L q k j s) (q+j)).part⟩:=ext_atC _ _ (by simp [zeroUp_len]) fun i hi=>by
 rw [zeroUp_len] at hi
 rw [zeroUp_at _ _ _ _ _ _ hi,atC_set,zeroUp_len,zeroUp_at _ _ _ _ _ _ hi,zeroUp_at _ _ _ _ _ (q+j) (by omega),if_neg (show ¬ (q<=q+j/\q+j<q+j) by omega),if_pos (show q<=q+j/\q+j<q+k by omega)]
 by_cases e:i=q+j
 ·rw [if_pos (show q<=i/\i<q+(j+1) by omega),if_pos (show i=q+j/\q+j<L.length from ⟨e,by omega⟩)];rfl
 ·rw [if_neg (show ¬ (i=q+j/\q+j<L.length) from fun x=>e x.1)]
  by_cases c:q<=i/\i<q+j
  ·rw [if_pos c,if_pos (show q<=i/\i<q+(j+1) by omega)]
  ·rw [if_neg c,if_neg (show ¬ (q<=i/\i<q+(j+1)) by omega)]
theorem blankOut_any (base g n cap q k c off:Nat) (L:List Ce) (s:St) (w:World) (h:OwnC w base (.slice (some ⟨g,0,none⟩) n cap) L) (hn:L.length=n) (hq:q+k<=n) (hk:0<k) (hl:n<=1000) (hoff:off=q*7) :
  Calls Tryz.prog 206 #[.slice (some ⟨g,off,none⟩) k c,stV s] w fun e w'=>e=.returned (.tuple #[])/\OwnC w' base (.slice (some ⟨g,0,none⟩) n cap) (fillUp L q (q+k) s)/\w.grownBy w' (some g):=by
 have h2:=StAt.new w s 28;have hbA:=bal' w (Obj.cells #[.int .i64 s.fore,.int .i64 s.back,.bool s.bold,.bool s.under,.bool s.turned] 28);have hlt:g<w.heap.size:=(h.lt g rfl).2;have hA:=h.below hbA;have hgA:w.grownBy (w.alloc (Obj.cells #[.int .i64 s.fore,.int .i64 s.back,.bool s.bold,.bool s.under,.bool s.turned] 28)) (some g):=World.grownBy_alloc w _ _;have hHo:Hid (off=q*7):=hoff;have hfin:Hid (zeroUp L q k k s=fillUp L q (q+k) s):=zeroUp_end L q k s;have hsta:Hid (windL L q (List.replicate k Ce.zero)=zeroUp L q k 0 s):=zeroUp_start L q k s (by omega);have hnG:w.heap.size≠g:=by omega
 clear hbA hoff h;unfold stV;go_enter Tryz.func206,Tryz.ntmps206;go_wp2_with (refine clear_oc rfl _ rfl base g n cap q k c off L hA hn hq hHo.out rfl ?_;intro w1 ho1 hg1);have k1:OwnC w1 base (.slice (some ⟨g,0,none⟩) n cap) (zeroUp L q k 0 s):=by rw [<- hsta.out];exact ho1
 have hs1:=h2.grown hg1 (by simp;omega);have hw1:=grown_tr hgA hg1;clear ho1 hg1 hA h2 hgA;go_wp2;go_loopw [8,4] (fun i _ wr=>∃ j:Nat,i=.int .i64 j/\j<=k/\OwnC wr base (.slice (some ⟨g,0,none⟩) n cap) (zeroUp L q k j s)/\StAt wr w.heap.size s/\w.grownBy wr (some g)) (fun i _ _=>k-(intOf i).toNat)
 case atStart=>exact ⟨0,rfl,Nat.zero_le _,k1,hs1,hw1⟩
 case round =>
  clear k1 hs1 hw1;obtain ⟨j,rfl,hj,ko,hs,hw⟩:=hrel
  by_cases hlt:j<k
  ·have hji:(j:Int)<(k:Int):=by omega
   have hj0:(0:Int)<=(j:Int):=by omega
   have hst:Hid (zeroUp L q k (j+1) s=(zeroUp L q k j s).set (q+j) ⟨32,s,(atC (zeroUp L q k j s) (q+j)).part⟩):=zeroUp_step L q k j s hlt (by omega);have hsz:(zeroUp L q k j s).length=n:=by rw [zeroUp_len];exact hn
   have hp:=ko.putRS hsz (q+j) (by omega) 32 s;have kk:OwnC (putRS wr g ((q+j)*7) 32 s) base (.slice (some ⟨g,0,none⟩) n cap) (zeroUp L q k (j+1) s):=by rw [hst.out];exact hp.1
   have hsk:=hs.grown hp.2 (by simp;omega);have hwk:=grown_tr hw hp.2;have hat:=ko.at hsz (q+j) (by omega);have f0:=ko.frozen hsz ((q+j)*7);have f1:=ko.frozen hsz ((q+j)*7+1);have f2:=ko.frozen hsz ((q+j)*7+2);have f3:=ko.frozen hsz ((q+j)*7+3);have f4:=ko.frozen hsz ((q+j)*7+4);have f5:=ko.frozen hsz ((q+j)*7+5);have eo:(q+j)*7=off+j*7:=by have:=hHo.out;omega
   rw [eo] at f0 f1 f2 f3 f4 f5 kk hsk hwk hat
   obtain ⟨c0,c1,c2,c3,c4,c5,c6⟩:=hat;obtain ⟨_,⟨d0,d1,d2,d3,d4⟩,_⟩:=id hs;clear hp hst ko hs hw eo;simp only [putRS] at kk hsk hwk;go_wp2;go_roundw
   case rel=>exact ⟨j+1,by go_num,by omega,kk,hsk,hwk⟩
   case measure=>simp [intOf];omega
  ·have hjn:j=k:=by omega
   have hji:¬ (j:Int)<(k:Int):=by omega
   subst hjn;go_wp2;refine be ?_;exact ⟨rfl,by rw [<- hfin.out];exact ko,hw⟩
theorem blankOut_box (B base g n cap q k c off:Nat) (L:List Ce) (s:St) (w:World) (hs:StAt w B s) (hBg:B≠g) (h:OwnC w base (.slice (some ⟨g,0,none⟩) n cap) L) (hn:L.length=n) (hq:q+k<=n) (hk:0<k) (hl:n<=1000) (hoff:off=q*7) :
  Calls Tryz.prog 206 #[.slice (some ⟨g,off,none⟩) k c,.agg #[.int .i64 s.fore,.int .i64 s.back,.bool s.bold,.bool s.under,.bool s.turned]] w fun e w'=>e=.returned (.tuple #[])/\(w'.cell? ⟨B,0,none⟩=some (.int .i64 s.fore)/\w'.cell? ⟨B,1,none⟩=some (.int .i64 s.back)/\w'.cell? ⟨B,2,none⟩=some (.bool s.bold)/\w'.cell? ⟨B,3,none⟩=some (.bool s.under)/\w'.cell? ⟨B,4,none⟩=some (.bool s.turned))/\OwnC w' base (.slice (some ⟨g,0,none⟩) n cap) (fillUp L q (q+k) s)/\w.grownBy w' (some g) :=
 (blankOut_any base g n cap q k c off L s w h hn hq hk hl hoff).mono fun _ _ ⟨he,ho,hg⟩=>⟨he,(hs.grown hg (by simpa using Ne.symm hBg)).2.1,ho,hg⟩
def blankV (n:Int) (s:St):List Ce:=if 1<=n/\n<=60/\s.ok=true then rowL n.toNat s else []
theorem fill_row (n:Nat) (s:St):fillUp (List.replicate n Ce.zero) 0 (0+n) s=rowL n s:=ext_atC _ _ (by rw [fillUp_len];simp [rowL]) fun i hi=>by
 rw [fillUp_len,List.length_replicate] at hi
 rw [fillUp_at _ _ _ _ _ (by simpa using hi),if_pos (by omega),rowL_at _ _ _ hi]
theorem implBlank_any (n:Int) (s:St) (w:World) :
  Calls Tryz.prog 137 #[.int .i64 n,stV s] w fun e w'=>∃ v,e=.returned v/\OwnC w' w.heap.size v (blankV n s)/\Below w.heap.size w w':=by
 have h2:=StAt.new w s 28;have hbA:=bal' w (Obj.cells #[.int .i64 s.fore,.int .i64 s.back,.bool s.bold,.bool s.under,.bool s.turned] 28);have hOK:=implStyleOk_any s;have hno:∀ W:World,OwnC W w.heap.size (.slice none 0 0) []:=fun W=>ownC_none W _
 by_cases h1:1<=n
 ·by_cases h60:n<=60
  ·have h1i:¬ n<1:=by omega
   have h60i:¬ 60<n:=by omega
   obtain ⟨_,⟨c0,c1,c2,c3,c4⟩,_⟩:=id h2
   have hV:Hid (blankV n s=if s.ok=true then rowL n.toNat s else []):=by
    show _=_;unfold blankV
    by_cases h:s.ok=true
    ·rw [if_pos ⟨h1,h60,h⟩,if_pos h]
    ·rw [if_neg (fun x=>h x.2.2),if_neg h]
   unfold stV at *;go_enter Tryz.func137,Tryz.ntmps137;go_wp2_with fail;generalize w.alloc (Obj.cells #[.int .i64 s.fore,.int .i64 s.back,.bool s.bold,.bool s.under,.bool s.turned] 28)=W0 at *;refine (hOK _).mono ?_;rintro e w1 ⟨rfl,hb1⟩;have kb:=hbA.trans (hb1.mono hbA.size);have hs1:=h2.below hb1;clear hbA h2 hb1 c0 c1 c2 c3 c4 hOK
   cases ho:s.ok
   ·have hV2:Hid (blankV n s=[]):=by show _=_;rw [hV.out,if_neg (by rw [ho];decide)]
    clear ho hs1;go_wp2;go_ret;exact ⟨_,rfl,by rw [hV2.out];exact hno _,kb⟩
   ·obtain ⟨m,rfl⟩:∃ m:Nat,n=m:=⟨n.toNat,by omega⟩
    have hV2:Hid (blankV m s=rowL m s):=by show _=_;rw [hV.out,if_pos ho];simp
    have hm2:m<=1073741824:=by omega
    have hbo:=fun W h=>blankOut_any w1.heap.size w1.heap.size m m 0 m m 0 (List.replicate m Ce.zero) s W h (by simp) (by omega) (by omega) (by omega) rfl
    have hs0:=hs1.1;unfold stV at hbo;clear ho h1 h60 hV;go_wp2_with (refine make_oc rfl _ _ rfl m rfl rfl hm2 ?_;intro w2 ho2 hb2;have hs2:=hs1.below hb2;have hss:=hs2;obtain ⟨_,⟨c0,c1,c2,c3,c4⟩,_⟩:=hss);refine (hbo _ ho2).mono ?_;rintro e w3 ⟨rfl,ho3,hg3⟩;rw [fill_row] at ho3
    have kb2:=kb.trans (hb2.mono kb.size);go_wp2;go_ret;exact ⟨_,rfl,by rw [hV2.out];exact ho3.low kb.size,kb2.grown hg3 kb2.size (fun k hk=>by cases hk;exact kb.size)⟩
  ·have h60i:60<n:=by omega
   have h1i:¬ n<1:=by omega
   have hV:Hid (blankV n s=[]):=by show _=_;unfold blankV;rw [if_neg (by omega)]
   clear hOK;unfold stV;go_enter Tryz.func137,Tryz.ntmps137;go_wp2;go_ret;exact ⟨_,rfl,by rw [hV.out];exact hno _,hbA⟩
 ·have h1i:n<1:=by omega
  have hV:Hid (blankV n s=[]):=by show _=_;unfold blankV;rw [if_neg (by omega)]
  clear hOK;unfold stV;go_enter Tryz.func137,Tryz.ntmps137;go_wp2;go_ret;exact ⟨_,rfl,by rw [hV.out];exact hno _,hbA⟩
theorem under_stack:Tryz.prog.underlying 143=some (.slice 120):=by kernel_rfl
theorem make_ogs {w:World} {ops:Array Oper} {rest:List Oper} {o:Oper} {ac:Act} {Q:Exit->Act->World->Prop} (hgd:o.guard=none) (x y:Operand)
  (ho:o.op=Op.makeSlice 143 x y) (n:Nat) (hx:ac.eval x=.int .i64 (n:Int)) (hy:ac.eval y=.int .i64 (n:Int)) (hn:n<=1073741824)
  (h:∀ w',OwnG w' w.heap.size w'.heap.size (.slice (some ⟨w.heap.size,0,none⟩) n n) (List.replicate n [])->Below w.heap.size w w'->wpList Tryz.prog ops Q rest (ac.put o.dst (.slice (some ⟨w.heap.size,0,none⟩) n n)) w') :
  wpList Tryz.prog ops Q (o::rest) ac w:=by
 obtain ⟨i0,hi,hz0,hz1,hz2⟩:=info_parts info_row;refine wpList_make_full _ hgd x y 143 ho w.heap.size 120 i0 (.slice none 0 0) 1 under_stack hi hz0 hz1 .i64 .i64 (n:Int) (n:Int) n hx hy rfl rfl (by rw [hz2];omega) (by unfold maxLen;omega) (Nat.le_refl _) (fun w' ho' hg=>?_);rw [made_none] at ho'
 have hv:∀ i,rowV (List.replicate n (Value.slice none 0 0)) i=.slice none 0 0:=fun i=>by
  unfold rowV;by_cases hi:i<n<;>simp [List.getD,hi]
 have hr:∀ i,rowX (List.replicate n ([]:List Ce)) i=[]:=fun i=>by
  unfold rowX;by_cases hi:i<n<;>simp [List.getD,hi]
 have hG:OwnG w' w.heap.size w'.heap.size (.slice (some ⟨w.heap.size,0,none⟩) n n) (List.replicate n []) :=
  ⟨List.replicate n (.slice none 0 0),by simp,by rw [List.length_replicate];exact ho',fun i _=>by rw [hv,hr];exact ownC_none _ _,(fun i _ g e=>by rw [hv] at e;cases e),(fun i j _ _ g e=>by rw [hv] at e;cases e)⟩
 exact h w' hG ((Below.refl _ _).grown hg (Nat.le_refl _) (fun k hk=>by cases hk))
theorem newR_len (cols n:Nat):(newR cols n).length=n:=by simp [newR]
theorem newR_at (cols n i:Nat) (h:i<n):rowX (newR cols n) i=rowL cols St.zero:=by rw [rowX_lt (by rw [newR_len];exact h)];simp [newR]
theorem implNewGrid_any (cols n:Int) (w:World) :
  Calls Tryz.prog 55 #[.int .i64 cols,.int .i64 n] w fun e w'=>∃ u,e=.returned (.tuple #[gridV (if newOk cols n then cols else 0) u,.bool (decide (newOk cols n))])/\OwnG w' w.heap.size w'.heap.size u (if newOk cols n then newR cols.toNat n.toNat else [])/\Below w.heap.size w w':=by
 have hG:=GrW.new w 0 (.slice none 0 0) 26;have hb1:=bal' w (Obj.cells #[Value.int IntKind.i64 0,Value.slice none 0 0] 26);have e1:(w.alloc (Obj.cells #[Value.int IntKind.i64 0,Value.slice none 0 0] 26)).heap.size=w.heap.size+1:=by simp
 by_cases hok:newOk cols n
 ·have hd:decide (newOk cols n)=true:=decide_eq_true hok
  rw [if_pos hok,if_pos hok,hd]
  obtain ⟨⟨h1,h2⟩,h3,h4⟩:=hok;obtain ⟨cn,rfl⟩:∃ k:Nat,cols=k:=⟨cols.toNat,by omega⟩;obtain ⟨nn,rfl⟩:∃ k:Nat,n=k:=⟨n.toNat,by omega⟩;rw [Int.toNat_natCast,Int.toNat_natCast]
  have n1:¬ (cn:Int)<1:=by omega
  have n2:¬ (60:Int)<(cn:Int):=by omega
  have n3:¬ (nn:Int)<1:=by omega
  have n4:¬ (30:Int)<(nn:Int):=by omega
  have hnn:nn<=1073741824:=by omega
  have hbl:=fun W=>implBlank_any (cn:Int) St.zero W
  have hbv:blankV (cn:Int) St.zero=rowL cn St.zero:=by
   unfold blankV;rw [if_pos ⟨by omega,by omega,rfl⟩]
   simp
  rw [hbv] at hbl
  obtain ⟨X,hX⟩:∃ X,X=rowL cn St.zero:=⟨_,rfl⟩;rw [<- hX] at hbl
  have HX:Hid (X=rowL cn St.zero):=hX;unfold stV at hbl;simp only [St.zero] at hbl;clear hbv hd hX;go_enter Tryz.func55,Tryz.ntmps55;go_wp2_with (refine make_ogs rfl _ _ rfl nn rfl rfl hnn ?_;intro w1 ho1 hb2);have kG1:=hG.below hb2;have kb1:=hb1.trans (hb2.mono hb1.size);rw [e1] at ho1
  have hR0:Hid (List.replicate nn ([]:List Ce)=genR nn fun i=>if i<0 then X else []):=by
   show _=_
   refine ext_rowX _ _ (by simp [genR_len]) fun i hi=>?_
   have hi':i<nn:=by simpa using hi
   rw [genR_at _ _ _ hi',if_neg (Nat.not_lt_zero i),rowX_lt hi];simp
  rw [hR0.out] at ho1
  clear hG hb1 hb2 hR0 e1;go_wp2;go_loopw [7,27] (fun _ i wr=>∃ j:Nat,i=.int .i64 j/\j<=nn/\OwnG wr (w.heap.size+1) wr.heap.size (.slice (some ⟨w.heap.size+1,0,none⟩) nn nn) (genR nn fun i=>if i<j then X else [])/\GrW wr w.heap.size 0 (.slice none 0 0)/\Below w.heap.size w wr) (fun _ i _=>nn-(intOf i).toNat)
  case atStart=>exact ⟨0,rfl,Nat.zero_le _,ho1,kG1,kb1⟩
  case round =>
   clear ho1 kG1 kb1;obtain ⟨j,rfl,hj,k,kG,kb⟩:=hrel;have hRl:(genR nn fun i=>if i<j then X else []).length=nn:=genR_len _ _
   by_cases hlt:j<nn
   ·have hji:(j:Int)<(nn:Int):=by omega
    have hj0:(0:Int)<=(j:Int):=by omega
    have hst:Hid ((genR nn fun i=>if i<j+1 then X else [])=(genR nn fun i=>if i<j then X else []).set j (X)):=by
     show _=_
     refine ext_rowX _ _ (by rw [List.length_set,genR_len,genR_len]) fun i hi=>?_
     rw [genR_len] at hi
     rw [genR_at _ _ _ hi,rowX_set (by rw [genR_len];exact hlt),genR_at _ _ _ hi]
     by_cases e:i=j
     ·rw [if_pos (by omega),if_pos e]
     ·rw [if_neg e]
      by_cases c:i<j
      ·rw [if_pos c,if_pos (by omega)]
      ·rw [if_neg c,if_neg (by omega)]
    generalize (genR nn fun i=>if i<j then X else [])=R at *;go_wp2_with fail;refine (hbl _).mono ?_;rintro e w2 ⟨r,rfl,hor,hb2⟩;have hs2:=hb2.size;have kG2:=kG.below hb2;have kb2:=kb.trans (hb2.mono kb.size);have k2:=k.below hb2;have hsz:=kG.1;have hk2:=k2.set hRl j hlt r _ (hor.low (by omega)) (fun q e=>(hor.lt q e).1);obtain ⟨vs2,hv2⟩:=k2.v;have hcur:=hv2.cell hRl j hlt;have hfz:=hv2.frozen hRl j;have kb3:=kb2.grown hk2.2 (by omega) (fun g e=>by cases e;omega);have kG3:=kG2.grown hk2.2 (by simp);have kk:=hk2.1;rw [<- hst.out] at kk
    obtain ⟨ra,rn,rc,rfl⟩:∃ a n c,r=Value.slice a n c:=by rcases hor.shape with ⟨h,_⟩|⟨_,_,h,_⟩<;>exact ⟨_,_,_,h⟩
    clear k kG kb hor hb2 hs2 kG2 kb2 k2 hk2 hv2 hst hRl hsz;go_wp2;go_roundw
    case rel=>exact ⟨j+1,by go_num,by omega,kk,kG3,kb3⟩
    case measure=>simp [intOf];omega
   ·have hjn:j=nn:=by omega
    have hji:¬ (j:Int)<(nn:Int):=by omega
    subst hjn
    have hye:(genR j fun i=>if i<j then X else [])=newR cn j:=ext_rowX _ _ (by rw [genR_len,newR_len]) fun i hi=>by
     rw [genR_len] at hi
     rw [genR_at _ _ _ hi,if_pos hi,newR_at _ _ _ hi,HX.out]
    rw [hye] at k
    clear hRl hye hbl;have kF:=(kG.put2 cn (.slice (some ⟨w.heap.size+1,0,none⟩) j j)).2.1;have hgF:=putG2_grown wr w.heap.size cn (.slice (some ⟨w.heap.size+1,0,none⟩) j j);have hoF:=(k.kept hgF (fun g e=>by cases e;omega)).up hgF.size;have hsz:=kG.1;have hbF:=kb.grown hgF (by omega) (fun g e=>by cases e;omega);obtain ⟨_,⟨d0,d1⟩,⟨y0,y1⟩⟩:=kG;obtain ⟨f0,f1⟩:=kF;simp only [putG2] at f0 f1 hoF hbF;clear hgF k kb;go_wp2;exact bodyPost_ret (v:=.tuple #[.agg #[.int .i64 cn,.slice (some ⟨w.heap.size+1,0,none⟩) j j],.bool true]) (by simp [results,Tryz.results55,go_sem,f0,f1]) rfl ⟨_,rfl,hoF.low (by omega),hbF⟩
 ·rw [if_neg hok,if_neg hok,decide_eq_false hok]
  by_cases c1:cols<1
  ·clear hok
   go_enter Tryz.func55,Tryz.ntmps55;go_wp2;exact bodyPost_ret (v:=.tuple #[.agg #[.int .i64 0,.slice none 0 0],.bool false]) (by simp [results,Tryz.results55,go_sem]) rfl ⟨_,rfl,ownG_none _ _ _,hb1⟩
  ·by_cases c2:60<cols
   ·clear hok
    go_enter Tryz.func55,Tryz.ntmps55;go_wp2;exact bodyPost_ret (v:=.tuple #[.agg #[.int .i64 0,.slice none 0 0],.bool false]) (by simp [results,Tryz.results55,go_sem]) rfl ⟨_,rfl,ownG_none _ _ _,hb1⟩
   ·by_cases c3:n<1
    ·clear hok
     go_enter Tryz.func55,Tryz.ntmps55;go_wp2;exact bodyPost_ret (v:=.tuple #[.agg #[.int .i64 0,.slice none 0 0],.bool false]) (by simp [results,Tryz.results55,go_sem]) rfl ⟨_,rfl,ownG_none _ _ _,hb1⟩
    ·have c4:30<n:=by
      apply Int.not_le.1;intro h;exact hok ⟨⟨by omega,by omega⟩,by omega,h⟩
     clear hok;go_enter Tryz.func55,Tryz.ntmps55;go_wp2;exact bodyPost_ret (v:=.tuple #[.agg #[.int .i64 0,.slice none 0 0],.bool false]) (by simp [results,Tryz.results55,go_sem]) rfl ⟨_,rfl,ownG_none _ _ _,hb1⟩
theorem OwnV.setV {w:World} {base B g n cap:Nat} {vs:List Value} {rows:List (List Ce)} (h:OwnV w base B (.slice (some ⟨g,0,none⟩) n cap) vs rows) (hn:rows.length=n) (i:Nat) (hi:i<n) (r:Value) (xs:List Ce) (hr:OwnC w base r xs) (hB:∀ q,r.ownBlock=some q->B<=q) :
  OwnV (w.setCell ⟨g,i,none⟩ r) base (w.setCell ⟨g,i,none⟩ r).heap.size (.slice (some ⟨g,0,none⟩) n cap) (vs.set i r) (rows.set i xs)/\w.grownBy (w.setCell ⟨g,i,none⟩ r) (some g):=by
 have h':=h;subst hn;obtain ⟨hvl,hown,hrs,hlt,hd⟩:=h;have h0:=World.ownsRow.stored hown i r;have hap:∀ {u:Value} {ys:List Ce},OwnC w base u ys->OwnC (w.setCell ⟨g,i,none⟩ r) base u ys:=fun hu=>hu.kept h0.2 (outer_apart hown hu)
 refine ⟨h'.mixed (fun k=>if k=i then none else some k) _ _ (by simp [hvl]) (by simp) h0.1 (fun p hp=>hap (hrs p hp)) (fun k p hk e=>?_) (fun a b p hab hb e1 e2=>?_) (fun k hk e=>?_) (fun a b hab hb e1 e2=>?_),h0.2⟩
 ·by_cases c:k=i
  ·rw [if_pos c] at e;cases e
  ·rw [if_neg c] at e;cases e
   exact ⟨hk,by rw [rowV_setV (by omega),if_neg c],by rw [rowX_set hi,if_neg c]⟩
 ·by_cases c:a=i
  ·rw [if_pos c] at e1;cases e1
  ·by_cases d:b=i
   ·rw [if_pos d] at e2;cases e2
   ·rw [if_neg c] at e1;rw [if_neg d] at e2;cases e1;cases e2;omega
 ·by_cases c:k=i
  ·rw [rowV_setV (by omega),if_pos c,rowX_set hi,if_pos c];exact ⟨hap hr,hB⟩
  ·rw [if_neg c] at e;cases e
 ·by_cases c:a=i
  ·by_cases d:b=i
   ·omega
   ·rw [if_neg d] at e2;cases e2
  ·rw [if_neg c] at e1;cases e1
theorem copiedG_any (v:Value) (rows:List (List Ce)) (w:World) (hv:SlG w v rows) (hl:rows.length<=1000) (hx:∀ i,i<rows.length->(rowX rows i).length<=1000) :
  Calls Tryz.prog 116 #[v] w fun e w'=>∃ vs,e=.returned (.slice (some ⟨w.heap.size,0,none⟩) rows.length rows.length)/\OwnV w' w.heap.size w'.heap.size (.slice (some ⟨w.heap.size,0,none⟩) rows.length rows.length) vs rows/\Below w.heap.size w w':=by
 obtain ⟨a,c,vs0,rfl,hcp,_,hr,hs⟩:=id hv;generalize hN:rows.length=n at *;go_enter Tryz.func116,Tryz.ntmps116;go_wp2_with (refine make_ogs rfl _ _ rfl n rfl rfl (by omega) ?_;intro w1 ho1 hb1);obtain ⟨vs1,hv1⟩:=ho1.v
 have hst0:OwnV w1 w.heap.size w1.heap.size (.slice (some ⟨w.heap.size,0,none⟩) n n) vs1 (genR n fun i=>if i<0 then rowX rows i else []):=by
  have e:(genR n fun i=>if i<0 then rowX rows i else [])=List.replicate n []:=ext_rowX _ _ (by rw [genR_len,List.length_replicate]) fun i hi=>by
   rw [genR_len] at hi
   rw [genR_at _ _ _ hi,if_neg (Nat.not_lt_zero i),rowX_lt (by simpa using hi)];simp
  rw [e];exact hv1
 clear ho1 hv1;go_wp2;go_loopw [4,5,11] (fun _ _ i wr=>∃ (j:Nat) (vs:List Value),i=.int .i64 j/\j<=n/\OwnV wr w.heap.size wr.heap.size (.slice (some ⟨w.heap.size,0,none⟩) n n) vs (genR n fun i=>if i<j then rowX rows i else [])/\Below w.heap.size w wr) (fun _ _ i _=>n-(intOf i).toNat)
 case atStart=>exact ⟨0,vs1,rfl,Nat.zero_le _,hst0,hb1⟩
 case round =>
  clear hst0 hb1;obtain ⟨j,vs,rfl,hj,k,kb⟩:=hrel;have hRl:(genR n fun i=>if i<j then rowX rows i else []).length=n:=genR_len _ _
  by_cases hlt:j<n
  ·have hji:(j:Int)<(n:Int):=by omega
   have hj0:(0:Int)<=(j:Int):=by omega
   rcases hr with h|⟨b,off,rfl,hbb,hrc⟩
   ·rw [h] at hN;simp at hN;omega
   have hst:Hid (((genR n fun i=>if i<j then rowX rows i else []).set j (List.replicate (rowX rows j).length Ce.zero)).set j (rowX rows j)=genR n fun i=>if i<j+1 then rowX rows i else []):=by
    show _=_
    rw [List.set_set]
    refine ext_rowX _ _ (by rw [List.length_set,genR_len,genR_len]) fun i hi=>?_
    rw [List.length_set,genR_len] at hi
    rw [rowX_set (by rw [genR_len];exact hlt),genR_at _ _ _ hi,genR_at _ _ _ hi]
    by_cases e:i=j
    ·rw [if_pos e,if_pos (by omega),e]
    ·rw [if_neg e]
     by_cases c:i<j
     ·rw [if_pos c,if_pos (by omega)]
     ·rw [if_neg c,if_neg (by omega)]
   generalize (genR n fun i=>if i<j then rowX rows i else [])=R at *;have hcj:=(kb.cell (p:=⟨b,off+j,none⟩) hbb).trans (hrc j hlt);have hsj:=hs j hlt;have hxj:=hx j (by omega);obtain ⟨aj,cj,ev,_⟩:=id hsj;rw [ev] at hcj hsj
   generalize rowX rows j=X at *;have hm:X.length<=1073741824:=by omega
   have hwin:Hid (windL (List.replicate X.length Ce.zero) 0 X=X):=by show _=_;simp [windL]
   have hmin:Hid (X.length=Nat.min X.length X.length):=(Nat.min_self _).symm;have hre:Hid ((List.replicate X.length Ce.zero).length=X.length):=by show _=_;simp
   clear hs hrc ev hx
   go_wp2_with (first
    | (refine make_oc (by rfl) _ _ (by rfl) X.length (by rfl) (by rfl) hm ?_;intro w1 ho1 hb1
      have kv1:=k.below hb1;have hcur:=kv1.cell hRl j hlt;have hfz:=kv1.frozen hRl j;have hsz:=kb.size;have hlt0:=(World.ownsRow.lt k.2.1 w.heap.size rfl).2;obtain ⟨hkv,hkg⟩:=kv1.setV hRl j hlt (.slice (some ⟨wr.heap.size,0,none⟩) X.length X.length) _ (ho1.low hsz) (fun q e=>by cases e;exact Nat.le_refl _);have hoz:=ho1.kept hkg (Or.inr (fun e=>Nat.ne_of_gt hlt0 (Option.some.inj e)));have hbj:=(kb.trans (hb1.mono hsz)).grown hkg (by have:=hb1.size;omega) (fun g e=>by cases e;exact Nat.le_refl _);have hsrc:=(hsj.below hbj).src)
    | (refine copy_oc (by rfl) _ _ (by rfl) wr.heap.size wr.heap.size X.length X.length 0 (List.replicate X.length Ce.zero) X hoz hre.out (some ⟨wr.heap.size,0,none⟩) aj X.length X.length X.length cj (by rfl) (by rfl) hmin.out (Nat.le_of_eq (Nat.zero_add _)) (fun h0=>⟨rfl,hsrc h0⟩) ?_;intro w2 ho2 hg2;rw [hwin.out] at ho2))
   have hvl:vs.length=n:=by rw [k.1];exact hRl
   have hrv:rowV (vs.set j (.slice (some ⟨wr.heap.size,0,none⟩) X.length X.length)) j=.slice (some ⟨wr.heap.size,0,none⟩) X.length X.length:=by rw [rowV_setV (by omega),if_pos rfl]
   have hkk:=(hkv.rowset (j:=j) (by simp;omega) X (by rw [hrv];exact ho2.low hsz) (by rw [hrv];exact hg2)).up (B':=w2.heap.size) hg2.size;rw [hst.out] at hkk
   have hb2:=hbj.grown hg2 (by have:=hbj.size;omega) (fun g e=>by cases e;exact hsz);clear hst hrv hvl ho2 hg2 hsrc hbj hoz hkv hkg hlt0 hcur hfz kv1 ho1 hb1 k kb hRl;go_wp2;go_roundw
   case rel=>exact ⟨j+1,_,by go_num,by omega,hkk,hb2⟩
   case measure=>simp [intOf];omega
  ·have hjn:j=n:=by omega
   have hji:¬ (j:Int)<(n:Int):=by omega
   have hye:(genR n fun i=>if i<j then rowX rows i else [])=rows:=ext_rowX _ _ (by rw [genR_len];exact hN.symm) fun i hi=>by
    rw [genR_len] at hi
    rw [genR_at _ _ _ hi,if_pos (by omega)]
   rw [hye] at k
   subst hjn;clear hs hr hye hRl;go_wp2;go_ret;exact ⟨rfl,⟨_,k⟩,kb⟩
theorem under_int:Tryz.prog.underlying 3=some (.int .i64):=by kernel_rfl
theorem grow_zeros {w:World} {ops:Array Oper} {rest:List Oper} {o:Oper} {ac:Act} {Q:Exit->Act->World->Prop} (hgd:o.guard=none) (s x:Operand)
  (ho:o.op=.call { callee:=.builtin .append,args:=#[s,x],argTypes:=#[143,3] })
  (n:Nat) (hs:ac.eval s=.slice none 0 0) (hx:ac.eval x=.int .i64 (n:Int)) (h0:0<n) (hn:n<=1000000)
  (h:∀ cap w',n<=cap->w'.ownsRow w.heap.size 120 1 (.slice (some ⟨w.heap.size,0,none⟩) 0 cap) 0 []->Below w.heap.size w w'->wpList Tryz.prog ops Q rest (ac.put o.dst (.slice (some ⟨w.heap.size,0,none⟩) n cap)) w') :
  wpList Tryz.prog ops Q (o::rest) ac w:=by
 refine wpList_plain hgd fun K hK'=>?_
 obtain ⟨i0,hi,hz0,hz1,hz2⟩:=info_parts info_row;have hrun:=fun ty=>Lib.run_append_nil_zeros (P:=Tryz.prog) w 143 3 ty 120 i0 (.slice none 0 0) .i64 .i64 under_stack under_int hi hz0 n h0 (by omega) (by omega) (by rw [hz2];omega)
 have hge:=grownCap_ge w n 0 120;have hle:=grownCap_le_maxLen w n 0 120 (by unfold maxLen;omega);generalize grownCap w n 0 120=cap at hrun hge hle;have hZs:(Builtin.zeroCells (Value.slice none 0 0).cells n++Builtin.zeroCells (Value.slice none 0 0).cells (cap-n)).size=cap:=by simp [size_zeroCells,Value.cells];omega
 generalize Builtin.zeroCells (Value.slice none 0 0).cells n++Builtin.zeroCells (Value.slice none 0 0).cells (cap-n)=Z at hrun hZs;have hb:Below w.heap.size w (w.drew.alloc (.cells Z 120)):=(bdr w).trans (bal' w.drew _)
 have hown:(w.drew.alloc (.cells Z 120)).ownsRow w.heap.size 120 1 (.slice (some ⟨w.heap.size,0,none⟩) 0 cap) 0 []:=by
  refine ⟨rfl,.inr ⟨w.heap.size,cap,Z,rfl,Nat.le_refl _,heap_alloc_new w.drew _,Nat.zero_le _,hle,by omega,by simp⟩⟩
 unfold Oper.wp;simp [execOp,ho,resolve,invoke,builtin,hs,hx,hrun,Result.andThen];exact hK' _ _ (h cap _ hge hown hb)
theorem growG_any (n:Nat) (w:World) (h0:0<n) (hn:n<=1000000) :
  Calls Tryz.prog 271 #[.slice none 0 0,.int .i64 (n:Int)] w fun e w'=>∃ cap,e=.returned (.slice (some ⟨w.heap.size,0,none⟩) 0 cap)/\w'.ownsRow w.heap.size 120 1 (.slice (some ⟨w.heap.size,0,none⟩) 0 cap) 0 []/\Below w.heap.size w w':=by
 have h1:¬ (n:Int)<0:=by omega
 have h2:(0:Int)<(n:Int):=by omega
 go_enter Tryz.func271,Tryz.ntmps271;go_wp2_with (at_builtin;refine grow_zeros (by rfl) _ _ (by rfl) n (by rfl) (by rfl) h0 hn ?_;intro cap w1 hcap ho1 hb1);go_ret;exact ⟨_,rfl,ho1,hb1⟩
theorem ownsShape' {w:World} {base n:Nat} {v:Value} {xs:List Value} (h:w.ownsRow base 120 1 v n xs):∃ a n c,v=Value.slice a n c:=by
 rcases h.2 with ⟨h1,_⟩|⟨g,cap,cur,hv,_⟩
 ·exact ⟨_,_,_,h1⟩
 ·exact ⟨_,_,_,hv⟩
theorem concatG_any (bb cc:Nat) (pa pb:Option Addr) (ca cb:Nat) (As Bs:List Value) (w:World) (c0:w.cell? ⟨bb,0,none⟩=some (.slice pa As.length ca)) (c1:w.cell? ⟨bb,1,none⟩=some (.slice pb Bs.length cb))
  (ha:ReadsRow w (.slice pa As.length ca) As) (hb:ReadsRow w (.slice pb Bs.length cb) Bs) (h0:0<As.length+Bs.length) (hn:As.length+Bs.length<=1000) (h1a:∀ u∈As,u.oneCell'=true) (h1b:∀ u∈Bs,u.oneCell'=true) :
  Calls Tryz.prog 270 #[.slice (some ⟨bb,0,none⟩) 2 cc] w fun e w'=>∃ v,e=.returned v/\w'.ownsRow w.heap.size 120 1 v (As.length+Bs.length) (As++Bs)/\Below w.heap.size w w':=by
 have hbb:=World.block_lt_of_cell? w _ c0;have hgr:=fun W=>growG_any (As.length+Bs.length) W h0 (by omega)
 have hsum:((As.length+Bs.length:Nat):Int)=(As.length:Int)+(Bs.length:Int):=by omega
 rw [hsum] at hgr
 generalize hA:As.length=la at *;generalize hB:Bs.length=lb at *;have hla:¬ ((la:Int)<0):=by omega
 have hlb:¬ ((la:Int)+(lb:Int)<0):=by omega
 obtain ⟨i0,hi,hz0,hz1,hz2⟩:=info_parts info_row;clear hsum;go_enter Tryz.func270,Tryz.ntmps270;go_wp2;refine wp_loop_rounds 3 ?_;rw [rounds_succ]
 go_wp2;rw [rounds_succ]
 go_wp2;rw [rounds_succ]
 go_wp2_with fail;refine (hgr _).mono ?_;rintro e w2 ⟨cap,rfl,ho2,hb2⟩;have d0:=(hb2.cell (p:=⟨bb,0,none⟩) hbb).trans c0;have d1:=(hb2.cell (p:=⟨bb,1,none⟩) hbb).trans c1;have ha2:=ha.below hb2;clear c0 c1 ha hgr;go_wp2;refine wp_loop_rounds 3 ?_;rw [rounds_succ]
 go_wp2_with (at_builtin;refine append_any (by rfl) _ _ 143 (by rfl) w.heap.size 120 i0 (.slice none 0 0) 24 under_stack hi hz0 hz1 hz2 (by rfl) (.slice (some ⟨w.heap.size,0,none⟩) 0 cap) 0 [] (by rfl) ho2 (.slice pa la ca) As (by rfl) ha2 h1a (by rw [hA];unfold maxLen;omega) (by rw [hA];omega) hb2.size ?_;intro v3 w3 ho3 hg3);have hb3:=hb2.grown hg3 hb2.size (fun g e=>by cases e;exact Nat.le_refl _);have e1:=(hb3.cell (p:=⟨bb,1,none⟩) hbb).trans ((hb2.cell (p:=⟨bb,1,none⟩) hbb).symm.trans d1);have hbw3:=hb.below hb3;rw [hA,Nat.zero_add,List.nil_append] at ho3
 clear hg3 ho2 ha2 d0 d1;obtain ⟨va,vn,vc,rfl⟩:=ownsShape' ho3;rw [rounds_succ]
 go_wp2_with (at_builtin;refine append_any (by rfl) _ _ 143 (by rfl) w.heap.size 120 i0 (.slice none 0 0) 24 under_stack hi hz0 hz1 hz2 (by rfl) (.slice va vn vc) la As (by rfl) ho3 (.slice pb lb cb) Bs (by rfl) hbw3 h1b (by rw [hB];unfold maxLen;omega) (by rw [hB];omega) hb3.size ?_;intro v4 w4 ho4 hg4);have hb4:=hb3.grown hg4 hb3.size (fun g e=>(World.ownsRow.lt ho3 g e).1);rw [hB] at ho4
 clear hg4 ho3 hbw3 e1 hb hb2 hb3;rw [rounds_succ]
 go_wp2;go_ret;exact ⟨_,rfl,ho4,hb4⟩
def windV (L:List Value) (q:Nat) (M:List Value):List Value:=L.take q++M++L.drop (q+M.length)
theorem windV_len (L:List Value) (q:Nat) (M:List Value) (h:q+M.length<=L.length):(windV L q M).length=L.length:=by unfold windV;simp;omega
theorem windV_at (L:List Value) (q:Nat) (M:List Value) (h:q+M.length<=L.length) (i:Nat) (_:i<L.length):rowV (windV L q M) i=if q<=i/\i<q+M.length then rowV M (i-q) else rowV L i:=by
 have h1:(L.take q).length=q:=by rw [List.length_take];omega
 unfold rowV windV;simp only [List.getD]
 by_cases c1:i<q
 ·rw [if_neg (by omega),List.append_assoc,List.getElem?_append_left (by omega),List.getElem?_take_of_lt c1]
 ·by_cases c2:i<q+M.length
  ·rw [if_pos (by omega),List.append_assoc,List.getElem?_append_right (by omega),h1,List.getElem?_append_left (by omega)]
  ·rw [if_neg (by omega),List.getElem?_append_right (by rw [List.length_append,h1];omega),List.length_append,h1,List.getElem?_drop,show q+M.length+(i-(q+M.length))=i by omega]
theorem run_copy_ov {w:World} (ty:TypeId) (base g n cap q:Nat) (xs cs:List Value) (h:w.ownsRow base 120 1 (.slice (some ⟨g,0,none⟩) n cap) n xs) (dp sp:Option Addr) (dLen dCap sLen sCap:Nat) (hM:cs.length=Nat.min sLen dLen) (hq:q+cs.length<=n)
  (hpos:0<cs.length->dp=some ⟨g,q,none⟩/\∃ ad,sp=some ad/\∀ j v,cs[j]?=some v->w.cell? (ad.add j)=some v) (h1:∀ v∈cs,v.oneCell'=true) :
  ∃ w',(Builtin.copy_ #[143,143] ty #[.slice dp dLen dCap,.slice sp sLen sCap]).run Tryz.prog w=.ok (goInt cs.length) w'/\w'.ownsRow base 120 1 (.slice (some ⟨g,0,none⟩) n cap) n (windV xs q cs)/\w.grownBy w' (some g):=by
 obtain ⟨i0,hi,hz0,hz1,hz2⟩:=info_parts info_row;have hsz:(Tryz.prog.info? 120).map (·.size)=some 1:=by rw [hi];simp [hz1]
 have hxl:xs.length=n:=by have:=h.1;omega
 by_cases h0:cs.length=0
 ·obtain rfl:cs=[]:=List.eq_nil_of_length_eq_zero h0
  have hrun:=run_copy_none (P:=Tryz.prog) w 143 143 ty 120 dp sp dLen dCap sLen sCap under_stack hsz (by simpa using hM.symm);refine ⟨w,hrun,?_,World.grownBy.refl _ _⟩;have e:windV xs q []=xs:=by simp [windV]
  rw [e];exact h
 ·obtain ⟨rfl,ad,rfl,hsrc⟩:=hpos (by omega)
  rcases h.2 with ⟨h',_⟩|⟨g',cap',cur,h',hb,hg,hnc,hcm,hcs,htake⟩
  ·simp at h'
  ·simp only [Value.slice.injEq,Option.some.injEq,Addr.mk.injEq,and_true,true_and] at h'
   obtain ⟨rfl,rfl⟩:=h';have hrun:=run_copy_row (P:=Tryz.prog) w 143 143 ty 120 g q dLen dCap ad sLen sCap cur 120 cs under_stack hsz hg hM hsrc (by omega) h1;refine ⟨_,hrun,⟨by rw [windV_len _ _ _ (by omega)];omega,.inr ⟨g,cap,_,rfl,hb,setRow_heap w g cur _ 120 _ hg,hnc,hcm,?_,?_⟩⟩,⟨rfl,rfl,rfl,by simp [World.setRow],fun k _ hk=>setRow_other w g k _ (fun e=>hk (by simp [e]))⟩⟩
   ·simp only [List.size_toArray,List.length_append,List.length_take,List.length_drop,Array.length_toList];omega
   ·have hx:xs=cur.toList.take n:=by rw [<- htake];simp
    have e1:cur.toList.take q=xs.take q:=by rw [hx,List.take_take,Nat.min_eq_left (by omega)]
    have e2:(cur.toList.drop (q+cs.length)).take (n-(q+cs.length))=xs.drop (q+cs.length):=by rw [hx,List.drop_take]
    unfold windV;rw [<- e1,<- e2]
    have hl1:(cur.toList.take q++cs).length=q+cs.length:=by rw [List.length_append,List.length_take,Array.length_toList,hcs];omega
    simp only [Nat.mul_one];rw [List.take_append,List.take_of_length_le (by rw [hl1];omega),hl1]
theorem step_copy_ov {ops:Array Oper} {o:Oper} {ac:Act} {w:World} {K:Act->World->Prop} {Q:Exit->Act->World->Prop} {E:Prop} (hgd:o.guard=none) (d s:Operand)
  (ho:o.op=.call { callee:=.builtin .copy,args:=#[d,s],argTypes:=#[143,143] })
  (base g n cap q:Nat) (xs cs:List Value) (h:w.ownsRow base 120 1 (.slice (some ⟨g,0,none⟩) n cap) n xs) (dp sp:Option Addr) (dLen dCap sLen sCap:Nat) (hd:ac.eval d=.slice dp dLen dCap) (hs:ac.eval s=.slice sp sLen sCap) (hM:cs.length=Nat.min sLen dLen) (hq:q+cs.length<=n)
  (hpos:0<cs.length->dp=some ⟨g,q,none⟩/\∃ ad,sp=some ad/\∀ j v,cs[j]?=some v->w.cell? (ad.add j)=some v) (h1:∀ v∈cs,v.oneCell'=true)
  (hK:∀ w',w'.ownsRow base 120 1 (.slice (some ⟨g,0,none⟩) n cap) n (windV xs q cs)->w.grownBy w' (some g)->K (ac.put o.dst (goInt cs.length)) w') :
  if Region.wanted o (yielded ops ac.tmps)=true then Oper.wp Tryz.prog o ac w K Q else E:=by
 have hw:Region.wanted o (yielded ops ac.tmps)=true:=by simp [Region.wanted,hgd]
 rw [if_pos hw]
 obtain ⟨w',hrun,h2,h3⟩:=run_copy_ov (w:=w) o.type base g n cap q xs cs h dp sp dLen dCap sLen sCap hM hq hpos h1;unfold Oper.wp;simp [execOp,ho,resolve,invoke,builtin,hd,hs,hrun,Result.andThen];exact hK w' h2 h3
def turnI (a m k i:Nat):Nat:=if a<=i/\i<a+m then (if i+k<a+m then i+k else i+k-m) else i
def turnR (rows:List (List Ce)) (a m k:Nat):List (List Ce):=genR rows.length fun i=>rowX rows (turnI a m k i)
theorem turnR_len (rows:List (List Ce)) (a m k:Nat):(turnR rows a m k).length=rows.length:=genR_len _ _
theorem turnR_at (rows:List (List Ce)) (a m k i:Nat) (h:i<rows.length):rowX (turnR rows a m k) i=rowX rows (turnI a m k i):=genR_at _ _ _ h
theorem turnI_lt {a m k i n:Nat} (hk:k<=m) (ham:a+m<=n) (hi:i<n):turnI a m k i<n:=by unfold turnI;split<;>(try split)<;>omega
def turnV (vs:List Value) (a m k:Nat):List Value:=genV (m-k) (fun i=>rowV vs (a+k+i))++genV k (fun i=>rowV vs (a+i))
theorem turnV_len (vs:List Value) (a m k:Nat) (hk:k<=m):(turnV vs a m k).length=m:=by unfold turnV;rw [List.length_append,genV_len,genV_len];omega
theorem rowV_app (a b:List Value) (i:Nat):rowV (a++b) i=if i<a.length then rowV a i else rowV b (i-a.length):=by
 unfold rowV;simp only [List.getD]
 by_cases c:i<a.length
 ·rw [if_pos c,List.getElem?_append_left c]
 ·rw [if_neg c,List.getElem?_append_right (by omega)]
theorem turnV_at (vs:List Value) (a m k i:Nat) (hk:k<=m) (hi:i<m):rowV (turnV vs a m k) i=rowV vs (turnI a m k (a+i)):=by
 unfold turnV turnI;rw [rowV_app,genV_len,if_pos (show a<=a+i/\a+i<a+m by omega)]
 by_cases c:i<m-k
 ·rw [if_pos c,genV_at _ _ _ c,if_pos (by omega)]
  congr 1;omega
 ·rw [if_neg c,genV_at _ _ _ (by omega),if_neg (by omega)]
  congr 1;omega
theorem areSl_one {L:List Value} (h:AreSl L):∀ u∈L,u.oneCell'=true:=fun u hu=>by
 obtain ⟨i,hi,rfl⟩:=List.getElem_of_mem hu;obtain ⟨a,n,c,e⟩:=h i hi;rw [rowV_lt hi] at e
 rw [e];rfl
theorem genV_sl {n:Nat} {f:Nat->Value} (h:∀ i,i<n->∃ a n' c,f i=Value.slice a n' c):AreSl (genV n f):=fun i hi=>by
 rw [genV_len] at hi
 rw [genV_at _ _ _ hi];exact h i hi
theorem win_reads {w:World} {base n g cap q m c:Nat} {vs:List Value} (h:w.ownsRow base 120 1 (.slice (some ⟨g,0,none⟩) n cap) n vs) (hq:q+m<=n):ReadsRow w (.slice (some ⟨g,q,none⟩) m c) (genV m fun i=>rowV vs (q+i)):=by
 have hl:vs.length=n:=by have:=h.1;omega
 refine .inr ⟨⟨g,q,none⟩,c,by rw [genV_len],fun j x hx=>?_⟩;have hj:j<m:=by have:=(List.getElem?_eq_some_iff.1 hx).1;rw [genV_len] at this;exact this
 rw [rowV_get (by rw [genV_len];exact hj),genV_at _ _ _ hj] at hx
 cases hx
 rw [Addr.add_mid,World.ownsRow.cellAt h (q+j) (by omega),rowV_get (by omega)]
theorem ownsSome {w:World} {base n:Nat} {v:Value} {xs:List Value} (h:w.ownsRow base 120 1 v n xs) (hn:0<n):∃ gv cv,v=Value.slice (some ⟨gv,0,none⟩) n cv:=by
 rcases h.2 with ⟨_,h2⟩|⟨g,cap,cur,hv,_⟩
 ·omega
 ·exact ⟨_,_,hv⟩
def blankedR (rows:List (List Ce)) (q j:Nat) (s:St):List (List Ce):=genR rows.length fun i=>if q<=i/\i<q+j then rowL (rowX rows i).length s else rowX rows i
theorem blankedR_len (rows:List (List Ce)) (q j:Nat) (s:St):(blankedR rows q j s).length=rows.length:=genR_len _ _
theorem blankedR_at (rows:List (List Ce)) (q j:Nat) (s:St) (i:Nat) (h:i<rows.length):rowX (blankedR rows q j s) i=if q<=i/\i<q+j then rowL (rowX rows i).length s else rowX rows i:=genR_at _ _ _ h
theorem blankedR_zero (rows:List (List Ce)) (q:Nat) (s:St):blankedR rows q 0 s=rows:=ext_rowX _ _ (blankedR_len _ _ _ _) fun i hi=>by
 rw [blankedR_len] at hi
 rw [blankedR_at _ _ _ _ _ hi,if_neg (by omega)]
theorem blankedR_step (rows:List (List Ce)) (q j:Nat) (s:St) (h:q+j<rows.length):blankedR rows q (j+1) s=(blankedR rows q j s).set (q+j) (rowL (rowX rows (q+j)).length s):=ext_rowX _ _ (by rw [List.length_set,blankedR_len,blankedR_len]) fun i hi=>by
 rw [blankedR_len] at hi
 rw [rowX_set (by rw [blankedR_len];exact h),blankedR_at _ _ _ _ _ hi,blankedR_at _ _ _ _ _ hi]
 by_cases e:i=q+j
 ·rw [if_pos (by omega),if_pos e,e]
 ·rw [if_neg e]
  by_cases c:q<=i/\i<q+j
  ·rw [if_pos c,if_pos (by omega)]
  ·rw [if_neg c,if_neg (by omega)]
theorem fillUp_all (L:List Ce) (s:St):fillUp L 0 (0+L.length) s=rowL L.length s:=ext_atC _ _ (by rw [fillUp_len,rowL_len]) fun i hi=>by
 rw [fillUp_len] at hi
 rw [fillUp_at _ _ _ _ _ hi,if_pos (by omega),rowL_at _ _ _ hi]
theorem step_append_os {w:World} {ops:Array Oper} {o:Oper} {ac:Act} {K:Act->World->Prop} {Q:Exit->Act->World->Prop} {E:Prop} (hgd:o.guard=none) (s x:Operand)
  (ho:o.op=.call { callee:=.builtin .append,args:=#[s,x],argTypes:=#[120,120] })
  (base:Nat) (v:Value) (L:List Ce) (hs:ac.eval s=v) (k:OwnC w base v L) (hb:base<=w.heap.size) (u:Value) (xs:List Ce) (hu:SlC w u xs) (hne:xs≠[]) (hx:ac.eval x=u) (hl:L.length+xs.length<2000000)
  (h:∀ v' w',OwnC w' base v' (L++xs)->w.grownBy w' v.ownBlock->K (ac.put o.dst v') w') :
  if Region.wanted o (yielded ops ac.tmps)=true then Oper.wp Tryz.prog o ac w K Q else E:=by
 have hw:Region.wanted o (yielded ops ac.tmps)=true:=by simp [Region.wanted,hgd]
 rw [if_pos hw]
 obtain ⟨i0,hi,hz0,hz1,hz2⟩:=info_parts info_cell;obtain ⟨a,c,rfl,hc,hn,hr⟩:=hu;rcases hr with hr|⟨b,off,rfl,_,hi2⟩
 ·exact absurd hr hne
 ·refine wp_append_own _ s x _ ho base 146 i0 (ceV Ce.zero) 7 40 Tryz.underlying120 hi hz0 hz1 hz2 rfl (by decide) v L.length _ hs k ⟨b,off,none⟩ xs.length c (xs.flatMap ceL) hx (flat_len xs) ?_ (flat_one xs) (by unfold maxLen;omega) (by omega) hb (fun v' w' ho' hg' _=>?_)
  ·intro j u hj
   rw [Addr.add_mid]
   exact flat_cells hi2 j u hj
  ·refine h v' w' ?_ hg'
   unfold OwnC;rw [List.length_append,List.flatMap_append]
   exact ho'
theorem OwnG.kept2 {w w':World} {base B:Nat} {v:Value} {rows:List (List Ce)} {row:Option Nat} (h:OwnG w base B v rows) (hg:w.grownBy w' row) (hne:∀ g,row=some g->B<=g) (hu:∀ g,v.ownBlock=some g->g<B):OwnG w' base B v rows:=by
 obtain ⟨vs,hl,ho,hr,hB,hd⟩:=h;refine ⟨vs,hl,World.ownsRow.kept ho hg ?_,fun i hi=>(hr i hi).kept hg ?_,hB,hd⟩
 ·cases hv:v.ownBlock with
  | none=>exact .inl rfl
  | some q=>right;intro e;have:=hne q e.symm;have:=hu q hv;omega
 ·cases hv:(rowV vs i).ownBlock with
  | none=>exact .inl rfl
  | some q=>right;intro e;have:=hne q e.symm;have:=hB i hi q hv;omega
theorem NG.kept2 {M B:Nat} {cols:Int} {u:Value} {rows:List (List Ce)} {w0 W W':World} {row:Option Nat} (k:NG M B cols u rows w0 W) (hg:W.grownBy W' row) (hne:∀ g,row=some g->B<=g/\M+2<=g) (hu:∀ g,u.ownBlock=some g->g<B):NG M B cols u rows w0 W':=by
 have h3:=k.2.2.2.1;refine ⟨k.1.grown hg (fun e=>by have:=(hne _ e).2;omega),k.2.1.grown hg (fun e=>by have:=(hne _ e).2;omega),k.2.2.1.kept2 hg (fun g e=>(hne g e).1) hu,Nat.le_trans h3 hg.size,Nat.le_trans k.2.2.2.2.1 hg.size,?_⟩;exact k.2.2.2.2.2.grown hg (by omega) (fun g e=>by have:=(hne g e).2;omega)
theorem l5Copy_any (cols:Int) (v:Value) (rows:List (List Ce)) (w:World) (hv:SlG w v rows) (hl:rows.length<=1000) (h1:1<=rows.length) (hx:∀ i,i<rows.length->(rowX rows i).length<=1000) (hne:∀ i,i<rows.length->rowX rows i≠[]) :
  Calls Tryz.prog 139 #[gridV cols v] w fun e w'=>∃ u,e=.returned (gridV cols u)/\OwnG w' w.heap.size w'.heap.size u rows/\Below w.heap.size w w':=by
 obtain ⟨a,c,vs,rfl,hcp,_,hr,hs⟩:=id hv;rcases hr with h|⟨b,off,rfl,hbb,hrc⟩
 ·rw [h] at h1;simp at h1
 have hb0:=bal' w (Obj.cells #[.int .i64 cols,.slice (some ⟨b,off,none⟩) rows.length c] 26);have hG0:=GrN.new w cols (.slice (some ⟨b,off,none⟩) rows.length c) 26;have e0:(w.alloc (Obj.cells #[.int .i64 cols,.slice (some ⟨b,off,none⟩) rows.length c] 26)).heap.size=w.heap.size+1:=by simp
 have k0:NG (w.heap.size+1) (((w.alloc (Obj.cells #[.int .i64 cols,.slice (some ⟨b,off,none⟩) rows.length c] 26)).alloc (Obj.cells #[Value.int IntKind.i64 0,Value.slice none 0 0] 26)).alloc (Obj.cells #[Value.int IntKind.i64 cols,Value.slice none 0 0] 26)).heap.size cols (.slice none 0 0) [] (w.alloc (Obj.cells #[.int .i64 cols,.slice (some ⟨b,off,none⟩) rows.length c] 26)) (((w.alloc (Obj.cells #[.int .i64 cols,.slice (some ⟨b,off,none⟩) rows.length c] 26)).alloc (Obj.cells #[Value.int IntKind.i64 0,Value.slice none 0 0] 26)).alloc (Obj.cells #[Value.int IntKind.i64 cols,Value.slice none 0 0] 26)):=by
  generalize w.alloc (Obj.cells #[.int .i64 cols,.slice (some ⟨b,off,none⟩) rows.length c] 26)=w1 at *;have h1:=GrW.new w1 0 (.slice none 0 0) 26;have h2:=GrW.new (w1.alloc (Obj.cells #[Value.int IntKind.i64 0,Value.slice none 0 0] 26)) cols (.slice none 0 0) 26;have hb1:=bal' w1 (Obj.cells #[Value.int IntKind.i64 0,Value.slice none 0 0] 26);have e:(w1.alloc (Obj.cells #[Value.int IntKind.i64 0,Value.slice none 0 0] 26)).heap.size=w1.heap.size+1:=by simp
  rw [e] at h2
  rw [<- e0]
  exact ⟨h1.below (bal' _ _),h2,ownG_none _ _ _,by simp,Nat.le_refl _,hb1.trans ((bal' _ _).mono (by simp))⟩
 unfold gridV;go_enter Tryz.func139,Tryz.ntmps139;go_wp2;go_loopw [4] (fun i wr=>∃ j:Nat,i=.int .i64 j/\j<=rows.length/\∃ u,NG (w.heap.size+1) wr.heap.size cols u (rows.take j) (w.alloc (Obj.cells #[.int .i64 cols,.slice (some ⟨b,off,none⟩) rows.length c] 26)) wr) (fun i _=>rows.length-(intOf i).toNat)
 case atStart=>exact ⟨0,rfl,Nat.zero_le _,_,k0⟩
 case round =>
  clear k0;obtain ⟨j,rfl,hj,u,k⟩:=hrel;obtain ⟨ua,un,uc,rfl⟩:∃ a n c,u=Value.slice a n c:=by rcases k.2.2.1.shape with ⟨h,_⟩|⟨_,_,h,_⟩<;>exact ⟨_,_,_,h⟩
  have hsb:wr.cell? ⟨w.heap.size,1,none⟩=some (.slice (some ⟨b,off,none⟩) rows.length c):=(k.2.2.2.2.2.cell (p:=⟨w.heap.size,1,none⟩) (Nat.lt_succ_self _)).trans hG0.2.2
  by_cases hlt:j<rows.length
  ·have hji:(j:Int)<(rows.length:Int):=by omega
   have hj0:(0:Int)<=(j:Int):=by omega
   have hsn:Hid (rows.take (j+1)=rows.take j++[rowX rows j]):=by show _=_;rw [rowX_lt hlt,List.take_succ_eq_append_getElem hlt]
   have hlr:(rows.take j).length<2000000:=by rw [List.length_take];omega
   have hxj:=hx j hlt;obtain ⟨aj,cj,ev,hjc,_,_⟩:=id (hs j hlt)
   have hS:∀ W,Below (w.heap.size+1) (w.alloc (Obj.cells #[.int .i64 cols,.slice (some ⟨b,off,none⟩) rows.length c] 26)) W->(W.cell? ⟨w.heap.size,1,none⟩=some (.slice (some ⟨b,off,none⟩) rows.length c)/\W.cell? ⟨b,off+j,none⟩=some (.slice aj (rowX rows j).length cj)/\Below (w.heap.size+1) (w.alloc (Obj.cells #[.int .i64 cols,.slice (some ⟨b,off,none⟩) rows.length c] 26)) W) :=
    fun W hW=>⟨(hW.cell (p:=⟨w.heap.size,1,none⟩) (Nat.lt_succ_self _)).trans hG0.2.2,((hW.cell (p:=⟨b,off+j,none⟩) (show b<_ by omega)).trans (hb0.cell (p:=⟨b,off+j,none⟩) hbb)).trans (by rw [hrc j hlt,ev]),hW⟩
   have hsrc:∀ W,Below (w.heap.size+1) (w.alloc (Obj.cells #[.int .i64 cols,.slice (some ⟨b,off,none⟩) rows.length c] 26)) W->SlC W (.slice aj (rowX rows j).length cj) (rowX rows j):=fun W hW=>by
    have:=((hs j hlt).below hb0).below (by rw [e0];exact hW)
    rwa [ev] at this
   have hu:∀ g,(Value.slice ua un uc).ownBlock=some g->g<wr.heap.size:=fun g e=>(k.2.2.1.lt g e).2
   have hMB:w.heap.size+1+2<=wr.heap.size:=k.2.2.2.1;clear hs hrc ev hv hG0 hb0 e0;generalize hBB:wr.heap.size=B at k hu hMB;generalize rows.take j=R at *;obtain ⟨⟨_,⟨d0,d1⟩,⟨y0,y1⟩⟩,⟨_,⟨c0,c1⟩,⟨z0,z1⟩⟩,_⟩:=id k;go_wp2;refine wp_region_noPanic ?_;refine wp_region_held_drew (S:=(fun W=>W.cell? ⟨w.heap.size,1,none⟩=some (.slice (some ⟨b,off,none⟩) rows.length c)/\W.cell? ⟨b,off+j,none⟩=some (.slice aj (rowX rows j).length cj)/\Below (w.heap.size+1) (w.alloc (Obj.cells #[.int .i64 cols,.slice (some ⟨b,off,none⟩) rows.length c] 26)) W)) (by kernel_rfl) (hS _ k.drew.2.2.2.2.2) (fun hHeld=>?_);refine tk 0 ?_;refine tk 3 ?_;refine tk 4 ?_;refine tk 5 ?_;refine tk 6 ?_;refine tk 7 ?_;refine rd2 1 2 (fun K hK=>?_) fun K hK=>?_
   ·go_simp
    refine hK.out _ _ (by exact hHeld) (fun hHeld=>?_);clear hK K;refine rd 2 fun K hK=>?_
    go_simp;have kE:=(k.below (bal' wr (Obj.cells #[] 146))).drew;have hoE:=(ownC_nil wr B (by omega)).below (bdr _);rw [hBB] at hoE
    clear k;clear d0 d1 y0 y1 c0 c1 z0 z1;obtain ⟨⟨_,⟨d0,d1⟩,⟨y0,y1⟩⟩,⟨_,⟨c0,c1⟩,⟨z0,z1⟩⟩,_⟩:=id kE;refine hK.out _ _ (hS _ kE.2.2.2.2.2) (fun hHeld=>?_);clear hK K;refine rd 8 fun K hK=>?_
    refine step_append_os (by rfl) _ _ (by rfl) B (.slice (some ⟨B,0,none⟩) 0 0) [] (by rfl) (by exact hoE) (by simp;omega) _ (rowX rows j) (hsrc _ hHeld.2.2) (hne j hlt) (by rfl) (by simp;omega) ?_;intro r w2 ho2 hg2;have k2:=kE.kept2 hg2 (fun g e=>by simp [Value.ownBlock] at e;omega) hu;have hor2:OwnC w2 B r (rowX rows j):=by simpa using ho2
    clear kE ho2 hg2 hoE;clear d0 d1 y0 y1 c0 c1 z0 z1;obtain ⟨⟨_,⟨d0,d1⟩,⟨y0,y1⟩⟩,⟨_,⟨c0,c1⟩,⟨z0,z1⟩⟩,_⟩:=id k2;obtain ⟨ra,rn,rc,rfl⟩:∃ a n c,r=Value.slice a n c:=by rcases hor2.shape with ⟨h,_⟩|⟨_,_,h,_⟩<;>exact ⟨_,_,_,h⟩
    refine hK.out _ _ (hS _ k2.2.2.2.2.2) (fun hHeld=>?_);clear hK K;refine rd 9 fun K hK=>?_
    go_simp;refine hK.out _ _ (hS _ (k2.below (bal' _ _)).2.2.2.2.2) (fun hHeld=>?_);clear hK K;refine rd 10 fun K hK=>?_
    refine step_append_og (by rfl) _ _ (by rfl) (w.heap.size+1+2) B _ _ _ _ (by rfl) k2.2.2.1 (hor2.low hMB) (fun g e=>(hor2.lt g e).1) k2.2.2.2.1 hlr _ rfl (by rfl) ?_;intro v' w' ho' hg';have k4:=(k2.below (bal' _ _)).more ho' hg';clear k2 ho' hg' hor2;clear d0 d1 y0 y1 c0 c1 z0 z1;obtain ⟨⟨_,⟨d0,d1⟩,⟨y0,y1⟩⟩,⟨_,⟨c0,c1⟩,⟨z0,z1⟩⟩,_⟩:=id k4;obtain ⟨va,vn,vc,rfl⟩:∃ a n c,v'=Value.slice a n c:=by rcases k4.2.2.1.shape with ⟨h,_⟩|⟨_,_,h,_⟩<;>exact ⟨_,_,_,h⟩
    refine hK.out _ _ (hS _ k4.2.2.2.2.2) (fun hHeld=>?_);clear hK K;refine tk 11 ?_;refine rd 12 fun K hK=>?_
    go_simp;have k5:=ng_put k4;simp only [putG] at k5;refine hK.out _ _ (hS _ k5.2.2.2.2.2) (fun hHeld=>?_);clear hK K
    (try simp only [Act.put,ZA,ZB,ZC,ZD,ZE,ZF])
    refine dn ?_;clear k4 hHeld d0 d1 y0 y1 c0 c1 z0 z1;go_wp2;go_roundw
    case rel=>exact ⟨j+1,by go_num,by omega,_,by rw [hsn.out];exact k5⟩
    case measure=>simp [intOf];omega
   ·go_simp
    have kE:=(k.below (bal' wr (Obj.cells #[] 146))).drew;have hoE:=(ownC_nil wr B (by omega)).below (bdr _);rw [hBB] at hoE
    clear k;clear d0 d1 y0 y1 c0 c1 z0 z1;obtain ⟨⟨_,⟨d0,d1⟩,⟨y0,y1⟩⟩,⟨_,⟨c0,c1⟩,⟨z0,z1⟩⟩,_⟩:=id kE;refine hK.out _ _ (hS _ kE.2.2.2.2.2) (fun hHeld=>?_);clear hK K;refine rd2 1 8 (fun K hK=>?_) fun K hK=>?_
    ·go_simp
     refine hK.out _ _ (by exact hHeld) (fun hHeld=>?_);clear hK K;refine rd 8 fun K hK=>?_
     refine step_append_os (by rfl) _ _ (by rfl) B (.slice (some ⟨B,0,none⟩) 0 0) [] (by rfl) (by exact hoE) (by simp;omega) _ (rowX rows j) (hsrc _ hHeld.2.2) (hne j hlt) (by rfl) (by simp;omega) ?_;intro r w2 ho2 hg2;have k2:=kE.kept2 hg2 (fun g e=>by simp [Value.ownBlock] at e;omega) hu;have hor2:OwnC w2 B r (rowX rows j):=by simpa using ho2
     clear kE ho2 hg2 hoE;clear d0 d1 y0 y1 c0 c1 z0 z1;obtain ⟨⟨_,⟨d0,d1⟩,⟨y0,y1⟩⟩,⟨_,⟨c0,c1⟩,⟨z0,z1⟩⟩,_⟩:=id k2;obtain ⟨ra,rn,rc,rfl⟩:∃ a n c,r=Value.slice a n c:=by rcases hor2.shape with ⟨h,_⟩|⟨_,_,h,_⟩<;>exact ⟨_,_,_,h⟩
     refine hK.out _ _ (hS _ k2.2.2.2.2.2) (fun hHeld=>?_);clear hK K;refine rd 9 fun K hK=>?_
     go_simp;refine hK.out _ _ (hS _ (k2.below (bal' _ _)).2.2.2.2.2) (fun hHeld=>?_);clear hK K;refine rd 10 fun K hK=>?_
     refine step_append_og (by rfl) _ _ (by rfl) (w.heap.size+1+2) B _ _ _ _ (by rfl) k2.2.2.1 (hor2.low hMB) (fun g e=>(hor2.lt g e).1) k2.2.2.2.1 hlr _ rfl (by rfl) ?_;intro v' w' ho' hg';have k4:=(k2.below (bal' _ _)).more ho' hg';clear k2 ho' hg' hor2;clear d0 d1 y0 y1 c0 c1 z0 z1;obtain ⟨⟨_,⟨d0,d1⟩,⟨y0,y1⟩⟩,⟨_,⟨c0,c1⟩,⟨z0,z1⟩⟩,_⟩:=id k4;obtain ⟨va,vn,vc,rfl⟩:∃ a n c,v'=Value.slice a n c:=by rcases k4.2.2.1.shape with ⟨h,_⟩|⟨_,_,h,_⟩<;>exact ⟨_,_,_,h⟩
     refine hK.out _ _ (hS _ k4.2.2.2.2.2) (fun hHeld=>?_);clear hK K;refine tk 11 ?_;refine rd 12 fun K hK=>?_
     go_simp;have k5:=ng_put k4;simp only [putG] at k5;refine hK.out _ _ (hS _ k5.2.2.2.2.2) (fun hHeld=>?_);clear hK K
     (try simp only [Act.put,ZA,ZB,ZC,ZD,ZE,ZF])
     refine dn ?_;clear k4 hHeld d0 d1 y0 y1 c0 c1 z0 z1;go_wp2;go_roundw
     case rel=>exact ⟨j+1,by go_num,by omega,_,by rw [hsn.out];exact k5⟩
     case measure=>simp [intOf];omega
    ·refine step_append_os (by rfl) _ _ (by rfl) B (.slice (some ⟨B,0,none⟩) 0 0) [] (by rfl) (by exact hoE) (by simp;omega) _ (rowX rows j) (hsrc _ hHeld.2.2) (hne j hlt) (by rfl) (by simp;omega) ?_
     intro r w2 ho2 hg2;have k2:=kE.kept2 hg2 (fun g e=>by simp [Value.ownBlock] at e;omega) hu;have hor2:OwnC w2 B r (rowX rows j):=by simpa using ho2
     clear kE ho2 hg2 hoE;clear d0 d1 y0 y1 c0 c1 z0 z1;obtain ⟨⟨_,⟨d0,d1⟩,⟨y0,y1⟩⟩,⟨_,⟨c0,c1⟩,⟨z0,z1⟩⟩,_⟩:=id k2;obtain ⟨ra,rn,rc,rfl⟩:∃ a n c,r=Value.slice a n c:=by rcases hor2.shape with ⟨h,_⟩|⟨_,_,h,_⟩<;>exact ⟨_,_,_,h⟩
     refine hK.out _ _ (hS _ k2.2.2.2.2.2) (fun hHeld=>?_);clear hK K;refine rd2 1 9 (fun K hK=>?_) fun K hK=>?_
     ·go_simp
      refine hK.out _ _ (by exact hHeld) (fun hHeld=>?_);clear hK K;refine rd 9 fun K hK=>?_
      go_simp;refine hK.out _ _ (hS _ (k2.below (bal' _ _)).2.2.2.2.2) (fun hHeld=>?_);clear hK K;refine rd 10 fun K hK=>?_
      refine step_append_og (by rfl) _ _ (by rfl) (w.heap.size+1+2) B _ _ _ _ (by rfl) k2.2.2.1 (hor2.low hMB) (fun g e=>(hor2.lt g e).1) k2.2.2.2.1 hlr _ rfl (by rfl) ?_;intro v' w' ho' hg';have k4:=(k2.below (bal' _ _)).more ho' hg';clear k2 ho' hg' hor2;clear d0 d1 y0 y1 c0 c1 z0 z1;obtain ⟨⟨_,⟨d0,d1⟩,⟨y0,y1⟩⟩,⟨_,⟨c0,c1⟩,⟨z0,z1⟩⟩,_⟩:=id k4;obtain ⟨va,vn,vc,rfl⟩:∃ a n c,v'=Value.slice a n c:=by rcases k4.2.2.1.shape with ⟨h,_⟩|⟨_,_,h,_⟩<;>exact ⟨_,_,_,h⟩
      refine hK.out _ _ (hS _ k4.2.2.2.2.2) (fun hHeld=>?_);clear hK K;refine tk 11 ?_;refine rd 12 fun K hK=>?_
      go_simp;have k5:=ng_put k4;simp only [putG] at k5;refine hK.out _ _ (hS _ k5.2.2.2.2.2) (fun hHeld=>?_);clear hK K
      (try simp only [Act.put,ZA,ZB,ZC,ZD,ZE,ZF])
      refine dn ?_;clear k4 hHeld d0 d1 y0 y1 c0 c1 z0 z1;go_wp2;go_roundw
      case rel=>exact ⟨j+1,by go_num,by omega,_,by rw [hsn.out];exact k5⟩
      case measure=>simp [intOf];omega
     ·go_simp
      refine hK.out _ _ (hS _ (k2.below (bal' _ _)).2.2.2.2.2) (fun hHeld=>?_);clear hK K;refine rd 1 fun K hK=>?_
      go_simp;refine hK.out _ _ (by exact hHeld) (fun hHeld=>?_);clear hK K;refine rd 10 fun K hK=>?_
      refine step_append_og (by rfl) _ _ (by rfl) (w.heap.size+1+2) B _ _ _ _ (by rfl) k2.2.2.1 (hor2.low hMB) (fun g e=>(hor2.lt g e).1) k2.2.2.2.1 hlr _ rfl (by rfl) ?_;intro v' w' ho' hg';have k4:=(k2.below (bal' _ _)).more ho' hg';clear k2 ho' hg' hor2;clear d0 d1 y0 y1 c0 c1 z0 z1;obtain ⟨⟨_,⟨d0,d1⟩,⟨y0,y1⟩⟩,⟨_,⟨c0,c1⟩,⟨z0,z1⟩⟩,_⟩:=id k4;obtain ⟨va,vn,vc,rfl⟩:∃ a n c,v'=Value.slice a n c:=by rcases k4.2.2.1.shape with ⟨h,_⟩|⟨_,_,h,_⟩<;>exact ⟨_,_,_,h⟩
      refine hK.out _ _ (hS _ k4.2.2.2.2.2) (fun hHeld=>?_);clear hK K;refine tk 11 ?_;refine rd 12 fun K hK=>?_
      go_simp;have k5:=ng_put k4;simp only [putG] at k5;refine hK.out _ _ (hS _ k5.2.2.2.2.2) (fun hHeld=>?_);clear hK K
      (try simp only [Act.put,ZA,ZB,ZC,ZD,ZE,ZF])
      refine dn ?_;clear k4 hHeld d0 d1 y0 y1 c0 c1 z0 z1;go_wp2;go_roundw
      case rel=>exact ⟨j+1,by go_num,by omega,_,by rw [hsn.out];exact k5⟩
      case measure=>simp [intOf];omega
  ·have hjn:j=rows.length:=by omega
   have hji:¬ (j:Int)<(rows.length:Int):=by omega
   subst hjn;rw [List.take_length] at k
   obtain ⟨⟨_,⟨d0,d1⟩,⟨y0,y1⟩⟩,⟨_,⟨c0,c1⟩,⟨z0,z1⟩⟩,_⟩:=id k;have h3:=k.2.2.2.1;have kF:=(k.1.put2 cols (.slice ua un uc)).2.1;have hgF:=putG2_grown wr (w.heap.size+1) cols (.slice ua un uc);have hoF:=((k.2.2.1).kept hgF (fun g e=>by cases e;omega)).up hgF.size;have hbF:=(hb0.trans (k.2.2.2.2.2.mono (by omega))).grown hgF (by omega) (fun g e=>by cases e;omega);obtain ⟨f0,f1⟩:=kF;simp only [putG2] at f0 f1 hoF hbF;clear hgF hs hrc;go_wp2;exact bodyPost_ret (v:=.agg #[.int .i64 cols,.slice ua un uc]) (by simp [results,Tryz.results139,go_sem,f0,f1]) rfl ⟨_,rfl,hoF.low (by omega),hbF⟩
theorem moveR_len (cols:Nat) (rows:List (List Ce)) (a b:Nat) (n:Int) (s:St):(moveR cols rows a b n s).length=rows.length:=by simp [moveR]
theorem moveR_at (cols:Nat) (rows:List (List Ce)) (a b:Nat) (n:Int) (s:St) (i:Nat) (hi:i<rows.length):rowX (moveR cols rows a b n s) i=if a<=i/\i<=b then (if (a:Int)<=i+n/\(i:Int)+n<=b then rowX rows ((i:Int)+n).toNat else rowL cols s) else rowX rows i:=by
 rw [rowX_lt (by rw [moveR_len];exact hi)]
 simp only [moveR,List.getElem_map,List.getElem_range]
 rfl
def sigM (a b:Nat) (n:Int) (k:Nat):Option Nat:=if (a:Int)<=a+k+n/\(a:Int)+k+n<=b then some ((a:Int)+k+n).toNat else none
def sigW (a b:Nat) (n:Int) (i:Nat):Option Nat:=if a<=i/\i<=b then sigM a b n (i-a) else some i
theorem sigM_some {a b k p:Nat} {n:Int} (h:sigM a b n k=some p):(p:Int)=a+k+n/\a<=p/\p<=b:=by
 unfold sigM at h;split at h
 ·cases h;omega
 ·cases h
theorem sigW_inj {a b i j p:Nat} {n:Int} (hi:sigW a b n i=some p) (hj:sigW a b n j=some p):i=j:=by
 unfold sigW at hi hj;split at hi
 ·have h1:=sigM_some hi
  split at hj
  ·have h2:=sigM_some hj;omega
  ·cases hj;omega
 ·cases hi
  split at hj
  ·have h2:=sigM_some hj;omega
  ·cases hj;rfl
def mixV (vs us:List Value) (a j:Nat):List Value:=genV vs.length fun i=>if a<=i/\i<a+j then rowV us (i-a) else rowV vs i
theorem mixV_len (vs us:List Value) (a j:Nat):(mixV vs us a j).length=vs.length:=genV_len _ _
theorem mixV_at (vs us:List Value) (a j i:Nat) (h:i<vs.length):rowV (mixV vs us a j) i=if a<=i/\i<a+j then rowV us (i-a) else rowV vs i:=genV_at _ _ _ h
theorem mixV_zero (vs us:List Value) (a:Nat):mixV vs us a 0=vs:=ext_rowV _ _ (mixV_len _ _ _ _) fun i hi=>by
 rw [mixV_len] at hi
 rw [mixV_at _ _ _ _ _ hi,if_neg (by omega)]
theorem mixV_step (vs us:List Value) (a j:Nat) (h:a+j<vs.length):mixV vs us a (j+1)=(mixV vs us a j).set (a+j) (rowV us j):=ext_rowV _ _ (by rw [List.length_set,mixV_len,mixV_len]) fun i hi=>by
 rw [mixV_len] at hi
 rw [rowV_setV (by rw [mixV_len];exact h),mixV_at _ _ _ _ _ hi,mixV_at _ _ _ _ _ hi]
 by_cases e:i=a+j
 ·subst e
  rw [if_pos (by omega),if_pos rfl,show a+j-a=j by omega]
 ·rw [if_neg e]
  by_cases c:a<=i/\i<a+j
  ·rw [if_pos c,if_pos (by omega)]
  ·rw [if_neg c,if_neg (by omega)]
theorem mixed_move {w1 w':World} {base B M cols:Nat} {v:Value} {vs us:List Value} {rows:List (List Ce)} {a b:Nat} {n:Int} {s:St} (h:OwnV w1 base B v vs rows) (hG:Gat w1 M vs (rowL cols s) (sigM a b n) us) (hus:us.length=b+1-a) (hab:a<=b) (hb:b<rows.length) (hM:base<=M) (hBM:B<=M)
  (ho:w'.ownsRow base 120 1 v rows.length (mixV vs us a (b+1-a))) (hg:w1.grownBy w' v.ownBlock):OwnV w' base w'.heap.size v (mixV vs us a (b+1-a)) (moveR cols rows a b n s):=by
 have hvl:=h.1;have hown:=h.2.1;refine h.mixed (sigW a b n) _ _ (by rw [mixV_len,moveR_len,hvl]) (moveR_len _ _ _ _ _ _) ho (fun p hp=>(h.2.2.1 p hp).kept hg (outer_apart hown (h.2.2.1 p hp))) (fun i p hi e=>?_) (fun i j p hij _ e1 e2=>by have:=sigW_inj e1 e2;omega) (fun i hi e=>?_) (fun i j hij hj e1 e2=>?_)
 ·unfold sigW at e
  rw [mixV_at _ _ _ _ _ (by omega),moveR_at _ _ _ _ _ _ _ hi]
  split at e
  ·rename_i c
   have hs:=sigM_some e;refine ⟨by omega,?_,?_⟩
   ·rw [if_pos (by omega)];exact hG.1 (i-a) p (by omega) e
   ·rw [if_pos c,if_pos (by omega),show ((i:Int)+n).toNat=p by omega]
  ·rename_i c
   cases e
   exact ⟨hi,by rw [if_neg (by omega)],by rw [if_neg c]⟩
 ·unfold sigW at e
  rw [mixV_at _ _ _ _ _ (by omega),moveR_at _ _ _ _ _ _ _ hi]
  split at e
  ·rename_i c
   have hr:=hG.2.1 (i-a) (by omega) e
   have hn:¬ ((a:Int)<=i+n/\(i:Int)+n<=b):=by
    unfold sigM at e;split at e
    ·cases e
    ·omega
   rw [if_pos (by omega),if_pos c,if_neg hn]
   exact ⟨(hr.kept hg (outer_apart hown hr)).low hM,fun g e=>Nat.le_trans hBM (hr.lt g e).1⟩
  ·cases e
 ·unfold sigW at e1 e2
  split at e1
  ·split at e2
   ·rw [mixV_at _ _ _ _ _ (by omega),mixV_at _ _ _ _ _ (by omega),if_pos (by omega),if_pos (by omega)]
    exact hG.2.2 (i-a) (j-a) (by omega) (by omega) e1 e2
   ·cases e2
  ·cases e1
def MvK (M:Nat) (u:Value) (vs us:List Value) (X:List Ce) (σ:Nat->Option Nat) (s:St) (w0 W:World):Prop :=
 StAt W M s/\W.ownsRow (M+1) 120 1 u us.length us/\Gat W M vs X σ us/\Below M w0 W
theorem MvK.below {M:Nat} {u:Value} {vs us:List Value} {X:List Ce} {σ:Nat->Option Nat} {s:St} {w0 W W':World} (k:MvK M u vs us X σ s w0 W) (hb:Below W.heap.size W W'):MvK M u vs us X σ s w0 W' :=
 ⟨k.1.below hb,World.ownsRow.below k.2.1 hb,k.2.2.1.below hb,k.2.2.2.trans (hb.mono (by have:=k.1.1;omega))⟩
theorem MvK.more {M:Nat} {u v':Value} {vs us:List Value} {X:List Ce} {σ:Nat->Option Nat} {s:St} {w0 W W':World} {r:Value} (k:MvK M u vs us X σ s w0 W) (hG:Gat W M vs X σ (us++[r])) (ho:W'.ownsRow (M+1) 120 1 v' (us.length+1) (us++[r])) (hg:(W.alloc (.cells #[r] 120)).grownBy W' u.ownBlock):MvK M v' vs (us++[r]) X σ s w0 W':=by
 have hba:=bal' W (Obj.cells #[r] 120);have h1:=hba.size;have h2:=k.1.1;have h3:=fun g e=>(k.2.1.lt g e).1
 refine ⟨(k.1.below hba).grown hg (fun e=>by have:=h3 M e;omega),by rw [List.length_append];exact ho,(hG.below hba).kept (World.ownsRow.below k.2.1 hba) hg,?_⟩;exact (k.2.2.2.trans (hba.mono (by omega))).grown hg (by omega) (fun g e=>by have:=h3 g e;omega)
theorem ownsShape {w:World} {base n:Nat} {v:Value} {xs:List Value} (h:w.ownsRow base 120 1 v n xs):∃ a n c,v=Value.slice a n c:=by
 rcases h.2 with ⟨h1,_⟩|⟨g,cap,cur,hv,_⟩
 ·exact ⟨_,_,_,h1⟩
 ·exact ⟨_,_,_,hv⟩
end Go.Proofs.YtgcnmjjlmcnllaaGreatDoor
