/- Parts of the proof. -/
import Derived.Test.YtgcnmjjlmcnllaaGreatDoorP1
import Derived.Test.YtgcnmjjlmcnllaaGreatDoorP3
import Derived.Test.YtgcnmjjlmcnllaaGreatDoorP5
import Derived.Test.YtgcnmjjlmcnllaaGreatDoorP6
import Derived.Test.YtgcnmjjlmcnllaaGreatDoorP7
import Derived.Test.YtgcnmjjlmcnllaaGreatDoorP8
import Derived.Test.YtgcnmjjlmcnllaaGreatDoorP13
import Derived.Test.YtgcnmjjlmcnllaaGreatDoorP14
import Derived.Test.YtgcnmjjlmcnllaaGreatDoorP16
import Derived.Test.YtgcnmjjlmcnllaaGreatDoorP18
import Derived.Test.YtgcnmjjlmcnllaaGreatDoorP30
import Derived.Deep.RegionHeld3
namespace Go.Proofs.YtgcnmjjlmcnllaaGreatDoor
set_option maxRecDepth 20000
set_option maxHeartbeats 16000000
open Go.ChangeShapes Go.WideShapes Go.ChangeAt Go.RowKit
theorem l7Do_5 (cn N base B:Nat) (pv x:Value) (ps:List Int) (r m:Int) (t:Te) (v:Tv) (vg vo:List Value) (w:World) (h:Scr w 35 base B [] t v vg vo) (hbase:base<=w.heap.size) (rk:RtK t cn N) (hp:SlN w pv ps) (hl:ps.length<=1000) (hap:ApF w B v vg vo pv) (hb:∀ y∈ps,0<=y/\y<=9999) (xs:List Int) (hx:SlN w x xs) (hxl:xs.length<=1000) :
  Calls Tryz.prog 62 #[.pointer (some ⟨B,0,none⟩),.agg (acA 5 r pv m x)] w fun e w'=>e=.returned (.tuple #[])/\∃ v' vg' vo',Res w w' 35 base B [] v vg vo { t with ti:=xs } v' vg' vo':=by
 obtain ⟨W,hW⟩:∃ W,Hid (W=w.alloc (Obj.cells #[.int .i64 5,.int .i64 r,pv,.int .i64 m,x] 37)):=⟨_,rfl⟩;have hb0:Below w.heap.size w W:=by rw [hW.out];exact bal' _ _
 have hof:=Res.of_below h hb0;have hbw:=Nat.le_trans hbase hb0.size;have hpW:=hp.below hb0;have haW:=hap.mono hb0.size;have rt:=rk.w;have hxW:=hx.below hb0;have hxl2:xs.length<=1073741824:=by omega
 obtain ⟨ta,tc,hti⟩:=(SlN.of_own h.o.2.2.2.head).shp;obtain ⟨pa,pn,pc,rfl⟩:∃ a n c,pv=.slice a n c:=by obtain ⟨a,c,e⟩:=hp.shp;exact ⟨a,_,c,e⟩
 replace hof:=(show Hid _ from hof);clear h hbase rk hp hap hpW haW rt hb hx;have hA0:W.cell? ⟨w.heap.size,0,none⟩=some (.int .i64 5):=by rw [hW.out];exact cAl (heap_alloc_new w _) 0
 have hA4:W.cell? ⟨w.heap.size,4,none⟩=some x:=by rw [hW.out];exact cAl (heap_alloc_new w _) 4
 have hbx:w.heap.size<W.heap.size:=by rw [hW.out];simp
 replace hxl2:=(show Hid _ from hxl2);replace hxW:=(show Hid _ from hxW);clear hxl hl;unfold acA;go_enter Tryz.func62,Tryz.ntmps62;refine wp_seq_k (fun K hK=>?_);have hH:=(show Hid _ from hK);clear hK;go_wp2;refine hH.out _ _ ?_;rw [<- hW.out]
 clear hH hW;refine wp_seq_k (fun K hK=>?_);have hH:=(show Hid _ from hK);clear hK;go_wp2;refine hH.out _ _ ?_;clear hH;refine wp_block ?_;refine wp_seq_k (fun K hK=>?_);have hH:=(show Hid _ from hK);clear hK;go_wp2;refine hH.out _ _ ?_;clear hH;refine wp_cond_false (by rfl) ?_;refine wp_seq_k (fun K hK=>?_);have hH:=(show Hid _ from hK);clear hK;go_wp2;refine hH.out _ _ ?_;clear hH;refine wp_cond_false (by rfl) ?_;refine wp_seq_k (fun K hK=>?_);have hH:=(show Hid _ from hK);clear hK;go_wp2;refine hH.out _ _ ?_;clear hH;refine wp_cond_false (by rfl) ?_;refine wp_seq_k (fun K hK=>?_);have hH:=(show Hid _ from hK);clear hK;go_wp2;refine hH.out _ _ ?_;clear hH;refine wp_cond_false (by rfl) ?_;refine wp_seq_k (fun K hK=>?_);have hH:=(show Hid _ from hK);clear hK;go_wp2;refine hH.out _ _ ?_;clear hH;refine wp_cond_true (by rfl) ?_;go_wp2_with (refine copy_g (by rfl) _ _ (by rfl) W.heap.size rfl _ xs (by rfl) hxW.out hxl2.out (by rfl) ?_;intro u w1 hu hb1;obtain ⟨ua,uc,hue⟩:=(SlN.of_own hu).shp;subst hue;have hs1:=hof.out.s.below hb1;have c24:w1.cell? ⟨B,24,none⟩=some (.slice ta t.ti.length tc):=(by rw [hs1.cell 24];show some v.ti=_;rw [hti]);have z24:w1.frozen? ⟨B,24,none⟩=false:=hs1.frozen 24;have hR:=(show Hid (Res w (w1.setCell ⟨B,24,none⟩ (.slice ua xs.length uc)) 35 base B [] v vg vo { t with ti:=xs } ⟨v.g,v.o,.slice ua xs.length uc,v.pp,v.pt⟩ vg vo) from hof.out.trans (hof.out.s.title hbw hb1 _ xs hu (sCg B [.slice ua xs.length uc] 24 w1) (sCh B 35 [.slice ua xs.length uc] 24 w1 _ hs1.b)));clear hof hu hb1 hs1 hbw hti hxW);refine be ?_;exact ⟨rfl,_,_,_,hR.out⟩
theorem l7Do_any (cn N base B:Nat) (pv x:Value) (ps:List Int) (r m:Int) (t:Te) (v:Tv) (vg vo:List Value) (w:World) (h:Scr w 35 base B [] t v vg vo) (hbase:base<=w.heap.size) (rk:RtK t cn N) (hp:SlN w pv ps) (hl:ps.length<=1000) (hap:ApF w B v vg vo pv) (hb:∀ y∈ps,0<=y/\y<=9999) (xs:List Int) (hx:SlN w x xs) (hxl:xs.length<=1000) (k:Int) :
  Calls Tryz.prog 62 #[.pointer (some ⟨B,0,none⟩),.agg (acA k r pv m x)] w fun e w'=>e=.returned (.tuple #[])/\∃ v' vg' vo',Res w w' 35 base B [] v vg vo (doT t ⟨k,r,ps,m,xs⟩) v' vg' vo':=by
 have hxs:∃ a n c,x=.slice a n c:=by obtain ⟨a,c,e⟩:=hx.shp;exact ⟨a,_,c,e⟩
 by_cases n1:k=1
 ·subst n1;exact l7Do_1 cn N base B pv x ps r m t v vg vo w h hbase rk hp hl hap hb hxs
 by_cases n2:k=2
 ·subst n2;exact l7Do_2 cn N base B pv x ps r m t v vg vo w h hbase rk hp hl hap hb hxs
 by_cases n3:k=3
 ·subst n3;exact l7Do_3 cn N base B pv x ps r m t v vg vo w h hbase rk hp hl hap hb hxs
 by_cases n4:k=4
 ·subst n4
  by_cases hm:m=0
  ·have hV:doT t ⟨4,r,ps,m,xs⟩=listT t r ps:=by simp [doT,hm]
   rw [hV];exact l7Do_4s cn N base B pv x ps r m t v vg vo w h hbase rk hp hl hap hb hxs hm
  ·by_cases h1:r=104
   ·have hV:doT t ⟨4,r,ps,m,xs⟩=ps.foldl (modeT true) t:=by simp [doT,hm,h1]
    rw [hV];exact l7Do_4h cn N base B pv x ps r m t v vg vo w h hbase rk hp hl hap hb hxs hm h1
   ·by_cases h2:r=108
    ·have hV:doT t ⟨4,r,ps,m,xs⟩=ps.foldl (modeT false) t:=by simp [doT,hm,h2]
     rw [hV];exact l7Do_4l cn N base B pv x ps r m t v vg vo w h hbase rk hp hl hap hb hxs hm h2
    ·have hV:doT t ⟨4,r,ps,m,xs⟩=t:=by simp [doT,hm,h1,h2]
     rw [hV];exact l7Do_4n cn N base B pv x ps r m t v vg vo w h hbase rk hp hl hap hb hxs hm h1 h2
 by_cases n5:k=5
 ·subst n5;exact l7Do_5 cn N base B pv x ps r m t v vg vo w h hbase rk hp hl hap hb xs hx hxl
 have hV:doT t ⟨k,r,ps,m,xs⟩=t:=by simp [doT,n1,n2,n3,n4,n5]
 rw [hV];exact l7Do_none cn N base B pv x ps r m t v vg vo w h hbase rk hp hl hap hb hxs k n1 n2 n3 n4 n5
theorem specDo_any (t:Te) (v:Tv) (a:Ac) (pv x:Value) (w:World) (h:SlT w t v) (hz:SzT 1048576 t) (hp:SlN w pv a.params) (hx:SlN w x a.text) (hl:a.params.length<=1048576) (ht:a.text.length<=1048576) (hpb:∀ g,pv.ownBlock=some g->g<w.heap.size) :
  Calls Tryz.prog 17 #[.agg (teCs t v),.agg (acA a.kind a.rune pv a.mark x)] w fun e w'=>∃ v' vg vo,e=.returned (.agg (teCs (doR t a) v'))/\OwnS w' w.heap.size (doR t a) v' vg vo/\Below w.heap.size w w':=by
 obtain ⟨Rt,eR⟩:∃ R,Hid (doR t a=R):=⟨_,rfl⟩;rw [eR.out]
 obtain ⟨w3,hw3⟩:∃ w3,w3=((w.alloc (Obj.cells (teCs t v) 35)).alloc (Obj.cells (acA a.kind a.rune pv a.mark x) 37)).alloc (Obj.cells #[.int .i64 0,.slice none 0 0,.int .i64 0,.slice none 0 0,.int .i64 0,.int .i64 0,.int .i64 0,.int .i64 0,.bool false,.bool false,.bool false,.int .i64 0,.int .i64 0,.bool false,.bool false,.bool false,.bool false,.int .i64 0,.int .i64 0,.int .i64 0,.int .i64 0,.bool false,.bool false,.bool false,.slice none 0 0,.int .i64 0,.slice none 0 0,.int .i64 0,.slice none 0 0,.string ⟨#[]⟩] 35):=⟨_,rfl⟩;have b1:=bal' w (Obj.cells (teCs t v) 35);have b2:=bal' (w.alloc (Obj.cells (teCs t v) 35)) (Obj.cells (acA a.kind a.rune pv a.mark x) 37);have b3:=bal' ((w.alloc (Obj.cells (teCs t v) 35)).alloc (Obj.cells (acA a.kind a.rune pv a.mark x) 37)) (Obj.cells #[.int .i64 0,.slice none 0 0,.int .i64 0,.slice none 0 0,.int .i64 0,.int .i64 0,.int .i64 0,.int .i64 0,.bool false,.bool false,.bool false,.int .i64 0,.int .i64 0,.bool false,.bool false,.bool false,.bool false,.int .i64 0,.int .i64 0,.int .i64 0,.int .i64 0,.bool false,.bool false,.bool false,.slice none 0 0,.int .i64 0,.slice none 0 0,.int .i64 0,.slice none 0 0,.string ⟨#[]⟩] 35);have hX:=((TeB.new w 35 t v).below b2).below b3;have hA:=BlkC.below (BlkC.new (w.alloc (Obj.cells (teCs t v) 35)) 37 (acA a.kind a.rune pv a.mark x).toList) b3;have hR:=TB.new ((w.alloc (Obj.cells (teCs t v) 35)).alloc (Obj.cells (acA a.kind a.rune pv a.mark x) 37)) [.int .i64 0,.slice none 0 0,.int .i64 0,.slice none 0 0,.int .i64 0,.int .i64 0,.int .i64 0,.int .i64 0,.bool false,.bool false,.bool false,.int .i64 0,.int .i64 0,.bool false,.bool false,.bool false,.bool false,.int .i64 0,.int .i64 0,.int .i64 0,.int .i64 0,.bool false,.bool false,.bool false,.slice none 0 0,.int .i64 0,.slice none 0 0,.int .i64 0,.slice none 0 0,.string ⟨#[]⟩];have z1:(w.alloc (Obj.cells (teCs t v) 35)).heap.size=w.heap.size+1:=by simp
 have z2:((w.alloc (Obj.cells (teCs t v) 35)).alloc (Obj.cells (acA a.kind a.rune pv a.mark x) 37)).heap.size=w.heap.size+2:=by simp
 have kb:=(b1.trans (b2.mono b1.size)).trans (b3.mono (b1.trans (b2.mono b1.size)).size);rw [z1] at hA
 rw [z2] at hR
 rw [<- hw3] at kb
 replace hX:TeB w3 w.heap.size 35 t v:=by rw [hw3];exact hX
 replace hA:BlkC w3 (w.heap.size+1) 37 [.int .i64 a.kind,.int .i64 a.rune,pv,.int .i64 a.mark,x]:=by rw [hw3];exact hA
 replace hR:TB w3 (w.heap.size+2) [.int .i64 0,.slice none 0 0,.int .i64 0,.slice none 0 0,.int .i64 0,.int .i64 0,.int .i64 0,.int .i64 0,.bool false,.bool false,.bool false,.int .i64 0,.int .i64 0,.bool false,.bool false,.bool false,.bool false,.int .i64 0,.int .i64 0,.int .i64 0,.int .i64 0,.bool false,.bool false,.bool false,.slice none 0 0,.int .i64 0,.slice none 0 0,.int .i64 0,.slice none 0 0,.string ⟨#[]⟩]:=by rw [hw3];exact hR
 replace hw3:=(show Hid _ from hw3);have hT:=specTermOk_any t v w3 (h.below kb) hz;obtain ⟨bT,eT⟩:∃ b,Hid (termOkB t=b):=⟨_,rfl⟩;rw [eT.out] at hT
 unfold teV at hT;unfold acA at hw3 ⊢
 clear b1 b2 b3 z1 z2;go_enter Tryz.func17,Tryz.ntmps17;refine wp_seq_k (fun K hK=>?_);have hH:=(show Hid _ from hK);clear hK;go_wp2;refine hH.out _ _ ?_;rw [<- hw3.out]
 clear hH hw3;go_wp2_with (refine load_te hX (by rfl) _ (by rfl) (by rfl) ?_);refine hT.mono ?_;rintro e w4 ⟨rfl,hb⟩;clear hT;replace kb:=kb.trans (hb.mono kb.size);replace hX:=hX.below hb;replace hA:=hA.below hb;replace hR:=BlkC.below hR hb;clear hb
 cases bT
 case false =>
  obtain rfl:Rt=teZ:=by rw [<- eR.out];unfold doR;rw [if_neg (by rw [eT.out];simp)]
  clear hX hA hp hx;go_wp2_with (refine store_T (cs:=(teCs teZ (tvN (.slice none 0 0) (.slice none 0 0)))) (by rfl) 35 _ _ (by rfl) info_te (by rfl) (by rfl) hR (by rfl) (by rfl) ?_;intro w5 hg hR5 hz5);have hO:=RgT.own (show RgT w5 w.heap.size w.heap.size w.heap.size w.heap.size teZ (tvN (.slice none 0 0) (.slice none 0 0)) from ⟨ownR_none w5 _ (by have:=kb.size;omega),ownR_none w5 _ (by have:=kb.size;omega),(LiOk.nil _ _).nilc.nilc.nilc,Nat.le_refl _,Nat.le_refl _,Nat.le_refl _,by have:=kb.size;omega⟩);obtain ⟨vg,vo,hO⟩:=hO;exact bodyPost_ret (v:=.agg (teCs teZ (tvN (.slice none 0 0) (.slice none 0 0)))) (results_cell_row Tryz.results17 _ _ _ _ _ _ _ rfl hR5 Tryz.underlying35 rfl info_te) rfl ⟨_,vg,vo,rfl,hO,kb.grown hg kb.size (fun g e=>by cases e;omega)⟩
 have hok:=eT.out;have rk:=rtK_of hok;obtain ⟨gc0,_,_,_,_,_,hRt⟩:=termOk_sizes hok;have hsc:=l7Copy_any t v w4 (h.below kb) hRt;go_wp2_with (refine load_te hX (by rfl) _ (by rfl) (by rfl) ?_);refine hsc.mono ?_;rintro e w5 ⟨v5,rfl,hO5,hb⟩;have hz4:w.heap.size+3<=w4.heap.size:=by have:=BlkC.lt hR;omega
 have kb4:=kb;replace kb:=kb.trans (hb.mono kb.size);replace hA:=hA.below hb;replace hR:=BlkC.below hR hb;have hb5:=hb.size;have hone5:=hO5.sl.one;obtain ⟨b1,b2,b3,hOr⟩:=hO5;obtain ⟨vg5,vo5,hO5⟩:=RgT.own hOr;clear hX hsc hb hOr;go_wp2_with (refine store_T (cs:=teCs t v5) (by rfl) 35 _ _ (by rfl) info_te (by rfl) hone5 (heap_alloc_new w5 _) (by rfl) (by rfl) ?_;intro W5 hg5 hSB hz5;refine Classical.byContradiction (fun hcon=>?_);have hcon:=(show Hid _ from hcon));have bA5:=bal' w5 (Obj.cells #[.int .i64 0,.slice none 0 0,.int .i64 0,.slice none 0 0,.int .i64 0,.int .i64 0,.int .i64 0,.int .i64 0,.bool false,.bool false,.bool false,.int .i64 0,.int .i64 0,.bool false,.bool false,.bool false,.bool false,.int .i64 0,.int .i64 0,.int .i64 0,.int .i64 0,.bool false,.bool false,.bool false,.slice none 0 0,.int .i64 0,.slice none 0 0,.int .i64 0,.slice none 0 0,.string ⟨#[]⟩] 35);have hO5:=(hO5.below bA5).grown hg5 (heap_alloc_new w5 _) (by decide) (by decide) (by decide);have hS5:=(show Hid (Scr W5 35 w4.heap.size w5.heap.size [] t v5 vg5 vo5) from ⟨hSB,hO5,by decide,by decide,by decide,hb5⟩);have kb5:=(kb.trans (bA5.mono kb.size)).grown hg5 (Nat.le_trans kb.size bA5.size) (fun g e=>by cases e;exact kb.size);have hA5:=BlkC.kept (hA.below bA5) hg5 (fun e=>by have:=Option.some.inj e;have:=hz4;omega);have hR5:=BlkC.kept (BlkC.below hR bA5) hg5 (fun e=>by have:=Option.some.inj e;have:=hz4;omega);have d0:W5.cell? ⟨w.heap.size+1,0,none⟩=some (.int .i64 a.kind):=cAl hA5 0;have d1:W5.cell? ⟨w.heap.size+1,1,none⟩=some (.int .i64 a.rune):=cAl hA5 1;have d2:W5.cell? ⟨w.heap.size+1,2,none⟩=some pv:=cAl hA5 2;have d3:W5.cell? ⟨w.heap.size+1,3,none⟩=some (.int .i64 a.mark):=cAl hA5 3;have d4:W5.cell? ⟨w.heap.size+1,4,none⟩=some x:=cAl hA5 4;clear hO5 bA5 hg5 hSB hone5 hz5 kb hA hR;refine hcon.out ?_;clear hcon;go_wp2_with fail;have hScr:=hS5.out;have hao:=l7ActionOk_any a.kind a.rune a.mark pv x a.params a.text W5 (hp.below kb5) (hx.below kb5) hl ht;obtain ⟨bA,eA⟩:∃ b,Hid (actB a=b):=⟨_,rfl⟩;rw [show actB ⟨a.kind,a.rune,a.params,a.mark,a.text⟩=bA from eA.out] at hao
 unfold acA at hao;refine hao.mono ?_;rintro e w6 ⟨rfl,hb⟩;clear d0 d1 d2 d3 d4 hao hS5;have kb:=kb5.trans (hb.mono kb5.size);have hA:=BlkC.below hA5 hb;have hR:=BlkC.below hR5 hb;replace hScr:=hScr.below hb;have hlt:=hScr.lt;have hbs6:w4.heap.size<=w6.heap.size:=by omega
 clear hb kb5 hA5 hR5
 cases bA
 case false =>
  obtain rfl:t=Rt:=by
   symm
   rw [<- eR.out];unfold doR;rw [if_pos hok,if_neg (by rw [eA.out];simp)]
  have hTB:=show TeB w6 w5.heap.size 35 t v5 from hScr.b
  have hone:=hScr.o.sl.one;have hO7:=hScr.o;clear hScr eA hp hx hA;go_wp2_with (first|refine load_te hTB (by rfl) _ (by rfl) (by rfl) ?_|(refine store_T (cs:=teCs t v5) (by rfl) 35 _ _ (by rfl) info_te (by rfl) hone hR (by rfl) (by rfl) ?_;intro w9 hg9 hR9 hz9));have hO9:=(hO7.grown hg9 hR (by decide) (by decide) (by decide)).low (show w.heap.size<=w4.heap.size by have:=kb4.size;omega);exact bodyPost_ret (v:=.agg (teCs t _)) (results_cell_row Tryz.results17 _ _ _ _ _ _ _ rfl hR9 Tryz.underlying35 rfl info_te) rfl ⟨_,_,_,rfl,hO9,kb.grown hg9 kb.size (fun g e=>by cases e;omega)⟩
 have hac:=eA.out;obtain rfl:Rt=doT t a:=by rw [<- eR.out];unfold doR;rw [if_pos hok,if_pos hac]
 have hap:ApF w6 w5.heap.size v5 vg5 vo5 pv:=fun g e=>⟨by have:=hpb g e;have:=kb4.size;omega,fun c=>by have:=hScr.ftb c;have:=hpb g e;have:=kb4.size;omega⟩
 unfold actB at hac;simp only [Bool.and_eq_true,decide_eq_true_eq] at hac;obtain ⟨a1,a2,a3,⟨a4,a5⟩,a6⟩:=hac;have hq:=paramsB_all a6;have hdo:=l7Do_any t.gc.toNat t.g.length w4.heap.size w5.heap.size pv x a.params a.rune a.mark t v5 vg5 vo5 w6 hScr hbs6 rk (hp.below kb) (by omega) hap hq a.text (hx.below kb) (by omega) a.kind;have d0:w6.cell? ⟨w.heap.size+1,0,none⟩=some (.int .i64 a.kind):=cAl hA 0;have d1:w6.cell? ⟨w.heap.size+1,1,none⟩=some (.int .i64 a.rune):=cAl hA 1;have d2:w6.cell? ⟨w.heap.size+1,2,none⟩=some pv:=cAl hA 2;have d3:w6.cell? ⟨w.heap.size+1,3,none⟩=some (.int .i64 a.mark):=cAl hA 3;have d4:w6.cell? ⟨w.heap.size+1,4,none⟩=some x:=cAl hA 4;obtain ⟨T2,hT2⟩:∃ T2,doT t a=T2:=⟨_,rfl⟩;rw [show doT t ⟨a.kind,a.rune,a.params,a.mark,a.text⟩=T2 from hT2] at hdo
 unfold acA at hdo;go_wp2_with fail;refine hdo.mono ?_;rintro e w7 ⟨rfl,v7,vg7,vo7,hr7⟩;have hS7:=hr7.s;have hR7:TB w7 (w.heap.size+2) _:=BlkC.grp hR hr7.g (fun c=>by have:=hScr.ftb c;omega);have kb7:=kb.trans ((hScr.bel hbs6 hr7).mono (by have:=kb4.size;omega));have hTB:=show TeB w7 w5.heap.size 35 T2 v7 from hS7.b
 have hone:=hS7.o.sl.one;have hO7:=hS7.o;clear hScr eA hp hx hA hr7 hdo hap hR kb d0 d1 d2 d3 d4 hS7 a1 a2 a3 a4 a5 a6 hq;go_wp2_with (first|refine load_te hTB (by rfl) _ (by rfl) (by rfl) ?_|(refine store_T (cs:=teCs T2 v7) (by rfl) 35 _ _ (by rfl) info_te (by rfl) hone hR7 (by rfl) (by rfl) ?_;intro w9 hg9 hR9 hz9));have hO9:=(hO7.grown hg9 hR7 (by decide) (by decide) (by decide)).low (show w.heap.size<=w4.heap.size by have:=kb4.size;omega);subst hT2;exact bodyPost_ret (v:=.agg (teCs (doT t a) _)) (results_cell_row Tryz.results17 _ _ _ _ _ _ _ rfl hR9 Tryz.underlying35 rfl info_te) rfl ⟨_,_,_,rfl,hO9,kb7.grown hg9 kb7.size (fun g e=>by cases e;omega)⟩
theorem markCSS_p (lo hi:Nat) (v:Value) (vs:List Value) (k:Nat) (rows:List (List Ce)) (w:World) (h:OwnV w lo hi v vs rows) (hk:k<=134217728) (hl:sumG rows rows.length<=1048576) (hn:rows.length<=1048576) :
  Calls Tryz.prog 164 #[v,.int .i64 k] w fun e w'=>e=.returned (.int .i64 ((k+7*sumG rows rows.length:Nat):Int))/\OwnV w' lo hi v vs (marksG k rows)/\GrP (RwS vs) w w':=by
 rcases h.shape with ⟨rfl,rfl⟩|⟨g,cap,rfl,hbg,hlg,hcap⟩
 ·go_enter Tryz.func164,Tryz.ntmps164
  go_wp2;refine wp_loop_rounds 1 ?_;rw [rounds_succ]
  go_wp2;go_ret;exact ⟨by simp [sumG],by simpa [marksG,markUpG,genR] using h,GrP.refl _ _⟩
 ·generalize hN:rows.length=n at *
  go_enter Tryz.func164,Tryz.ntmps164;go_wp2;go_loopw [1,5] (fun q i wr=>∃ (j:Nat),j<=n/\i=.int .i64 j/\q=.int .i64 ((k+7*sumG rows j:Nat):Int)/\OwnV wr lo hi (.slice (some ⟨g,0,none⟩) n cap) vs (markUpG k rows j)/\GrP (RwS vs) w wr) (fun _ i _=>n-(intOf i).toNat)
  case atStart=>exact ⟨0,Nat.zero_le _,rfl,rfl,by rw [markUpG_zero];exact h,GrP.refl _ _⟩
  case round =>
   clear h;obtain ⟨j,hj,rfl,rfl,ho,hgr⟩:=hrel;have hlen:(markUpG k rows j).length=n:=by rw [markUpG_len];exact hN
   by_cases hlt:j<n
   ·have hji:(j:Int)<(n:Int):=by omega
    have hj0:(0:Int)<=(j:Int):=by omega
    have hcj:=ho.cell hlen j hlt;have hx:=markUpG_at k rows j j (by omega);rw [if_neg (Nat.lt_irrefl j)] at hx
    have hrow:=ho.2.2.1 j (by omega);rw [hx] at hrow
    have hs1:=sumG_mono rows (show j<=n by omega);have hs2:=sumG_row rows hlt;have hm:=markC_own lo (rowV vs j) (k+7*sumG rows j) (rowX rows j) wr hrow (by omega) (by omega);have hst:Hid (markUpG k rows (j+1)=(markUpG k rows j).set j (marksC (k+7*sumG rows j) (rowX rows j).length)):=markUpG_step k rows j (by omega);have hsum:Hid ((k+7*sumG rows j)+7*(rowX rows j).length=k+7*sumG rows (j+1)):=by show _=_;rw [sumG];omega
    have hB:∀ g',(rowV vs j).ownBlock=some g'->RwS vs g':=fun g' e=>⟨j,by rw [ho.1];omega,e⟩
    rw [hsum.out] at hm
    have hfin:=fun W' (h1:OwnC W' lo (rowV vs j) (marksC (k+7*sumG rows j) (rowX rows j).length)) (h2:wr.grownBy W' (rowV vs j).ownBlock)=>(show OwnV W' lo hi (.slice (some ⟨g,0,none⟩) n cap) vs (markUpG k rows (j+1)) from by rw [hst.out];exact ho.rowset (by omega) _ h1 h2)
    have hsh:∃ a n c,rowV vs j=Value.slice a n c:=by rcases hrow.shape with ⟨h,_⟩|⟨_,_,h,_⟩<;>exact ⟨_,_,_,h⟩
    clear hst hsum hrow hx ho hs1 hs2;generalize rowV vs j=r at *;obtain ⟨ra,rn,rc,rfl⟩:=hsh;go_wp2_with fail;refine hm.mono ?_;rintro e w2 ⟨rfl,ho2,hg2⟩;have kk:=hfin w2 ho2 hg2;have gg:=hgr.trans (GrP.of_grown hg2 hB);clear hfin ho2 hg2 hB hm hgr;go_wp2;go_roundw
    case rel=>exact ⟨j+1,by omega,by go_num,rfl,kk,gg⟩
    case measure=>simp [intOf];omega
   ·have hjn:j=n:=by omega
    have hji:¬ (j:Int)<(n:Int):=by omega
    subst hjn;go_wp2;go_ret;exact ⟨rfl,by unfold marksG;rw [hN];exact ho,hgr⟩
theorem markGrid_p (lo hi:Nat) (cols:Int) (v:Value) (vs:List Value) (k:Nat) (rows:List (List Ce)) (w:World) (h:OwnV w lo hi v vs rows) (hk:k<=134217728) (hl:sumG rows rows.length<=1048576) (hn:rows.length<=1048576) :
  Calls Tryz.prog 101 #[gridV cols v,.int .i64 k] w fun e w'=>e=.returned (.int .i64 ((k+7*sumG rows rows.length:Nat):Int))/\OwnV w' lo hi v vs (marksG k rows)/\GrP (RwS vs) w w':=by
 have hb0:=bal' w (Obj.cells #[.int .i64 cols,v] 26);have hv1:OwnV (w.alloc (Obj.cells #[.int .i64 cols,v] 26)) lo hi v vs rows:=h.below hb0;have hm:=markCSS_p lo hi v vs k rows _ hv1 hk hl hn;have hG0:=GrN.new w cols v 26;obtain ⟨a,n,c,rfl⟩:∃ a n c,v=Value.slice a n c:=by rcases h.shape with ⟨h,_⟩|⟨_,_,h,_⟩<;>exact ⟨_,_,_,h⟩
 unfold gridV;obtain ⟨_,g0,g1⟩:=id hG0;clear h hv1;generalize k+7*sumG rows rows.length=q at *;go_enter Tryz.func101,Tryz.ntmps101;go_wp2_with fail;refine hm.mono ?_;rintro e w2 ⟨rfl,ho2,hg2⟩;go_wp2;go_ret;exact ⟨rfl,ho2,(GrP.of_below hb0).trans hg2⟩
theorem markParser_big (p:Pa) (pv tv:Value) (k:Nat) (base:Nat) (R:List (Value×List Int)) (w:World) (h:LiOk w base ((pv,p.params)::(tv,p.text)::R)) (_hb:base<=w.heap.size) (hk:k<=134217728) (hpl:p.params.length<=1048576) (htl:p.text.length<=1048576) :
  Calls Tryz.prog 103 #[paV p pv tv,.int .i64 k] w fun e w'=>e=.returned (.int .i64 ((k+p.params.length+p.text.length:Nat):Int))/\LiOk w' base ((pv,marksI k p.params.length)::(tv,marksI ((k+p.params.length:Nat):Int) p.text.length)::R)/\GrV pv tv w w':=by
 obtain ⟨s,ps,m,ts⟩:=p;have hb0:=bal' w (Obj.cells #[.int .i64 s,pv,.int .i64 m,tv] 31);have hP:=PbB.new w s m pv tv;have h0:=h.below hb0;have m1:=markI_own base pv k ps.length (ps.map (Value.int .i64)) _ h0.head ⟨by omega,by omega⟩ (by simp only at hpl;omega);have m2:=fun W (hW:OwnI W base tv ts)=>markI_own base tv ((k+ps.length:Nat):Int) ts.length (ts.map (Value.int .i64)) W hW ⟨by omega,by simp only at hpl;omega⟩ (by simp only at htl;omega)
 have n1:Hid ((k:Int)+(ps.length:Int)=((k+ps.length:Nat):Int)):=by show _=_;omega
 have n2:Hid (((k+ps.length:Nat):Int)+(ts.length:Int)=((k+ps.length+ts.length:Nat):Int)):=by show _=_;omega
 rw [n1.out] at m1
 unfold paV at *;simp only at *;obtain ⟨pa,pn,pc,hpv⟩:=h.head.shape;obtain ⟨ta,tn,tc,htv⟩:=h.tail.head.shape;simp only at hpv htv;subst hpv;subst htv;have hGr:GrV (.slice pa pn pc) (.slice ta tn tc) w (w.alloc (Obj.cells #[.int .i64 s,.slice pa pn pc,.int .i64 m,.slice ta tn tc] 31)):=GrV.of_below hb0;obtain ⟨c0,c1,c2,c3⟩:=hP.cells;have hs:∀ W,(w.alloc (Obj.cells #[.int .i64 s,.slice pa pn pc,.int .i64 m,.slice ta tn tc] 31)).grownBy W (Value.slice pa pn pc).ownBlock->PbB W w.heap.size s (.slice pa pn pc) m (.slice ta tn tc):=fun W hg=>hP.kept hg (h0.head.not_block hP (by decide))
 clear h;go_enter Tryz.func103,Tryz.ntmps103;go_wp2_with fail;refine m1.mono ?_;rintro e w3 ⟨rfl,ho3,hg3⟩;have hP3:=hs w3 hg3;have hL3:LiOk w3 base ((.slice pa pn pc,marksI k ps.length)::(.slice ta tn tc,ts)::R):=h0.grow hg3 (by unfold OwnI;rw [marksI_len];exact ho3) (fun g e=>.inl e);have hG3:=hGr.grown hg3 (fun g e=>.inl e);have m3:=m2 w3 hL3.tail.head;rw [n2.out] at m3
 clear m1 m2 hs hGr hP h0 hg3 ho3 c0 c1 c2 c3;obtain ⟨c0,c1,c2,c3⟩:=hP3.cells;go_wp2_with fail;refine m3.mono ?_;rintro e w4 ⟨rfl,ho4,hg4⟩
 have hL4:LiOk w4 base ((.slice pa pn pc,marksI k ps.length)::(.slice ta tn tc,marksI ((k+ps.length:Nat):Int) ts.length)::R) :=
  ((hL3.perm (List.Perm.swap _ _ _)).grow hg4 (show OwnI w4 base _ _ from by unfold OwnI;rw [marksI_len];exact ho4) (fun g e=>.inl e)).perm (List.Perm.swap _ _ _)
 have hG4:=hG3.grown hg4 (fun g e=>.inr (.inl e));clear m3 hP3 hL3 hG3 hg4 ho4 c0 c1 c2 c3;go_wp2;go_ret;exact ⟨rfl,hL4,hG4⟩
def StT (vg vo:List Value) (v:Tv) (k:Nat):Prop:=RwS vg k\/RwS vo k\/v.ti.ownBlock=some k\/v.pp.ownBlock=some k\/v.pt.ownBlock=some k
theorem GrP.of_grv {u v:Value} {w w':World} (h:GrV u v w w'):GrP (fun k=>u.ownBlock=some k\/v.ownBlock=some k) w w' :=
 ⟨h.1,h.2.1,h.2.2.1,h.2.2.2.1,fun k hk ho=>h.2.2.2.2 k hk (fun e=>ho (.inl e)) (fun e=>ho (.inr e))⟩
theorem markTerm_s (t:Te) (v:Tv) (vg vo:List Value) (base:Nat) (w:World) (h:OwnS w base t v vg vo) (hbase:base<=w.heap.size) (hs1:sumG t.g t.g.length<=1048576) (hs2:sumG t.o t.o.length<=1048576) (hl1:t.g.length<=1048576) (hl2:t.o.length<=1048576) (hti:t.ti.length<=1048576) (hpp:t.pa.params.length<=1048576) (hpt:t.pa.text.length<=1048576) :
  Calls Tryz.prog 34 #[teV t v,.int .i64 1] w fun e w'=>e=.returned (.int .i64 ((1+mkN t:Nat):Int))/\OwnS w' base (mkT t) v vg vo/\GrP (StT vg vo v) w w':=by
 obtain ⟨xg,xo,vti,vpp,vpt⟩:=v;obtain ⟨hg,ho,hap,hL⟩:=h;simp only at hg ho hL hap;have cG:=fun B W (hW:OwnV W base B xg vg t.g)=>markGrid_p base B t.gc xg vg 1 t.g W hW (by decide) (by omega) (by omega)
 have cO:=fun B W (hW:OwnV W base B xo vo t.o)=>markGrid_p base B t.oc xo vo (1+7*sumG t.g t.g.length) t.o W hW (by omega) (by omega) (by omega)
 have cT:=fun W (hW:OwnI W base vti t.ti)=>markI_own base vti ((1+7*sumG t.g t.g.length+7*sumG t.o t.o.length:Nat):Int) t.ti.length _ W hW ⟨by omega,by omega⟩ (by omega)
 have cP:=fun W xs hW=>markParser_big t.pa vpp vpt (1+7*sumG t.g t.g.length+7*sumG t.o t.o.length+t.ti.length) base [(vti,xs)] W hW
 obtain ⟨ga,gn,gp,hq1⟩:=slShp (SlG.of_own hg.g);obtain ⟨oa,on,op,hq2⟩:=slShp (SlG.of_own ho.g);obtain ⟨ta,tn,tp,hq3⟩:=hL.head.shape;obtain ⟨pa,pn,pp,hq4⟩:=hL.tail.head.shape;obtain ⟨qa,qn,qp,hq5⟩:=hL.tail.tail.head.shape;simp only at hq1 hq2 hq3 hq4 hq5;subst hq1;subst hq2;subst hq3;subst hq4;subst hq5;have hb0:=bal' w (Obj.cells (teCs t ⟨.slice ga gn gp,.slice oa on op,.slice ta tn tp,.slice pa pn pp,.slice qa qn qp⟩) 35);have hX:=TeB.new w 35 t ⟨.slice ga gn gp,.slice oa on op,.slice ta tn tp,.slice pa pn pp,.slice qa qn qp⟩;have hne:=fun (B:Nat) (W:World) (hW:TeB W B 35 t ⟨.slice ga gn gp,.slice oa on op,.slice ta tn tp,.slice pa pn pp,.slice qa qn qp⟩)=>hW
 obtain ⟨w1,hw1⟩:∃ w1,w1=w.alloc (Obj.cells (teCs t ⟨.slice ga gn gp,.slice oa on op,.slice ta tn tp,.slice pa pn pp,.slice qa qn qp⟩) 35):=⟨_,rfl⟩;rw [<- hw1] at hb0 hX
 replace hw1:=(show Hid _ from hw1);unfold teV gridV paV at *;have e1:Hid (1+7*sumG t.g t.g.length+7*sumG t.o t.o.length+t.ti.length+t.pa.params.length+t.pa.text.length=1+mkN t):=by show _=_;unfold mkN;omega
 have e2:Hid (((1+7*sumG t.g t.g.length+7*sumG t.o t.o.length:Nat):Int)+(t.ti.length:Int)=((1+7*sumG t.g t.g.length+7*sumG t.o t.o.length+t.ti.length:Nat):Int)):=by show _=_;omega
 simp only [e2.out] at cT;replace hg:=hg.below hb0;replace ho:=ho.below hb0;replace hL:=hL.below hb0;have kb:GrP (StT vg vo ⟨.slice ga gn gp,.slice oa on op,.slice ta tn tp,.slice pa pn pp,.slice qa qn qp⟩) w w1:=GrP.of_below hb0;clear hne;go_enter Tryz.func34,Tryz.ntmps34;refine wp_seq_k (fun K hK=>?_);have hH:=(show Hid _ from hK);clear hK;go_wp2;refine hH.out _ _ ?_;rw [<- hw1.out]
 clear hH hw1;obtain ⟨c0,c1,c2,c3,c4,c5,c6,c7,c8,c9,c10,c11,c12,c13,c14,c15,c16,c17,c18,c19,c20,c21,c22,c23,c24,c25,c26,c27,c28,c29⟩:=hX.cells;go_wp2_with fail;refine (cG _ _ hg).mono ?_;rintro e w2 ⟨rfl,hg2,hgr⟩;have nX:¬ RwS vg w.heap.size:=fun c=>grS_not hg hX (by decide) (by decide) (.inr c)
 replace ho:=ho.grp hgr (fun k hk c=>hap k (.inr c) hk);replace hL:=hL.grp hgr (fun p hp k e c=>li_not_grS hg (hL.1 p hp) k e (.inr c));replace hX:TeB w2 _ _ t _:=BlkC.grp hX hgr nX;replace kb:=kb.trans (hgr.mono (fun k _ c=>.inl c));clear c0 c1 c2 c3 c4 c5 c6 c7 c8 c9 c10 c11 c12 c13 c14 c15 c16 c17 c18 c19 c20 c21 c22 c23 c24 c25 c26 c27 c28 c29;clear hgr cG hg nX;obtain ⟨c0,c1,c2,c3,c4,c5,c6,c7,c8,c9,c10,c11,c12,c13,c14,c15,c16,c17,c18,c19,c20,c21,c22,c23,c24,c25,c26,c27,c28,c29⟩:=hX.cells;go_wp2_with fail;refine (cO _ _ ho).mono ?_;rintro e w3 ⟨rfl,ho2,hgr⟩;have nX:¬ RwS vo w.heap.size:=fun c=>grS_not ho hX (by decide) (by decide) (.inr c)
 replace hg2:=hg2.grp hgr (fun k hk c=>hap k hk (.inr c));replace hL:=hL.grp hgr (fun p hp k e c=>li_not_grS ho (hL.1 p hp) k e (.inr c));replace hX:TeB w3 _ _ t _:=BlkC.grp hX hgr nX;replace kb:=kb.trans (hgr.mono (fun k _ c=>.inr (.inl c)));clear c0 c1 c2 c3 c4 c5 c6 c7 c8 c9 c10 c11 c12 c13 c14 c15 c16 c17 c18 c19 c20 c21 c22 c23 c24 c25 c26 c27 c28 c29;clear hgr cO ho nX;obtain ⟨c0,c1,c2,c3,c4,c5,c6,c7,c8,c9,c10,c11,c12,c13,c14,c15,c16,c17,c18,c19,c20,c21,c22,c23,c24,c25,c26,c27,c28,c29⟩:=hX.cells;go_wp2_with fail;refine (cT _ hL.head).mono ?_;rintro e w4 ⟨rfl,hti4,hgr⟩;have hL4:LiOk w4 base _:=hL.grow hgr (show OwnI w4 base (.slice ta tn tp) (marksI ((1+7*sumG t.g t.g.length+7*sumG t.o t.o.length:Nat):Int) t.ti.length) from by unfold OwnI;rw [marksI_len];exact hti4) (fun g e=>.inl e);have hgp:GrP (fun k=>Value.ownBlock (.slice ta tn tp)=some k) w3 w4:=GrP.of_grown hgr (fun g e=>e);replace hX:TeB w4 _ _ t _:=hX.kept hgr (hL.head.not_block hX (by decide));replace kb:=kb.trans (hgp.mono (fun k _ c=>.inr (.inr (.inl c))));replace hg2:=hg2.grp hgp (fun k hk c=>li_not_grS hg2 hL.head k c hk);replace ho2:=ho2.grp hgp (fun k hk c=>li_not_grS ho2 hL.head k c hk);clear c0 c1 c2 c3 c4 c5 c6 c7 c8 c9 c10 c11 c12 c13 c14 c15 c16 c17 c18 c19 c20 c21 c22 c23 c24 c25 c26 c27 c28 c29;clear hgr hgp cT hL hti4;obtain ⟨c0,c1,c2,c3,c4,c5,c6,c7,c8,c9,c10,c11,c12,c13,c14,c15,c16,c17,c18,c19,c20,c21,c22,c23,c24,c25,c26,c27,c28,c29⟩:=hX.cells;have hP:=cP w4 _ (hL4.perm (by exact (List.perm_append_comm (l₁:=[_]) (l₂:=[_,_])))) (by have:=kb.size;omega) (by omega) (by omega) (by omega);rw [e1.out] at hP
 go_wp2_with fail;refine hP.mono ?_;rintro e w5 ⟨rfl,hL5,hgv⟩;have hgp:=GrP.of_grv hgv;replace hg2:=hg2.grp hgp (fun k hk c=>c.elim (fun c=>li_not_grS hg2 hL4.tail.head k c hk) (fun c=>li_not_grS hg2 hL4.tail.tail.head k c hk));replace ho2:=ho2.grp hgp (fun k hk c=>c.elim (fun c=>li_not_grS ho2 hL4.tail.head k c hk) (fun c=>li_not_grS ho2 hL4.tail.tail.head k c hk));have ks:=kb.size;have ks5:=hgp.size;replace kb:=kb.trans (hgp.mono (fun k _ c=>c.elim (fun c=>.inr (.inr (.inr (.inl c)))) (fun c=>.inr (.inr (.inr (.inr c))))));have hfin:OwnS w5 base (mkT t) ⟨.slice ga gn gp,.slice oa on op,.slice ta tn tp,.slice pa pn pp,.slice qa qn qp⟩ vg vo:=⟨hg2.up (by have:=hb0.size;omega),ho2.up (by have:=hb0.size;omega),hap,hL5.perm (by exact (List.perm_append_comm (l₁:=[_,_]) (l₂:=[_])))⟩;clear c0 c1 c2 c3 c4 c5 c6 c7 c8 c9 c10 c11 c12 c13 c14 c15 c16 c17 c18 c19 c20 c21 c22 c23 c24 c25 c26 c27 c28 c29;clear hgv hgp hL4 hL5 hP hg2 ho2 hX ks ks5;go_wp2;go_ret;exact ⟨rfl,hfin,kb⟩
theorem StT.not {w:World} {base:Nat} {t:Te} {v:Tv} {vg vo:List Value} (h:OwnS w base t v vg vo) {B:Nat} {cs:Array Value} {T:TypeId} (hB:w.heap[B]?=some (.cells cs T (0,0))) (h1:T≠146) (h2:T≠2):¬ StT vg vo v B:=fun c=>by
 rcases c with c|c|c|c|c
 ·obtain ⟨cs',hc⟩:=c.blk h.1;exact blk_ne hB hc h1
 ·obtain ⟨cs',hc⟩:=c.blk h.2.1;exact blk_ne hB hc h1
 ·exact (h.2.2.2.head.not_block hB h2) c
 ·exact (h.2.2.2.tail.head.not_block hB h2) c
 ·exact (h.2.2.2.tail.tail.head.not_block hB h2) c
theorem StT.bd {w:World} {base:Nat} {t:Te} {v:Tv} {vg vo:List Value} (h:OwnS w base t v vg vo) {k:Nat} (c:StT vg vo v k):base<=k/\k<w.heap.size:=by
 rcases c with c|c|c|c|c
 ·exact c.bd h.1
 ·exact c.bd h.2.1
 ·exact h.2.2.2.head.lt k c
 ·exact h.2.2.2.tail.head.lt k c
 ·exact h.2.2.2.tail.tail.head.lt k c
theorem OwnS.grp {S:Nat->Prop} {w w':World} {base:Nat} {t:Te} {v:Tv} {vg vo:List Value} (h:OwnS w base t v vg vo) (hg:GrP S w w') (hS:∀ k,S k->k<base):OwnS w' base t v vg vo :=
 ⟨(h.1.grp hg (fun k hk c=>by have:=GrS.bd h.1 hk;have:=hS k c;omega)).up hg.size,(h.2.1.grp hg (fun k hk c=>by have:=GrS.bd h.2.1 hk;have:=hS k c;omega)).up hg.size,h.2.2.1,
  h.2.2.2.grp hg (fun p hp g e c=>by have:=(h.2.2.2.1 p hp).lt g e;have:=hS g c;omega)⟩
theorem szP_neg {n m left:Nat} (h:szP n m left<0):szP n m left=-1:=by
 unfold szP at *
 by_cases h1:left<n
 ·rw [if_pos h1]
 ·rw [if_neg h1] at h ⊢
  by_cases h2:left-n<m
  ·rw [if_pos h2]
  ·rw [if_neg h2] at h;omega
theorem szP_some {n m left:Nat} (h:¬ szP n m left<0):∃ k:Nat,szP n m left=(k:Int)/\k+n+m=left:=by
 unfold szP at *;split at h
 ·exact absurd (by decide) h
 ·rw [if_neg (by assumption)]
  split at h
  ·exact absurd (by decide) h
  ·rw [if_neg (by assumption)]
   exact ⟨left-n-m,rfl,by omega⟩
theorem szTerm_le (t:Te) (v:Tv) (w:World) (h:SlT w t v) (hm:SzT maxLen t) (hf:t.fe.size<=maxLen) :
  Calls Tryz.prog 28 #[teV t v,.int .i64 1048576] w fun e w'=>∃ z,e=.returned (.int .i64 z)/\(z<0\/(SzT 1048576 t/\sumG t.g t.g.length+sumG t.o t.o.length+t.ti.length+t.pa.params.length+t.pa.text.length<=1048576))/\Below w.heap.size w w'/\z<=1048576:=by
 obtain ⟨vg,vo,vti,vpp,vpt⟩:=v;obtain ⟨hg,ho,hti,hpp,hpt⟩:=h;simp only at hg ho hti hpp hpt;obtain ⟨m1,m2,m3,m4,m5,m6,m7⟩:=hm;have hb0:=bal' w (Obj.cells (teCs t ⟨vg,vo,vti,vpp,vpt⟩) 65);have hB:=TeB.new w 65 t ⟨vg,vo,vti,vpp,vpt⟩;have cG:=fun W hW=>szGrid_any t.gc vg t.g 1048576 W hW m1 m2 (by decide)
 have cO:=fun l W hW (hl:l<=1048576)=>szGrid_any t.oc vo t.o l W hW m3 m4 (by omega)
 have cT:=fun l W hW (hl:l<=1048576)=>szI_any vti t.ti l W hW m5 (by omega)
 have cP:=fun l W h1 h2 (hl:l<=1048576)=>szParser_any t.pa vpp vpt l W h1 h2 m6 m7 (by omega)
 have cF:=fun (l:Nat) W (hl:l<=1048576)=>szFeeder_any t.fe (l:Int) W hf (by omega)
 obtain ⟨ga,gp,hq1⟩:=sGs hg;obtain ⟨oa,op,hq2⟩:=sGs ho;obtain ⟨tia,tip,hq3⟩:=hti.shp;obtain ⟨ppa,ppp,hq4⟩:=hpp.shp;obtain ⟨pta,ptp,hq5⟩:=hpt.shp;subst hq1;subst hq2;subst hq3;subst hq4;subst hq5;unfold teV gridV paV at *;obtain ⟨w1,hw1⟩:∃ w1,w1=w.alloc (Obj.cells (teCs t ⟨.slice ga t.g.length gp,.slice oa t.o.length op,.slice tia t.ti.length tip,.slice ppa t.pa.params.length ppp,.slice pta t.pa.text.length ptp⟩) 65):=⟨_,rfl⟩;rw [<- hw1] at hB hb0
 replace hw1:=(show Hid _ from hw1);clear m1 m2 m3 m4 m5 m6 m7 hf;go_enter Tryz.func28,Tryz.ntmps28;refine wp_seq_k (fun K hK=>?_);have hH:=(show Hid _ from hK);clear hK;go_wp2;refine hH.out _ _ ?_;rw [<- hw1.out]
 clear hH hw1;obtain ⟨c0,c1,c2,c3,c4,c5,c6,c7,c8,c9,c10,c11,c12,c13,c14,c15,c16,c17,c18,c19,c20,c21,c22,c23,c24,c25,c26,c27,c28,c29⟩:=hB.cells
 cases hq1:leftG t.g 1048576 t.g.length with
 | none =>
  have e1:szG t.g 1048576=-1:=by unfold szG;rw [hq1]
  simp only [e1] at cG;clear e1 hq1;go_wp2_with fail;refine (cG _ (hg.below hb0)).mono ?_;rintro e w2 ⟨rfl,hb⟩;have hb1:=hb0.trans (hb.mono hb0.size);replace hB:=hB.below hb;clear c0 c1 c2 c3 c4 c5 c6 c7 c8 c9 c10 c11 c12 c13 c14 c15 c16 c17 c18 c19 c20 c21 c22 c23 c24 c25 c26 c27 c28 c29;clear hb hb0;obtain ⟨c0,c1,c2,c3,c4,c5,c6,c7,c8,c9,c10,c11,c12,c13,c14,c15,c16,c17,c18,c19,c20,c21,c22,c23,c24,c25,c26,c27,c28,c29⟩:=hB.cells;go_wp2;go_ret;exact ⟨_,rfl,.inl (by decide),hb1,by decide⟩
 | some r1 =>
  have e1:szG t.g 1048576=(r1:Int):=by unfold szG;rw [hq1]
  simp only [e1] at cG;have l1:=leftG_le hq1;have s1:=leftG_sum hq1;have n1:¬ ((r1:Int)<0):=by omega
  clear e1 hq1;go_wp2_with fail;refine (cG _ (hg.below hb0)).mono ?_;rintro e w2 ⟨rfl,hb⟩;have hb1:=hb0.trans (hb.mono hb0.size);replace hB:=hB.below hb;clear c0 c1 c2 c3 c4 c5 c6 c7 c8 c9 c10 c11 c12 c13 c14 c15 c16 c17 c18 c19 c20 c21 c22 c23 c24 c25 c26 c27 c28 c29;clear hb hb0;obtain ⟨c0,c1,c2,c3,c4,c5,c6,c7,c8,c9,c10,c11,c12,c13,c14,c15,c16,c17,c18,c19,c20,c21,c22,c23,c24,c25,c26,c27,c28,c29⟩:=hB.cells
  cases hq2:leftG t.o r1 t.o.length with
  | none =>
   have e2:szG t.o r1=-1:=by unfold szG;rw [hq2]
   have cO2:=fun W hW=>cO r1 W hW l1.1
   simp only [e2] at cO2;clear e2 hq2;go_wp2_with fail;refine (cO2 _ (ho.below hb1)).mono ?_;rintro e w3 ⟨rfl,hb⟩;have hb2:=hb1.trans (hb.mono hb1.size);replace hB:=hB.below hb;clear c0 c1 c2 c3 c4 c5 c6 c7 c8 c9 c10 c11 c12 c13 c14 c15 c16 c17 c18 c19 c20 c21 c22 c23 c24 c25 c26 c27 c28 c29;clear hb hb1;obtain ⟨c0,c1,c2,c3,c4,c5,c6,c7,c8,c9,c10,c11,c12,c13,c14,c15,c16,c17,c18,c19,c20,c21,c22,c23,c24,c25,c26,c27,c28,c29⟩:=hB.cells;go_wp2;go_ret;exact ⟨_,rfl,.inl (by decide),hb2,by decide⟩
  | some r2 =>
   have e2:szG t.o r1=(r2:Int):=by unfold szG;rw [hq2]
   have cO2:=fun W hW=>cO r1 W hW l1.1
   simp only [e2] at cO2;have l2:=leftG_le hq2;have s2:=leftG_sum hq2;have n2:¬ ((r2:Int)<0):=by omega
   have u2:r2<=1048576:=by omega
   clear e2 hq2 n1 cO;go_wp2_with fail;refine (cO2 _ (ho.below hb1)).mono ?_;rintro e w3 ⟨rfl,hb⟩;have hb2:=hb1.trans (hb.mono hb1.size);replace hB:=hB.below hb;clear c0 c1 c2 c3 c4 c5 c6 c7 c8 c9 c10 c11 c12 c13 c14 c15 c16 c17 c18 c19 c20 c21 c22 c23 c24 c25 c26 c27 c28 c29;clear hb hb1;obtain ⟨c0,c1,c2,c3,c4,c5,c6,c7,c8,c9,c10,c11,c12,c13,c14,c15,c16,c17,c18,c19,c20,c21,c22,c23,c24,c25,c26,c27,c28,c29⟩:=hB.cells;have cT2:=fun W hW=>cT r2 W hW u2
   by_cases q3:r2<t.ti.length
   case pos =>
    rw [if_pos q3] at cT2
    go_wp2_with fail;refine (cT2 _ (hti.below hb2).l.sl).mono ?_;rintro e w4 ⟨rfl,hw⟩;subst hw;go_wp2;go_ret;exact ⟨_,rfl,.inl (by decide),hb2,by decide⟩
   rw [if_neg q3] at cT2
   obtain ⟨r3,hr3⟩:∃ r3,Hid (r2-t.ti.length=r3):=⟨_,rfl⟩;rw [hr3.out] at cT2
   have n3:¬ ((r3:Int)<0):=by omega
   have v3:Hid (r3+t.ti.length=r2):=by show _=_;have:=hr3.out;omega
   have u3:r3<=1048576:=by have:=v3.out;omega
   clear hr3 n2 cT q3;go_wp2_with fail;refine (cT2 _ (hti.below hb2).l.sl).mono ?_;rintro e w4 ⟨rfl,hw⟩;subst hw;have cP2:=fun W h1 h2=>cP r3 W h1 h2 u3
   by_cases q4:szP t.pa.params.length t.pa.text.length r3<0
   case pos =>
    have e4:=szP_neg q4;simp only [e4] at cP2;clear e4 q4;go_wp2_with fail;refine (cP2 _ (hpp.below hb2).l.sl (hpt.below hb2).l.sl).mono ?_;rintro e w5 ⟨rfl,hb⟩;have hb3:=hb2.trans (hb.mono hb2.size);replace hB:=hB.below hb;clear c0 c1 c2 c3 c4 c5 c6 c7 c8 c9 c10 c11 c12 c13 c14 c15 c16 c17 c18 c19 c20 c21 c22 c23 c24 c25 c26 c27 c28 c29;clear hb hb2;obtain ⟨c0,c1,c2,c3,c4,c5,c6,c7,c8,c9,c10,c11,c12,c13,c14,c15,c16,c17,c18,c19,c20,c21,c22,c23,c24,c25,c26,c27,c28,c29⟩:=hB.cells;go_wp2;go_ret;exact ⟨_,rfl,.inl (by decide),hb3,by decide⟩
   obtain ⟨r4,e4,s4⟩:=szP_some q4;simp only [e4] at cP2;have n4:¬ ((r4:Int)<0):=by omega
   have u4:r4<=1048576:=by omega
   clear e4 q4 n3 cP;go_wp2_with fail;refine (cP2 _ (hpp.below hb2).l.sl (hpt.below hb2).l.sl).mono ?_;rintro e w5 ⟨rfl,hb⟩;have hb3:=hb2.trans (hb.mono hb2.size);replace hB:=hB.below hb;clear c0 c1 c2 c3 c4 c5 c6 c7 c8 c9 c10 c11 c12 c13 c14 c15 c16 c17 c18 c19 c20 c21 c22 c23 c24 c25 c26 c27 c28 c29;clear hb hb2;obtain ⟨c0,c1,c2,c3,c4,c5,c6,c7,c8,c9,c10,c11,c12,c13,c14,c15,c16,c17,c18,c19,c20,c21,c22,c23,c24,c25,c26,c27,c28,c29⟩:=hB.cells;have cF2:=fun W=>cF r4 W u4
   have hfin:Hid (SzT 1048576 t/\sumG t.g t.g.length+sumG t.o t.o.length+t.ti.length+t.pa.params.length+t.pa.text.length<=1048576):=by
    show _/\_
    have:=v3.out;refine ⟨⟨l1.2.1,l1.2.2,by omega,fun i hi=>by have:=l2.2.2 i hi;omega,by omega,by omega,by omega⟩,by omega⟩
   obtain ⟨z,hz⟩:∃ z,Hid ((if (r4:Int)-(t.fe.size:Int)<0 then -1 else (r4:Int)-(t.fe.size:Int))=z):=⟨_,rfl⟩;simp only [hz.out] at cF2;have hzle:z<=1048576:=by rw [<- hz.out];split<;>omega
   clear hz cF n4 l1 l2 s1 s2 s4;go_wp2_with fail;refine (cF2 _).mono ?_;rintro e w6 ⟨rfl,hb⟩;have hb4:=hb3.trans (hb.mono hb3.size);replace hB:=hB.below hb;clear c0 c1 c2 c3 c4 c5 c6 c7 c8 c9 c10 c11 c12 c13 c14 c15 c16 c17 c18 c19 c20 c21 c22 c23 c24 c25 c26 c27 c28 c29;clear hb hb3;obtain ⟨c0,c1,c2,c3,c4,c5,c6,c7,c8,c9,c10,c11,c12,c13,c14,c15,c16,c17,c18,c19,c20,c21,c22,c23,c24,c25,c26,c27,c28,c29⟩:=hB.cells
   by_cases q5:z<0
   case pos =>
    go_wp2;go_ret;exact ⟨_,rfl,.inl (by decide),hb4,by decide⟩
   go_wp2;go_ret;exact ⟨_,rfl,.inr hfin.out,hb4,hzle⟩
end Go.Proofs.YtgcnmjjlmcnllaaGreatDoor
