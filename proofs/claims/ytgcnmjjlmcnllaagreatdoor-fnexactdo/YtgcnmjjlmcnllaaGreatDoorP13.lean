/- Parts of the proof. -/
import Derived.Test.YtgcnmjjlmcnllaaGreatDoorP1
import Derived.Test.YtgcnmjjlmcnllaaGreatDoorP3
import Derived.Test.YtgcnmjjlmcnllaaGreatDoorP4
import Derived.Test.YtgcnmjjlmcnllaaGreatDoorP5
import Derived.Test.YtgcnmjjlmcnllaaGreatDoorP6
import Derived.Test.YtgcnmjjlmcnllaaGreatDoorP8
import Derived.Test.YtgcnmjjlmcnllaaGreatDoorP9
import Derived.Test.YtgcnmjjlmcnllaaGreatDoorP10
import Derived.Test.YtgcnmjjlmcnllaaGreatDoorP11
import Derived.Test.YtgcnmjjlmcnllaaGreatDoorP12
import Derived.Laws.AppendOwnNone
namespace Go.Proofs.YtgcnmjjlmcnllaaGreatDoor
set_option maxRecDepth 20000
set_option maxHeartbeats 16000000
open Go.ChangeShapes Go.WideShapes Go.ChangeAt Go.RowKit
def RtT (t:Te):Prop:=(1<=t.g.length/\t.g.length<=30)/\(∀ i,i<t.g.length->1<=(rowX t.g i).length/\(rowX t.g i).length<=60)/\(1<=t.o.length/\t.o.length<=30)/\(∀ i,i<t.o.length->1<=(rowX t.o i).length/\(rowX t.o i).length<=60)/\t.ti.length<=40/\t.pa.params.length<=16/\t.pa.text.length<=40
theorem ne_of_len {x:List Ce} (h:1<=x.length):x≠[]:=fun e=>by rw [e] at h;simp at h
theorem l7Copy_any (t:Te) (v:Tv) (w:World) (h:SlT w t v) (hz:RtT t) :
  Calls Tryz.prog 60 #[.agg (teCs t v)] w fun e w'=>∃ v',e=.returned (.agg (teCs t v'))/\OwnT w' w.heap.size t v'/\Below w.heap.size w w':=by
 obtain ⟨vg,vo,vti,vpp,vpt⟩:=v;obtain ⟨hg,ho,hti,hpp,hpt⟩:=h;simp only at hg ho hti hpp hpt;obtain ⟨⟨z1,z1'⟩,z2,⟨z3,z3'⟩,z4,z5,z6,z7⟩:=hz;have cG:=fun W hW=>l5Copy_any t.gc vg t.g W hW (by omega) z1 (fun i hi=>by have:=z2 i hi;omega) (fun i hi=>ne_of_len (z2 i hi).1)
 have cO:=fun W hW=>l5Copy_any t.oc vo t.o W hW (by omega) z3 (fun i hi=>by have:=z4 i hi;omega) (fun i hi=>ne_of_len (z4 i hi).1)
 have cP:=fun W h1 h2=>l6Copy_any t.pa vpp vpt W h1 h2 (by omega) (by omega)
 have ztl:t.ti.length<=1073741824:=by omega
 obtain ⟨ga,gp,hq1⟩:=sGs hg;obtain ⟨oa,op,hq2⟩:=sGs ho;obtain ⟨tia,tip,hq3⟩:=hti.shp;obtain ⟨ppa,ppp,hq4⟩:=hpp.shp;obtain ⟨pta,ptp,hq5⟩:=hpt.shp;subst hq1;subst hq2;subst hq3;subst hq4;subst hq5;have hb1:=bal' w (Obj.cells (teCs t ⟨.slice ga t.g.length gp,.slice oa t.o.length op,.slice tia t.ti.length tip,.slice ppa t.pa.params.length ppp,.slice pta t.pa.text.length ptp⟩) 35);have hb2:=bal' (w.alloc (Obj.cells (teCs t ⟨.slice ga t.g.length gp,.slice oa t.o.length op,.slice tia t.ti.length tip,.slice ppa t.pa.params.length ppp,.slice pta t.pa.text.length ptp⟩) 35)) (Obj.cells #[.int .i64 0,.slice none 0 0,.int .i64 0,.slice none 0 0,.int .i64 0,.int .i64 0,.int .i64 0,.int .i64 0,.bool false,.bool false,.bool false,.int .i64 0,.int .i64 0,.bool false,.bool false,.bool false,.bool false,.int .i64 0,.int .i64 0,.int .i64 0,.int .i64 0,.bool false,.bool false,.bool false,.slice none 0 0,.int .i64 0,.slice none 0 0,.int .i64 0,.slice none 0 0,.string ⟨#[]⟩] 35);have hB:=(TB.new w (teCs t ⟨.slice ga t.g.length gp,.slice oa t.o.length op,.slice tia t.ti.length tip,.slice ppa t.pa.params.length ppp,.slice pta t.pa.text.length ptp⟩).toList).below hb2;have hR:=TB.new (w.alloc (Obj.cells (teCs t ⟨.slice ga t.g.length gp,.slice oa t.o.length op,.slice tia t.ti.length tip,.slice ppa t.pa.params.length ppp,.slice pta t.pa.text.length ptp⟩) 35)) [.int .i64 0,.slice none 0 0,.int .i64 0,.slice none 0 0,.int .i64 0,.int .i64 0,.int .i64 0,.int .i64 0,.bool false,.bool false,.bool false,.int .i64 0,.int .i64 0,.bool false,.bool false,.bool false,.bool false,.int .i64 0,.int .i64 0,.int .i64 0,.int .i64 0,.bool false,.bool false,.bool false,.slice none 0 0,.int .i64 0,.slice none 0 0,.int .i64 0,.slice none 0 0,.string ⟨#[]⟩];have kb:=hb1.trans (hb2.mono hb1.size);rw [show (w.alloc (Obj.cells (teCs t ⟨.slice ga t.g.length gp,.slice oa t.o.length op,.slice tia t.ti.length tip,.slice ppa t.pa.params.length ppp,.slice pta t.pa.text.length ptp⟩) 35)).heap.size=w.heap.size+1 by simp] at hR
 obtain ⟨w2,hw2⟩:∃ w2,w2=(w.alloc (Obj.cells (teCs t ⟨.slice ga t.g.length gp,.slice oa t.o.length op,.slice tia t.ti.length tip,.slice ppa t.pa.params.length ppp,.slice pta t.pa.text.length ptp⟩) 35)).alloc (Obj.cells #[.int .i64 0,.slice none 0 0,.int .i64 0,.slice none 0 0,.int .i64 0,.int .i64 0,.int .i64 0,.int .i64 0,.bool false,.bool false,.bool false,.int .i64 0,.int .i64 0,.bool false,.bool false,.bool false,.bool false,.int .i64 0,.int .i64 0,.int .i64 0,.int .i64 0,.bool false,.bool false,.bool false,.slice none 0 0,.int .i64 0,.slice none 0 0,.int .i64 0,.slice none 0 0,.string ⟨#[]⟩] 35):=⟨_,rfl⟩;have hB:TB w2 w.heap.size [.int .i64 t.gc,.slice ga t.g.length gp,.int .i64 t.oc,.slice oa t.o.length op,.int .i64 t.row,.int .i64 t.col,.int .i64 t.st.fore,.int .i64 t.st.back,.bool t.st.bold,.bool t.st.under,.bool t.st.turned,.int .i64 t.top,.int .i64 t.bot,.bool t.full,.bool t.wrap,.bool t.away,.bool t.hid,.int .i64 t.sr,.int .i64 t.sc,.int .i64 t.ss.fore,.int .i64 t.ss.back,.bool t.ss.bold,.bool t.ss.under,.bool t.ss.turned,.slice tia t.ti.length tip,.int .i64 t.pa.state,.slice ppa t.pa.params.length ppp,.int .i64 t.pa.mark,.slice pta t.pa.text.length ptp,.string t.fe]:=by rw [hw2];exact hB
 rw [<- hw2] at hR kb
 have zs2:w2.heap.size=w.heap.size+2:=by rw [hw2];simp
 replace hw2:=(show Hid _ from hw2);unfold gridV paV at *;clear hb1 hb2 z1 z1' z2 z3 z3' z4 z5 z6 z7;go_enter Tryz.func60,Tryz.ntmps60;refine wp_seq_k (fun K hK=>?_);have hH:=(show Hid _ from hK);clear hK;go_wp2;refine hH.out _ _ ?_;rw [<- hw2.out]
 clear hH hw2;have c0:w2.cell? ⟨w.heap.size,0,none⟩=some (.int .i64 t.gc):=cAl hB 0;have c1:w2.cell? ⟨w.heap.size,1,none⟩=some (.slice ga t.g.length gp):=cAl hB 1;go_wp2_with fail;refine (cG _ (hg.below kb)).mono ?_;rintro e w3 ⟨xg,rfl,hng,hb⟩;obtain ⟨xga,xgn,xgp,hx⟩:=slShp (SlG.of_own hng);subst hx;have og:OwnR w3 w2.heap.size w3.heap.size (.slice xga xgn xgp) t.g:=OwnR.of hng;replace hB:=hB.below hb;replace hR:=hR.below hb;replace kb:=kb.trans (hb.mono kb.size);have s23:=hb.size;clear hng hb c0 c1 cG;go_wp2_with (refine store_at (by rfl) 26 _ _ (by rfl) inf_g hB (by rfl) (by rfl) (by rfl) (by rfl) (by rfl) ?_;intro W3 hgr hB1 hz1;have c2:W3.cell? ⟨w.heap.size,2,none⟩=some (.int .i64 t.oc):=cAl hB1 2;have c3:W3.cell? ⟨w.heap.size,3,none⟩=some (.slice oa t.o.length op):=cAl hB1 3);have hb:Below w.heap.size w W3:=kb.grown hgr kb.size (fun g e=>by cases e;exact Nat.le_refl _);refine (cO _ (ho.below hb)).mono ?_;rintro e w4 ⟨xo,rfl,hno,hb4⟩;obtain ⟨xoa,xon,xop,hx⟩:=slShp (SlG.of_own hno);subst hx;have oo:OwnR w4 w3.heap.size w4.heap.size (.slice xoa xon xop) t.o:=by rw [<- hz1];exact OwnR.of hno
 replace og:=(og.grown hgr (by omega)).below hb4;replace hB:TB w4 w.heap.size [.int .i64 t.gc,.slice xga xgn xgp,.int .i64 t.oc,.slice oa t.o.length op,.int .i64 t.row,.int .i64 t.col,.int .i64 t.st.fore,.int .i64 t.st.back,.bool t.st.bold,.bool t.st.under,.bool t.st.turned,.int .i64 t.top,.int .i64 t.bot,.bool t.full,.bool t.wrap,.bool t.away,.bool t.hid,.int .i64 t.sr,.int .i64 t.sc,.int .i64 t.ss.fore,.int .i64 t.ss.back,.bool t.ss.bold,.bool t.ss.under,.bool t.ss.turned,.slice tia t.ti.length tip,.int .i64 t.pa.state,.slice ppa t.pa.params.length ppp,.int .i64 t.pa.mark,.slice pta t.pa.text.length ptp,.string t.fe]:=TB.below (show TB W3 w.heap.size [.int .i64 t.gc,.slice xga xgn xgp,.int .i64 t.oc,.slice oa t.o.length op,.int .i64 t.row,.int .i64 t.col,.int .i64 t.st.fore,.int .i64 t.st.back,.bool t.st.bold,.bool t.st.under,.bool t.st.turned,.int .i64 t.top,.int .i64 t.bot,.bool t.full,.bool t.wrap,.bool t.away,.bool t.hid,.int .i64 t.sr,.int .i64 t.sc,.int .i64 t.ss.fore,.int .i64 t.ss.back,.bool t.ss.bold,.bool t.ss.under,.bool t.ss.turned,.slice tia t.ti.length tip,.int .i64 t.pa.state,.slice ppa t.pa.params.length ppp,.int .i64 t.pa.mark,.slice pta t.pa.text.length ptp,.string t.fe] from hB1) hb4;replace hR:=(hR.kept hgr (by simp)).below hb4;have s34:w3.heap.size<=w4.heap.size:=by rw [<- hz1];exact hb4.size
 replace kb:=hb.trans (hb4.mono hb.size);clear hno hb hb4 hgr hB1 hz1 c2 c3 cO;have hba:=fun W=>bal' W (Obj.cells #[] 2)
 go_wp2_with (first
  | (refine store_at (by rfl) 26 _ _ (by rfl) inf_g hB (by rfl) (by rfl) (by rfl) (by rfl) (by rfl) ?_;intro W4 hgr hB1 hz1;have c24:(W4.alloc (Obj.cells #[] 2)).cell? ⟨w.heap.size,24,none⟩=some (.slice tia t.ti.length tip):=(cAl (TB.below (show TB W4 w.heap.size [.int .i64 t.gc,.slice xga xgn xgp,.int .i64 t.oc,.slice xoa xon xop,.int .i64 t.row,.int .i64 t.col,.int .i64 t.st.fore,.int .i64 t.st.back,.bool t.st.bold,.bool t.st.under,.bool t.st.turned,.int .i64 t.top,.int .i64 t.bot,.bool t.full,.bool t.wrap,.bool t.away,.bool t.hid,.int .i64 t.sr,.int .i64 t.sc,.int .i64 t.ss.fore,.int .i64 t.ss.back,.bool t.ss.bold,.bool t.ss.under,.bool t.ss.turned,.slice tia t.ti.length tip,.int .i64 t.pa.state,.slice ppa t.pa.params.length ppp,.int .i64 t.pa.mark,.slice pta t.pa.text.length ptp,.string t.fe] from hB1) (hba W4)) 24);have hb4:Below w.heap.size w W4:=kb.grown hgr kb.size (fun g e=>by cases e;exact Nat.le_refl _);have ht4:=hti.below hb4)
  | (refine copy_g (by rfl) _ _ (by rfl) _ hz1 _ t.ti (by rfl) ht4 ztl (by rfl) ?_;intro xt w5 hnt hb5;obtain ⟨xta,xtn,xtp,hx⟩:=OwnI.shape hnt;subst hx;have hB5:TB w5 w.heap.size [.int .i64 t.gc,.slice xga xgn xgp,.int .i64 t.oc,.slice xoa xon xop,.int .i64 t.row,.int .i64 t.col,.int .i64 t.st.fore,.int .i64 t.st.back,.bool t.st.bold,.bool t.st.under,.bool t.st.turned,.int .i64 t.top,.int .i64 t.bot,.bool t.full,.bool t.wrap,.bool t.away,.bool t.hid,.int .i64 t.sr,.int .i64 t.sc,.int .i64 t.ss.fore,.int .i64 t.ss.back,.bool t.ss.bold,.bool t.ss.under,.bool t.ss.turned,.slice tia t.ti.length tip,.int .i64 t.pa.state,.slice ppa t.pa.params.length ppp,.int .i64 t.pa.mark,.slice pta t.pa.text.length ptp,.string t.fe]:=TB.below (show TB W4 w.heap.size [.int .i64 t.gc,.slice xga xgn xgp,.int .i64 t.oc,.slice xoa xon xop,.int .i64 t.row,.int .i64 t.col,.int .i64 t.st.fore,.int .i64 t.st.back,.bool t.st.bold,.bool t.st.under,.bool t.st.turned,.int .i64 t.top,.int .i64 t.bot,.bool t.full,.bool t.wrap,.bool t.away,.bool t.hid,.int .i64 t.sr,.int .i64 t.sc,.int .i64 t.ss.fore,.int .i64 t.ss.back,.bool t.ss.bold,.bool t.ss.under,.bool t.ss.turned,.slice tia t.ti.length tip,.int .i64 t.pa.state,.slice ppa t.pa.params.length ppp,.int .i64 t.pa.mark,.slice pta t.pa.text.length ptp,.string t.fe] from hB1) hb5;clear c24)
  | (refine store_at (by rfl) 29 _ _ (by rfl) inf_l hB5 (by rfl) (by rfl) (by rfl) (by rfl) (by rfl) ?_;intro W5 hgr5 hB6 hz5;have c25:W5.cell? ⟨w.heap.size,25,none⟩=some (.int .i64 t.pa.state):=cAl hB6 25;have c26:W5.cell? ⟨w.heap.size,26,none⟩=some (.slice ppa t.pa.params.length ppp):=cAl hB6 26;have c27:W5.cell? ⟨w.heap.size,27,none⟩=some (.int .i64 t.pa.mark):=cAl hB6 27;have c28:W5.cell? ⟨w.heap.size,28,none⟩=some (.slice pta t.pa.text.length ptp):=cAl hB6 28))
 have hb5w:Below w.heap.size w w5:=hb4.trans (hb5.mono hb4.size);have hb6:Below w.heap.size w W5:=hb5w.grown hgr5 hb5w.size (fun g e=>by cases e;exact Nat.le_refl _);have s45:w4.heap.size<=w5.heap.size:=by rw [<- hz1];exact hb5.size
 have ol5:LiOk w5 w4.heap.size [((.slice xta xtn xtp:Value),t.ti)]:=⟨fun p hp=>by rw [List.mem_singleton] at hp;subst hp;rw [<- hz1];exact hnt,List.pairwise_singleton _ _⟩;have olt:∀ p∈[((.slice xta xtn xtp:Value),t.ti)],∀ g,p.1.ownBlock=some g->g<w5.heap.size:=fun p hp g e=>((ol5.1 p hp).lt g e).2
 have ol6:=ol5.kept hgr5 (fun p hp=>.inr ((ol5.1 p hp).not_block hB5 (by decide)));replace og:=((og.grown hgr (by omega)).below hb5).grown hgr5 (by omega);replace oo:=((oo.grown hgr (by omega)).below hb5).grown hgr5 (by omega);have hR6:=((hR.kept hgr (by simp)).below hb5).kept hgr5 (by simp);refine (cP _ (hpp.below hb6) (hpt.below hb6)).mono ?_;rintro e w7 ⟨xp,xq,rfl,hnp,hb⟩;rw [hz5] at hnp
 obtain ⟨xpa,xpn,xpp,hxp⟩:=hnp.head.shape;obtain ⟨xqa,xqn,xqp,hxq⟩:=hnp.tail.head.shape;simp only at hxp hxq;subst hxp;subst hxq;have ol:LiOk w7 w4.heap.size ([((.slice xta xtn xtp:Value),t.ti)]++[(.slice xpa xpn xpp,t.pa.params),(.slice xqa xqn xqp,t.pa.text)]):=(ol6.below hb).join olt hnp s45;replace og:=og.below hb;replace oo:=oo.below hb;replace hR:=hR6.below hb;have hB7:TB w7 w.heap.size [.int .i64 t.gc,.slice xga xgn xgp,.int .i64 t.oc,.slice xoa xon xop,.int .i64 t.row,.int .i64 t.col,.int .i64 t.st.fore,.int .i64 t.st.back,.bool t.st.bold,.bool t.st.under,.bool t.st.turned,.int .i64 t.top,.int .i64 t.bot,.bool t.full,.bool t.wrap,.bool t.away,.bool t.hid,.int .i64 t.sr,.int .i64 t.sc,.int .i64 t.ss.fore,.int .i64 t.ss.back,.bool t.ss.bold,.bool t.ss.under,.bool t.ss.turned,.slice xta xtn xtp,.int .i64 t.pa.state,.slice ppa t.pa.params.length ppp,.int .i64 t.pa.mark,.slice pta t.pa.text.length ptp,.string t.fe]:=TB.below (show TB W5 w.heap.size [.int .i64 t.gc,.slice xga xgn xgp,.int .i64 t.oc,.slice xoa xon xop,.int .i64 t.row,.int .i64 t.col,.int .i64 t.st.fore,.int .i64 t.st.back,.bool t.st.bold,.bool t.st.under,.bool t.st.turned,.int .i64 t.top,.int .i64 t.bot,.bool t.full,.bool t.wrap,.bool t.away,.bool t.hid,.int .i64 t.sr,.int .i64 t.sc,.int .i64 t.ss.fore,.int .i64 t.ss.back,.bool t.ss.bold,.bool t.ss.under,.bool t.ss.turned,.slice xta xtn xtp,.int .i64 t.pa.state,.slice ppa t.pa.params.length ppp,.int .i64 t.pa.mark,.slice pta t.pa.text.length ptp,.string t.fe] from hB6) hb;have s57:w5.heap.size<=w7.heap.size:=by rw [<- hz5];exact hb.size
 have kb7:=hb6.trans (hb.mono hb6.size);clear hb hb6 hb5w hb5 hgr5 hB6 hz5 hB5 hb4 ht4 hgr hB1 hz1 hnt hnp ol5 ol6 hR6 c25 c26 c27 c28 cP hB hba
 go_wp2_with (first
  | (refine store_at (by rfl) 31 _ _ (by rfl) inf_p hB7 (by rfl) (by rfl) (by rfl) (by rfl) (by rfl) ?_;intro W7 hgr hB8 hz7)
  | (refine load_T (cs:=teCs t ⟨.slice xga xgn xgp,.slice xoa xon xop,.slice xta xtn xtp,.slice xpa xpn xpp,.slice xqa xqn xqp⟩) (by rfl) 35 _ (by rfl) Tryz.underlying35 rfl info_te hB8 (by rfl) ?_)
  | (refine store_T (cs:=teCs t ⟨.slice xga xgn xgp,.slice xoa xon xop,.slice xta xtn xtp,.slice xpa xpn xpp,.slice xqa xqn xqp⟩) (by rfl) 35 _ _ (by rfl) info_te (by rfl) (by rfl) (hR.kept hgr (by simp)) (by rfl) (by rfl) ?_;intro w9 hg9 hR9 hz9))
 have hR8:=hR.kept hgr (by simp);have ol8:=ol.kept hgr (fun p hp=>.inr ((ol.1 p hp).not_block hB7 (by decide)))
 have hfin:OwnT w9 w.heap.size t ⟨.slice xga xgn xgp,.slice xoa xon xop,.slice xta xtn xtp,.slice xpa xpn xpp,.slice xqa xqn xqp⟩ :=
  ⟨w3.heap.size,w4.heap.size,w4.heap.size,OwnR.low ((og.grown hgr (by omega)).grown hg9 (by omega)) (by omega),(oo.grown hgr (by omega)).grown hg9 (by omega),ol8.kept hg9 (fun p hp=>.inr ((ol8.1 p hp).not_block hR8 (by decide))),by omega,by omega,Nat.le_refl _,by rw [hz9,hz7];omega⟩
 have kb8:=kb7.grown hgr kb7.size (fun g e=>by cases e;exact Nat.le_refl _);exact bodyPost_ret (v:=.agg (teCs t ⟨.slice xga xgn xgp,.slice xoa xon xop,.slice xta xtn xtp,.slice xpa xpn xpp,.slice xqa xqn xqp⟩)) (results_cell_row Tryz.results60 _ _ _ _ _ _ _ rfl hR9 Tryz.underlying35 rfl info_te) rfl ⟨_,rfl,hfin,kb8.grown hg9 kb8.size (fun g e=>by cases e;omega)⟩
structure RtW (t:Te) (cn N:Nat):Prop where
 gc:t.gc=cn
 oc:t.oc=cn
 c:1<=cn/\cn<=60
 n:t.g.length=N
 m:t.o.length=N
 n1:1<=N/\N<=30
 gx:∀ i,i<N->(rowX t.g i).length=cn
 ox:∀ i,i<N->(rowX t.o i).length=cn
 row:0<=t.row/\t.row<N
 col:0<=t.col/\t.col<cn
 tb:0<=t.top/\t.top<=t.bot/\t.bot<N
def acA (k r:Int) (p:Value) (m:Int) (x:Value):Array Value:=#[.int .i64 k,.int .i64 r,p,.int .i64 m,x]
theorem lineT_col (t:Te) (c:Int):lineT { t with col:=c }={ lineT t with col:=c }:=by
 unfold lineT moveT;split
 ·rfl
 ·split<;>rfl
theorem parN_out {ps:List Int} {i:Nat} (u:Int) (h:ps.length<=i):parN ps i u=u:=by
 unfold parN;rw [if_pos (by simp [List.getD,List.getElem?_eq_none h])]
theorem lPa (pv:Value) (ps:List Int) (i:Nat) (u:Int) (w:World) (h:SlN w pv ps) (_hl:ps.length<=1000) :
  Calls Tryz.prog 211 #[pv,.int .i64 (i:Int),.int .i64 u] w fun e w'=>e=.returned (.int .i64 (parN ps i u))/\w'=w:=by
 obtain ⟨a,c,rfl,hc,_,hr⟩:=h;have i0:(0:Int)<=(i:Int):=by omega
 obtain ⟨n,hn⟩:∃ n,Hid (ps.length=n):=⟨_,rfl⟩;rw [hn.out]
 by_cases hi:i<n
 ·have i1:(i:Int)<(n:Int):=by omega
  have i2:decide ((n:Int)<=(i:Int))=false:=decide_eq_false (by omega);rcases hr with h|⟨b,off,rfl,_,hcl⟩
  ·have:=hn.out;rw [h] at this;simp at this;omega
  have ci:=hcl i (by have:=hn.out;omega)
  by_cases hz:ps.getD i 0=0
  ·have hV:parN ps i u=u:=by unfold parN;rw [if_pos hz]
   rw [hV]
   rw [hz] at ci
   clear hcl hz hV hi;go_enter Tryz.func211,Tryz.ntmps211;go_wp2;go_ret;exact ⟨rfl,rfl⟩
  ·have hV:parN ps i u=ps.getD i 0:=by unfold parN;rw [if_neg hz]
   rw [hV]
   generalize ps.getD i 0=x at *;have hz2:(x==0)=false:=by simp [hz]
   clear hcl hV hi;go_enter Tryz.func211,Tryz.ntmps211;go_wp2;go_ret;exact ⟨rfl,rfl⟩
 ·have i1:(n:Int)<=(i:Int):=by omega
  have i2:decide ((n:Int)<=(i:Int))=true:=decide_eq_true i1;rw [parN_out u (by have:=hn.out;omega)]
  clear hr hi;go_enter Tryz.func211,Tryz.ntmps211;go_wp2;go_ret;exact ⟨rfl,rfl⟩
theorem Scr.row {W0 W1:World} {T:TypeId} {base B g N cap:Nat} {X:List Value} {t:Te} {v:Tv} {vg vo:List Value} (h:Scr W0 T base B X t v vg vo) (hbase:base<=W0.heap.size) (hb:Below W0.heap.size W0 W1) (hvg:v.g=.slice (some ⟨g,0,none⟩) N cap) (hN:t.g.length=N) (i:Nat) (hi:i<N) (r:Value) (xs:List Ce) (hr:OwnC W1 W0.heap.size r xs) :
  Res W0 (W1.setCell ⟨g,i,none⟩ r) T base B X v vg vo { t with g:=t.g.set i xs } v (vg.set i r) vo:=by
 have ho:=h.o.1;have hl:=ho.1;rw [hvg] at ho
 have ho1:OwnV W1 base W0.heap.size (.slice (some ⟨g,0,none⟩) N cap) vg t.g:=ho.below hb;obtain ⟨hv,hg⟩:=ho1.setV hN i hi r xs (hr.low hbase) (fun q e=>(hr.lt q e).1);refine h.rows hbase (vg.set i r) _ (by rw [hvg];exact hv) ?_ (fun k hk c=>?_)
 ·rw [hvg]
  exact (GrP.of_below hb).trans (GrP.of_grown hg (fun g' e=>by cases e;exact .inl rfl))
 ·rcases c with c|⟨j,hj,e⟩
  ·exact .inl c
  ·rw [List.length_set] at hj
   rw [rowV_setV (by omega)] at e
   by_cases ej:j=i
   ·rw [if_pos ej] at e
    have:=(hr.lt k e).1;omega
   ·rw [if_neg ej] at e
    exact .inr ⟨j,hj,e⟩
theorem l1MaxG_any (a b:Int) (w:World) :
  Calls Tryz.prog 157 #[.int .i64 a,.int .i64 b] w fun e w'=>e=.returned (.int .i64 (max a b))/\w'=w:=by
 by_cases h:b<a
 ·have hm:Hid (max a b=a):=by show _=_;omega
  go_enter Tryz.func157,Tryz.ntmps157;go_wp2;go_ret;exact ⟨by rw [hm.out];rfl,rfl⟩
 ·have hm:Hid (max a b=b):=by show _=_;omega
  go_enter Tryz.func157,Tryz.ntmps157;go_wp2;go_ret;exact ⟨by rw [hm.out];rfl,rfl⟩
theorem rowOk_of {l:List Ce} (h:Right l) (h1:1<=l.length) (h2:l.length<=60):rowOkB l=true:=(right_iff l).2 ⟨⟨h1,h2⟩,h⟩
theorem gridOk_of2 {cols:Nat} {rows:List (List Ce)} (hc:1<=cols/\cols<=60) (hn:1<=rows.length/\rows.length<=30) (h:∀ i,i<rows.length->(rowX rows i).length=cols/\Right (rowX rows i)):gridOkB (cols:Int) rows=true:=by
 rw [gridOk_iff]
 refine ⟨by omega,hn,fun i hi=>?_⟩;obtain ⟨h1,h2⟩:=h i hi;have h1':(rows.getD i []).length=cols:=h1;unfold fitB;rw [Bool.and_eq_true,decide_eq_true_eq]
 exact ⟨by omega,rowOk_of h2 (by omega) (by omega)⟩
theorem gridOk_rows {cols:Nat} {rows:List (List Ce)} (h:gridOkB (cols:Int) rows=true):(1<=cols/\cols<=60)/\(1<=rows.length/\rows.length<=30)/\∀ i,i<rows.length->(rowX rows i).length=cols/\Right (rowX rows i):=by
 obtain ⟨h1,h2,h3⟩:=(gridOk_iff _ _).1 h;refine ⟨by omega,h2,fun i hi=>?_⟩;have h4:=h3 i hi;unfold fitB at h4;rw [Bool.and_eq_true,decide_eq_true_eq] at h4
 have h5:((rowX rows i).length:Int)=cols:=h4.1;exact ⟨by omega,((right_iff _).1 h4.2).2⟩
theorem moveR_ok {cols:Nat} {rows:List (List Ce)} (h:gridOkB (cols:Int) rows=true) (t b:Nat) (hb:b<rows.length) (m:Int) (s:St) (hs:s.ok=true):gridOkB (cols:Int) (moveR cols rows t b m s)=true:=by
 obtain ⟨h1,h2,h3⟩:=gridOk_rows h;refine gridOk_of2 h1 (by rw [moveR_len];exact h2) fun i hi=>?_
 rw [moveR_len] at hi
 rw [moveR_at _ _ _ _ _ _ _ hi]
 split
 ·split
  ·exact h3 _ (by omega)
  ·exact ⟨rowL_len _ _,rowL_right _ _ hs⟩
 ·exact h3 i hi
theorem l7Cell_any (gc r c:Int) (a:Option Addr) (n cp:Nat) (w:World) (h1:1<=gc) (h2:gc<=60) (hn1:1<=n) (hn:n<=30) :
  Calls Tryz.prog 72 #[.agg #[.int .i64 gc,.slice a n cp],.int .i64 r,.int .i64 c] w fun e w'=>e=.returned (.bool (cellB gc n r c))/\Below w.heap.size w w':=by
 have hb0:=bal' w (Obj.cells #[.int .i64 gc,.slice a n cp] 26);have hi:=fun x lo hi W=>l1In_any x lo hi W
 obtain ⟨b1,e1⟩:∃ b,Hid (decide (0<=r/\r<=(n:Int)-1)=b):=⟨_,rfl⟩;obtain ⟨b2,e2⟩:∃ b,Hid (decide (0<=c/\c<=gc-1)=b):=⟨_,rfl⟩;have i1:=fun W=>hi r 0 ((n:Int)-1) W
 have i2:=fun W=>hi c 0 (gc-1) W
 rw [e1.out] at i1
 rw [e2.out] at i2
 have hv:Hid (cellB gc n r c=(b1 && b2)):=by show _=_;unfold cellB;rw [e1.out,e2.out]
 rw [hv.out]
 have hn1i:(1:Int)<=(n:Int):=by omega
 have hni:(n:Int)<=30:=by omega
 clear hi e1 e2 hv hn1 hn
 cases b1
 ·go_enter Tryz.func72,Tryz.ntmps72
  go_wp2_with fail;refine (i1 _).mono ?_;rintro e w1 ⟨rfl,hw⟩;subst hw;go_wp2;go_ret;exact ⟨rfl,hb0⟩
 ·go_enter Tryz.func72,Tryz.ntmps72
  go_wp2_with fail;refine (i1 _).mono ?_;rintro e w1 ⟨rfl,hw⟩;subst hw;go_wp2_with fail;refine (i2 _).mono ?_;rintro e w2 ⟨rfl,hw⟩;subst hw;go_wp2;go_ret;exact ⟨rfl,hb0⟩
theorem specTermOk_any (t:Te) (v:Tv) (w:World) (h:SlT w t v) (hz:SzT 1048576 t) :
  Calls Tryz.prog 20 #[teV t v] w fun e w'=>e=.returned (.bool (termOkB t))/\Below w.heap.size w w':=by
 obtain ⟨vg,vo,vti,vpp,vpt⟩:=v;obtain ⟨hg,ho,hti,hpp,hpt⟩:=h;simp only at hg ho hti hpp hpt;obtain ⟨z1,z2,z3,z4,z5,z6,z7⟩:=hz;obtain ⟨rv,hrv⟩:∃ rv,Hid (rv=termOkB t):=⟨_,rfl⟩;rw [<- hrv.out]
 have hb0:=bal' w (Obj.cells (teCs t ⟨vg,vo,vti,vpp,vpt⟩) 35);have hB:=TeB.new w 35 t ⟨vg,vo,vti,vpp,vpt⟩;have cG:=fun W hW=>specGridOk_any t.gc vg t.g W hW z1 z2
 have cO:=fun W hW=>specGridOk_any t.oc vo t.o W hW z3 z4
 have cS:=fun W=>specStyleOk_any t.st W
 have cSs:=fun W=>specStyleOk_any t.ss W
 have cT:=fun W hW=>specRunes6_any vti t.ti 40 W hW (by omega) (by decide)
 have cP:=fun W h1 h2=>specParserOk_any t.pa vpp vpt W h1 h2 (by omega) (by omega)
 have cF:=fun W=>specFeederOk_any t.fe W
 obtain ⟨bG,eG⟩:∃ b,Hid (gridOkB t.gc t.g=b):=⟨_,rfl⟩;obtain ⟨bO,eO⟩:∃ b,Hid (gridOkB t.oc t.o=b):=⟨_,rfl⟩;obtain ⟨bS,eS⟩:∃ b,Hid (t.st.ok=b):=⟨_,rfl⟩;obtain ⟨bSs,eSs⟩:∃ b,Hid (t.ss.ok=b):=⟨_,rfl⟩;obtain ⟨bT,eT⟩:∃ b,Hid ((decide (t.ti.length<=40) && runesB t.ti)=b):=⟨_,rfl⟩;obtain ⟨bP,eP⟩:∃ b,Hid (okV t.pa=b):=⟨_,rfl⟩;obtain ⟨bF,eF⟩:∃ b,Hid (feedOk t.fe=b):=⟨_,rfl⟩;rw [eG.out] at cG
 rw [eO.out] at cO
 rw [eS.out] at cS
 rw [eSs.out] at cSs
 rw [eT.out] at cT
 rw [eP.out] at cP
 rw [eF.out] at cF
 obtain ⟨ga,gp,hq1⟩:=sGs hg;obtain ⟨oa,op,hq2⟩:=sGs ho;obtain ⟨tia,tip,hq3⟩:=hti.shp;obtain ⟨ppa,ppp,hq4⟩:=hpp.shp;obtain ⟨pta,ptp,hq5⟩:=hpt.shp;subst hq1;subst hq2;subst hq3;subst hq4;subst hq5;unfold teV gridV stV paV at *;obtain ⟨w1,hw1⟩:∃ w1,w1=w.alloc (Obj.cells (teCs t ⟨.slice ga t.g.length gp,.slice oa t.o.length op,.slice tia t.ti.length tip,.slice ppa t.pa.params.length ppp,.slice pta t.pa.text.length ptp⟩) 35):=⟨_,rfl⟩;rw [<- hw1] at hB hb0
 replace hw1:=(show Hid _ from hw1);clear z1 z2 z3 z4 z5 z6 z7;go_enter Tryz.func20,Tryz.ntmps20;refine wp_seq_k (fun K hK=>?_);have hH:=(show Hid _ from hK);clear hK;go_wp2;refine hH.out _ _ ?_;rw [<- hw1.out]
 clear hH hw1;obtain ⟨c0,c1,c2,c3,c4,c5,c6,c7,c8,c9,c10,c11,c12,c13,c14,c15,c16,c17,c18,c19,c20,c21,c22,c23,c24,c25,c26,c27,c28,c29⟩:=hB.cells;go_wp2_with fail;refine (cG _ (hg.below hb0)).mono ?_;rintro e w1 ⟨rfl,hb⟩;have hb1:=hb0.trans (hb.mono hb0.size);replace hB:=hB.below hb;clear c0 c1 c2 c3 c4 c5 c6 c7 c8 c9 c10 c11 c12 c13 c14 c15 c16 c17 c18 c19 c20 c21 c22 c23 c24 c25 c26 c27 c28 c29;clear hb hb0;obtain ⟨c0,c1,c2,c3,c4,c5,c6,c7,c8,c9,c10,c11,c12,c13,c14,c15,c16,c17,c18,c19,c20,c21,c22,c23,c24,c25,c26,c27,c28,c29⟩:=hB.cells
 cases bG
 case false =>
  have hv:Hid (rv=false):=by show _=_;rw [hrv.out];unfold termOkB;simp [eG.out]
  go_wp2;go_ret;exact ⟨by rw [hv.out];rfl,hb1⟩
 go_wp2_with fail;refine (cO _ (ho.below hb1)).mono ?_;rintro e w2 ⟨rfl,hb⟩;have hb2:=hb1.trans (hb.mono hb1.size);replace hB:=hB.below hb;clear c0 c1 c2 c3 c4 c5 c6 c7 c8 c9 c10 c11 c12 c13 c14 c15 c16 c17 c18 c19 c20 c21 c22 c23 c24 c25 c26 c27 c28 c29;clear hb hb1;obtain ⟨c0,c1,c2,c3,c4,c5,c6,c7,c8,c9,c10,c11,c12,c13,c14,c15,c16,c17,c18,c19,c20,c21,c22,c23,c24,c25,c26,c27,c28,c29⟩:=hB.cells
 cases bO
 case false =>
  have hv:Hid (rv=false):=by show _=_;rw [hrv.out];unfold termOkB;simp [eG.out,eO.out]
  go_wp2;go_ret;exact ⟨by rw [hv.out];rfl,hb2⟩
 obtain ⟨⟨hc1,hc2⟩,⟨hn1,hn2⟩,_⟩:=(gridOk_iff t.gc t.g).1 eG.out;have hn1i:(1:Int)<=(t.g.length:Int):=by omega
 have hn2i:(t.g.length:Int)<=30:=by omega
 by_cases q3:t.gc=t.oc
 case neg =>
  have hv:Hid (rv=false):=by show _=_;rw [hrv.out];unfold termOkB;simp [q3]
  have q3b:(t.gc != t.oc)=true:=by simp [q3]
  go_wp2;go_ret;exact ⟨by rw [hv.out];rfl,hb2⟩
 have q3b:(t.gc != t.oc)=false:=by simp [q3]
 have q3h:=(show Hid _ from q3);clear q3
 by_cases q4:t.g.length=t.o.length
 case neg =>
  have hv:Hid (rv=false):=by show _=_;rw [hrv.out];unfold termOkB;simp [q4]
  have q4b:((t.g.length:Int) != (t.o.length:Int))=true:=by simp;omega
  clear q4;go_wp2;go_ret;exact ⟨by rw [hv.out];rfl,hb2⟩
 have q4b:((t.g.length:Int) != (t.o.length:Int))=false:=by simp;omega
 have q4h:=(show Hid _ from q4);clear q4;have cC:=fun W=>l7Cell_any t.gc t.row t.col ga t.g.length gp W hc1 hc2 hn1 hn2
 have cD:=fun W=>l7Cell_any t.gc t.sr t.sc ga t.g.length gp W hc1 hc2 hn1 hn2
 have cI:=fun W=>l1In_any t.top 0 t.bot W
 obtain ⟨bC,eC⟩:∃ b,Hid (cellB t.gc t.g.length t.row t.col=b):=⟨_,rfl⟩;obtain ⟨bD,eD⟩:∃ b,Hid (cellB t.gc t.g.length t.sr t.sc=b):=⟨_,rfl⟩;obtain ⟨bI,eI⟩:∃ b,Hid (decide (0<=t.top/\t.top<=t.bot)=b):=⟨_,rfl⟩;rw [eC.out] at cC
 rw [eD.out] at cD
 rw [eI.out] at cI
 go_wp2_with fail;refine (cC _).mono ?_;rintro e w3 ⟨rfl,hb⟩;have hb3:=hb2.trans (hb.mono hb2.size);replace hB:=hB.below hb;clear c0 c1 c2 c3 c4 c5 c6 c7 c8 c9 c10 c11 c12 c13 c14 c15 c16 c17 c18 c19 c20 c21 c22 c23 c24 c25 c26 c27 c28 c29;clear hb hb2;obtain ⟨c0,c1,c2,c3,c4,c5,c6,c7,c8,c9,c10,c11,c12,c13,c14,c15,c16,c17,c18,c19,c20,c21,c22,c23,c24,c25,c26,c27,c28,c29⟩:=hB.cells
 cases bC
 case false =>
  have hv:Hid (rv=false):=by show _=_;rw [hrv.out];unfold termOkB;simp [eC.out]
  go_wp2;go_ret;exact ⟨by rw [hv.out];rfl,hb3⟩
 go_wp2_with fail;refine (cD _).mono ?_;rintro e w4 ⟨rfl,hb⟩;have hb4:=hb3.trans (hb.mono hb3.size);replace hB:=hB.below hb;clear c0 c1 c2 c3 c4 c5 c6 c7 c8 c9 c10 c11 c12 c13 c14 c15 c16 c17 c18 c19 c20 c21 c22 c23 c24 c25 c26 c27 c28 c29;clear hb hb3;obtain ⟨c0,c1,c2,c3,c4,c5,c6,c7,c8,c9,c10,c11,c12,c13,c14,c15,c16,c17,c18,c19,c20,c21,c22,c23,c24,c25,c26,c27,c28,c29⟩:=hB.cells
 cases bD
 case false =>
  have hv:Hid (rv=false):=by show _=_;rw [hrv.out];unfold termOkB;simp [eD.out]
  go_wp2;go_ret;exact ⟨by rw [hv.out];rfl,hb4⟩
 go_wp2_with fail;refine (cI _).mono ?_;rintro e w5 ⟨rfl,hw⟩;subst hw
 cases bI
 case false =>
  have hv:Hid (rv=false):=by
   have:=of_decide_eq_false eI.out
   show _=_;rw [hrv.out];unfold termOkB
   rw [decide_eq_false (p:=0<=t.top/\_) (by omega)];simp
  go_wp2;go_ret;exact ⟨by rw [hv.out];rfl,hb4⟩
 have q5:=of_decide_eq_true eI.out
 by_cases q6:(t.g.length:Int)-1<t.bot
 case pos =>
  have hv:Hid (rv=false):=by
   show _=_;rw [hrv.out];unfold termOkB
   rw [decide_eq_false (p:=0<=t.top/\_) (by omega)];simp
  go_wp2;go_ret;exact ⟨by rw [hv.out];rfl,hb4⟩
 by_cases q7:t.top=t.bot
 case pos =>
  have q7b:(t.top==t.bot)=true:=by simp [q7]
  by_cases q8:0<(t.g.length:Int)-1
  case pos =>
   have hv:Hid (rv=false):=by
    show _=_;rw [hrv.out];unfold termOkB
    rw [decide_eq_false (p:=0<=t.top/\_) (by omega)];simp
   clear q7;go_wp2;go_ret;exact ⟨by rw [hv.out];rfl,hb4⟩
  have q9:Hid (0<=t.top/\t.top<=t.bot/\t.bot<=(t.g.length:Int)-1/\¬ (t.top=t.bot/\0<(t.g.length:Int)-1)):=by show _/\_;omega
  clear q7
  by_cases q10:t.full=true/\t.col≠t.gc-1
  case pos =>
   obtain ⟨qa,qb⟩:=q10
   have hv:Hid (rv=false):=by
    show _=_;rw [hrv.out];unfold termOkB
    rw [decide_eq_false (p:=t.full=true->_) (fun h=>qb (h qa))];simp
   have qbb:(t.col != t.gc-1)=true:=by simp [qb]
   rw [qa] at c13
   clear qb qa;go_wp2;go_ret;exact ⟨by rw [hv.out];rfl,hb4⟩
  have q11:Hid (t.full=true->t.col=t.gc-1):=fun h=>by
   by_cases hq:t.col=t.gc-1
   ·exact hq
   ·exact absurd ⟨h,hq⟩ q10
  clear q10;obtain ⟨fu,hfu⟩:∃ fu,Hid (t.full=fu):=⟨_,rfl⟩;rw [hfu.out] at c13
  cases fu
  case false =>
   go_wp2_with fail;refine (cS _).mono ?_;rintro e w6 ⟨rfl,hb⟩;have hb6:=hb4.trans (hb.mono hb4.size);replace hB:=hB.below hb;clear c0 c1 c2 c3 c4 c5 c6 c7 c8 c9 c10 c11 c12 c13 c14 c15 c16 c17 c18 c19 c20 c21 c22 c23 c24 c25 c26 c27 c28 c29;clear hb hb4;obtain ⟨c0,c1,c2,c3,c4,c5,c6,c7,c8,c9,c10,c11,c12,c13,c14,c15,c16,c17,c18,c19,c20,c21,c22,c23,c24,c25,c26,c27,c28,c29⟩:=hB.cells
   cases bS
   case false =>
    have hv:Hid (rv=false):=by show _=_;rw [hrv.out];unfold termOkB;simp [eS.out]
    go_wp2;go_ret;exact ⟨by rw [hv.out];rfl,hb6⟩
   go_wp2_with fail;refine (cSs _).mono ?_;rintro e w7 ⟨rfl,hb⟩;have hb7:=hb6.trans (hb.mono hb6.size);replace hB:=hB.below hb;clear c0 c1 c2 c3 c4 c5 c6 c7 c8 c9 c10 c11 c12 c13 c14 c15 c16 c17 c18 c19 c20 c21 c22 c23 c24 c25 c26 c27 c28 c29;clear hb hb6;obtain ⟨c0,c1,c2,c3,c4,c5,c6,c7,c8,c9,c10,c11,c12,c13,c14,c15,c16,c17,c18,c19,c20,c21,c22,c23,c24,c25,c26,c27,c28,c29⟩:=hB.cells
   cases bSs
   case false =>
    have hv:Hid (rv=false):=by show _=_;rw [hrv.out];unfold termOkB;simp [eSs.out]
    go_wp2;go_ret;exact ⟨by rw [hv.out];rfl,hb7⟩
   go_wp2_with fail;refine (cT _ (hti.below hb7).l.sl).mono ?_;rintro e w8 ⟨rfl,hw⟩;subst hw
   cases bT
   case false =>
    have hv:Hid (rv=false):=by show _=_;rw [hrv.out];unfold termOkB;rw [eT.out];simp
    go_wp2;go_ret;exact ⟨by rw [hv.out];rfl,hb7⟩
   go_wp2_with fail;refine (cP _ (hpp.below hb7).l.sl (hpt.below hb7).l.sl).mono ?_;rintro e w9 ⟨rfl,hb⟩;have hb9:=hb7.trans (hb.mono hb7.size);replace hB:=hB.below hb;clear c0 c1 c2 c3 c4 c5 c6 c7 c8 c9 c10 c11 c12 c13 c14 c15 c16 c17 c18 c19 c20 c21 c22 c23 c24 c25 c26 c27 c28 c29;clear hb hb7;obtain ⟨c0,c1,c2,c3,c4,c5,c6,c7,c8,c9,c10,c11,c12,c13,c14,c15,c16,c17,c18,c19,c20,c21,c22,c23,c24,c25,c26,c27,c28,c29⟩:=hB.cells
   cases bP
   case false =>
    have hv:Hid (rv=false):=by show _=_;rw [hrv.out];unfold termOkB;simp [eP.out]
    go_wp2;go_ret;exact ⟨by rw [hv.out];rfl,hb9⟩
   go_wp2_with fail;refine (cF _).mono ?_;rintro e w10 ⟨rfl,hb⟩;have hb10:=hb9.trans (hb.mono hb9.size);have hv:Hid (rv=bF):=by show _=_;rw [hrv.out];unfold termOkB;rw [eG.out,eO.out,decide_eq_true q3h.out,decide_eq_true q4h.out,eC.out,eD.out,decide_eq_true q9.out,decide_eq_true q11.out,eS.out,eSs.out,eT.out,eP.out,eF.out];simp
   go_wp2;go_ret;exact ⟨by rw [hv.out];rfl,hb10⟩
  case true =>
   have qbb:(t.col != t.gc-1)=false:=by simp [q11.out hfu.out]
   go_wp2_with fail;refine (cS _).mono ?_;rintro e w6 ⟨rfl,hb⟩;have hb6:=hb4.trans (hb.mono hb4.size);replace hB:=hB.below hb;clear c0 c1 c2 c3 c4 c5 c6 c7 c8 c9 c10 c11 c12 c13 c14 c15 c16 c17 c18 c19 c20 c21 c22 c23 c24 c25 c26 c27 c28 c29;clear hb hb4;obtain ⟨c0,c1,c2,c3,c4,c5,c6,c7,c8,c9,c10,c11,c12,c13,c14,c15,c16,c17,c18,c19,c20,c21,c22,c23,c24,c25,c26,c27,c28,c29⟩:=hB.cells
   cases bS
   case false =>
    have hv:Hid (rv=false):=by show _=_;rw [hrv.out];unfold termOkB;simp [eS.out]
    go_wp2;go_ret;exact ⟨by rw [hv.out];rfl,hb6⟩
   go_wp2_with fail;refine (cSs _).mono ?_;rintro e w7 ⟨rfl,hb⟩;have hb7:=hb6.trans (hb.mono hb6.size);replace hB:=hB.below hb;clear c0 c1 c2 c3 c4 c5 c6 c7 c8 c9 c10 c11 c12 c13 c14 c15 c16 c17 c18 c19 c20 c21 c22 c23 c24 c25 c26 c27 c28 c29;clear hb hb6;obtain ⟨c0,c1,c2,c3,c4,c5,c6,c7,c8,c9,c10,c11,c12,c13,c14,c15,c16,c17,c18,c19,c20,c21,c22,c23,c24,c25,c26,c27,c28,c29⟩:=hB.cells
   cases bSs
   case false =>
    have hv:Hid (rv=false):=by show _=_;rw [hrv.out];unfold termOkB;simp [eSs.out]
    go_wp2;go_ret;exact ⟨by rw [hv.out];rfl,hb7⟩
   go_wp2_with fail;refine (cT _ (hti.below hb7).l.sl).mono ?_;rintro e w8 ⟨rfl,hw⟩;subst hw
   cases bT
   case false =>
    have hv:Hid (rv=false):=by show _=_;rw [hrv.out];unfold termOkB;rw [eT.out];simp
    go_wp2;go_ret;exact ⟨by rw [hv.out];rfl,hb7⟩
   go_wp2_with fail;refine (cP _ (hpp.below hb7).l.sl (hpt.below hb7).l.sl).mono ?_;rintro e w9 ⟨rfl,hb⟩;have hb9:=hb7.trans (hb.mono hb7.size);replace hB:=hB.below hb;clear c0 c1 c2 c3 c4 c5 c6 c7 c8 c9 c10 c11 c12 c13 c14 c15 c16 c17 c18 c19 c20 c21 c22 c23 c24 c25 c26 c27 c28 c29;clear hb hb7;obtain ⟨c0,c1,c2,c3,c4,c5,c6,c7,c8,c9,c10,c11,c12,c13,c14,c15,c16,c17,c18,c19,c20,c21,c22,c23,c24,c25,c26,c27,c28,c29⟩:=hB.cells
   cases bP
   case false =>
    have hv:Hid (rv=false):=by show _=_;rw [hrv.out];unfold termOkB;simp [eP.out]
    go_wp2;go_ret;exact ⟨by rw [hv.out];rfl,hb9⟩
   go_wp2_with fail;refine (cF _).mono ?_;rintro e w10 ⟨rfl,hb⟩;have hb10:=hb9.trans (hb.mono hb9.size);have hv:Hid (rv=bF):=by show _=_;rw [hrv.out];unfold termOkB;rw [eG.out,eO.out,decide_eq_true q3h.out,decide_eq_true q4h.out,eC.out,eD.out,decide_eq_true q9.out,decide_eq_true q11.out,eS.out,eSs.out,eT.out,eP.out,eF.out];simp
   go_wp2;go_ret;exact ⟨by rw [hv.out];rfl,hb10⟩
 have q7b:(t.top==t.bot)=false:=by simp [q7]
 have q9:Hid (0<=t.top/\t.top<=t.bot/\t.bot<=(t.g.length:Int)-1/\¬ (t.top=t.bot/\0<(t.g.length:Int)-1)):=by show _/\_;omega
 by_cases q10:t.full=true/\t.col≠t.gc-1
 case pos =>
  obtain ⟨qa,qb⟩:=q10
  have hv:Hid (rv=false):=by
   show _=_;rw [hrv.out];unfold termOkB
   rw [decide_eq_false (p:=t.full=true->_) (fun h=>qb (h qa))];simp
  have qbb:(t.col != t.gc-1)=true:=by simp [qb]
  rw [qa] at c13
  clear qb qa;go_wp2;go_ret;exact ⟨by rw [hv.out];rfl,hb4⟩
 have q11:Hid (t.full=true->t.col=t.gc-1):=fun h=>by
  by_cases hq:t.col=t.gc-1
  ·exact hq
  ·exact absurd ⟨h,hq⟩ q10
 clear q10;obtain ⟨fu,hfu⟩:∃ fu,Hid (t.full=fu):=⟨_,rfl⟩;rw [hfu.out] at c13
 cases fu
 case false =>
  go_wp2_with fail;refine (cS _).mono ?_;rintro e w6 ⟨rfl,hb⟩;have hb6:=hb4.trans (hb.mono hb4.size);replace hB:=hB.below hb;clear c0 c1 c2 c3 c4 c5 c6 c7 c8 c9 c10 c11 c12 c13 c14 c15 c16 c17 c18 c19 c20 c21 c22 c23 c24 c25 c26 c27 c28 c29;clear hb hb4;obtain ⟨c0,c1,c2,c3,c4,c5,c6,c7,c8,c9,c10,c11,c12,c13,c14,c15,c16,c17,c18,c19,c20,c21,c22,c23,c24,c25,c26,c27,c28,c29⟩:=hB.cells
  cases bS
  case false =>
   have hv:Hid (rv=false):=by show _=_;rw [hrv.out];unfold termOkB;simp [eS.out]
   go_wp2;go_ret;exact ⟨by rw [hv.out];rfl,hb6⟩
  go_wp2_with fail;refine (cSs _).mono ?_;rintro e w7 ⟨rfl,hb⟩;have hb7:=hb6.trans (hb.mono hb6.size);replace hB:=hB.below hb;clear c0 c1 c2 c3 c4 c5 c6 c7 c8 c9 c10 c11 c12 c13 c14 c15 c16 c17 c18 c19 c20 c21 c22 c23 c24 c25 c26 c27 c28 c29;clear hb hb6;obtain ⟨c0,c1,c2,c3,c4,c5,c6,c7,c8,c9,c10,c11,c12,c13,c14,c15,c16,c17,c18,c19,c20,c21,c22,c23,c24,c25,c26,c27,c28,c29⟩:=hB.cells
  cases bSs
  case false =>
   have hv:Hid (rv=false):=by show _=_;rw [hrv.out];unfold termOkB;simp [eSs.out]
   go_wp2;go_ret;exact ⟨by rw [hv.out];rfl,hb7⟩
  go_wp2_with fail;refine (cT _ (hti.below hb7).l.sl).mono ?_;rintro e w8 ⟨rfl,hw⟩;subst hw
  cases bT
  case false =>
   have hv:Hid (rv=false):=by show _=_;rw [hrv.out];unfold termOkB;rw [eT.out];simp
   go_wp2;go_ret;exact ⟨by rw [hv.out];rfl,hb7⟩
  go_wp2_with fail;refine (cP _ (hpp.below hb7).l.sl (hpt.below hb7).l.sl).mono ?_;rintro e w9 ⟨rfl,hb⟩;have hb9:=hb7.trans (hb.mono hb7.size);replace hB:=hB.below hb;clear c0 c1 c2 c3 c4 c5 c6 c7 c8 c9 c10 c11 c12 c13 c14 c15 c16 c17 c18 c19 c20 c21 c22 c23 c24 c25 c26 c27 c28 c29;clear hb hb7;obtain ⟨c0,c1,c2,c3,c4,c5,c6,c7,c8,c9,c10,c11,c12,c13,c14,c15,c16,c17,c18,c19,c20,c21,c22,c23,c24,c25,c26,c27,c28,c29⟩:=hB.cells
  cases bP
  case false =>
   have hv:Hid (rv=false):=by show _=_;rw [hrv.out];unfold termOkB;simp [eP.out]
   go_wp2;go_ret;exact ⟨by rw [hv.out];rfl,hb9⟩
  go_wp2_with fail;refine (cF _).mono ?_;rintro e w10 ⟨rfl,hb⟩;have hb10:=hb9.trans (hb.mono hb9.size);have hv:Hid (rv=bF):=by show _=_;rw [hrv.out];unfold termOkB;rw [eG.out,eO.out,decide_eq_true q3h.out,decide_eq_true q4h.out,eC.out,eD.out,decide_eq_true q9.out,decide_eq_true q11.out,eS.out,eSs.out,eT.out,eP.out,eF.out];simp
  go_wp2;go_ret;exact ⟨by rw [hv.out];rfl,hb10⟩
 case true =>
  have qbb:(t.col != t.gc-1)=false:=by simp [q11.out hfu.out]
  go_wp2_with fail;refine (cS _).mono ?_;rintro e w6 ⟨rfl,hb⟩;have hb6:=hb4.trans (hb.mono hb4.size);replace hB:=hB.below hb;clear c0 c1 c2 c3 c4 c5 c6 c7 c8 c9 c10 c11 c12 c13 c14 c15 c16 c17 c18 c19 c20 c21 c22 c23 c24 c25 c26 c27 c28 c29;clear hb hb4;obtain ⟨c0,c1,c2,c3,c4,c5,c6,c7,c8,c9,c10,c11,c12,c13,c14,c15,c16,c17,c18,c19,c20,c21,c22,c23,c24,c25,c26,c27,c28,c29⟩:=hB.cells
  cases bS
  case false =>
   have hv:Hid (rv=false):=by show _=_;rw [hrv.out];unfold termOkB;simp [eS.out]
   go_wp2;go_ret;exact ⟨by rw [hv.out];rfl,hb6⟩
  go_wp2_with fail;refine (cSs _).mono ?_;rintro e w7 ⟨rfl,hb⟩;have hb7:=hb6.trans (hb.mono hb6.size);replace hB:=hB.below hb;clear c0 c1 c2 c3 c4 c5 c6 c7 c8 c9 c10 c11 c12 c13 c14 c15 c16 c17 c18 c19 c20 c21 c22 c23 c24 c25 c26 c27 c28 c29;clear hb hb6;obtain ⟨c0,c1,c2,c3,c4,c5,c6,c7,c8,c9,c10,c11,c12,c13,c14,c15,c16,c17,c18,c19,c20,c21,c22,c23,c24,c25,c26,c27,c28,c29⟩:=hB.cells
  cases bSs
  case false =>
   have hv:Hid (rv=false):=by show _=_;rw [hrv.out];unfold termOkB;simp [eSs.out]
   go_wp2;go_ret;exact ⟨by rw [hv.out];rfl,hb7⟩
  go_wp2_with fail;refine (cT _ (hti.below hb7).l.sl).mono ?_;rintro e w8 ⟨rfl,hw⟩;subst hw
  cases bT
  case false =>
   have hv:Hid (rv=false):=by show _=_;rw [hrv.out];unfold termOkB;rw [eT.out];simp
   go_wp2;go_ret;exact ⟨by rw [hv.out];rfl,hb7⟩
  go_wp2_with fail;refine (cP _ (hpp.below hb7).l.sl (hpt.below hb7).l.sl).mono ?_;rintro e w9 ⟨rfl,hb⟩;have hb9:=hb7.trans (hb.mono hb7.size);replace hB:=hB.below hb;clear c0 c1 c2 c3 c4 c5 c6 c7 c8 c9 c10 c11 c12 c13 c14 c15 c16 c17 c18 c19 c20 c21 c22 c23 c24 c25 c26 c27 c28 c29;clear hb hb7;obtain ⟨c0,c1,c2,c3,c4,c5,c6,c7,c8,c9,c10,c11,c12,c13,c14,c15,c16,c17,c18,c19,c20,c21,c22,c23,c24,c25,c26,c27,c28,c29⟩:=hB.cells
  cases bP
  case false =>
   have hv:Hid (rv=false):=by show _=_;rw [hrv.out];unfold termOkB;simp [eP.out]
   go_wp2;go_ret;exact ⟨by rw [hv.out];rfl,hb9⟩
  go_wp2_with fail;refine (cF _).mono ?_;rintro e w10 ⟨rfl,hb⟩;have hb10:=hb9.trans (hb.mono hb9.size);have hv:Hid (rv=bF):=by show _=_;rw [hrv.out];unfold termOkB;rw [eG.out,eO.out,decide_eq_true q3h.out,decide_eq_true q4h.out,eC.out,eD.out,decide_eq_true q9.out,decide_eq_true q11.out,eS.out,eSs.out,eT.out,eP.out,eF.out];simp
  go_wp2;go_ret;exact ⟨by rw [hv.out];rfl,hb10⟩
theorem termOk_sizes {t:Te} (h:termOkB t=true):∃ gc:Nat,t.gc=gc/\t.oc=gc/\gridOkB (gc:Int) t.g=true/\gridOkB (gc:Int) t.o=true/\(0<=t.row/\t.row<=30)/\RtT t:=by
 unfold termOkB cellB okV at h;simp only [Bool.and_eq_true,decide_eq_true_eq] at h;obtain ⟨⟨h1,h2,h3,h4⟩,⟨⟨⟨r1,r2⟩,r3⟩,_⟩,_,_,_,⟨h5,_⟩,⟨⟨⟨_,_,h6,_,h7,_⟩,_⟩,_⟩,_⟩:=h;have q:=((gridOk_iff _ _).1 h1).1;obtain ⟨gc,hgc⟩:∃ k:Nat,t.gc=k:=⟨t.gc.toNat,by omega⟩;have hoc:t.oc=gc:=by rw [<- h3,hgc]
 rw [hgc] at h1
 rw [hoc] at h2
 obtain ⟨⟨g1,g2⟩,gl,gx⟩:=gridOk_rows h1;obtain ⟨_,ol,ox⟩:=gridOk_rows h2;exact ⟨gc,hgc,hoc,h1,h2,⟨r1,by omega⟩,gl,fun i hi=>by rw [(gx i hi).1];exact ⟨g1,g2⟩,ol,fun i hi=>by rw [(ox i hi).1];exact ⟨g1,g2⟩,h5,h6,h7⟩
theorem clear_in {l:List Ce} (a b:Nat) (s:St) (hb:b<=l.length) (i:Nat) (h1:a<=i) (h2:i<b):atC (clearL l a b s) i=blankC s:=by
 have e:atC (fillUp l a b s) i=blankC s:=by rw [fill_at _ _ _ _ _ hb,if_pos ⟨h1,h2⟩]
 rw [clearL,mendV_all,mendC]
 have:¬ aloneB (fillUp l a b s) i=true:=by rw [alone_iff,e];simp [blankC]
 rw [if_neg this,e]
end Go.Proofs.YtgcnmjjlmcnllaaGreatDoor
