import Derived.Test.YtfpopnkhmjkdlaaGreatDoorP40
import Derived.Test.YtfpopnkhmjkdlaaGreatDoorP41
import Derived.Test.YtfpopnkhmjkdlaaGreatDoorP42
set_option maxRecDepth 20000
set_option maxHeartbeats 16000000
namespace Go.Proofs.YtfpopnkhmjkdlaaGreatDoor
open Go.ChangeShapes Go.WideShapes Go.ChangeAt Go.RowKit
theorem Xa6 (k r m:Int) (pv x:Value) (ps xs:List Int) (w:World) (hp:SlN w pv ps) (hx:SlN w x xs) (hl:ps.length<=1048576) (ht:xs.length<=1048576) :
  Calls Tryz.prog 48 #[.agg (acA k r pv m x)] w fun e w'=>e=.returned (.bool (decide (1<=k/\k<=5) && Jw ⟨k,r,ps,m,xs⟩))/\Below w.heap.size w w':=by
 obtain ⟨W,hW⟩:∃ W,W=w.alloc (Obj.cells #[.int .i64 k,.int .i64 r,pv,.int .i64 m,x] 37):=⟨_,rfl⟩;have hb0:Below w.heap.size w W:=by rw [hW];exact Xd _ _
 have hA:Xj W w.heap.size 37 [.int .i64 k,.int .i64 r,pv,.int .i64 m,x]:=by rw [hW];exact heap_alloc_new w _
 have a0:W.cell? ⟨w.heap.size,0,none⟩=some (.int .i64 k):=cAl hA 0;have a1:W.cell? ⟨w.heap.size,1,none⟩=some (.int .i64 r):=cAl hA 1;have a2:W.cell? ⟨w.heap.size,2,none⟩=some pv:=cAl hA 2;have a3:W.cell? ⟨w.heap.size,3,none⟩=some (.int .i64 m):=cAl hA 3;have a4:W.cell? ⟨w.heap.size,4,none⟩=some x:=cAl hA 4;have hRu:=iRo r W;have hPa:=UB pv ps W (hp.below hb0).si (by omega);have hMk:=Q3 m W;have hTi:=JU x xs W (hx.below hb0).si (by omega);obtain ⟨rv,hrv⟩:∃ rv,Hid (rv=(decide (1<=k/\k<=5) && Jw ⟨k,r,ps,m,xs⟩)):=⟨_,rfl⟩;rw [<- hrv.out]
 have hval:Hid (rv=(decide (1<=k/\k<=5) && (Xh r && ((XX ps && decide (ps.length<=16)) && (decide (m=0\/m=63) && (decide (xs.length<=40) && XZ xs)))))):=by
  show _=_
  rw [hrv.out]
  unfold Jw;rw [Bool.eq_iff_iff]
  simp only [Bool.and_eq_true,decide_eq_true_eq]
  constructor
  ·rintro ⟨b1,b2,b3,b4,b5,b6⟩;exact ⟨b1,b2,⟨b6,b3⟩,b4,b5⟩
  ·rintro ⟨b1,b2,⟨b6,b3⟩,b4,b5⟩;exact ⟨b1,b2,b3,b4,b5,b6⟩
 replace hW:=(show Hid _ from hW);obtain ⟨pa,pc,rfl⟩:=hp.shp;obtain ⟨xa,xc,rfl⟩:=hx.shp;generalize (XX ps && decide (ps.length<=16))=qp at *;generalize (decide (xs.length<=40) && XZ xs)=qt at *;generalize decide (m=0\/m=63)=mk at *;generalize Xh r=ru at *;clear hrv hp hx hl ht hA;unfold acA
 by_cases k1:1<=k
 case neg =>
  obtain rfl:rv=false:=by rw [hval.out,decide_eq_false (fun e=>k1 e.1)];rfl
  have q1:decide (1<=k)=false:=decide_eq_false k1;clear hRu hPa hMk hTi hval;go_enter Tryz.func48,Tryz.ntmps48;refine wp_seq_k (fun K hK=>?_);have hH:=(show Hid _ from hK);clear hK;go_wp2;refine hH.out _ _ ?_;rw [<- hW.out]
  clear hH hW;go_wp2;go_ret;exact ⟨rfl,hb0⟩
 by_cases k5:k<=5
 case neg =>
  obtain rfl:rv=false:=by rw [hval.out,decide_eq_false (fun e=>k5 e.2)];rfl
  have q1:decide (1<=k)=true:=decide_eq_true k1;have q5:decide (k<=5)=false:=decide_eq_false k5;clear hRu hPa hMk hTi hval;go_enter Tryz.func48,Tryz.ntmps48;refine wp_seq_k (fun K hK=>?_);have hH:=(show Hid _ from hK);clear hK;go_wp2;refine hH.out _ _ ?_;rw [<- hW.out]
  clear hH hW;go_wp2;go_ret;exact ⟨rfl,hb0⟩
 have q1:decide (1<=k)=true:=decide_eq_true k1;have q5:decide (k<=5)=true:=decide_eq_true k5
 replace hval:Hid (rv=(ru && (qp && (mk && qt)))):=by
  show _=_
  rw [hval.out,decide_eq_true ⟨k1,k5⟩,Bool.true_and]
 go_enter Tryz.func48,Tryz.ntmps48;refine wp_seq_k (fun K hK=>?_);have hH:=(show Hid _ from hK);clear hK;go_wp2;refine hH.out _ _ ?_;rw [<- hW.out]
 clear hH hW;go_wp2_with fail;refine hRu.mono ?_;rintro e w1 ⟨rfl,hw⟩;subst hw;clear hRu
 cases ru
 case false =>
  obtain rfl:rv=false:=hval.out;clear hval hPa hMk hTi;go_wp2;go_ret;exact ⟨rfl,hb0⟩
 go_wp2_with fail;refine hPa.mono ?_;rintro e w1 ⟨rfl,hw⟩;subst hw;clear hPa
 cases qp
 case false =>
  obtain rfl:rv=false:=hval.out;clear hval hMk hTi;go_wp2;go_ret;exact ⟨rfl,hb0⟩
 go_wp2_with fail;refine hMk.mono ?_;rintro e w1 ⟨rfl,hw⟩;subst hw;clear hMk
 cases mk
 case false =>
  obtain rfl:rv=false:=hval.out;clear hval hTi;go_wp2;go_ret;exact ⟨rfl,hb0⟩
 go_wp2_with fail;refine hTi.mono ?_;rintro e w1 ⟨rfl,hw⟩;subst hw;clear hTi;obtain rfl:rv=qt:=hval.out;clear hval;go_wp2;go_ret;exact ⟨rfl,hb0⟩
theorem JK (t:Te):(Xm t).pa=t.pa:=by unfold Xm XH;(split;rfl;split<;>rfl)
theorem Xfj (t:Te) (r:Int):(XJ t r).pa=t.pa:=by
 by_cases h:wdV r=0\/t.gc<wdV r
 ·unfold XJ;rw [if_pos h]
 ·have hw:=XG r
  rw [YC t r (by omega) (by omega)]
  have e1:(p1T t).pa=t.pa:=by unfold p1T;split;rw [JK];rfl
  have e2:(p2T (p1T t) t.gc r).pa=(p1T t).pa:=by
   unfold p2T;split
   ·split
    ·rw [JK]
    ·rfl
   ·rfl
  have e3:(p3T (p2T (p1T t) t.gc r) t.gc r).pa=(p2T (p1T t) t.gc r).pa:=by unfold p3T;split<;>rfl
  rw [e3,e2,e1]
theorem Xb3 (t:Te) (r:Int):(XL t r).pa=t.pa:=by
 unfold XL;split
 ·rfl
 split
 ·rfl
 split
 ·exact JK t
 split<;>rfl
theorem Xc7 (t:Te) (r:Int):(X2 t r).pa=t.pa:=by
 unfold X2;split
 ·exact JK t
 split
 ·exact JK t
 split
 ·split<;>rfl
 split
 ·rfl
 split
 ·rfl
 split<;>rfl
theorem tEi {c:Prop} [Decidable c] {a b:Te} {p:Pa} (h1:a.pa=p) (h2:b.pa=p):(if c then a else b).pa=p:=by split<;>assumption
theorem Xb8 (t:Te) (how:Int):(Zf t how).pa=t.pa:=tEi rfl (tEi rfl (tEi rfl rfl))
theorem XgC (t:Te) (r:Int) (p:List Int):(Xi t r p).pa=t.pa:=by
 refine tEi rfl (tEi rfl (tEi rfl (tEi rfl (tEi rfl (tEi rfl (tEi rfl (tEi rfl (tEi ?_ (tEi ?_ (tEi rfl (tEi rfl (tEi rfl (tEi rfl (tEi rfl (tEi rfl (tEi ?_ rfl))))))))))))))))
 ·exact Xb8 _ _
 ·exact tEi rfl rfl
 ·exact tEi rfl rfl
theorem XgF (on:Bool) (t:Te) (m:Int):(XA on t m).pa=t.pa:=tEi rfl (tEi rfl (tEi (tEi rfl rfl) rfl))
theorem Xcz (on:Bool):∀ (p:List Int) (t:Te),(p.foldl (XA on) t).pa=t.pa
 | [],_=>rfl
 | m::p,t=>(Xcz on p (XA on t m)).trans (XgF on t m)
theorem XhJ (t:Te) (a:Ac):(doT t a).pa=t.pa :=
 tEi (Xfj _ _) (tEi (Xb3 _ _) (tEi (Xc7 _ _) (tEi (tEi (XgC _ _ _) (tEi (Xcz _ _ _) rfl)) (tEi rfl rfl))))
theorem XhC {t:Te} {p:Pa} (h:t.pa=p):({ t with pa:=p }:Te)=t:=by subst h;rfl
theorem Xhc (t:Te) (a:Ac) (h:¬ (1<=a.kind/\a.kind<=5)):doT t a=t:=by
 unfold doT;rw [if_neg (by omega),if_neg (by omega),if_neg (by omega),if_neg (by omega),if_neg (by omega)]
def doR (t:Te) (a:Ac):Te:=if Xk t=true then (if Jw a=true then doT t a else t) else teZ
theorem Xde (t:Te) (v:Tv) (a:Ac) (pv x:Value) (w:World) (hSp:Xo w) (h:SlT w t v) (hz:SzT 1048576 t) (hp:SlN w pv a.params) (hx:SlN w x a.text) (hl:a.params.length<=1048576) (ht:a.text.length<=1048576) (hpb:∀ g,pv.ownBlock=some g->g<w.heap.size) :
  Calls Tryz.prog 10 #[.agg (Xg t v),.agg (acA a.kind a.rune pv a.mark x)] w fun e w'=>∃ v' vg vo,e=.returned (.agg (Xg (doR t a) v'))/\Y2 w' w.heap.size (doR t a) v' vg vo/\Below w.heap.size w w':=by
 obtain ⟨Rt,eR⟩:∃ R,Hid (doR t a=R):=⟨_,rfl⟩;rw [eR.out]
 obtain ⟨w3,hw3⟩:∃ w3,w3=((w.alloc (Obj.cells (Xg t v) 35)).alloc (Obj.cells (acA a.kind a.rune pv a.mark x) 37)).alloc (Obj.cells #[.int .i64 0,.slice none 0 0,.int .i64 0,.slice none 0 0,.int .i64 0,.int .i64 0,.int .i64 0,.int .i64 0,.bool false,.bool false,.bool false,.int .i64 0,.int .i64 0,.bool false,.bool false,.bool false,.bool false,.int .i64 0,.int .i64 0,.int .i64 0,.int .i64 0,.bool false,.bool false,.bool false,.slice none 0 0,.int .i64 0,.slice none 0 0,.int .i64 0,.slice none 0 0,.string ⟨#[]⟩] 35):=⟨_,rfl⟩;have b1:=Xd w (Obj.cells (Xg t v) 35);have b2:=Xd (w.alloc (Obj.cells (Xg t v) 35)) (Obj.cells (acA a.kind a.rune pv a.mark x) 37);have b3:=Xd ((w.alloc (Obj.cells (Xg t v) 35)).alloc (Obj.cells (acA a.kind a.rune pv a.mark x) 37)) (Obj.cells #[.int .i64 0,.slice none 0 0,.int .i64 0,.slice none 0 0,.int .i64 0,.int .i64 0,.int .i64 0,.int .i64 0,.bool false,.bool false,.bool false,.int .i64 0,.int .i64 0,.bool false,.bool false,.bool false,.bool false,.int .i64 0,.int .i64 0,.int .i64 0,.int .i64 0,.bool false,.bool false,.bool false,.slice none 0 0,.int .i64 0,.slice none 0 0,.int .i64 0,.slice none 0 0,.string ⟨#[]⟩] 35);have hX:=((TeB.new w 35 t v).below b2).below b3;have hA:=Xj.below (Xj.new (w.alloc (Obj.cells (Xg t v) 35)) 37 (acA a.kind a.rune pv a.mark x).toList) b3;have hR:=TB.new ((w.alloc (Obj.cells (Xg t v) 35)).alloc (Obj.cells (acA a.kind a.rune pv a.mark x) 37)) [.int .i64 0,.slice none 0 0,.int .i64 0,.slice none 0 0,.int .i64 0,.int .i64 0,.int .i64 0,.int .i64 0,.bool false,.bool false,.bool false,.int .i64 0,.int .i64 0,.bool false,.bool false,.bool false,.bool false,.int .i64 0,.int .i64 0,.int .i64 0,.int .i64 0,.bool false,.bool false,.bool false,.slice none 0 0,.int .i64 0,.slice none 0 0,.int .i64 0,.slice none 0 0,.string ⟨#[]⟩];have z1:(w.alloc (Obj.cells (Xg t v) 35)).heap.size=w.heap.size+1:=by simp
 have z2:((w.alloc (Obj.cells (Xg t v) 35)).alloc (Obj.cells (acA a.kind a.rune pv a.mark x) 37)).heap.size=w.heap.size+2:=by simp
 have kb:=(b1.trans (b2.mono b1.size)).trans (b3.mono (b1.trans (b2.mono b1.size)).size);rw [z1] at hA
 rw [z2] at hR
 rw [<- hw3] at kb
 replace hX:TeB w3 w.heap.size 35 t v:=by rw [hw3];exact hX
 replace hA:Xj w3 (w.heap.size+1) 37 [.int .i64 a.kind,.int .i64 a.rune,pv,.int .i64 a.mark,x]:=by rw [hw3];exact hA
 replace hR:TB w3 (w.heap.size+2) [.int .i64 0,.slice none 0 0,.int .i64 0,.slice none 0 0,.int .i64 0,.int .i64 0,.int .i64 0,.int .i64 0,.bool false,.bool false,.bool false,.int .i64 0,.int .i64 0,.bool false,.bool false,.bool false,.bool false,.int .i64 0,.int .i64 0,.int .i64 0,.int .i64 0,.bool false,.bool false,.bool false,.slice none 0 0,.int .i64 0,.slice none 0 0,.int .i64 0,.slice none 0 0,.string ⟨#[]⟩]:=by rw [hw3];exact hR
 replace hw3:=(show Hid _ from hw3);have hT:=QR t v w3 (h.below kb) (hSp.below kb hSp.lt) hz;obtain ⟨bT,eT⟩:∃ b,Hid (Xk t=b):=⟨_,rfl⟩;rw [eT.out] at hT
 unfold teV at hT;unfold acA at hw3 ⊢
 clear b1 b2 b3 z1 z2;go_enter Tryz.func10,Tryz.ntmps10;refine wp_seq_k (fun K hK=>?_);have hH:=(show Hid _ from hK);clear hK;go_wp2;refine hH.out _ _ ?_;rw [<- hw3.out]
 clear hH hw3;go_wp2_with (refine Yk hX (by rfl) _ (by rfl) (by rfl) ?_);refine hT.mono ?_;rintro e w4 ⟨rfl,hb⟩;clear hT;replace kb:=kb.trans (hb.mono kb.size);replace hX:=hX.below hb;replace hA:=hA.below hb;replace hR:=Xj.below hR hb;clear hb
 cases bT
 case false =>
  obtain rfl:Rt=teZ:=by rw [<- eR.out];unfold doR;rw [if_neg (by rw [eT.out];simp)]
  clear hX hA hp hx;go_wp2_with (refine Yh (cs:=(Xg teZ (tvN (.slice none 0 0) (.slice none 0 0)))) (by rfl) 35 _ _ (by rfl) Xr (by rfl) (by rfl) hR (by rfl) (by rfl) ?_;intro w5 hg hR5 hz5);have hO:=RgT.own (show RgT w5 w.heap.size w.heap.size w.heap.size w.heap.size teZ (tvN (.slice none 0 0) (.slice none 0 0)) from ⟨Ks w5 _ (by have:=kb.size;omega),Ks w5 _ (by have:=kb.size;omega),(XS.nil _ _).nilc.nilc.nilc,Nat.le_refl _,Nat.le_refl _,Nat.le_refl _,by have:=kb.size;omega⟩);obtain ⟨vg,vo,hO⟩:=hO;exact bodyPost_ret (v:=.agg (Xg teZ (tvN (.slice none 0 0) (.slice none 0 0)))) (results_cell_row Tryz.results10 _ _ _ _ _ _ _ rfl hR5 Tryz.underlying35 rfl Xr) rfl ⟨_,vg,vo,rfl,hO,kb.grown hg kb.size (fun g e=>by cases e;omega)⟩
 have hok:=eT.out;have rk:=XdT hok;obtain ⟨gc0,_,_,_,_,_,hRt⟩:=Jo hok
 have hfe:t.fe.size<=281474976710656:=by
  have:=rk.fe
  by_cases h3:t.fe.size<=3
  ·omega
  ·rw [Uf t.fe h3] at this;cases this
 have hsc:=XbL t v w4 (h.below kb) hRt hfe;go_wp2_with (refine Yk hX (by rfl) _ (by rfl) (by rfl) ?_);refine hsc.mono ?_;rintro e w5 ⟨B,v5,vg5,vo5,rfl,hSB,hO5,hBw,hb⟩;have hz4:w.heap.size+3<=w4.heap.size:=by have:=Xj.lt hR;omega
 have kb4:=kb;have hScr:Scr w5 98 (w4.heap.size+1) B [.int .i64 t.pa.state,v5.pp,.int .i64 t.pa.mark,v5.pt,.slice none 0 0,.slice none 0 0] t v5 vg5 vo5:=⟨hSB,hO5,by decide,by decide,by decide,hBw⟩;replace kb:=kb.trans (hb.mono kb.size);replace hA:=hA.below hb;replace hR:=Xj.below hR hb;have hbs5:w4.heap.size+1<=w5.heap.size:=by have:=hScr.lt;omega
 have hao:=Xa6 a.kind a.rune a.mark pv x a.params a.text w5 (hp.below kb) (hx.below kb) hl ht;obtain ⟨bA,eA⟩:∃ b,Hid ((decide (1<=a.kind/\a.kind<=5) && Jw a)=b):=⟨_,rfl⟩;rw [show (decide (1<=a.kind/\a.kind<=5) && Jw ⟨a.kind,a.rune,a.params,a.mark,a.text⟩)=bA from eA.out] at hao
 unfold acA at hao;clear hX hb hsc hSB hO5;have d0:w5.cell? ⟨w.heap.size+1,0,none⟩=some (.int .i64 a.kind):=cAl hA 0;have d1:w5.cell? ⟨w.heap.size+1,1,none⟩=some (.int .i64 a.rune):=cAl hA 1;have d2:w5.cell? ⟨w.heap.size+1,2,none⟩=some pv:=cAl hA 2;have d3:w5.cell? ⟨w.heap.size+1,3,none⟩=some (.int .i64 a.mark):=cAl hA 3;have d4:w5.cell? ⟨w.heap.size+1,4,none⟩=some x:=cAl hA 4;go_wp2_with fail;refine hao.mono ?_;rintro e w6 ⟨rfl,hb⟩;clear d0 d1 d2 d3 d4 hao;replace kb:=kb.trans (hb.mono kb.size);replace hA:=hA.below hb;replace hR:=Xj.below hR hb;replace hScr:=hScr.below hb;have hbs6:=Nat.le_trans hbs5 hb.size;clear hb
 cases bA
 case false =>
  obtain rfl:t=Rt:=by
   symm
   rw [<- eR.out];unfold doR;rw [if_pos hok]
   by_cases hac:Jw a=true
   ·rw [if_pos hac]
    refine Xhc t a (fun hk=>?_);have:=eA.out;rw [decide_eq_true hk,hac] at this
    cases this
   ·rw [if_neg hac]
  have ht2:t.pa=t.pa:=rfl;have hS7:=hScr;clear hScr eA hp hx hA;obtain ⟨ga,gcp,s1⟩:=sGs (SlG.of_own hS7.o.1.g);obtain ⟨oa,ocp,s2⟩:=sGs (SlG.of_own hS7.o.2.1.g);obtain ⟨ta,tcp,s3⟩:=(SlN.of_own hS7.o.2.2.2.head).shp;obtain ⟨pa,pcp,s4⟩:=(SlN.of_own hS7.o.2.2.2.tail.head).shp;obtain ⟨qa,qcp,s5⟩:=(SlN.of_own hS7.o.2.2.2.tail.tail.head).shp;obtain ⟨g7,o7,ti7,pp7,pt7⟩:=v5;simp only at s1 s2 s3 s4 s5;subst s1;subst s2;subst s3;subst s4;subst s5;have hSB7:=hS7.b;have hsn:=XcR B t.pa (.slice none 0 0) (.slice none 0 0) t ga oa ta pa qa _ _ _ _ _ gcp ocp tcp pcp qcp _ _ w6 hSB7;rw [XhC ht2] at hsn
  clear ht2;have hO7:=hS7.o;have hB7:=hS7.b;have hlB:w.heap.size<B:=by have:=kb4.size;omega
  have hne:B≠w.heap.size+2:=by have:=hz4;omega
  have hone:=hO7.sl.one;clear hS7;go_wp2_with fail;refine hsn.mono ?_;rintro e w8 ⟨rfl,hSB8,hg8⟩;have hO8:=hO7.grown hg8 hB7 (by decide) (by decide) (by decide);have hR8:=Xj.kept hR hg8 (fun e=>hne (Option.some.inj e));have kb8:=kb.grown hg8 kb.size (fun g e=>by cases e;omega);clear hsn hg8 hO7 hB7 hR kb;go_wp2_with (refine Yh (cs:=Xg t ⟨.slice ga _ gcp,.slice oa _ ocp,.slice ta _ tcp,.slice pa _ pcp,.slice qa _ qcp⟩) (by rfl) 35 _ _ (by rfl) Xr (by rfl) hone hR8 (by rfl) (by rfl) ?_;intro w9 hg9 hR9 hz9);have hO9:=(hO8.grown hg9 hR8 (by decide) (by decide) (by decide)).low (show w.heap.size<=w4.heap.size+1 by have:=kb4.size;omega);exact bodyPost_ret (v:=.agg (Xg t _)) (results_cell_row Tryz.results10 _ _ _ _ _ _ _ rfl hR9 Tryz.underlying35 rfl Xr) rfl ⟨_,_,_,rfl,hO9,kb8.grown hg9 kb8.size (fun g e=>by cases e;omega)⟩
 obtain ⟨hk,hac⟩:(1<=a.kind/\a.kind<=5)/\Jw a=true:=by
  have:=eA.out;rw [Bool.and_eq_true,decide_eq_true_eq] at this
  exact this
 obtain rfl:Rt=doT t a:=by rw [<- eR.out];unfold doR;rw [if_pos hok,if_pos hac]
 have hap:ApF w6 B v5 vg5 vo5 pv:=fun g e=>⟨by have:=hpb g e;have:=kb.size;omega,fun c=>by have:=hScr.ftb c;have:=hpb g e;have:=kb4.size;omega⟩
 have hdo:=XhK t.gc.toNat t.g.length (w4.heap.size+1) B _ _ _ _ _ _ pv x a t v5 vg5 vo5 w6 (hSp.below kb hSp.lt) (by have:=hSp.lt;have:=kb4.size;omega) hScr hbs6 rk (hp.below kb) (hx.below kb) hap hk hac;have d0:w6.cell? ⟨w.heap.size+1,0,none⟩=some (.int .i64 a.kind):=cAl hA 0;have d1:w6.cell? ⟨w.heap.size+1,1,none⟩=some (.int .i64 a.rune):=cAl hA 1;have d2:w6.cell? ⟨w.heap.size+1,2,none⟩=some pv:=cAl hA 2;have d3:w6.cell? ⟨w.heap.size+1,3,none⟩=some (.int .i64 a.mark):=cAl hA 3;have d4:w6.cell? ⟨w.heap.size+1,4,none⟩=some x:=cAl hA 4;have ht2:=XhJ t a;obtain ⟨T2,hT2⟩:∃ T2,doT t a=T2:=⟨_,rfl⟩;rw [hT2] at ht2 hdo
 unfold acA at hdo;go_wp2_with fail;refine hdo.mono ?_;rintro e w7 ⟨rfl,v7,vg7,vo7,hr7⟩;have hS7:=hr7.s;have hR7:TB w7 (w.heap.size+2) _:=Xj.grp hR hr7.g (fun c=>by have:=hScr.ftb c;omega);have kb7:=kb.trans ((hScr.bel hbs6 hr7).mono (by have:=kb4.size;omega));have hqq:=hr7.p;have hqr:=hr7.q;clear hScr eA hp hx hA hr7 hdo hap hR kb d0 d1 d2 d3 d4;have hq1:=hqq;have hq2:=hqr;obtain ⟨ga,gcp,s1⟩:=sGs (SlG.of_own hS7.o.1.g);obtain ⟨oa,ocp,s2⟩:=sGs (SlG.of_own hS7.o.2.1.g);obtain ⟨ta,tcp,s3⟩:=(SlN.of_own hS7.o.2.2.2.head).shp;obtain ⟨pa,pcp,s4⟩:=(SlN.of_own hS7.o.2.2.2.tail.head).shp;obtain ⟨qa,qcp,s5⟩:=(SlN.of_own hS7.o.2.2.2.tail.tail.head).shp;obtain ⟨g7,o7,ti7,pp7,pt7⟩:=v7;simp only at s1 s2 s3 s4 s5 hq1 hq2;subst s1;subst s2;subst s3;subst s4;subst s5;have hSB7:=hS7.b;rw [<- hq1,<- hq2] at hSB7
 clear hq1 hq2 hqq hqr;have hsn:=XcR B t.pa (.slice none 0 0) (.slice none 0 0) T2 ga oa ta pa qa _ _ _ _ _ gcp ocp tcp pcp qcp _ _ w7 hSB7;rw [XhC ht2] at hsn
 clear ht2;have hO7:=hS7.o;have hB7:=hS7.b;have hlB:w.heap.size<B:=by have:=kb4.size;omega
 have hne:B≠w.heap.size+2:=by have:=hz4;omega
 have hone:=hO7.sl.one;clear hS7;go_wp2_with fail;refine hsn.mono ?_;rintro e w8 ⟨rfl,hSB8,hg8⟩;have hO8:=hO7.grown hg8 hB7 (by decide) (by decide) (by decide);have hR8:=Xj.kept hR7 hg8 (fun e=>hne (Option.some.inj e));have kb8:=kb7.grown hg8 kb7.size (fun g e=>by cases e;omega);clear hsn hg8 hO7 hB7 hR7 kb7;go_wp2_with (refine Yh (cs:=Xg T2 ⟨.slice ga _ gcp,.slice oa _ ocp,.slice ta _ tcp,.slice pa _ pcp,.slice qa _ qcp⟩) (by rfl) 35 _ _ (by rfl) Xr (by rfl) hone hR8 (by rfl) (by rfl) ?_;intro w9 hg9 hR9 hz9);have hO9:=(hO8.grown hg9 hR8 (by decide) (by decide) (by decide)).low (show w.heap.size<=w4.heap.size+1 by have:=kb4.size;omega);subst hT2;exact bodyPost_ret (v:=.agg (Xg (doT t a) _)) (results_cell_row Tryz.results10 _ _ _ _ _ _ _ rfl hR9 Tryz.underlying35 rfl Xr) rfl ⟨_,_,_,rfl,hO9,kb8.grown hg9 kb8.size (fun g e=>by cases e;omega)⟩
theorem Ut (w:World) (n:Nat):Below w.heap.size w (w.drewN n):=⟨rfl,rfl,rfl,Nat.le_refl _,fun _ _=>rfl⟩
theorem Kt (base B:Nat) (u:Te) (v0 v1:Tv) (vg0 vo0 vg1 vo1:List Value) (w0 W:World) (R:List Ce) (g r:Int) (h:Res w0 W 35 base B [] v0 vg0 vo0 (Ka u u.row R) v1 vg1 vo1) (hR:R=X6 (Xb u.g u.row.toNat) u.col.toNat r u.st) (he:g<=u.col+wdV r) (q:Nat) :
  Res w0 ((((W.setCell ⟨B,5,none⟩ (.int .i64 (u.col+wdV r))).drewN q).setCell ⟨B,5,none⟩ (.int .i64 (g-1))).setCell ⟨B,13,none⟩ (.bool true)) 35 base B [] v0 vg0 vo0 (p3T u g r) v1 vg1 vo1:=by
 have hV:p3T u g r={ Ka u u.row R with col:=g-1,full:=true }:=by unfold p3T;rw [if_pos he,hR]
 rw [hV]
 have k1:=h.s.put (sCg B [.int .i64 (u.col+wdV r)] 5 W) { Ka u u.row R with col:=u.col+wdV r } (sCh B 35 [.int .i64 (u.col+wdV r)] 5 W _ h.s.b) rfl rfl rfl rfl rfl;have k2:=k1.below (Ut _ q);have k3:=k2.s.put (sCg B [.int .i64 (g-1)] 5 _) { Ka u u.row R with col:=g-1 } (sCh B 35 [.int .i64 (g-1)] 5 _ _ k2.s.b) rfl rfl rfl rfl rfl;have k4:=k3.s.put (sCg B [.bool true] 13 _) { Ka u u.row R with col:=g-1,full:=true } (sCh B 35 [.bool true] 13 _ _ k3.s.b) rfl rfl rfl rfl rfl;exact ((h.trans k2).trans k3).trans k4
theorem UE (base B:Nat) (u:Te) (v0 v1:Tv) (vg0 vo0 vg1 vo1:List Value) (w0 W:World) (R:List Ce) (g r:Int) (h:Res w0 W 35 base B [] v0 vg0 vo0 (Ka u u.row R) v1 vg1 vo1) (hR:R=X6 (Xb u.g u.row.toNat) u.col.toNat r u.st) (he:¬ g<=u.col+wdV r) (q:Nat) :
  Res w0 ((W.setCell ⟨B,5,none⟩ (.int .i64 (u.col+wdV r))).drewN q) 35 base B [] v0 vg0 vo0 (p3T u g r) v1 vg1 vo1:=by
 have hV:p3T u g r={ Ka u u.row R with col:=u.col+wdV r }:=by unfold p3T;rw [if_neg he,hR]
 rw [hV]
 have k1:=h.s.put (sCg B [.int .i64 (u.col+wdV r)] 5 W) { Ka u u.row R with col:=u.col+wdV r } (sCh B 35 [.int .i64 (u.col+wdV r)] 5 W _ h.s.b) rfl rfl rfl rfl rfl;exact h.trans (k1.below (Ut _ q))
theorem XdD (cn N base B:Nat) (pv:Value) (ps:List Int) (t:Te) (v:Tv) (vg vo:List Value) (w:World) (h:Scr w 35 base B [] t v vg vo) (hbase:base<=w.heap.size) (rt:RtW t cn N) (hp:SlN w pv ps) (hl:ps.length<=1000) (hap:ApF w B v vg vo pv) (hb:∀ x∈ps,0<=x/\x<=9999) (r:Int) :
  Calls Tryz.prog 144 #[.pointer (some ⟨B,0,none⟩),.int .i64 r,pv] w fun e w'=>e=.returned (.tuple #[])/\∃ v' vg' vo',Res w w' 35 base B [] v vg vo (Xi t r ps) v' vg' vo':=by
 by_cases n65:r=65
 ·subst n65;exact XeR cn N base B pv ps t v vg vo w h hbase rt hp hl hap hb
 by_cases n66:r=66
 ·subst n66;exact XeS cn N base B pv ps t v vg vo w h hbase rt hp hl hap hb
 by_cases n67:r=67
 ·subst n67;exact XeT cn N base B pv ps t v vg vo w h hbase rt hp hl hap hb
 by_cases n68:r=68
 ·subst n68;exact XeU cn N base B pv ps t v vg vo w h hbase rt hp hl hap hb
 by_cases n71:r=71
 ·subst n71;exact XeV cn N base B pv ps t v vg vo w h hbase rt hp hl hap hb
 by_cases n100:r=100
 ·subst n100;exact Xdz cn N base B pv ps t v vg vo w h hbase rt hp hl hap hb
 by_cases n72:r=72
 ·subst n72;exact XeW cn N base B pv ps t v vg vo w h hbase rt hp hl hap hb
 by_cases n102:r=102
 ·subst n102;exact XdA cn N base B pv ps t v vg vo w h hbase rt hp hl hap hb
 by_cases n74:r=74
 ·subst n74;exact XeX cn N base B pv ps t v vg vo w h hbase rt hp hl hap hb
 by_cases n75:r=75
 ·subst n75;exact XeY cn N base B pv ps t v vg vo w h hbase rt hp hl hap hb
 by_cases n76:r=76
 ·subst n76;exact XeZ cn N base B pv ps t v vg vo w h hbase rt hp hl hap hb
 by_cases n77:r=77
 ·subst n77;exact Xe0 cn N base B pv ps t v vg vo w h hbase rt hp hl hap hb
 by_cases n64:r=64
 ·subst n64;exact XeQ cn N base B pv ps t v vg vo w h hbase rt hp hl hap hb
 by_cases n80:r=80
 ·subst n80;exact Xe1 cn N base B pv ps t v vg vo w h hbase rt hp hl hap hb
 by_cases n88:r=88
 ·subst n88;exact Xe4 cn N base B pv ps t v vg vo w h hbase rt hp hl hap hb
 by_cases n83:r=83
 ·subst n83;exact Xe2 cn N base B pv ps t v vg vo w h hbase rt hp hl hap hb
 by_cases n84:r=84
 ·subst n84;exact Xe3 cn N base B pv ps t v vg vo w h hbase rt hp hl hap hb
 by_cases n109:r=109
 ·subst n109;exact XdB cn N base B pv ps t v vg vo w h hbase rt hp hl hap hb
 by_cases n114:r=114
 ·subst n114;exact XdC cn N base B pv ps t v vg vo w h hbase rt hp hl hap hb
 exact Xcs cn N base B pv ps t v vg vo w h hbase rt hp hl hap hb r n65 n66 n67 n68 n71 n100 n72 n102 n74 n75 n76 n77 n64 n80 n88 n83 n84 n109 n114
