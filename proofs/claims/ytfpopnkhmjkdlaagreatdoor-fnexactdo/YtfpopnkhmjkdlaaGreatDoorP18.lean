import Derived.Test.YtfpopnkhmjkdlaaGreatDoorP16
import Derived.Test.YtfpopnkhmjkdlaaGreatDoorP17
set_option maxRecDepth 20000
set_option maxHeartbeats 16000000
namespace Go.Proofs.YtfpopnkhmjkdlaaGreatDoor
open Go.ChangeShapes Go.WideShapes Go.ChangeAt Go.RowKit
def RgT (w:World) (base b1 b2 b3:Nat) (t:Te) (v:Tv):Prop:=YE w base b1 v.g t.g/\YE w b1 b2 v.o t.o/\XS w b3 [(v.ti,t.ti),(v.pp,t.pa.params),(v.pt,t.pa.text)]/\base<=b1/\b1<=b2/\b2<=b3/\b3<=w.heap.size
def mkN (t:Te):Nat:=7*Xx t.g t.g.length+7*Xx t.o t.o.length+t.ti.length+t.pa.params.length+t.pa.text.length
def mkT (t:Te):Te:={ t with
 g:=ZU 1 t.g
 o:=ZU (1+7*Xx t.g t.g.length) t.o
 ti:=Ya ((1+7*Xx t.g t.g.length+7*Xx t.o t.o.length:Nat):Int) t.ti.length
 pa:=⟨t.pa.state,Ya ((1+7*Xx t.g t.g.length+7*Xx t.o t.o.length+t.ti.length:Nat):Int) t.pa.params.length,t.pa.mark,Ya ((1+7*Xx t.g t.g.length+7*Xx t.o t.o.length+t.ti.length+t.pa.params.length:Nat):Int) t.pa.text.length⟩ }
theorem Xdd (t:Te) (v:Tv) (w:World) (h:SlT w (mkT t) v) (hs1:Xx t.g t.g.length<=60000) (hs2:Xx t.o t.o.length<=60000) (hl1:t.g.length<=100000) (hl2:t.o.length<=100000) (hti:t.ti.length<=10000) (hpp:t.pa.params.length<=10000) (hpt:t.pa.text.length<=10000) :
  Calls Tryz.prog 36 #[teV t v,.int .i64 1] w fun e w'=>e=.returned (.int .i64 ((1+mkN t:Nat):Int))/\Below w.heap.size w w':=by
 obtain ⟨vg,vo,vti,vpp,vpt⟩:=v;obtain ⟨hg,ho,hT,hP,hQ⟩:=h;simp only [mkT] at hg ho hT hP hQ;have cG:=fun W (hW:SlG W vg (ZU 1 t.g))=>JF t.gc vg 1 t.g W hW (by decide) (by omega) (by omega)
 have cO:=fun W (hW:SlG W vo (ZU (1+7*Xx t.g t.g.length) t.o))=>JF t.oc vo (1+7*Xx t.g t.g.length) t.o W hW (by omega) (by omega) (by omega)
 have cT:=fun W hW=>JG vti ((1+7*Xx t.g t.g.length+7*Xx t.o t.o.length:Nat):Int) t.ti.length W hW ⟨by omega,by omega⟩ (by omega)
 have cP:=fun W h1 h2=>UU ⟨t.pa.state,Ya ((1+7*Xx t.g t.g.length+7*Xx t.o t.o.length+t.ti.length:Nat):Int) t.pa.params.length,t.pa.mark,Ya ((1+7*Xx t.g t.g.length+7*Xx t.o t.o.length+t.ti.length+t.pa.params.length:Nat):Int) t.pa.text.length⟩ vpp vpt (1+7*Xx t.g t.g.length+7*Xx t.o t.o.length+t.ti.length) t.pa.params.length t.pa.text.length W h1 h2 rfl rfl (by omega) (by omega) (by omega)
 obtain ⟨ga,gn,gp,hq1⟩:=Jc hg;obtain ⟨oa,on,op,hq2⟩:=Jc ho;obtain ⟨ta,tp,hq3⟩:=hT.shp;obtain ⟨pa,pp,hq4⟩:=hP.shp;obtain ⟨qa,qp,hq5⟩:=hQ.shp;rw [YI] at hq3 hq4 hq5
 obtain ⟨tn,htn⟩:∃ tn,Hid (t.ti.length=tn):=⟨_,rfl⟩;obtain ⟨pn,hpn⟩:∃ pn,Hid (t.pa.params.length=pn):=⟨_,rfl⟩;obtain ⟨qn,hqn⟩:∃ qn,Hid (t.pa.text.length=qn):=⟨_,rfl⟩;rw [htn.out] at hq3
 rw [hpn.out] at hq4
 rw [hqn.out] at hq5
 subst hq1;subst hq2;subst hq3;subst hq4;subst hq5;have hb0:=Xd w (Obj.cells (Xg t ⟨.slice ga gn gp,.slice oa on op,.slice ta tn tp,.slice pa pn pp,.slice qa qn qp⟩) 35);have hX:=TeB.new w 35 t ⟨.slice ga gn gp,.slice oa on op,.slice ta tn tp,.slice pa pn pp,.slice qa qn qp⟩;obtain ⟨w1,hw1⟩:∃ w1,w1=w.alloc (Obj.cells (Xg t ⟨.slice ga gn gp,.slice oa on op,.slice ta tn tp,.slice pa pn pp,.slice qa qn qp⟩) 35):=⟨_,rfl⟩;rw [<- hw1] at hb0 hX
 replace hw1:=(show Hid _ from hw1);unfold teV Yp paV at *;have e1:Hid (1+7*Xx t.g t.g.length+7*Xx t.o t.o.length+t.ti.length+t.pa.params.length+t.pa.text.length=1+mkN t):=by show _=_;unfold mkN;omega
 have e2:Hid (((1+7*Xx t.g t.g.length+7*Xx t.o t.o.length:Nat):Int)+(t.ti.length:Int)=((1+7*Xx t.g t.g.length+7*Xx t.o t.o.length+t.ti.length:Nat):Int)):=by show _=_;omega
 simp only [e2.out] at cT;simp only [e1.out] at cP;have n1:¬ (((1+7*Xx t.g t.g.length:Nat):Int)<0):=by omega
 have n2:¬ (((1+7*Xx t.g t.g.length+7*Xx t.o t.o.length:Nat):Int)<0):=by omega
 have n3:¬ (((1+7*Xx t.g t.g.length+7*Xx t.o t.o.length+t.ti.length:Nat):Int)<0):=by omega
 have n4:¬ (((1+mkN t:Nat):Int)<0):=by omega
 generalize 1+mkN t=m4 at *;generalize ((1+7*Xx t.g t.g.length+7*Xx t.o t.o.length+t.ti.length:Nat):Int)=m3 at *;have hb:=hb0;have kb:=hb0;clear e1 e2 hb hs1 hs2 hl1 hl2 hti hpp hpt htn hpn hqn;go_enter Tryz.func36,Tryz.ntmps36;refine wp_seq_k (fun K hK=>?_);have hH:=(show Hid _ from hK);clear hK;go_wp2;refine hH.out _ _ ?_;rw [<- hw1.out]
 clear hH hw1;obtain ⟨c0,c1,c2,c3,c4,c5,c6,c7,c8,c9,c10,c11,c12,c13,c14,c15,c16,c17,c18,c19,c20,c21,c22,c23,c24,c25,c26,c27,c28,c29⟩:=hX.cells;go_wp2_with fail;refine (cG _ (hg.below kb)).mono ?_;rintro e w2 ⟨rfl,hb⟩;replace kb:=kb.trans (hb.mono kb.size);replace hX:=hX.below hb;clear c0 c1 c2 c3 c4 c5 c6 c7 c8 c9 c10 c11 c12 c13 c14 c15 c16 c17 c18 c19 c20 c21 c22 c23 c24 c25 c26 c27 c28 c29;clear hb;obtain ⟨c0,c1,c2,c3,c4,c5,c6,c7,c8,c9,c10,c11,c12,c13,c14,c15,c16,c17,c18,c19,c20,c21,c22,c23,c24,c25,c26,c27,c28,c29⟩:=hX.cells;go_wp2_with fail;refine (cO _ (ho.below kb)).mono ?_;rintro e w3 ⟨rfl,hb⟩;replace kb:=kb.trans (hb.mono kb.size);replace hX:=hX.below hb;clear c0 c1 c2 c3 c4 c5 c6 c7 c8 c9 c10 c11 c12 c13 c14 c15 c16 c17 c18 c19 c20 c21 c22 c23 c24 c25 c26 c27 c28 c29;clear hb;obtain ⟨c0,c1,c2,c3,c4,c5,c6,c7,c8,c9,c10,c11,c12,c13,c14,c15,c16,c17,c18,c19,c20,c21,c22,c23,c24,c25,c26,c27,c28,c29⟩:=hX.cells;go_wp2_with fail;refine (cT _ (hT.below kb).l.sl).mono ?_;rintro e w4 ⟨rfl,hw⟩;subst hw;go_wp2_with fail;refine (cP _ (hP.below kb).l.sl (hQ.below kb).l.sl).mono ?_;rintro e w5 ⟨rfl,hb⟩;replace kb:=kb.trans (hb.mono kb.size);replace hX:=hX.below hb;clear c0 c1 c2 c3 c4 c5 c6 c7 c8 c9 c10 c11 c12 c13 c14 c15 c16 c17 c18 c19 c20 c21 c22 c23 c24 c25 c26 c27 c28 c29;clear hb;obtain ⟨c0,c1,c2,c3,c4,c5,c6,c7,c8,c9,c10,c11,c12,c13,c14,c15,c16,c17,c18,c19,c20,c21,c22,c23,c24,c25,c26,c27,c28,c29⟩:=hX.cells;clear c0 c1 c2 c3 c4 c5 c6 c7 c8 c9 c10 c11 c12 c13 c14 c15 c16 c17 c18 c19 c20 c21 c22 c23 c24 c25 c26 c27 c28 c29;go_wp2;go_ret;exact ⟨rfl,kb⟩
def RwS (vs:List Value) (k:Nat):Prop:=∃ i,i<vs.length/\(Xw vs i).ownBlock=some k
def GrS (v:Value) (vs:List Value) (k:Nat):Prop:=v.ownBlock=some k\/RwS vs k
def GrP (S:Nat->Prop) (w w':World):Prop:=w'.os=w.os/\w'.tape=w.tape/\w'.output=w.output/\w.heap.size<=w'.heap.size/\∀ k,k<w.heap.size->¬ S k->w'.heap[k]?=w.heap[k]?
theorem GrP.refl (S:Nat->Prop) (w:World):GrP S w w:=⟨rfl,rfl,rfl,Nat.le_refl _,fun _ _ _=>rfl⟩
theorem GrP.trans {S:Nat->Prop} {a b c:World} (h:GrP S a b) (k:GrP S b c):GrP S a c :=
 ⟨k.1.trans h.1,k.2.1.trans h.2.1,k.2.2.1.trans h.2.2.1,Nat.le_trans h.2.2.2.1 k.2.2.2.1,fun i hi ho=>(k.2.2.2.2 i (Nat.lt_of_lt_of_le hi h.2.2.2.1) ho).trans (h.2.2.2.2 i hi ho)⟩
theorem GrP.size {S:Nat->Prop} {w w':World} (h:GrP S w w'):w.heap.size<=w'.heap.size:=h.2.2.2.1
theorem GrP.of_below {S:Nat->Prop} {w w':World} (h:Below w.heap.size w w'):GrP S w w':=⟨h.os,h.tape,h.output,h.size,fun k hk _=>h.block k hk⟩
theorem GrP.of_grown {S:Nat->Prop} {w w':World} {row:Option Nat} (h:w.grownBy w' row) (hr:∀ g,row=some g->S g):GrP S w w' :=
 ⟨h.os,h.tape,h.output,h.size,fun k hk ho=>h.block k hk (fun e=>ho (hr k e.symm))⟩
theorem GrP.mono {S S':Nat->Prop} {w w':World} (h:GrP S w w') (hs:∀ k,k<w.heap.size->S k->S' k):GrP S' w w' :=
 ⟨h.1,h.2.1,h.2.2.1,h.2.2.2.1,fun k hk ho=>h.2.2.2.2 k hk (fun c=>ho (hs k hk c))⟩
theorem GrP.to_below {S:Nat->Prop} {B:Nat} {w w':World} (h:GrP S w w') (hB:∀ k,S k->B<=k) (hs:B<=w.heap.size):Below B w w' :=
 ⟨h.1,h.2.1,h.2.2.1,h.2.2.2.1,fun k hk=>h.2.2.2.2 k (by omega) (fun c=>by have:=hB k c;omega)⟩
theorem _root_.Go.World.ownsRow.grp {S:Nat->Prop} {w w':World} {base:Nat} {e:TypeId} {size:Nat} {v:Value} {n:Nat} {xs:List Value} (h:w.ownsRow base e size v n xs) (hg:GrP S w w') (hne:∀ g,v.ownBlock=some g->¬ S g):w'.ownsRow base e size v n xs:=by
 refine ⟨h.1,?_⟩;rcases h.2 with h2|⟨g,cap,cur,hv,hbg,hgg,r⟩
 ·exact .inl h2
 ·exact .inr ⟨g,cap,cur,hv,hbg,by rw [hg.2.2.2.2 g (Array.getElem?_eq_some_iff.1 hgg).1 (hne g (by rw [hv];rfl))];exact hgg,r⟩
theorem Xl.grp {S:Nat->Prop} {w w':World} {base:Nat} {v:Value} {xs:List Ce} (h:Xl w base v xs) (hg:GrP S w w') (hne:∀ g,v.ownBlock=some g->¬ S g):Xl w' base v xs:=World.ownsRow.grp (show w.ownsRow _ _ _ _ _ _ from h) hg hne
theorem Yi.grp {S:Nat->Prop} {w w':World} {base:Nat} {v:Value} {xs:List Int} (h:Yi w base v xs) (hg:GrP S w w') (hne:∀ g,v.ownBlock=some g->¬ S g):Yi w' base v xs:=World.ownsRow.grp (show w.ownsRow _ _ _ _ _ _ from h) hg hne
theorem XF.grp {S:Nat->Prop} {w w':World} {base B:Nat} {v:Value} {vs:List Value} {rows:List (List Ce)} (h:XF w base B v vs rows) (hg:GrP S w w') (hne:∀ k,GrS v vs k->¬ S k):XF w' base B v vs rows :=
 ⟨h.1,World.ownsRow.grp h.2.1 hg (fun g e=>hne g (.inl e)),fun i hi=>(h.2.2.1 i hi).grp hg (fun g e=>hne g (.inr ⟨i,by rw [h.1];exact hi,e⟩)),h.2.2.2.1,h.2.2.2.2⟩
theorem XS.grp {S:Nat->Prop} {base:Nat} {w w':World} {L:List (Value×List Int)} (h:XS w base L) (hg:GrP S w w') (hne:∀ p∈L,∀ g,p.1.ownBlock=some g->¬ S g):XS w' base L :=
 ⟨fun p hp=>(h.1 p hp).grp hg (hne p hp),h.2⟩
theorem Xj.grp {S:Nat->Prop} {w w':World} {B:Nat} {e:TypeId} {cs:List Value} (h:Xj w B e cs) (hg:GrP S w w') (hne:¬ S B):Xj w' B e cs:=by
 unfold Xj;rw [hg.2.2.2.2 B h.lt hne]
 exact h
theorem Xl.blk {w:World} {base:Nat} {v:Value} {xs:List Ce} (h:Xl w base v xs) {g:Nat} (e:v.ownBlock=some g):∃ cs,w.heap[g]?=some (.cells cs 146 (0,0)):=by
 rcases h.2 with ⟨hv,_⟩|⟨g',cap,cur,hv,_,hg,_⟩
 ·rw [hv] at e;simp [Value.ownBlock] at e
 ·rw [hv] at e
  simp only [Value.ownBlock,Option.some.injEq] at e;subst e;exact ⟨_,hg⟩
theorem Xej {w:World} {base:Nat} {T:TypeId} {size:Nat} {v:Value} {n:Nat} {xs:List Value} (h:w.ownsRow base T size v n xs) {g:Nat} (e:v.ownBlock=some g):∃ cs,w.heap[g]?=some (.cells cs T (0,0)):=by
 rcases h.2 with ⟨hv,_⟩|⟨g',cap,cur,hv,_,hg,_⟩
 ·rw [hv] at e;simp [Value.ownBlock] at e
 ·rw [hv] at e
  simp only [Value.ownBlock,Option.some.injEq] at e;subst e;exact ⟨_,hg⟩
theorem Xa9 {w:World} {g:Nat} {cs cs':Array Value} {T T':TypeId} (h:w.heap[g]?=some (.cells cs T (0,0))) (h':w.heap[g]?=some (.cells cs' T' (0,0))) (hT:T≠T'):False:=by
 rw [h] at h'
 simp only [Option.some.injEq,Obj.cells.injEq] at h';exact hT h'.2.1
theorem GrS.blk {w:World} {base B:Nat} {v:Value} {vs:List Value} {rows:List (List Ce)} (h:XF w base B v vs rows) {k:Nat} (hk:GrS v vs k):∃ cs T,w.heap[k]?=some (.cells cs T (0,0))/\(T=120\/T=146):=by
 rcases hk with e|⟨i,hi,e⟩
 ·obtain ⟨cs,hc⟩:=Xej h.2.1 e
  exact ⟨cs,_,hc,.inl rfl⟩
 ·obtain ⟨cs,hc⟩:=(h.2.2.1 i (by rw [<- h.1];exact hi)).blk e
  exact ⟨cs,_,hc,.inr rfl⟩
theorem RwS.blk {w:World} {base B:Nat} {v:Value} {vs:List Value} {rows:List (List Ce)} (h:XF w base B v vs rows) {k:Nat} (hk:RwS vs k):∃ cs,w.heap[k]?=some (.cells cs 146 (0,0)):=by
 obtain ⟨i,hi,e⟩:=hk;exact (h.2.2.1 i (by rw [<- h.1];exact hi)).blk e
theorem YA {w:World} {base B:Nat} {v:Value} {vs:List Value} {rows:List (List Ce)} (h:XF w base B v vs rows) {k:Nat} {cs:Array Value} {T:TypeId} (hb:w.heap[k]?=some (.cells cs T (0,0))) (h1:T≠120) (h2:T≠146):¬ GrS v vs k:=fun c=>by
 obtain ⟨cs',T',hc,hT⟩:=c.blk h;rcases hT with rfl|rfl
 ·exact Xa9 hb hc h1
 ·exact Xa9 hb hc h2
theorem YZ {w:World} {base base' B:Nat} {u v:Value} {vs:List Value} {rows:List (List Ce)} {xs:List Int} (h:XF w base B v vs rows) (hu:Yi w base' u xs):∀ k,u.ownBlock=some k->¬ GrS v vs k:=fun k e=>by
 obtain ⟨cs,hc⟩:=Xej (show w.ownsRow _ _ _ _ _ _ from hu) e;exact YA h hc (by decide) (by decide)
theorem GrS.bd {w:World} {base B:Nat} {v:Value} {vs:List Value} {rows:List (List Ce)} (h:XF w base B v vs rows) {k:Nat} (hk:GrS v vs k):base<=k/\k<w.heap.size:=by
 rcases hk with e|⟨i,hi,e⟩
 ·exact h.g.lt k e
 ·exact (h.2.2.1 i (by rw [<- h.1];exact hi)).lt k e
theorem RwS.bd {w:World} {base B:Nat} {v:Value} {vs:List Value} {rows:List (List Ce)} (h:XF w base B v vs rows) {k:Nat} (hk:RwS vs k):base<=k/\k<w.heap.size:=GrS.bd h (.inr hk)
def Y2 (w:World) (base:Nat) (t:Te) (v:Tv) (vg vo:List Value):Prop :=
 XF w base w.heap.size v.g vg t.g/\XF w base w.heap.size v.o vo t.o/\(∀ k,GrS v.g vg k->¬ GrS v.o vo k)/\XS w base [(v.ti,t.ti),(v.pp,t.pa.params),(v.pt,t.pa.text)]
theorem Y2.below {w w':World} {base:Nat} {t:Te} {v:Tv} {vg vo:List Value} (h:Y2 w base t v vg vo) (hb:Below w.heap.size w w'):Y2 w' base t v vg vo :=
 ⟨(h.1.below hb).up hb.size,(h.2.1.below hb).up hb.size,h.2.2.1,h.2.2.2.below hb⟩
theorem Y2.sl {w:World} {base:Nat} {t:Te} {v:Tv} {vg vo:List Value} (h:Y2 w base t v vg vo):SlT w t v :=
 ⟨SlG.of_own h.1.g,SlG.of_own h.2.1.g,SlN.of_own h.2.2.2.head,SlN.of_own h.2.2.2.tail.head,SlN.of_own h.2.2.2.tail.tail.head⟩
theorem Zp {w:World} {base base' B:Nat} {v:Value} {vs:List Value} {rows:List (List Ce)} (h:XF w base B v vs rows) (hb:base'<=base):XF w base' B v vs rows :=
 ⟨h.1,XcD h.2.1 hb,fun i hi=>(h.2.2.1 i hi).low hb,h.2.2.2.1,h.2.2.2.2⟩
theorem Y2.low {w:World} {base base':Nat} {t:Te} {v:Tv} {vg vo:List Value} (h:Y2 w base t v vg vo) (hb:base'<=base):Y2 w base' t v vg vo :=
 ⟨Zp h.1 hb,Zp h.2.1 hb,h.2.2.1,h.2.2.2.low hb⟩
theorem Y2.grown {w w':World} {base B:Nat} {t:Te} {v:Tv} {vg vo:List Value} {T:TypeId} {cs:Array Value} (h:Y2 w base t v vg vo) (hg:w.grownBy w' (some B)) (hT:w.heap[B]?=some (.cells cs T (0,0))) (h1:T≠120) (h2:T≠146) (h3:T≠2):Y2 w' base t v vg vo:=by
 have hp:GrP (fun k=>k=B) w w':=GrP.of_grown hg (fun g e=>by cases e;rfl)
 exact ⟨(h.1.grp hp (fun k hk e=>by subst e;exact YA h.1 hT h1 h2 hk)).up hg.size,(h.2.1.grp hp (fun k hk e=>by subst e;exact YA h.2.1 hT h1 h2 hk)).up hg.size,h.2.2.1,
  h.2.2.2.kept hg (fun p hp=>.inr ((h.2.2.2.1 p hp).not_block hT h3))⟩
theorem Xa8 {w:World} {lo hi lo' hi':Nat} {v v':Value} {vs vs':List Value} {rows rows':List (List Ce)} (h:XF w lo hi v vs rows) (h':XF w lo' hi' v' vs' rows') (hv:∀ g,v.ownBlock=some g->g<hi) (hv':∀ g,v'.ownBlock=some g->g<hi') (hd:hi<=lo'\/hi'<=lo):∀ k,GrS v vs k->¬ GrS v' vs' k:=fun k hk hk'=>by
 have a:=GrS.bd h hk;have b:=GrS.bd h' hk'
 have a2:k<hi:=by
  rcases hk with e|⟨i,hi,e⟩
  ·exact hv k e
  ·exact h.2.2.2.1 i (by rw [<- h.1];exact hi) k e
 have b2:k<hi':=by
  rcases hk' with e|⟨i,hi,e⟩
  ·exact hv' k e
  ·exact h'.2.2.2.1 i (by rw [<- h'.1];exact hi) k e
 omega
theorem RgT.own {w:World} {base b1 b2 b3:Nat} {t:Te} {v:Tv} (h:RgT w base b1 b2 b3 t v):∃ vg vo,Y2 w base t v vg vo:=by
 obtain ⟨⟨h1,h1v,h1s⟩,⟨h2,h2v,h2s⟩,h3,h4,h5,h6,h7⟩:=h;obtain ⟨vg,hg⟩:=h1.v;obtain ⟨vo,ho⟩:=h2.v;exact ⟨vg,vo,hg.up h1s,(Zp ho h4).up h2s,Xa8 hg ho h1v h2v (.inl (Nat.le_refl _)),h3.low (by omega)⟩
def Yw (cols n:Int) (rows:List (List Ce)):Te:=⟨cols,rows,cols,rows,0,0,St.zero,0,n-1,false,true,false,false,0,0,St.zero,[],⟨1,[],0,[]⟩,⟨#[]⟩⟩
def teZ:Te:=⟨0,[],0,[],0,0,St.zero,0,0,false,false,false,false,0,0,St.zero,[],⟨0,[],0,[]⟩,⟨#[]⟩⟩
def tvN (u1 u2:Value):Tv:=⟨u1,u2,.slice none 0 0,.slice none 0 0,.slice none 0 0⟩
def XaW (cols n:Int):Te:=if KB cols n then Yw cols n (XB cols.toNat n.toNat) else teZ
theorem Ks (w:World) (b:Nat) (hb:b<=w.heap.size):YE w b b (.slice none 0 0) []:=⟨ZY _ _ _,fun g e=>by simp [Value.ownBlock] at e,hb⟩
theorem Xff (w:World) (b:Nat) (hb:b<=w.heap.size):Qz w b teZ (tvN (.slice none 0 0) (.slice none 0 0)) :=
 ⟨b,b,b,Ks w b hb,Ks w b hb,(XS.nil _ _).nilc.nilc.nilc,Nat.le_refl _,Nat.le_refl _,Nat.le_refl _,hb⟩
theorem XeP (cols n:Nat) (w:World) (hc:cols<=1000) (hn1:1<=n) (hn:n<=1000) :
  Calls Tryz.prog 57 #[.int .i64 (cols:Int),.int .i64 (n:Int)] w fun e w'=>∃ u1 u2,e=.returned (.agg (Xg (Yw cols n (XB cols n)) (tvN u1 u2)))/\Qz w' w.heap.size (Yw cols n (XB cols n)) (tvN u1 u2)/\Below w.heap.size w w':=by
 have hR:=TB.new w [.int .i64 0,.slice none 0 0,.int .i64 0,.slice none 0 0,.int .i64 0,.int .i64 0,.int .i64 0,.int .i64 0,.bool false,.bool false,.bool false,.int .i64 0,.int .i64 0,.bool false,.bool false,.bool false,.bool false,.int .i64 0,.int .i64 0,.int .i64 0,.int .i64 0,.bool false,.bool false,.bool false,.slice none 0 0,.int .i64 0,.slice none 0 0,.int .i64 0,.slice none 0 0,.string ⟨#[]⟩];have hb0:=Xd w (Obj.cells #[.int .i64 0,.slice none 0 0,.int .i64 0,.slice none 0 0,.int .i64 0,.int .i64 0,.int .i64 0,.int .i64 0,.bool false,.bool false,.bool false,.int .i64 0,.int .i64 0,.bool false,.bool false,.bool false,.bool false,.int .i64 0,.int .i64 0,.int .i64 0,.int .i64 0,.bool false,.bool false,.bool false,.slice none 0 0,.int .i64 0,.slice none 0 0,.int .i64 0,.slice none 0 0,.string ⟨#[]⟩] 35);have hz0:(w.alloc (Obj.cells #[.int .i64 0,.slice none 0 0,.int .i64 0,.slice none 0 0,.int .i64 0,.int .i64 0,.int .i64 0,.int .i64 0,.bool false,.bool false,.bool false,.int .i64 0,.int .i64 0,.bool false,.bool false,.bool false,.bool false,.int .i64 0,.int .i64 0,.int .i64 0,.int .i64 0,.bool false,.bool false,.bool false,.slice none 0 0,.int .i64 0,.slice none 0 0,.int .i64 0,.slice none 0 0,.string ⟨#[]⟩] 35)).heap.size=w.heap.size+1:=by simp
 have hN:=fun W=>XaR cols n W hc hn
 have hP:=fun W=>Xcm 1 W
 have hni:(1:Int)<=(n:Int):=by omega
 have hni2:(n:Int)<=1000:=by omega
 unfold Yp at hN;go_enter Tryz.func57,Tryz.ntmps57;go_wp2_with fail;refine (hN _).mono ?_;rintro e w1 ⟨u1,rfl,ho1,hb⟩;obtain ⟨xa,xn,xc,hx⟩:=Jc (SlG.of_own ho1);subst hx;have og:YE w1 (w.heap.size+1) w1.heap.size (.slice xa xn xc) (XB cols n):=by rw [<- hz0];exact YE.of ho1
 replace hR:=hR.below hb;have kb:=hb0.trans (hb.mono hb0.size);have s1:w.heap.size+1<=w1.heap.size:=by rw [<- hz0];exact hb.size
 clear hb hb0 ho1 hz0;go_wp2_with fail;refine (hN _).mono ?_;rintro e w2 ⟨u2,rfl,ho2,hb⟩;obtain ⟨ya,yn,yc,hy⟩:=Jc (SlG.of_own ho2);subst hy;have oo:YE w2 w1.heap.size w2.heap.size (.slice ya yn yc) (XB cols n):=YE.of ho2;replace hR:=hR.below hb;replace og:=og.below hb;replace kb:=kb.trans (hb.mono kb.size);have s2:=hb.size;clear hb ho2;go_wp2_with fail;refine (hP _).mono ?_;rintro e w3 ⟨rfl,hb⟩;replace hR:=hR.below hb;replace og:=og.below hb;replace oo:=oo.below hb;replace kb:=kb.trans (hb.mono kb.size);have s3:=hb.size;clear hb hN hP;go_wp2_with (refine Yh (cs:=Xg (Yw cols n (XB cols n)) (tvN (.slice xa xn xc) (.slice ya yn yc))) (by rfl) 35 _ _ (by rfl) Xr (by rfl) (by rfl) hR (by rfl) (by rfl) ?_;intro w4 hg hR4 hz4)
 have hO:Qz w4 w.heap.size (Yw cols n (XB cols n)) (tvN (.slice xa xn xc) (.slice ya yn yc)) :=
  ⟨w1.heap.size,w2.heap.size,w2.heap.size,YE.low (og.grown hg (by omega)) (by omega),oo.grown hg (by omega),(XS.nil _ _).nilc.nilc.nilc,by omega,by omega,Nat.le_refl _,by omega⟩
 exact bodyPost_ret (v:=.agg (Xg (Yw cols n (XB cols n)) (tvN (.slice xa xn xc) (.slice ya yn yc)))) (results_cell_row Tryz.results57 _ _ _ _ _ _ _ rfl hR4 Tryz.underlying35 rfl Xr) rfl ⟨_,_,rfl,hO,kb.grown hg kb.size (fun g e=>by cases e;exact Nat.le_refl _)⟩
def Xn (s:St):St:=⟨0,s.back,false,false,false⟩
def XH (t:Te) (a b n:Int):Te:={ t with g:=Zo t.gc.toNat t.g a.toNat b.toNat n (Xn t.st) }
def Xm (t:Te):Te:=if t.row=t.bot then XH t t.top t.bot 1 else if t.row<(t.g.length:Int)-1 then { t with row:=t.row+1 } else t
def Ka (t:Te) (r:Int) (xs:List Ce):Te:={ t with g:=t.g.set r.toNat xs }
def X3 (t:Te) (r p q:Int):Te:=Ka t r (XU (Xb t.g r.toNat) p.toNat q.toNat (Xn t.st))
def XJ (t:Te) (r:Int):Te :=
 if wdV r=0\/t.gc<wdV r then t
 else
  let t1:=if t.full=true/\t.wrap=true then Xm { t with full:=false,col:=0 } else { t with full:=false }
  let t2:=if t.gc<t1.col+wdV r then (if t1.wrap=true then Xm { t1 with col:=0 } else { t1 with col:=t.gc-wdV r }) else t1
  let t3:=Ka t2 t2.row (X6 (Xb t2.g t2.row.toNat) t2.col.toNat r t2.st)
  if t.gc<=t2.col+wdV r then { t3 with col:=t.gc-1,full:=true } else { t3 with col:=t2.col+wdV r }
def XL (t:Te) (r:Int):Te :=
 if r=8 then { t with col:=max 0 (t.col-1),full:=false }
 else if r=9 then { t with col:=min (t.gc-1) (t.col / 8*8+8),full:=false }
 else if r=10\/r=11\/r=12 then { Xm t with full:=false }
 else if r=13 then { t with col:=0,full:=false }
 else t
def Jz (t:Te):Te:={ Yw t.gc (t.g.length:Int) (XB t.gc.toNat t.g.length) with ti:=t.ti,pa:=t.pa,fe:=t.fe }
def X2 (t:Te) (r:Int):Te :=
 if r=68 then { Xm t with full:=false }
 else if r=69 then { Xm t with col:=0,full:=false }
 else if r=77 then (if t.row=t.top then { XH t t.top t.bot (-1) with full:=false } else { t with row:=max 0 (t.row-1),full:=false })
 else if r=55 then { t with sr:=t.row,sc:=t.col,ss:=t.st,full:=false }
 else if r=56 then { t with row:=t.sr,col:=t.sc,st:=t.ss,full:=false }
 else if r=99 then Jz t
 else t
def Xa (p:List Int) (i:Nat) (u:Int):Int:=if p.getD i 0=0 then u else p.getD i 0
def goT (t:Te) (r c:Int):Te:={ t with row:=max 0 (min ((t.g.length:Int)-1) r),col:=max 0 (min (t.gc-1) c) }
def Zf (t:Te) (how:Int):Te:=if how=0 then X3 t t.row t.col t.gc else if how=1 then X3 t t.row 0 (t.col+1) else if how=2 then X3 t t.row 0 t.gc else t
def ZJ (t:Te) (how:Int):Te:={ t with g:=Z3 t.g.length fun i =>
 if how=2\/how=0/\t.row<(i:Int)\/how=1/\(i:Int)<t.row then XU (Xb t.g i) 0 t.gc.toNat (Xn t.st) else Xb (Zf t how).g i }
def Xi (t:Te) (r:Int) (p:List Int):Te :=
 let n:=Xa p 0 1
 let how:=Xa p 0 0
 let t0:={ t with full:=false }
 if r=65 then { t0 with row:=max (if t.top<=t.row then t.top else 0) (t.row-n) }
 else if r=66 then { t0 with row:=min (if t.row<=t.bot then t.bot else (t.g.length:Int)-1) (t.row+n) }
 else if r=67 then goT t0 t.row (t.col+n)
 else if r=68 then goT t0 t.row (t.col-n)
 else if r=71 then goT t0 t.row (n-1)
 else if r=100 then goT t0 (n-1) t.col
 else if r=72\/r=102 then goT t0 (n-1) (Xa p 1 1-1)
 else if r=74 then ZJ t0 how
 else if r=75 then Zf t0 how
 else if r=76\/r=77 then (if t.top<=t.row/\t.row<=t.bot then { XH t0 t.row t.bot (if r=76 then -n else n) with col:=0 } else t0)
 else if r=64 then Ka t0 t.row (KP (Xb t.g t.row.toNat) t.col.toNat (min n (t.gc-t.col)).toNat (Xn t.st))
 else if r=80 then Ka t0 t.row (K6 (Xb t.g t.row.toNat) t.col.toNat (min n (t.gc-t.col)).toNat (Xn t.st))
 else if r=88 then X3 t0 t.row t.col (min t.gc (t.col+n))
 else if r=83 then XH t0 t.top t.bot n
 else if r=84 then XH t0 t.top t.bot (-n)
 else if r=109 then { t with st:=KR t.st p }
 else if r=114 then
  let b:=Xa p 1 (t.g.length:Int)-1
  if n-1<b/\b<=(t.g.length:Int)-1 then { t0 with top:=n-1,bot:=b,row:=0,col:=0 } else t0
 else t
def XA (on:Bool) (t:Te) (m:Int):Te :=
 if m=7 then { t with wrap:=on }
 else if m=25 then { t with hid:=!on }
 else if m=1049 then (if t.away=on then t else
  { t with gc:=t.oc,g:=if on=true then XB t.gc.toNat t.g.length else t.o,oc:=t.gc,o:=t.g,away:=on })
 else t
def doT (t:Te) (a:Ac):Te :=
 if a.kind=1 then XJ t a.rune
 else if a.kind=2 then XL t a.rune
 else if a.kind=3 then X2 t a.rune
 else if a.kind=4 then (if a.mark=0 then Xi t a.rune a.params else if a.rune=104\/a.rune=108 then a.params.foldl (XA (decide (a.rune=104))) t else t)
 else if a.kind=5 then { t with ti:=a.text }
 else t
def RtT (t:Te):Prop:=(1<=t.g.length/\t.g.length<=30)/\(∀ i,i<t.g.length->1<=(Xb t.g i).length/\(Xb t.g i).length<=60)/\(1<=t.o.length/\t.o.length<=30)/\(∀ i,i<t.o.length->1<=(Xb t.o i).length/\(Xb t.o i).length<=60)/\t.ti.length<=40/\t.pa.params.length<=16/\t.pa.text.length<=40
theorem XaV {x:List Ce} (h:1<=x.length):x≠[]:=fun e=>by rw [e] at h;simp at h
theorem Xdk (t:Te) (v:Tv) (w:World) (h:SlT w t v) (hz:RtT t) :
  Calls Tryz.prog 60 #[.agg (Xg t v)] w fun e w'=>∃ v',e=.returned (.agg (Xg t v'))/\Qz w' w.heap.size t v'/\Below w.heap.size w w':=by
 obtain ⟨vg,vo,vti,vpp,vpt⟩:=v;obtain ⟨hg,ho,hti,hpp,hpt⟩:=h;simp only at hg ho hti hpp hpt;obtain ⟨⟨z1,z1'⟩,z2,⟨z3,z3'⟩,z4,z5,z6,z7⟩:=hz;have cG:=fun W hW=>QW t.gc vg t.g W hW (by omega) z1 (fun i hi=>by have:=z2 i hi;omega) (fun i hi=>XaV (z2 i hi).1)
 have cO:=fun W hW=>QW t.oc vo t.o W hW (by omega) z3 (fun i hi=>by have:=z4 i hi;omega) (fun i hi=>XaV (z4 i hi).1)
 have cP:=fun W h1 h2=>Xdj t.pa vpp vpt W h1 h2 (by omega) (by omega)
 have ztl:t.ti.length<=1073741824:=by omega
 obtain ⟨ga,gp,hq1⟩:=sGs hg;obtain ⟨oa,op,hq2⟩:=sGs ho;obtain ⟨tia,tip,hq3⟩:=hti.shp;obtain ⟨ppa,ppp,hq4⟩:=hpp.shp;obtain ⟨pta,ptp,hq5⟩:=hpt.shp;subst hq1;subst hq2;subst hq3;subst hq4;subst hq5;have hb1:=Xd w (Obj.cells (Xg t ⟨.slice ga t.g.length gp,.slice oa t.o.length op,.slice tia t.ti.length tip,.slice ppa t.pa.params.length ppp,.slice pta t.pa.text.length ptp⟩) 35);have hb2:=Xd (w.alloc (Obj.cells (Xg t ⟨.slice ga t.g.length gp,.slice oa t.o.length op,.slice tia t.ti.length tip,.slice ppa t.pa.params.length ppp,.slice pta t.pa.text.length ptp⟩) 35)) (Obj.cells #[.int .i64 0,.slice none 0 0,.int .i64 0,.slice none 0 0,.int .i64 0,.int .i64 0,.int .i64 0,.int .i64 0,.bool false,.bool false,.bool false,.int .i64 0,.int .i64 0,.bool false,.bool false,.bool false,.bool false,.int .i64 0,.int .i64 0,.int .i64 0,.int .i64 0,.bool false,.bool false,.bool false,.slice none 0 0,.int .i64 0,.slice none 0 0,.int .i64 0,.slice none 0 0,.string ⟨#[]⟩] 35);have hB:=(TB.new w (Xg t ⟨.slice ga t.g.length gp,.slice oa t.o.length op,.slice tia t.ti.length tip,.slice ppa t.pa.params.length ppp,.slice pta t.pa.text.length ptp⟩).toList).below hb2;have hR:=TB.new (w.alloc (Obj.cells (Xg t ⟨.slice ga t.g.length gp,.slice oa t.o.length op,.slice tia t.ti.length tip,.slice ppa t.pa.params.length ppp,.slice pta t.pa.text.length ptp⟩) 35)) [.int .i64 0,.slice none 0 0,.int .i64 0,.slice none 0 0,.int .i64 0,.int .i64 0,.int .i64 0,.int .i64 0,.bool false,.bool false,.bool false,.int .i64 0,.int .i64 0,.bool false,.bool false,.bool false,.bool false,.int .i64 0,.int .i64 0,.int .i64 0,.int .i64 0,.bool false,.bool false,.bool false,.slice none 0 0,.int .i64 0,.slice none 0 0,.int .i64 0,.slice none 0 0,.string ⟨#[]⟩];have kb:=hb1.trans (hb2.mono hb1.size);rw [show (w.alloc (Obj.cells (Xg t ⟨.slice ga t.g.length gp,.slice oa t.o.length op,.slice tia t.ti.length tip,.slice ppa t.pa.params.length ppp,.slice pta t.pa.text.length ptp⟩) 35)).heap.size=w.heap.size+1 by simp] at hR
 obtain ⟨w2,hw2⟩:∃ w2,w2=(w.alloc (Obj.cells (Xg t ⟨.slice ga t.g.length gp,.slice oa t.o.length op,.slice tia t.ti.length tip,.slice ppa t.pa.params.length ppp,.slice pta t.pa.text.length ptp⟩) 35)).alloc (Obj.cells #[.int .i64 0,.slice none 0 0,.int .i64 0,.slice none 0 0,.int .i64 0,.int .i64 0,.int .i64 0,.int .i64 0,.bool false,.bool false,.bool false,.int .i64 0,.int .i64 0,.bool false,.bool false,.bool false,.bool false,.int .i64 0,.int .i64 0,.int .i64 0,.int .i64 0,.bool false,.bool false,.bool false,.slice none 0 0,.int .i64 0,.slice none 0 0,.int .i64 0,.slice none 0 0,.string ⟨#[]⟩] 35):=⟨_,rfl⟩;have hB:TB w2 w.heap.size [.int .i64 t.gc,.slice ga t.g.length gp,.int .i64 t.oc,.slice oa t.o.length op,.int .i64 t.row,.int .i64 t.col,.int .i64 t.st.fore,.int .i64 t.st.back,.bool t.st.bold,.bool t.st.under,.bool t.st.turned,.int .i64 t.top,.int .i64 t.bot,.bool t.full,.bool t.wrap,.bool t.away,.bool t.hid,.int .i64 t.sr,.int .i64 t.sc,.int .i64 t.ss.fore,.int .i64 t.ss.back,.bool t.ss.bold,.bool t.ss.under,.bool t.ss.turned,.slice tia t.ti.length tip,.int .i64 t.pa.state,.slice ppa t.pa.params.length ppp,.int .i64 t.pa.mark,.slice pta t.pa.text.length ptp,.string t.fe]:=by rw [hw2];exact hB
 rw [<- hw2] at hR kb
 have zs2:w2.heap.size=w.heap.size+2:=by rw [hw2];simp
 replace hw2:=(show Hid _ from hw2);unfold Yp paV at *;clear hb1 hb2 z1 z1' z2 z3 z3' z4 z5 z6 z7;go_enter Tryz.func60,Tryz.ntmps60;refine wp_seq_k (fun K hK=>?_);have hH:=(show Hid _ from hK);clear hK;go_wp2;refine hH.out _ _ ?_;rw [<- hw2.out]
 clear hH hw2;have c0:w2.cell? ⟨w.heap.size,0,none⟩=some (.int .i64 t.gc):=cAl hB 0;have c1:w2.cell? ⟨w.heap.size,1,none⟩=some (.slice ga t.g.length gp):=cAl hB 1;go_wp2_with fail;refine (cG _ (hg.below kb)).mono ?_;rintro e w3 ⟨xg,rfl,hng,hb⟩;obtain ⟨xga,xgn,xgp,hx⟩:=Jc (SlG.of_own hng);subst hx;have og:YE w3 w2.heap.size w3.heap.size (.slice xga xgn xgp) t.g:=YE.of hng;replace hB:=hB.below hb;replace hR:=hR.below hb;replace kb:=kb.trans (hb.mono kb.size);have s23:=hb.size;clear hng hb c0 c1 cG;go_wp2_with (refine XD (by rfl) 26 _ _ (by rfl) Xeb hB (by rfl) (by rfl) (by rfl) (by rfl) (by rfl) ?_;intro W3 hgr hB1 hz1;have c2:W3.cell? ⟨w.heap.size,2,none⟩=some (.int .i64 t.oc):=cAl hB1 2;have c3:W3.cell? ⟨w.heap.size,3,none⟩=some (.slice oa t.o.length op):=cAl hB1 3);have hb:Below w.heap.size w W3:=kb.grown hgr kb.size (fun g e=>by cases e;exact Nat.le_refl _);refine (cO _ (ho.below hb)).mono ?_;rintro e w4 ⟨xo,rfl,hno,hb4⟩;obtain ⟨xoa,xon,xop,hx⟩:=Jc (SlG.of_own hno);subst hx;have oo:YE w4 w3.heap.size w4.heap.size (.slice xoa xon xop) t.o:=by rw [<- hz1];exact YE.of hno
 replace og:=(og.grown hgr (by omega)).below hb4;replace hB:TB w4 w.heap.size [.int .i64 t.gc,.slice xga xgn xgp,.int .i64 t.oc,.slice oa t.o.length op,.int .i64 t.row,.int .i64 t.col,.int .i64 t.st.fore,.int .i64 t.st.back,.bool t.st.bold,.bool t.st.under,.bool t.st.turned,.int .i64 t.top,.int .i64 t.bot,.bool t.full,.bool t.wrap,.bool t.away,.bool t.hid,.int .i64 t.sr,.int .i64 t.sc,.int .i64 t.ss.fore,.int .i64 t.ss.back,.bool t.ss.bold,.bool t.ss.under,.bool t.ss.turned,.slice tia t.ti.length tip,.int .i64 t.pa.state,.slice ppa t.pa.params.length ppp,.int .i64 t.pa.mark,.slice pta t.pa.text.length ptp,.string t.fe]:=TB.below (show TB W3 w.heap.size [.int .i64 t.gc,.slice xga xgn xgp,.int .i64 t.oc,.slice oa t.o.length op,.int .i64 t.row,.int .i64 t.col,.int .i64 t.st.fore,.int .i64 t.st.back,.bool t.st.bold,.bool t.st.under,.bool t.st.turned,.int .i64 t.top,.int .i64 t.bot,.bool t.full,.bool t.wrap,.bool t.away,.bool t.hid,.int .i64 t.sr,.int .i64 t.sc,.int .i64 t.ss.fore,.int .i64 t.ss.back,.bool t.ss.bold,.bool t.ss.under,.bool t.ss.turned,.slice tia t.ti.length tip,.int .i64 t.pa.state,.slice ppa t.pa.params.length ppp,.int .i64 t.pa.mark,.slice pta t.pa.text.length ptp,.string t.fe] from hB1) hb4;replace hR:=(hR.kept hgr (by simp)).below hb4;have s34:w3.heap.size<=w4.heap.size:=by rw [<- hz1];exact hb4.size
 replace kb:=hb.trans (hb4.mono hb.size);clear hno hb hb4 hgr hB1 hz1 c2 c3 cO;have hba:=fun W=>Xd W (Obj.cells #[] 2)
 go_wp2_with (first
  | (refine XD (by rfl) 26 _ _ (by rfl) Xeb hB (by rfl) (by rfl) (by rfl) (by rfl) (by rfl) ?_;intro W4 hgr hB1 hz1;have c24:(W4.alloc (Obj.cells #[] 2)).cell? ⟨w.heap.size,24,none⟩=some (.slice tia t.ti.length tip):=(cAl (TB.below (show TB W4 w.heap.size [.int .i64 t.gc,.slice xga xgn xgp,.int .i64 t.oc,.slice xoa xon xop,.int .i64 t.row,.int .i64 t.col,.int .i64 t.st.fore,.int .i64 t.st.back,.bool t.st.bold,.bool t.st.under,.bool t.st.turned,.int .i64 t.top,.int .i64 t.bot,.bool t.full,.bool t.wrap,.bool t.away,.bool t.hid,.int .i64 t.sr,.int .i64 t.sc,.int .i64 t.ss.fore,.int .i64 t.ss.back,.bool t.ss.bold,.bool t.ss.under,.bool t.ss.turned,.slice tia t.ti.length tip,.int .i64 t.pa.state,.slice ppa t.pa.params.length ppp,.int .i64 t.pa.mark,.slice pta t.pa.text.length ptp,.string t.fe] from hB1) (hba W4)) 24);have hb4:Below w.heap.size w W4:=kb.grown hgr kb.size (fun g e=>by cases e;exact Nat.le_refl _);have ht4:=hti.below hb4)
  | (refine Xbc (by rfl) _ _ (by rfl) _ hz1 _ t.ti (by rfl) ht4 ztl (by rfl) ?_;intro xt w5 hnt hb5;obtain ⟨xta,xtn,xtp,hx⟩:=Yi.shape hnt;subst hx;have hB5:TB w5 w.heap.size [.int .i64 t.gc,.slice xga xgn xgp,.int .i64 t.oc,.slice xoa xon xop,.int .i64 t.row,.int .i64 t.col,.int .i64 t.st.fore,.int .i64 t.st.back,.bool t.st.bold,.bool t.st.under,.bool t.st.turned,.int .i64 t.top,.int .i64 t.bot,.bool t.full,.bool t.wrap,.bool t.away,.bool t.hid,.int .i64 t.sr,.int .i64 t.sc,.int .i64 t.ss.fore,.int .i64 t.ss.back,.bool t.ss.bold,.bool t.ss.under,.bool t.ss.turned,.slice tia t.ti.length tip,.int .i64 t.pa.state,.slice ppa t.pa.params.length ppp,.int .i64 t.pa.mark,.slice pta t.pa.text.length ptp,.string t.fe]:=TB.below (show TB W4 w.heap.size [.int .i64 t.gc,.slice xga xgn xgp,.int .i64 t.oc,.slice xoa xon xop,.int .i64 t.row,.int .i64 t.col,.int .i64 t.st.fore,.int .i64 t.st.back,.bool t.st.bold,.bool t.st.under,.bool t.st.turned,.int .i64 t.top,.int .i64 t.bot,.bool t.full,.bool t.wrap,.bool t.away,.bool t.hid,.int .i64 t.sr,.int .i64 t.sc,.int .i64 t.ss.fore,.int .i64 t.ss.back,.bool t.ss.bold,.bool t.ss.under,.bool t.ss.turned,.slice tia t.ti.length tip,.int .i64 t.pa.state,.slice ppa t.pa.params.length ppp,.int .i64 t.pa.mark,.slice pta t.pa.text.length ptp,.string t.fe] from hB1) hb5;clear c24)
  | (refine XD (by rfl) 29 _ _ (by rfl) QS hB5 (by rfl) (by rfl) (by rfl) (by rfl) (by rfl) ?_;intro W5 hgr5 hB6 hz5;have c25:W5.cell? ⟨w.heap.size,25,none⟩=some (.int .i64 t.pa.state):=cAl hB6 25;have c26:W5.cell? ⟨w.heap.size,26,none⟩=some (.slice ppa t.pa.params.length ppp):=cAl hB6 26;have c27:W5.cell? ⟨w.heap.size,27,none⟩=some (.int .i64 t.pa.mark):=cAl hB6 27;have c28:W5.cell? ⟨w.heap.size,28,none⟩=some (.slice pta t.pa.text.length ptp):=cAl hB6 28))
 have hb5w:Below w.heap.size w w5:=hb4.trans (hb5.mono hb4.size);have hb6:Below w.heap.size w W5:=hb5w.grown hgr5 hb5w.size (fun g e=>by cases e;exact Nat.le_refl _);have s45:w4.heap.size<=w5.heap.size:=by rw [<- hz1];exact hb5.size
 have ol5:XS w5 w4.heap.size [((.slice xta xtn xtp:Value),t.ti)]:=⟨fun p hp=>by rw [List.mem_singleton] at hp;subst hp;rw [<- hz1];exact hnt,List.pairwise_singleton _ _⟩;have olt:∀ p∈[((.slice xta xtn xtp:Value),t.ti)],∀ g,p.1.ownBlock=some g->g<w5.heap.size:=fun p hp g e=>((ol5.1 p hp).lt g e).2
 have ol6:=ol5.kept hgr5 (fun p hp=>.inr ((ol5.1 p hp).not_block hB5 (by decide)));replace og:=((og.grown hgr (by omega)).below hb5).grown hgr5 (by omega);replace oo:=((oo.grown hgr (by omega)).below hb5).grown hgr5 (by omega);have hR6:=((hR.kept hgr (by simp)).below hb5).kept hgr5 (by simp);refine (cP _ (hpp.below hb6) (hpt.below hb6)).mono ?_;rintro e w7 ⟨xp,xq,rfl,hnp,hb⟩;rw [hz5] at hnp
 obtain ⟨xpa,xpn,xpp,hxp⟩:=hnp.head.shape;obtain ⟨xqa,xqn,xqp,hxq⟩:=hnp.tail.head.shape;simp only at hxp hxq;subst hxp;subst hxq;have ol:XS w7 w4.heap.size ([((.slice xta xtn xtp:Value),t.ti)]++[(.slice xpa xpn xpp,t.pa.params),(.slice xqa xqn xqp,t.pa.text)]):=(ol6.below hb).join olt hnp s45;replace og:=og.below hb;replace oo:=oo.below hb;replace hR:=hR6.below hb;have hB7:TB w7 w.heap.size [.int .i64 t.gc,.slice xga xgn xgp,.int .i64 t.oc,.slice xoa xon xop,.int .i64 t.row,.int .i64 t.col,.int .i64 t.st.fore,.int .i64 t.st.back,.bool t.st.bold,.bool t.st.under,.bool t.st.turned,.int .i64 t.top,.int .i64 t.bot,.bool t.full,.bool t.wrap,.bool t.away,.bool t.hid,.int .i64 t.sr,.int .i64 t.sc,.int .i64 t.ss.fore,.int .i64 t.ss.back,.bool t.ss.bold,.bool t.ss.under,.bool t.ss.turned,.slice xta xtn xtp,.int .i64 t.pa.state,.slice ppa t.pa.params.length ppp,.int .i64 t.pa.mark,.slice pta t.pa.text.length ptp,.string t.fe]:=TB.below (show TB W5 w.heap.size [.int .i64 t.gc,.slice xga xgn xgp,.int .i64 t.oc,.slice xoa xon xop,.int .i64 t.row,.int .i64 t.col,.int .i64 t.st.fore,.int .i64 t.st.back,.bool t.st.bold,.bool t.st.under,.bool t.st.turned,.int .i64 t.top,.int .i64 t.bot,.bool t.full,.bool t.wrap,.bool t.away,.bool t.hid,.int .i64 t.sr,.int .i64 t.sc,.int .i64 t.ss.fore,.int .i64 t.ss.back,.bool t.ss.bold,.bool t.ss.under,.bool t.ss.turned,.slice xta xtn xtp,.int .i64 t.pa.state,.slice ppa t.pa.params.length ppp,.int .i64 t.pa.mark,.slice pta t.pa.text.length ptp,.string t.fe] from hB6) hb;have s57:w5.heap.size<=w7.heap.size:=by rw [<- hz5];exact hb.size
 have kb7:=hb6.trans (hb.mono hb6.size);clear hb hb6 hb5w hb5 hgr5 hB6 hz5 hB5 hb4 ht4 hgr hB1 hz1 hnt hnp ol5 ol6 hR6 c25 c26 c27 c28 cP hB hba
 go_wp2_with (first
  | (refine XD (by rfl) 31 _ _ (by rfl) Xci hB7 (by rfl) (by rfl) (by rfl) (by rfl) (by rfl) ?_;intro W7 hgr hB8 hz7)
  | (refine KX (cs:=Xg t ⟨.slice xga xgn xgp,.slice xoa xon xop,.slice xta xtn xtp,.slice xpa xpn xpp,.slice xqa xqn xqp⟩) (by rfl) 35 _ (by rfl) Tryz.underlying35 rfl Xr hB8 (by rfl) ?_)
  | (refine Yh (cs:=Xg t ⟨.slice xga xgn xgp,.slice xoa xon xop,.slice xta xtn xtp,.slice xpa xpn xpp,.slice xqa xqn xqp⟩) (by rfl) 35 _ _ (by rfl) Xr (by rfl) (by rfl) (hR.kept hgr (by simp)) (by rfl) (by rfl) ?_;intro w9 hg9 hR9 hz9))
 have hR8:=hR.kept hgr (by simp);have ol8:=ol.kept hgr (fun p hp=>.inr ((ol.1 p hp).not_block hB7 (by decide)))
 have hfin:Qz w9 w.heap.size t ⟨.slice xga xgn xgp,.slice xoa xon xop,.slice xta xtn xtp,.slice xpa xpn xpp,.slice xqa xqn xqp⟩ :=
  ⟨w3.heap.size,w4.heap.size,w4.heap.size,YE.low ((og.grown hgr (by omega)).grown hg9 (by omega)) (by omega),(oo.grown hgr (by omega)).grown hg9 (by omega),ol8.kept hg9 (fun p hp=>.inr ((ol8.1 p hp).not_block hR8 (by decide))),by omega,by omega,Nat.le_refl _,by rw [hz9,hz7];omega⟩
 have kb8:=kb7.grown hgr kb7.size (fun g e=>by cases e;exact Nat.le_refl _);exact bodyPost_ret (v:=.agg (Xg t ⟨.slice xga xgn xgp,.slice xoa xon xop,.slice xta xtn xtp,.slice xpa xpn xpp,.slice xqa xqn xqp⟩)) (results_cell_row Tryz.results60 _ _ _ _ _ _ _ rfl hR9 Tryz.underlying35 rfl Xr) rfl ⟨_,rfl,hfin,kb8.grown hg9 kb8.size (fun g e=>by cases e;omega)⟩
theorem K7 {P:Program} {fn:Func} {p q:Tmp} {ty:TypeId} (h:fn.results=#[.cell p ty,.tmp q]) (tmps:Array Value) (w:World) (g:Nat) (t:TypeId) (cs:Array Value) (fr:Nat×Nat) (d:TypeDesc) (v:Value)
  (hp:tmps.getD p undef=.pointer (some ⟨g,0,none⟩)) (hq:tmps.getD q undef=v) (hg:w.heap[g]?=some (.cells cs t fr))
  (hu:P.underlying ty=some d) (hd:(match d with|.struct _|.array _ _=>true|_=>false)=true) (hi:(P.info? ty).map (·.size)=some cs.size) :
  (results fn tmps).run P w=.ok (.tuple #[.agg cs,v]) w:=by
 have hp':tmps[p]?.getD undef=.pointer (some ⟨g,0,none⟩):=by simpa using hp
 have hq':tmps[q]?.getD undef=v:=by simpa using hq
 simp [results,h,hp',hq',asAddr,run_loadVar_row w g t ty cs fr d hg hu hd hi]
theorem XgI {cols n:Int} (h:¬ KB cols n):XaW cols n=teZ:=by unfold XaW;rw [if_neg h]
theorem XaX {cols n:Int} (h:KB cols n):XaW cols n=Yw cols n (XB cols.toNat n.toNat):=by unfold XaW;rw [if_pos h]
def NtA (w w':World) (cols n:Int) (e:Ending):Prop:=∃ u1 u2,e=.returned (.tuple #[.agg (Xg (XaW cols n) (tvN u1 u2)),.bool (decide (KB cols n))])/\Qz w' w.heap.size (XaW cols n) (tvN u1 u2)/\Below w.heap.size w w'
theorem Qr (cols n:Int) (w:World) :
  Calls Tryz.prog 14 #[.int .i64 cols,.int .i64 n] w fun e w'=>NtA w w' cols n e:=by
 have hR:=TB.new w [.int .i64 0,.slice none 0 0,.int .i64 0,.slice none 0 0,.int .i64 0,.int .i64 0,.int .i64 0,.int .i64 0,.bool false,.bool false,.bool false,.int .i64 0,.int .i64 0,.bool false,.bool false,.bool false,.bool false,.int .i64 0,.int .i64 0,.int .i64 0,.int .i64 0,.bool false,.bool false,.bool false,.slice none 0 0,.int .i64 0,.slice none 0 0,.int .i64 0,.slice none 0 0,.string ⟨#[]⟩];have hb0:=Xd w (Obj.cells #[.int .i64 0,.slice none 0 0,.int .i64 0,.slice none 0 0,.int .i64 0,.int .i64 0,.int .i64 0,.int .i64 0,.bool false,.bool false,.bool false,.int .i64 0,.int .i64 0,.bool false,.bool false,.bool false,.bool false,.int .i64 0,.int .i64 0,.int .i64 0,.int .i64 0,.bool false,.bool false,.bool false,.slice none 0 0,.int .i64 0,.slice none 0 0,.int .i64 0,.slice none 0 0,.string ⟨#[]⟩] 35);have hz0:(w.alloc (Obj.cells #[.int .i64 0,.slice none 0 0,.int .i64 0,.slice none 0 0,.int .i64 0,.int .i64 0,.int .i64 0,.int .i64 0,.bool false,.bool false,.bool false,.int .i64 0,.int .i64 0,.bool false,.bool false,.bool false,.bool false,.int .i64 0,.int .i64 0,.int .i64 0,.int .i64 0,.bool false,.bool false,.bool false,.slice none 0 0,.int .i64 0,.slice none 0 0,.int .i64 0,.slice none 0 0,.string ⟨#[]⟩] 35)).heap.size=w.heap.size+1:=by simp
 have hG:=fun W=>Qq cols n W
 by_cases h:KB cols n
 ·have hV:=XaX h
  have hd:=decide_eq_true h;simp only [if_pos h,hd] at hG;have hh:=h;unfold KB at hh;obtain ⟨cn,rfl⟩:∃ k:Nat,cols=k:=⟨cols.toNat,by omega⟩;obtain ⟨nn,rfl⟩:∃ k:Nat,n=k:=⟨n.toNat,by omega⟩;simp only [Int.toNat_natCast] at hV hG;have hni:(1:Int)<=(nn:Int):=by omega
  have hni2:(nn:Int)<=1000:=by omega
  unfold NtA;rw [hV,hd]
  unfold Yp at hG;clear h hV hd hh;go_enter Tryz.func14,Tryz.ntmps14;go_wp2_with fail;refine (hG _).mono ?_;rintro e w1 ⟨u1,rfl,ho1,hb⟩;obtain ⟨xa,xn,xc,hx⟩:=Jc (SlG.of_own ho1);subst hx;have og:YE w1 (w.heap.size+1) w1.heap.size (.slice xa xn xc) (XB cn nn):=by rw [<- hz0];exact YE.of ho1
  have hal:=Xd w1 (Obj.cells #[.int .i64 cn,.slice xa xn xc] 26);have hG1:=GrN.new w1 cn (.slice xa xn xc) 26;have hb2:=hb.trans (hal.mono hb.size);replace hR:=hR.below hb2;have kb:=hb0.trans (hb2.mono hb0.size);replace og:=og.below hal;have s1:w.heap.size+1<=w1.heap.size:=by rw [<- hz0];exact hb.size
  have sa:(w1.alloc (Obj.cells #[.int .i64 cn,.slice xa xn xc] 26)).heap.size=w1.heap.size+1:=by simp
  clear hb hb0 ho1 hz0 hal hb2;go_wp2_with fail;refine (hG _).mono ?_;rintro e w2 ⟨u2,rfl,ho2,hb⟩;obtain ⟨ya,yn,yc,hy⟩:=Jc (SlG.of_own ho2);subst hy;have oo:YE w2 (w1.heap.size+1) w2.heap.size (.slice ya yn yc) (XB cn nn):=by rw [<- sa];exact YE.of ho2
  have s2:w1.heap.size+1<=w2.heap.size:=by rw [<- sa];exact hb.size
  have hal:=Xd w2 (Obj.cells #[.int .i64 cn,.slice ya yn yc] 26);have hG2:=GrN.new w2 cn (.slice ya yn yc) 26;have hb2:=hb.trans (hal.mono hb.size);replace hR:=hR.below hb2;replace kb:=kb.trans (hb2.mono kb.size);replace og:=og.below hb2;replace oo:=oo.below hal;replace hG1:=hG1.below hb2;have s3:(w2.alloc (Obj.cells #[.int .i64 cn,.slice ya yn yc] 26)).heap.size=w2.heap.size+1:=by simp
  obtain ⟨_,c0,c1⟩:=hG1;obtain ⟨_,d0,d1⟩:=hG2;clear hb ho2 hal hb2 hG sa;go_wp2_with (refine Yh (cs:=Xg (Yw cn nn (XB cn nn)) (tvN (.slice xa xn xc) (.slice ya yn yc))) (by rfl) 35 _ _ (by rfl) Xr (by rfl) (by rfl) hR (by rfl) (by rfl) ?_;intro w4 hg hR4 hz4)
  have hO:Qz w4 w.heap.size (Yw cn nn (XB cn nn)) (tvN (.slice xa xn xc) (.slice ya yn yc)) :=
   ⟨w1.heap.size+1,w2.heap.size,w2.heap.size,⟨((YE.low (og.grown hg (by omega)) (by omega)).1).up (by omega),fun g e=>by have:=og.2.1 g e;omega,by rw [hz4,s3];omega⟩,oo.grown hg (by omega),(XS.nil _ _).nilc.nilc.nilc,by omega,by omega,Nat.le_refl _,by rw [hz4,s3];omega⟩
  exact bodyPost_ret (v:=.tuple #[.agg (Xg (Yw cn nn (XB cn nn)) (tvN (.slice xa xn xc) (.slice ya yn yc))),.bool true]) (K7 Tryz.results14 _ _ _ _ _ _ _ _ rfl rfl hR4 Tryz.underlying35 rfl Xr) rfl ⟨_,_,rfl,hO,kb.grown hg kb.size (fun g e=>by cases e;exact Nat.le_refl _)⟩
 ·have hV:=XgI h
  have hd:=decide_eq_false h;simp only [if_neg h,hd] at hG;unfold NtA;rw [hV,hd]
  unfold Yp at hG;clear h hV hd;go_enter Tryz.func14,Tryz.ntmps14;go_wp2_with fail;refine (hG _).mono ?_;rintro e w1 ⟨u1,rfl,ho1,hb⟩;obtain ⟨xa,xn,xc,hx⟩:=Jc (SlG.of_own ho1);subst hx;have hal:=Xd w1 (Obj.cells #[.int .i64 0,.slice xa xn xc] 26);have hb2:=hb.trans (hal.mono hb.size);replace hR:=hR.below hb2;have kb:=hb0.trans (hb2.mono hb0.size);have s1:w.heap.size+1<=w1.heap.size:=by rw [<- hz0];exact hb.size
  clear hb hb0 ho1 hz0 hal hb2 hG;go_wp2_with (refine Yh (cs:=Xg teZ (tvN (.slice none 0 0) (.slice none 0 0))) (by rfl) 35 _ _ (by rfl) Xr (by rfl) (by rfl) hR (by rfl) (by rfl) ?_;intro w4 hg hR4 hz4);have s4:w.heap.size<=w4.heap.size:=by rw [hz4];simp;omega
  exact bodyPost_ret (v:=.tuple #[.agg (Xg teZ (tvN (.slice none 0 0) (.slice none 0 0))),.bool false]) (K7 Tryz.results14 _ _ _ _ _ _ _ _ rfl rfl hR4 Tryz.underlying35 rfl Xr) rfl ⟨_,_,rfl,Xff w4 _ s4,kb.grown hg kb.size (fun g e=>by cases e;exact Nat.le_refl _)⟩
theorem XcU {n m left:Nat} (h:¬ szP n m left<0):∃ k:Nat,szP n m left=(k:Int)/\k+n+m=left:=by
 unfold szP at *;split at h
 ·exact absurd (by decide) h
 ·rw [if_neg (by assumption)]
  split at h
  ·exact absurd (by decide) h
  ·rw [if_neg (by assumption)]
   exact ⟨left-n-m,rfl,by omega⟩
theorem XfB (t:Te) (v:Tv) (w:World) (h:SlT w t v) (hm:SzT maxLen t) (hf:t.fe.size<=maxLen) :
  Calls Tryz.prog 28 #[teV t v,.int .i64 1048576] w fun e w'=>∃ z,e=.returned (.int .i64 z)/\(z<0\/(SzT 1048576 t/\Xx t.g t.g.length+Xx t.o t.o.length+t.ti.length+t.pa.params.length+t.pa.text.length<=1048576))/\Below w.heap.size w w'/\z<=1048576:=by
 obtain ⟨vg,vo,vti,vpp,vpt⟩:=v;obtain ⟨hg,ho,hti,hpp,hpt⟩:=h;simp only at hg ho hti hpp hpt;obtain ⟨m1,m2,m3,m4,m5,m6,m7⟩:=hm;have hb0:=Xd w (Obj.cells (Xg t ⟨vg,vo,vti,vpp,vpt⟩) 65);have hB:=TeB.new w 65 t ⟨vg,vo,vti,vpp,vpt⟩;have cG:=fun W hW=>Xam t.gc vg t.g 1048576 W hW m1 m2 (by decide)
 have cO:=fun l W hW (hl:l<=1048576)=>Xam t.oc vo t.o l W hW m3 m4 (by omega)
 have cT:=fun l W hW (hl:l<=1048576)=>UK vti t.ti l W hW m5 (by omega)
 have cP:=fun l W h1 h2 (hl:l<=1048576)=>XbT t.pa vpp vpt l W h1 h2 m6 m7 (by omega)
 have cF:=fun (l:Nat) W (hl:l<=1048576)=>XbS t.fe (l:Int) W hf (by omega)
 obtain ⟨ga,gp,hq1⟩:=sGs hg;obtain ⟨oa,op,hq2⟩:=sGs ho;obtain ⟨tia,tip,hq3⟩:=hti.shp;obtain ⟨ppa,ppp,hq4⟩:=hpp.shp;obtain ⟨pta,ptp,hq5⟩:=hpt.shp;subst hq1;subst hq2;subst hq3;subst hq4;subst hq5;unfold teV Yp paV at *;obtain ⟨w1,hw1⟩:∃ w1,w1=w.alloc (Obj.cells (Xg t ⟨.slice ga t.g.length gp,.slice oa t.o.length op,.slice tia t.ti.length tip,.slice ppa t.pa.params.length ppp,.slice pta t.pa.text.length ptp⟩) 65):=⟨_,rfl⟩;rw [<- hw1] at hB hb0
 replace hw1:=(show Hid _ from hw1);clear m1 m2 m3 m4 m5 m6 m7 hf;go_enter Tryz.func28,Tryz.ntmps28;refine wp_seq_k (fun K hK=>?_);have hH:=(show Hid _ from hK);clear hK;go_wp2;refine hH.out _ _ ?_;rw [<- hw1.out]
 clear hH hw1;obtain ⟨c0,c1,c2,c3,c4,c5,c6,c7,c8,c9,c10,c11,c12,c13,c14,c15,c16,c17,c18,c19,c20,c21,c22,c23,c24,c25,c26,c27,c28,c29⟩:=hB.cells
 cases hq1:Zx t.g 1048576 t.g.length with
 | none =>
  have e1:szG t.g 1048576=-1:=by unfold szG;rw [hq1]
  simp only [e1] at cG;clear e1 hq1;go_wp2_with fail;refine (cG _ (hg.below hb0)).mono ?_;rintro e w2 ⟨rfl,hb⟩;have hb1:=hb0.trans (hb.mono hb0.size);replace hB:=hB.below hb;clear c0 c1 c2 c3 c4 c5 c6 c7 c8 c9 c10 c11 c12 c13 c14 c15 c16 c17 c18 c19 c20 c21 c22 c23 c24 c25 c26 c27 c28 c29;clear hb hb0;obtain ⟨c0,c1,c2,c3,c4,c5,c6,c7,c8,c9,c10,c11,c12,c13,c14,c15,c16,c17,c18,c19,c20,c21,c22,c23,c24,c25,c26,c27,c28,c29⟩:=hB.cells;go_wp2;go_ret;exact ⟨_,rfl,.inl (by decide),hb1,by decide⟩
 | some r1 =>
  have e1:szG t.g 1048576=(r1:Int):=by unfold szG;rw [hq1]
  simp only [e1] at cG;have l1:=Uz hq1;have s1:=UY hq1;have n1:¬ ((r1:Int)<0):=by omega
  clear e1 hq1;go_wp2_with fail;refine (cG _ (hg.below hb0)).mono ?_;rintro e w2 ⟨rfl,hb⟩;have hb1:=hb0.trans (hb.mono hb0.size);replace hB:=hB.below hb;clear c0 c1 c2 c3 c4 c5 c6 c7 c8 c9 c10 c11 c12 c13 c14 c15 c16 c17 c18 c19 c20 c21 c22 c23 c24 c25 c26 c27 c28 c29;clear hb hb0;obtain ⟨c0,c1,c2,c3,c4,c5,c6,c7,c8,c9,c10,c11,c12,c13,c14,c15,c16,c17,c18,c19,c20,c21,c22,c23,c24,c25,c26,c27,c28,c29⟩:=hB.cells
  cases hq2:Zx t.o r1 t.o.length with
  | none =>
   have e2:szG t.o r1=-1:=by unfold szG;rw [hq2]
   have cO2:=fun W hW=>cO r1 W hW l1.1
   simp only [e2] at cO2;clear e2 hq2;go_wp2_with fail;refine (cO2 _ (ho.below hb1)).mono ?_;rintro e w3 ⟨rfl,hb⟩;have hb2:=hb1.trans (hb.mono hb1.size);replace hB:=hB.below hb;clear c0 c1 c2 c3 c4 c5 c6 c7 c8 c9 c10 c11 c12 c13 c14 c15 c16 c17 c18 c19 c20 c21 c22 c23 c24 c25 c26 c27 c28 c29;clear hb hb1;obtain ⟨c0,c1,c2,c3,c4,c5,c6,c7,c8,c9,c10,c11,c12,c13,c14,c15,c16,c17,c18,c19,c20,c21,c22,c23,c24,c25,c26,c27,c28,c29⟩:=hB.cells;go_wp2;go_ret;exact ⟨_,rfl,.inl (by decide),hb2,by decide⟩
  | some r2 =>
   have e2:szG t.o r1=(r2:Int):=by unfold szG;rw [hq2]
   have cO2:=fun W hW=>cO r1 W hW l1.1
   simp only [e2] at cO2;have l2:=Uz hq2;have s2:=UY hq2;have n2:¬ ((r2:Int)<0):=by omega
   have u2:r2<=1048576:=by omega
   clear e2 hq2 n1 cO;go_wp2_with fail;refine (cO2 _ (ho.below hb1)).mono ?_;rintro e w3 ⟨rfl,hb⟩;have hb2:=hb1.trans (hb.mono hb1.size);replace hB:=hB.below hb;clear c0 c1 c2 c3 c4 c5 c6 c7 c8 c9 c10 c11 c12 c13 c14 c15 c16 c17 c18 c19 c20 c21 c22 c23 c24 c25 c26 c27 c28 c29;clear hb hb1;obtain ⟨c0,c1,c2,c3,c4,c5,c6,c7,c8,c9,c10,c11,c12,c13,c14,c15,c16,c17,c18,c19,c20,c21,c22,c23,c24,c25,c26,c27,c28,c29⟩:=hB.cells;have cT2:=fun W hW=>cT r2 W hW u2
   by_cases q3:r2<t.ti.length
   case pos =>
    rw [if_pos q3] at cT2
    go_wp2_with fail;refine (cT2 _ (hti.below hb2).l.sl).mono ?_;rintro e w4 ⟨rfl,hw⟩;subst hw;go_wp2;go_ret;exact ⟨_,rfl,.inl (by decide),hb2,by decide⟩
   rw [if_neg q3] at cT2
   obtain ⟨r3,hr3⟩:∃ r3,Hid (r2-t.ti.length=r3):=⟨_,rfl⟩;rw [hr3.out] at cT2
   have n3:¬ ((r3:Int)<0):=by omega
   have v3:Hid (r3+t.ti.length=r2):=by show _=_;have:=hr3.out;omega
   have u3:r3<=1048576:=by have:=v3.out;omega
   clear hr3 n2 cT q3;go_wp2_with fail;refine (cT2 _ (hti.below hb2).l.sl).mono ?_;rintro e w4 ⟨rfl,hw⟩;subst hw;have cP2:=fun W h1 h2=>cP r3 W h1 h2 u3
   by_cases q4:szP t.pa.params.length t.pa.text.length r3<0
   case pos =>
    have e4:=Xer q4;simp only [e4] at cP2;clear e4 q4;go_wp2_with fail;refine (cP2 _ (hpp.below hb2).l.sl (hpt.below hb2).l.sl).mono ?_;rintro e w5 ⟨rfl,hb⟩;have hb3:=hb2.trans (hb.mono hb2.size);replace hB:=hB.below hb;clear c0 c1 c2 c3 c4 c5 c6 c7 c8 c9 c10 c11 c12 c13 c14 c15 c16 c17 c18 c19 c20 c21 c22 c23 c24 c25 c26 c27 c28 c29;clear hb hb2;obtain ⟨c0,c1,c2,c3,c4,c5,c6,c7,c8,c9,c10,c11,c12,c13,c14,c15,c16,c17,c18,c19,c20,c21,c22,c23,c24,c25,c26,c27,c28,c29⟩:=hB.cells;go_wp2;go_ret;exact ⟨_,rfl,.inl (by decide),hb3,by decide⟩
   obtain ⟨r4,e4,s4⟩:=XcU q4;simp only [e4] at cP2;have n4:¬ ((r4:Int)<0):=by omega
   have u4:r4<=1048576:=by omega
   clear e4 q4 n3 cP;go_wp2_with fail;refine (cP2 _ (hpp.below hb2).l.sl (hpt.below hb2).l.sl).mono ?_;rintro e w5 ⟨rfl,hb⟩;have hb3:=hb2.trans (hb.mono hb2.size);replace hB:=hB.below hb;clear c0 c1 c2 c3 c4 c5 c6 c7 c8 c9 c10 c11 c12 c13 c14 c15 c16 c17 c18 c19 c20 c21 c22 c23 c24 c25 c26 c27 c28 c29;clear hb hb2;obtain ⟨c0,c1,c2,c3,c4,c5,c6,c7,c8,c9,c10,c11,c12,c13,c14,c15,c16,c17,c18,c19,c20,c21,c22,c23,c24,c25,c26,c27,c28,c29⟩:=hB.cells;have cF2:=fun W=>cF r4 W u4
   have hfin:Hid (SzT 1048576 t/\Xx t.g t.g.length+Xx t.o t.o.length+t.ti.length+t.pa.params.length+t.pa.text.length<=1048576):=by
    show _/\_
    have:=v3.out;refine ⟨⟨l1.2.1,l1.2.2,by omega,fun i hi=>by have:=l2.2.2 i hi;omega,by omega,by omega,by omega⟩,by omega⟩
   obtain ⟨z,hz⟩:∃ z,Hid ((if (r4:Int)-(t.fe.size:Int)<0 then -1 else (r4:Int)-(t.fe.size:Int))=z):=⟨_,rfl⟩;simp only [hz.out] at cF2;have hzle:z<=1048576:=by rw [<- hz.out];split<;>omega
   clear hz cF n4 l1 l2 s1 s2 s4;go_wp2_with fail;refine (cF2 _).mono ?_;rintro e w6 ⟨rfl,hb⟩;have hb4:=hb3.trans (hb.mono hb3.size);replace hB:=hB.below hb;clear c0 c1 c2 c3 c4 c5 c6 c7 c8 c9 c10 c11 c12 c13 c14 c15 c16 c17 c18 c19 c20 c21 c22 c23 c24 c25 c26 c27 c28 c29;clear hb hb3;obtain ⟨c0,c1,c2,c3,c4,c5,c6,c7,c8,c9,c10,c11,c12,c13,c14,c15,c16,c17,c18,c19,c20,c21,c22,c23,c24,c25,c26,c27,c28,c29⟩:=hB.cells
   by_cases q5:z<0
   case pos =>
    go_wp2;go_ret;exact ⟨_,rfl,.inl (by decide),hb4,by decide⟩
   go_wp2;go_ret;exact ⟨_,rfl,.inr hfin.out,hb4,hzle⟩
theorem Qf (t:Te) (v v2:Tv) (w:World) (h:SlT w t v) (h2:SlT w t v2) (hz:SzT 1048576 t) :
  Calls Tryz.prog 32 #[teV t v,teV t v2] w fun e w'=>e=.returned (.bool true)/\Below w.heap.size w w':=by
 obtain ⟨vg,vo,vti,vpp,vpt⟩:=v;obtain ⟨hg,ho,hti,hpp,hpt⟩:=h;obtain ⟨vg2,vo2,vti2,vpp2,vpt2⟩:=v2;obtain ⟨hg2,ho2,hti2,hpp2,hpt2⟩:=h2;simp only at hg ho hti hpp hpt hg2 ho2 hti2 hpp2 hpt2;obtain ⟨z1,z2,z3,z4,z5,z6,z7⟩:=hz;have cG:=fun W h1 h2=>Qe t.gc vg vg2 t.g W h1 h2 (by omega) (fun i hi=>by have:=z2 i hi;omega)
 have cO:=fun W h1 h2=>Qe t.oc vo vo2 t.o W h1 h2 (by omega) (fun i hi=>by have:=z4 i hi;omega)
 have cS:=fun W=>Ji t.st W
 have cSs:=fun W=>Ji t.ss W
 have cT:=fun W h1 h2=>JC vti vti2 t.ti W h1 h2 (by omega)
 have cP:=fun W h1 h2 h3 h4=>Xay t.pa vpp vpt vpp2 vpt2 W h1 h2 h3 h4 (by omega) (by omega)
 have cF:=fun W=>Xax t.fe W
 obtain ⟨ga,gp,hq1⟩:=sGs hg;obtain ⟨oa,op,hq2⟩:=sGs ho;obtain ⟨tia,tip,hq3⟩:=hti.shp;obtain ⟨ppa,ppp,hq4⟩:=hpp.shp;obtain ⟨pta,ptp,hq5⟩:=hpt.shp;obtain ⟨ga2,gp2,hq6⟩:=sGs hg2;obtain ⟨oa2,op2,hq7⟩:=sGs ho2;obtain ⟨tia2,tip2,hq8⟩:=hti2.shp;obtain ⟨ppa2,ppp2,hq9⟩:=hpp2.shp;obtain ⟨pta2,ptp2,hq10⟩:=hpt2.shp;subst hq1;subst hq2;subst hq3;subst hq4;subst hq5;subst hq6;subst hq7;subst hq8;subst hq9;subst hq10;have hb1:=Xd w (Obj.cells (Xg t ⟨.slice ga t.g.length gp,.slice oa t.o.length op,.slice tia t.ti.length tip,.slice ppa t.pa.params.length ppp,.slice pta t.pa.text.length ptp⟩) 35);have hb2:=Xd (w.alloc (Obj.cells (Xg t ⟨.slice ga t.g.length gp,.slice oa t.o.length op,.slice tia t.ti.length tip,.slice ppa t.pa.params.length ppp,.slice pta t.pa.text.length ptp⟩) 35)) (Obj.cells (Xg t ⟨.slice ga2 t.g.length gp2,.slice oa2 t.o.length op2,.slice tia2 t.ti.length tip2,.slice ppa2 t.pa.params.length ppp2,.slice pta2 t.pa.text.length ptp2⟩) 35);have hX0:=(TeB.new w 35 t ⟨.slice ga t.g.length gp,.slice oa t.o.length op,.slice tia t.ti.length tip,.slice ppa t.pa.params.length ppp,.slice pta t.pa.text.length ptp⟩).below hb2;have hY0:=TeB.new (w.alloc (Obj.cells (Xg t ⟨.slice ga t.g.length gp,.slice oa t.o.length op,.slice tia t.ti.length tip,.slice ppa t.pa.params.length ppp,.slice pta t.pa.text.length ptp⟩) 35)) 35 t ⟨.slice ga2 t.g.length gp2,.slice oa2 t.o.length op2,.slice tia2 t.ti.length tip2,.slice ppa2 t.pa.params.length ppp2,.slice pta2 t.pa.text.length ptp2⟩;have kb:=hb1.trans (hb2.mono hb1.size);rw [show (w.alloc (Obj.cells (Xg t ⟨.slice ga t.g.length gp,.slice oa t.o.length op,.slice tia t.ti.length tip,.slice ppa t.pa.params.length ppp,.slice pta t.pa.text.length ptp⟩) 35)).heap.size=w.heap.size+1 by simp] at hY0
 obtain ⟨w2,hw2⟩:∃ w2,w2=(w.alloc (Obj.cells (Xg t ⟨.slice ga t.g.length gp,.slice oa t.o.length op,.slice tia t.ti.length tip,.slice ppa t.pa.params.length ppp,.slice pta t.pa.text.length ptp⟩) 35)).alloc (Obj.cells (Xg t ⟨.slice ga2 t.g.length gp2,.slice oa2 t.o.length op2,.slice tia2 t.ti.length tip2,.slice ppa2 t.pa.params.length ppp2,.slice pta2 t.pa.text.length ptp2⟩) 35):=⟨_,rfl⟩;rw [<- hw2] at hX0 hY0 kb
 replace hw2:=(show Hid _ from hw2);have hX:=hX0;have hY:=hY0;clear z1 z2 z3 z4 z5 z6 z7 hb1 hb2 hX0 hY0;unfold teV Yp stV paV at *;go_enter Tryz.func32,Tryz.ntmps32;refine wp_seq_k (fun K hK=>?_);have hH:=(show Hid _ from hK);clear hK;go_wp2;refine hH.out _ _ ?_;rw [<- hw2.out]
 clear hH hw2;obtain ⟨c0,c1,c2,c3,c4,c5,c6,c7,c8,c9,c10,c11,c12,c13,c14,c15,c16,c17,c18,c19,c20,c21,c22,c23,c24,c25,c26,c27,c28,c29⟩:=hX.cells;obtain ⟨d0,d1,d2,d3,d4,d5,d6,d7,d8,d9,d10,d11,d12,d13,d14,d15,d16,d17,d18,d19,d20,d21,d22,d23,d24,d25,d26,d27,d28,d29⟩:=hY.cells;go_wp2_with fail;refine (cG _ (hg.below kb) (hg2.below kb)).mono ?_;rintro e w3 ⟨rfl,hb⟩;replace kb:=kb.trans (hb.mono kb.size);replace hX:=hX.below hb;replace hY:=hY.below hb;clear c0 c1 c2 c3 c4 c5 c6 c7 c8 c9 c10 c11 c12 c13 c14 c15 c16 c17 c18 c19 c20 c21 c22 c23 c24 c25 c26 c27 c28 c29;clear d0 d1 d2 d3 d4 d5 d6 d7 d8 d9 d10 d11 d12 d13 d14 d15 d16 d17 d18 d19 d20 d21 d22 d23 d24 d25 d26 d27 d28 d29;clear hb;obtain ⟨c0,c1,c2,c3,c4,c5,c6,c7,c8,c9,c10,c11,c12,c13,c14,c15,c16,c17,c18,c19,c20,c21,c22,c23,c24,c25,c26,c27,c28,c29⟩:=hX.cells;obtain ⟨d0,d1,d2,d3,d4,d5,d6,d7,d8,d9,d10,d11,d12,d13,d14,d15,d16,d17,d18,d19,d20,d21,d22,d23,d24,d25,d26,d27,d28,d29⟩:=hY.cells;go_wp2_with fail;refine (cO _ (ho.below kb) (ho2.below kb)).mono ?_;rintro e w4 ⟨rfl,hb⟩;replace kb:=kb.trans (hb.mono kb.size);replace hX:=hX.below hb;replace hY:=hY.below hb;clear c0 c1 c2 c3 c4 c5 c6 c7 c8 c9 c10 c11 c12 c13 c14 c15 c16 c17 c18 c19 c20 c21 c22 c23 c24 c25 c26 c27 c28 c29;clear d0 d1 d2 d3 d4 d5 d6 d7 d8 d9 d10 d11 d12 d13 d14 d15 d16 d17 d18 d19 d20 d21 d22 d23 d24 d25 d26 d27 d28 d29;clear hb;obtain ⟨c0,c1,c2,c3,c4,c5,c6,c7,c8,c9,c10,c11,c12,c13,c14,c15,c16,c17,c18,c19,c20,c21,c22,c23,c24,c25,c26,c27,c28,c29⟩:=hX.cells;obtain ⟨d0,d1,d2,d3,d4,d5,d6,d7,d8,d9,d10,d11,d12,d13,d14,d15,d16,d17,d18,d19,d20,d21,d22,d23,d24,d25,d26,d27,d28,d29⟩:=hY.cells;go_wp2_with fail;refine (cS _).mono ?_;rintro e w5 ⟨rfl,hb⟩;replace kb:=kb.trans (hb.mono kb.size);replace hX:=hX.below hb;replace hY:=hY.below hb;clear c0 c1 c2 c3 c4 c5 c6 c7 c8 c9 c10 c11 c12 c13 c14 c15 c16 c17 c18 c19 c20 c21 c22 c23 c24 c25 c26 c27 c28 c29;clear d0 d1 d2 d3 d4 d5 d6 d7 d8 d9 d10 d11 d12 d13 d14 d15 d16 d17 d18 d19 d20 d21 d22 d23 d24 d25 d26 d27 d28 d29;clear hb;obtain ⟨c0,c1,c2,c3,c4,c5,c6,c7,c8,c9,c10,c11,c12,c13,c14,c15,c16,c17,c18,c19,c20,c21,c22,c23,c24,c25,c26,c27,c28,c29⟩:=hX.cells;obtain ⟨d0,d1,d2,d3,d4,d5,d6,d7,d8,d9,d10,d11,d12,d13,d14,d15,d16,d17,d18,d19,d20,d21,d22,d23,d24,d25,d26,d27,d28,d29⟩:=hY.cells;go_wp2_with fail;refine (cSs _).mono ?_;rintro e w6 ⟨rfl,hb⟩;replace kb:=kb.trans (hb.mono kb.size);replace hX:=hX.below hb;replace hY:=hY.below hb;clear c0 c1 c2 c3 c4 c5 c6 c7 c8 c9 c10 c11 c12 c13 c14 c15 c16 c17 c18 c19 c20 c21 c22 c23 c24 c25 c26 c27 c28 c29;clear d0 d1 d2 d3 d4 d5 d6 d7 d8 d9 d10 d11 d12 d13 d14 d15 d16 d17 d18 d19 d20 d21 d22 d23 d24 d25 d26 d27 d28 d29;clear hb;obtain ⟨c0,c1,c2,c3,c4,c5,c6,c7,c8,c9,c10,c11,c12,c13,c14,c15,c16,c17,c18,c19,c20,c21,c22,c23,c24,c25,c26,c27,c28,c29⟩:=hX.cells;obtain ⟨d0,d1,d2,d3,d4,d5,d6,d7,d8,d9,d10,d11,d12,d13,d14,d15,d16,d17,d18,d19,d20,d21,d22,d23,d24,d25,d26,d27,d28,d29⟩:=hY.cells;go_wp2_with fail;refine (cT _ (hti.below kb).l.sl (hti2.below kb).l.sl).mono ?_;rintro e w7 ⟨rfl,nd,hwd⟩
 have hb:Below _ _ w7:=hwd ▸ K1 _ nd;clear hwd;replace kb:=kb.trans (hb.mono kb.size);replace hX:=hX.below hb;replace hY:=hY.below hb;clear c0 c1 c2 c3 c4 c5 c6 c7 c8 c9 c10 c11 c12 c13 c14 c15 c16 c17 c18 c19 c20 c21 c22 c23 c24 c25 c26 c27 c28 c29;clear d0 d1 d2 d3 d4 d5 d6 d7 d8 d9 d10 d11 d12 d13 d14 d15 d16 d17 d18 d19 d20 d21 d22 d23 d24 d25 d26 d27 d28 d29;clear hb;obtain ⟨c0,c1,c2,c3,c4,c5,c6,c7,c8,c9,c10,c11,c12,c13,c14,c15,c16,c17,c18,c19,c20,c21,c22,c23,c24,c25,c26,c27,c28,c29⟩:=hX.cells;obtain ⟨d0,d1,d2,d3,d4,d5,d6,d7,d8,d9,d10,d11,d12,d13,d14,d15,d16,d17,d18,d19,d20,d21,d22,d23,d24,d25,d26,d27,d28,d29⟩:=hY.cells;go_wp2_with fail;refine (cP _ (hpp.below kb).l.sl (hpt.below kb).l.sl (hpp2.below kb).l.sl (hpt2.below kb).l.sl).mono ?_;rintro e w8 ⟨rfl,hb⟩;replace kb:=kb.trans (hb.mono kb.size);replace hX:=hX.below hb;replace hY:=hY.below hb;clear c0 c1 c2 c3 c4 c5 c6 c7 c8 c9 c10 c11 c12 c13 c14 c15 c16 c17 c18 c19 c20 c21 c22 c23 c24 c25 c26 c27 c28 c29;clear d0 d1 d2 d3 d4 d5 d6 d7 d8 d9 d10 d11 d12 d13 d14 d15 d16 d17 d18 d19 d20 d21 d22 d23 d24 d25 d26 d27 d28 d29;clear hb;obtain ⟨c0,c1,c2,c3,c4,c5,c6,c7,c8,c9,c10,c11,c12,c13,c14,c15,c16,c17,c18,c19,c20,c21,c22,c23,c24,c25,c26,c27,c28,c29⟩:=hX.cells;obtain ⟨d0,d1,d2,d3,d4,d5,d6,d7,d8,d9,d10,d11,d12,d13,d14,d15,d16,d17,d18,d19,d20,d21,d22,d23,d24,d25,d26,d27,d28,d29⟩:=hY.cells;go_wp2_with fail;refine (cF _).mono ?_;rintro e w9 ⟨rfl,hb⟩;replace kb:=kb.trans (hb.mono kb.size);clear c0 c1 c2 c3 c4 c5 c6 c7 c8 c9 c10 c11 c12 c13 c14 c15 c16 c17 c18 c19 c20 c21 c22 c23 c24 c25 c26 c27 c28 c29;clear d0 d1 d2 d3 d4 d5 d6 d7 d8 d9 d10 d11 d12 d13 d14 d15 d16 d17 d18 d19 d20 d21 d22 d23 d24 d25 d26 d27 d28 d29;clear hb;go_wp2;go_ret;exact ⟨rfl,kb⟩
theorem Xed:(Tryz.prog.info? 65).map (·.size)=some 30:=by kernel_rfl
theorem Xeh {w:World} {ops:Array Oper} {rest:List Oper} {o:Oper} {a:Act} {Q:Exit->Act->World->Prop} {B:Nat} {t:Te} {v:Tv} (hb:TeB w B 65 t v) (hgd:Region.wanted o (yielded ops a.tmps)=true) (x:Operand)
  (ho:o.op=.load 65 x) (hx:a.eval x=.pointer (some ⟨B,0,none⟩))
  (h:wpList Tryz.prog ops Q rest (a.put o.dst (.agg (Xg t v))) w):wpList Tryz.prog ops Q (o::rest) a w :=
 KX (cs:=Xg t v) hgd 65 x ho Tryz.underlying65 rfl Xed hb hx h
theorem XcP {W:World} {B:Nat} {t:Te} {v:Tv} (hb:TeB W B 35 t v) (a:Act) (o:Oper) (x:Operand) (ho:o.op=.load 35 x) (hx:a.eval x=.pointer (some ⟨B,0,none⟩)) :
  (execOp a.eval o).run Tryz.prog W=.ok (.value (.agg (Xg t v))) W:=by
 unfold execOp;simp only [ho,hx,Instr.loadAt,Instr.sureAddr,Sem.run_bind,Sem.run_pure,Result.andThen_ok,run_loadVar_row W B 35 35 (Xg t v) (0,0) _ hb Tryz.underlying35 rfl Xr]
theorem JR {W:World} {B:Nat} {t:Te} {v:Tv} (hb:TeB W B 65 t v) (a:Act) (o:Oper) (x:Operand) (ho:o.op=.load 65 x) (hx:a.eval x=.pointer (some ⟨B,0,none⟩)) :
  (execOp a.eval o).run Tryz.prog W=.ok (.value (.agg (Xg t v))) W:=by
 unfold execOp;simp only [ho,hx,Instr.loadAt,Instr.sureAddr,Sem.run_bind,Sem.run_pure,Result.andThen_ok,run_loadVar_row W B 65 65 (Xg t v) (0,0) _ hb Tryz.underlying65 rfl Xed]
