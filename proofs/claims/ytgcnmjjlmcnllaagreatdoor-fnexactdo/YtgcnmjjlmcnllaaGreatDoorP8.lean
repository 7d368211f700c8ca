/- Parts of the proof. -/
import Derived.Test.YtgcnmjjlmcnllaaGreatDoorP1
import Derived.Test.YtgcnmjjlmcnllaaGreatDoorP2
import Derived.Test.YtgcnmjjlmcnllaaGreatDoorP3
import Derived.Test.YtgcnmjjlmcnllaaGreatDoorP5
import Derived.Test.YtgcnmjjlmcnllaaGreatDoorP6
import Derived.Test.YtgcnmjjlmcnllaaGreatDoorP7
import Derived.Laws.StructEq
namespace Go.Proofs.YtgcnmjjlmcnllaaGreatDoor
set_option maxRecDepth 20000
set_option maxHeartbeats 16000000
open Go.ChangeShapes Go.WideShapes Go.ChangeAt Go.RowKit
def GrV (u v:Value) (w w':World):Prop:=w'.os=w.os/\w'.tape=w.tape/\w'.output=w.output/\w.heap.size<=w'.heap.size/\∀ k,k<w.heap.size->u.ownBlock≠some k->v.ownBlock≠some k->w'.heap[k]?=w.heap[k]?
theorem GrV.of_below {u v:Value} {w w':World} (h:Below w.heap.size w w'):GrV u v w w':=⟨h.os,h.tape,h.output,h.size,fun k hk _ _=>h.block k hk⟩
theorem GrV.grown {u v:Value} {a b c:World} {row:Option Nat} (h:GrV u v a b) (k:b.grownBy c row) (hr:∀ g,row=some g->u.ownBlock=some g\/v.ownBlock=some g\/a.heap.size<=g):GrV u v a c :=
 ⟨k.os.trans h.1,k.tape.trans h.2.1,k.output.trans h.2.2.1,Nat.le_trans h.2.2.2.1 k.size,fun i hi h1 h2=>(k.block i (Nat.lt_of_lt_of_le hi h.2.2.2.1) (fun e=>by
  rcases hr i e.symm with h3|h3|h3
  ·exact h1 h3
  ·exact h2 h3
  ·omega)).trans (h.2.2.2.2 i hi h1 h2)⟩
theorem l6State_any (s:Int) (w:World) :
  Calls Tryz.prog 40 #[.int .i64 s] w fun e w'=>e=.returned (.agg #[.int .i64 s,.slice none 0 0,.int .i64 0,.slice none 0 0])/\Below w.heap.size w w':=by
 have hb:=bal' w (Obj.cells #[.int .i64 s,.slice none 0 0,.int .i64 0,.slice none 0 0] 31);obtain ⟨f0,f1,f2,f3⟩:=(PbB.new w s 0 (.slice none 0 0) (.slice none 0 0)).cells;go_enter Tryz.func40,Tryz.ntmps40;go_wp2;exact bodyPost_ret (v:=.agg #[.int .i64 s,.slice none 0 0,.int .i64 0,.slice none 0 0]) (by simp [results,Tryz.results40,go_sem]) rfl ⟨rfl,hb⟩
theorem copy_g {w:World} {ops:Array Oper} {rest:List Oper} {o:Oper} {ac:Act} {Q:Exit->Act->World->Prop} (hgd:o.guard=none) (s x:Operand)
  (ho:o.op=.call { callee:=.builtin .append,args:=#[s,x],argTypes:=#[29,29] })
  (g:Nat) (hg:w.heap.size=g) (v:Value) (xs:List Int) (hs:ac.eval s=.slice (some ⟨g,0,none⟩) 0 0) (k:SlN w v xs) (hl:xs.length<=1073741824) (hx:ac.eval x=v)
  (h:∀ v' w',OwnI w' w.heap.size v' xs->Below w.heap.size w w'->wpList Tryz.prog ops Q rest (ac.put o.dst v') w') :
  wpList Tryz.prog ops Q (o::rest) ac (w.alloc (.cells #[] 2)):=by
 subst hg;exact copy_i hgd s x ho v xs hs k hl hx h
theorem l6Copy_any (p:Pa) (pv tv:Value) (w:World) (hp:SlN w pv p.params) (ht:SlN w tv p.text) (hpl:p.params.length<=1073741824) (htl:p.text.length<=1073741824) :
  Calls Tryz.prog 112 #[paV p pv tv] w fun e w'=>∃ pv' tv',e=.returned (paV p pv' tv')/\LiOk w' w.heap.size [(pv',p.params),(tv',p.text)]/\Below w.heap.size w w':=by
 obtain ⟨s,ps,m,ts⟩:=p;have hb0:=bal' w (Obj.cells #[.int .i64 s,pv,.int .i64 m,tv] 31);have hb1:=bal' (w.alloc (Obj.cells #[.int .i64 s,pv,.int .i64 m,tv] 31)) (Obj.cells #[.int .i64 0,.slice none 0 0,.int .i64 0,.slice none 0 0] 31);have hbb:=hb0.trans (hb1.mono hb0.size);have hP:=(PbB.new w s m pv tv).below hb1;have hR:=PbB.new (w.alloc (Obj.cells #[.int .i64 s,pv,.int .i64 m,tv] 31)) 0 0 (.slice none 0 0) (.slice none 0 0);rw [show (w.alloc (Obj.cells #[.int .i64 s,pv,.int .i64 m,tv] 31)).heap.size=w.heap.size+1 by simp] at hR
 have hs2:((w.alloc (Obj.cells #[.int .i64 s,pv,.int .i64 m,tv] 31)).alloc (Obj.cells #[.int .i64 0,.slice none 0 0,.int .i64 0,.slice none 0 0] 31)).heap.size=w.heap.size+2:=by simp
 have hp2:=hp.below hbb;have ht2:=ht.below hbb;unfold paV at *;simp only at *;obtain ⟨pa,pc,hpv⟩:=hp.shp;obtain ⟨ta,tc,htv⟩:=ht.shp;subst hpv;subst htv;generalize hw2:(w.alloc (Obj.cells #[.int .i64 s,.slice pa ps.length pc,.int .i64 m,.slice ta ts.length tc] 31)).alloc (Obj.cells #[.int .i64 0,.slice none 0 0,.int .i64 0,.slice none 0 0] 31)=w2 at *;have hP2:=hP.below (bal' w2 (Obj.cells #[] 2));obtain ⟨c0,c1,c2,c3⟩:=hP2.cells;subst hw2;have ht0:=ht;clear hb0 hb1 hp ht hP2;go_enter Tryz.func112,Tryz.ntmps112;go_wp2_with (refine copy_g (by rfl) _ _ (by rfl) _ hs2 _ ps (by rfl) hp2 hpl (by rfl) ?_);intro u w3 hou hb3;have hP3:=hP.below (hs2.symm ▸ hb3);have hR3:=hR.below (hs2.symm ▸ hb3);obtain ⟨ua,un,uc,hu⟩:=hou.shape;subst hu;have hg3:=sCc w3 w.heap.size 1 (.slice ua un uc);have hP4:PbB (w3.setCell ⟨w.heap.size,1,none⟩ (.slice ua un uc)) w.heap.size s (.slice ua un uc) m (.slice ta ts.length tc):=hP3.set 1 _;have hR4:=hR3.kept hg3 (by simp)
 try rw [hs2] at hou hb3
 have hs3:w.heap.size+2<=w3.heap.size:=by have:=hb3.size;rw [hs2] at this;exact this
 have hou4:=hou.kept hg3 (.inr (fun e=>by have:=(hou.lt _ e).1;omega));have hbw3:=hbb.trans (hb3.mono (show w.heap.size<=w.heap.size+2 by omega));have hbw4:=hbw3.grown hg3 (by omega) (fun k e=>by cases e;exact Nat.le_refl _);have ht4:=ht0.below hbw4;have hs4:(w3.setCell ⟨w.heap.size,1,none⟩ (.slice ua un uc)).heap.size=w3.heap.size:=by simp
 obtain ⟨d0,d1,d2,d3⟩:=hP3.cells;obtain ⟨y0,y1,y2,y3⟩:=hP3.frozen;obtain ⟨g0,g1,g2,g3⟩:=(hP4.below (bal' _ (Obj.cells #[] 2))).cells;clear hp2 ht2 hP hR hb3 c0 c1 c2 c3 hR3 hP3 hbw3 hbb;go_wp2_with (refine copy_g (by rfl) _ _ (by rfl) _ hs4 _ ts (by rfl) ht4 htl (by rfl) ?_);intro t w5 hot hb5;have hb5:=(show Below (w3.setCell ⟨w.heap.size,1,none⟩ (.slice ua un uc)).heap.size _ w5 from hs4.symm ▸ hb5);have hP5:=hP4.below hb5;have hR5:=hR4.below hb5;have hou5:=hou4.below hb5;obtain ⟨sa,sn,sc,hu⟩:=hot.shape;subst hu;have hg5:=sCc w5 w.heap.size 3 (.slice sa sn sc);have hP6:PbB (w5.setCell ⟨w.heap.size,3,none⟩ (.slice sa sn sc)) w.heap.size s (.slice ua un uc) m (.slice sa sn sc):=hP5.set 3 _;have hR6:=hR5.kept hg5 (by simp)
 try rw [hs4] at hot
 have hL5:LiOk w5 w.heap.size [(.slice ua un uc,ps),(.slice sa sn sc,ts)] :=
  ((show LiOk (w3.setCell ⟨w.heap.size,1,none⟩ (.slice ua un uc)) w.heap.size [(.slice ua un uc,ps)] from ⟨fun p hp=>by rw [List.mem_singleton] at hp;subst hp;exact hou4.low (by omega),List.pairwise_singleton _ _⟩).new hb5 (hot.low (by omega)) (fun g e=>by rw [hs4];exact (hot.lt g e).1)).perm (List.Perm.swap _ _ _)
 have hL6:=hL5.kept hg5 (fun p hp=>.inr fun e=>by
  simp only [List.mem_cons,List.mem_nil_iff,or_false] at hp;rcases hp with rfl|rfl
  ·have:=(hou5.lt _ e).1;omega
  ·have:=(hot.lt _ e).1;omega)
 have hbw6:=(hbw4.trans (hb5.mono hbw4.size)).grown hg5 (by have:=hb5.size;simp at this;omega) (fun k e=>by cases e;exact Nat.le_refl _);have hg7:=putP_grown (w5.setCell ⟨w.heap.size,3,none⟩ (.slice sa sn sc)) (w.heap.size+1) s (.slice ua un uc) m (.slice sa sn sc);have hF:=(hR6.put s m (.slice ua un uc) (.slice sa sn sc)).cells
 have hL7:=hL6.kept hg7 (fun p hp=>.inr fun e=>by
  simp only [List.mem_cons,List.mem_nil_iff,or_false] at hp;rcases hp with rfl|rfl
  ·have:=(hou5.lt _ e).1;omega
  ·have:=(hot.lt _ e).1;omega)
 have hbw7:=hbw6.grown hg7 (by have:=hb5.size;simp at this ⊢;omega) (fun k e=>by cases e;omega);obtain ⟨e0,e1,e2,e3⟩:=hP5.cells;obtain ⟨z0,z1,z2,z3⟩:=hP5.frozen;obtain ⟨f0,f1,f2,f3⟩:=hF;obtain ⟨r0,r1,r2,r3⟩:=hR6.cells;obtain ⟨q0,q1,q2,q3⟩:=hR6.frozen;simp only [putP] at f0 f1 f2 f3 hL7 hbw7;have hfin:=(show Hid _ from And.intro hL7 hbw7);clear hL5 hL6 hL7 hbw7 hbw6 hg7 hg5 hP6 hR6 hP5 hR5 hou5 hot hb5 hP4 hR4 hou4 hbw4 ht4 hg3 hou d0 d1 d2 d3 y0 y1 y2 y3 g0 g1 g2 g3 hs3 hs4;go_wp2;exact bodyPost_ret (v:=.agg #[.int .i64 s,.slice ua un uc,.int .i64 m,.slice sa sn sc]) (by simp [results,Tryz.results112,go_sem,f0,f1,f2,f3]) rfl ⟨_,_,rfl,hfin.out⟩
def AxC (w:World) (B:Nat) (k r:Int) (pv:Value) (m:Int) (tv:Value):Prop:=w.heap[B]?=some (.cells #[.int .i64 k,.int .i64 r,pv,.int .i64 m,tv] 37 (0,0))
theorem AxC.lt {w:World} {B:Nat} {k r m:Int} {pv tv:Value} (h:AxC w B k r pv m tv):B<w.heap.size:=(Array.getElem?_eq_some_iff.1 h).1
theorem AxC.below {w w':World} {B:Nat} {k r m:Int} {pv tv:Value} (h:AxC w B k r pv m tv) (hb:Below w.heap.size w w'):AxC w' B k r pv m tv:=by
 unfold AxC;rw [hb.block B h.lt]
 exact h
theorem AxC.new (w:World) (k r m:Int) (pv tv:Value):AxC (w.alloc (.cells #[.int .i64 k,.int .i64 r,pv,.int .i64 m,tv] 37)) w.heap.size k r pv m tv:=heap_alloc_new w _
theorem AxC.cells {w:World} {B:Nat} {k r m:Int} {pv tv:Value} (h:AxC w B k r pv m tv) :
  w.cell? ⟨B,0,none⟩=some (.int .i64 k)/\w.cell? ⟨B,1,none⟩=some (.int .i64 r)/\w.cell? ⟨B,2,none⟩=some pv/\w.cell? ⟨B,3,none⟩=some (.int .i64 m)/\w.cell? ⟨B,4,none⟩=some tv:=by
 refine ⟨?_,?_,?_,?_,?_⟩<;>(rw [cell_of_row w B _ _ _ (0,0) h];rfl)
theorem eqAction_same (a:Ac) (pv tv pv2 tv2:Value) (w:World) (hp:SlI w pv a.params) (ht:SlI w tv a.text) (hp2:SlI w pv2 a.params) (ht2:SlI w tv2 a.text) (hpl:a.params.length<=1073741824) (htl:a.text.length<=1073741824) :
  Calls Tryz.prog 33 #[axV ⟨a,pv,tv⟩,axV ⟨a,pv2,tv2⟩] w fun e w'=>e=.returned (.bool true)/\Below w.heap.size w w':=by
 obtain ⟨k,r,ps,m,ts⟩:=a;have hb1:=bal' w (Obj.cells #[.int .i64 k,.int .i64 r,pv,.int .i64 m,tv] 37);have hb2:=bal' (w.alloc (Obj.cells #[.int .i64 k,.int .i64 r,pv,.int .i64 m,tv] 37)) (Obj.cells #[.int .i64 k,.int .i64 r,pv2,.int .i64 m,tv2] 37);have hbb:=hb1.trans (hb2.mono hb1.size);have hP:=(AxC.new w k r m pv tv).below hb2;have hR:=AxC.new (w.alloc (Obj.cells #[.int .i64 k,.int .i64 r,pv,.int .i64 m,tv] 37)) k r m pv2 tv2;rw [show (w.alloc (Obj.cells #[.int .i64 k,.int .i64 r,pv,.int .i64 m,tv] 37)).heap.size=w.heap.size+1 by simp] at hR
 have e1:=eqI_same pv pv2 ps _ (hp.below hbb) (hp2.below hbb) hpl;have e2:=fun W h1 h2=>eqI_same tv tv2 ts W h1 h2 htl
 have ht3:=ht.below hbb;have ht4:=ht2.below hbb;unfold axV at *;simp only at *;obtain ⟨pa,pc,hpv⟩:=hp.shp;obtain ⟨ta,tc,htv⟩:=ht.shp;obtain ⟨pa2,pc2,hpv2⟩:=hp2.shp;obtain ⟨ta2,tc2,htv2⟩:=ht2.shp;subst hpv;subst htv;subst hpv2;subst htv2;obtain ⟨c0,c1,c2,c3,c4⟩:=hP.cells;obtain ⟨d0,d1,d2,d3,d4⟩:=hR.cells;clear hp ht hp2 ht2 hb1 hb2;go_enter Tryz.func33,Tryz.ntmps33;go_wp2_with fail;refine e1.mono ?_;rintro e w3 ⟨rfl,n,hw⟩;have hbn:Below _ _ w3:=hw ▸ drewN_bel _ n;have hP3:=hP.below hbn;have hR3:=hR.below hbn;have e3:=e2 w3 (ht3.below hbn) (ht4.below hbn);have hb3:=hbb.trans (hbn.mono hbb.size);clear hw hbn hP hR e1 e2 ht3 ht4 hbb c0 c1 c2 c3 c4 d0 d1 d2 d3 d4;obtain ⟨c0,c1,c2,c3,c4⟩:=hP3.cells;obtain ⟨d0,d1,d2,d3,d4⟩:=hR3.cells;go_wp2_with fail;refine e3.mono ?_;rintro e w4 ⟨rfl,n2,hw⟩;have hbn:Below w3.heap.size w3 w4:=hw ▸ drewN_bel _ n2;have hb4:=hb3.trans (hbn.mono hb3.size);clear hw hbn e3 hb3 c0 c1 c2 c3 c4 d0 d1 d2 d3 d4;go_wp2;go_ret;exact ⟨rfl,hb4⟩
theorem heldParser_marks (p:Pa) (pv tv:Value) (k n m2:Nat) (w:World) (hp:SlI w pv (marksI k n)) (ht:SlI w tv (marksI ((k+n:Nat):Int) m2)) (hpp:p.params=marksI k n) (htt:p.text=marksI ((k+n:Nat):Int) m2) (hk:k<=1048576) (hn:n<=1048576) (hm:m2<=1048576) :
  Calls Tryz.prog 106 #[paV p pv tv,.int .i64 k] w fun e w'=>e=.returned (.int .i64 ((k+n+m2:Nat):Int))/\Below w.heap.size w w':=by
 obtain ⟨s,ps,m,ts⟩:=p;have hb0:=bal' w (Obj.cells #[.int .i64 s,pv,.int .i64 m,tv] 31);have hP:=PbB.new w s m pv tv;have q1:=heldI_marks pv k n _ (hp.below hb0) ⟨by omega,by omega⟩ (by omega);have q2:=heldI_marks tv ((k+n:Nat):Int) m2 _ (ht.below hb0) ⟨by omega,by omega⟩ (by omega);have n1:Hid ((k:Int)+(n:Int)=((k+n:Nat):Int)):=by show _=_;omega
 have n2:Hid (((k+n:Nat):Int)+(m2:Int)=((k+n+m2:Nat):Int)):=by show _=_;omega
 rw [n1.out] at q1
 rw [n2.out] at q2
 have g1:¬ (((k+n:Nat):Int)<0):=by omega
 have g2:¬ (((k+n+m2:Nat):Int)<0):=by omega
 unfold paV at *;simp only at *;obtain ⟨pa,pc,hpv⟩:=hp.shp;obtain ⟨ta,tc,htv⟩:=ht.shp;rw [marksI_len] at hpv htv
 subst hpv;subst htv;obtain ⟨c0,c1,c2,c3⟩:=hP.cells;clear hp ht hP hpp htt;go_enter Tryz.func106,Tryz.ntmps106;go_wp2_with fail;refine q1.mono ?_;rintro e w3 ⟨rfl,hw⟩;subst hw;clear q1;go_wp2_with fail;refine q2.mono ?_;rintro e w4 ⟨rfl,hw⟩;subst hw;clear q2;go_wp2;go_ret;exact ⟨rfl,hb0⟩
def RgT (w:World) (base b1 b2 b3:Nat) (t:Te) (v:Tv):Prop:=OwnR w base b1 v.g t.g/\OwnR w b1 b2 v.o t.o/\LiOk w b3 [(v.ti,t.ti),(v.pp,t.pa.params),(v.pt,t.pa.text)]/\base<=b1/\b1<=b2/\b2<=b3/\b3<=w.heap.size
def mkN (t:Te):Nat:=7*sumG t.g t.g.length+7*sumG t.o t.o.length+t.ti.length+t.pa.params.length+t.pa.text.length
def mkT (t:Te):Te:={ t with
 g:=marksG 1 t.g
 o:=marksG (1+7*sumG t.g t.g.length) t.o
 ti:=marksI ((1+7*sumG t.g t.g.length+7*sumG t.o t.o.length:Nat):Int) t.ti.length
 pa:=⟨t.pa.state,marksI ((1+7*sumG t.g t.g.length+7*sumG t.o t.o.length+t.ti.length:Nat):Int) t.pa.params.length,t.pa.mark,marksI ((1+7*sumG t.g t.g.length+7*sumG t.o t.o.length+t.ti.length+t.pa.params.length:Nat):Int) t.pa.text.length⟩ }
theorem heldTerm_r (t:Te) (v:Tv) (w:World) (h:SlT w (mkT t) v) (hs1:sumG t.g t.g.length<=60000) (hs2:sumG t.o t.o.length<=60000) (hl1:t.g.length<=100000) (hl2:t.o.length<=100000) (hti:t.ti.length<=10000) (hpp:t.pa.params.length<=10000) (hpt:t.pa.text.length<=10000) :
  Calls Tryz.prog 36 #[teV t v,.int .i64 1] w fun e w'=>e=.returned (.int .i64 ((1+mkN t:Nat):Int))/\Below w.heap.size w w':=by
 obtain ⟨vg,vo,vti,vpp,vpt⟩:=v;obtain ⟨hg,ho,hT,hP,hQ⟩:=h;simp only [mkT] at hg ho hT hP hQ;have cG:=fun W (hW:SlG W vg (marksG 1 t.g))=>heldGrid_marks t.gc vg 1 t.g W hW (by decide) (by omega) (by omega)
 have cO:=fun W (hW:SlG W vo (marksG (1+7*sumG t.g t.g.length) t.o))=>heldGrid_marks t.oc vo (1+7*sumG t.g t.g.length) t.o W hW (by omega) (by omega) (by omega)
 have cT:=fun W hW=>heldI_marks vti ((1+7*sumG t.g t.g.length+7*sumG t.o t.o.length:Nat):Int) t.ti.length W hW ⟨by omega,by omega⟩ (by omega)
 have cP:=fun W h1 h2=>heldParser_marks ⟨t.pa.state,marksI ((1+7*sumG t.g t.g.length+7*sumG t.o t.o.length+t.ti.length:Nat):Int) t.pa.params.length,t.pa.mark,marksI ((1+7*sumG t.g t.g.length+7*sumG t.o t.o.length+t.ti.length+t.pa.params.length:Nat):Int) t.pa.text.length⟩ vpp vpt (1+7*sumG t.g t.g.length+7*sumG t.o t.o.length+t.ti.length) t.pa.params.length t.pa.text.length W h1 h2 rfl rfl (by omega) (by omega) (by omega)
 obtain ⟨ga,gn,gp,hq1⟩:=slShp hg;obtain ⟨oa,on,op,hq2⟩:=slShp ho;obtain ⟨ta,tp,hq3⟩:=hT.shp;obtain ⟨pa,pp,hq4⟩:=hP.shp;obtain ⟨qa,qp,hq5⟩:=hQ.shp;rw [marksI_len] at hq3 hq4 hq5
 obtain ⟨tn,htn⟩:∃ tn,Hid (t.ti.length=tn):=⟨_,rfl⟩;obtain ⟨pn,hpn⟩:∃ pn,Hid (t.pa.params.length=pn):=⟨_,rfl⟩;obtain ⟨qn,hqn⟩:∃ qn,Hid (t.pa.text.length=qn):=⟨_,rfl⟩;rw [htn.out] at hq3
 rw [hpn.out] at hq4
 rw [hqn.out] at hq5
 subst hq1;subst hq2;subst hq3;subst hq4;subst hq5;have hb0:=bal' w (Obj.cells (teCs t ⟨.slice ga gn gp,.slice oa on op,.slice ta tn tp,.slice pa pn pp,.slice qa qn qp⟩) 35);have hX:=TeB.new w 35 t ⟨.slice ga gn gp,.slice oa on op,.slice ta tn tp,.slice pa pn pp,.slice qa qn qp⟩;obtain ⟨w1,hw1⟩:∃ w1,w1=w.alloc (Obj.cells (teCs t ⟨.slice ga gn gp,.slice oa on op,.slice ta tn tp,.slice pa pn pp,.slice qa qn qp⟩) 35):=⟨_,rfl⟩;rw [<- hw1] at hb0 hX
 replace hw1:=(show Hid _ from hw1);unfold teV gridV paV at *;have e1:Hid (1+7*sumG t.g t.g.length+7*sumG t.o t.o.length+t.ti.length+t.pa.params.length+t.pa.text.length=1+mkN t):=by show _=_;unfold mkN;omega
 have e2:Hid (((1+7*sumG t.g t.g.length+7*sumG t.o t.o.length:Nat):Int)+(t.ti.length:Int)=((1+7*sumG t.g t.g.length+7*sumG t.o t.o.length+t.ti.length:Nat):Int)):=by show _=_;omega
 simp only [e2.out] at cT;simp only [e1.out] at cP;have n1:¬ (((1+7*sumG t.g t.g.length:Nat):Int)<0):=by omega
 have n2:¬ (((1+7*sumG t.g t.g.length+7*sumG t.o t.o.length:Nat):Int)<0):=by omega
 have n3:¬ (((1+7*sumG t.g t.g.length+7*sumG t.o t.o.length+t.ti.length:Nat):Int)<0):=by omega
 have n4:¬ (((1+mkN t:Nat):Int)<0):=by omega
 generalize 1+mkN t=m4 at *;generalize ((1+7*sumG t.g t.g.length+7*sumG t.o t.o.length+t.ti.length:Nat):Int)=m3 at *;have hb:=hb0;have kb:=hb0;clear e1 e2 hb hs1 hs2 hl1 hl2 hti hpp hpt htn hpn hqn;go_enter Tryz.func36,Tryz.ntmps36;refine wp_seq_k (fun K hK=>?_);have hH:=(show Hid _ from hK);clear hK;go_wp2;refine hH.out _ _ ?_;rw [<- hw1.out]
 clear hH hw1;obtain ⟨c0,c1,c2,c3,c4,c5,c6,c7,c8,c9,c10,c11,c12,c13,c14,c15,c16,c17,c18,c19,c20,c21,c22,c23,c24,c25,c26,c27,c28,c29⟩:=hX.cells;go_wp2_with fail;refine (cG _ (hg.below kb)).mono ?_;rintro e w2 ⟨rfl,hb⟩;replace kb:=kb.trans (hb.mono kb.size);replace hX:=hX.below hb;clear c0 c1 c2 c3 c4 c5 c6 c7 c8 c9 c10 c11 c12 c13 c14 c15 c16 c17 c18 c19 c20 c21 c22 c23 c24 c25 c26 c27 c28 c29;clear hb;obtain ⟨c0,c1,c2,c3,c4,c5,c6,c7,c8,c9,c10,c11,c12,c13,c14,c15,c16,c17,c18,c19,c20,c21,c22,c23,c24,c25,c26,c27,c28,c29⟩:=hX.cells;go_wp2_with fail;refine (cO _ (ho.below kb)).mono ?_;rintro e w3 ⟨rfl,hb⟩;replace kb:=kb.trans (hb.mono kb.size);replace hX:=hX.below hb;clear c0 c1 c2 c3 c4 c5 c6 c7 c8 c9 c10 c11 c12 c13 c14 c15 c16 c17 c18 c19 c20 c21 c22 c23 c24 c25 c26 c27 c28 c29;clear hb;obtain ⟨c0,c1,c2,c3,c4,c5,c6,c7,c8,c9,c10,c11,c12,c13,c14,c15,c16,c17,c18,c19,c20,c21,c22,c23,c24,c25,c26,c27,c28,c29⟩:=hX.cells;go_wp2_with fail;refine (cT _ (hT.below kb).l.sl).mono ?_;rintro e w4 ⟨rfl,hw⟩;subst hw;go_wp2_with fail;refine (cP _ (hP.below kb).l.sl (hQ.below kb).l.sl).mono ?_;rintro e w5 ⟨rfl,hb⟩;replace kb:=kb.trans (hb.mono kb.size);replace hX:=hX.below hb;clear c0 c1 c2 c3 c4 c5 c6 c7 c8 c9 c10 c11 c12 c13 c14 c15 c16 c17 c18 c19 c20 c21 c22 c23 c24 c25 c26 c27 c28 c29;clear hb;obtain ⟨c0,c1,c2,c3,c4,c5,c6,c7,c8,c9,c10,c11,c12,c13,c14,c15,c16,c17,c18,c19,c20,c21,c22,c23,c24,c25,c26,c27,c28,c29⟩:=hX.cells;clear c0 c1 c2 c3 c4 c5 c6 c7 c8 c9 c10 c11 c12 c13 c14 c15 c16 c17 c18 c19 c20 c21 c22 c23 c24 c25 c26 c27 c28 c29;go_wp2;go_ret;exact ⟨rfl,kb⟩
def RwS (vs:List Value) (k:Nat):Prop:=∃ i,i<vs.length/\(rowV vs i).ownBlock=some k
def GrS (v:Value) (vs:List Value) (k:Nat):Prop:=v.ownBlock=some k\/RwS vs k
def GrP (S:Nat->Prop) (w w':World):Prop:=w'.os=w.os/\w'.tape=w.tape/\w'.output=w.output/\w.heap.size<=w'.heap.size/\∀ k,k<w.heap.size->¬ S k->w'.heap[k]?=w.heap[k]?
theorem GrP.refl (S:Nat->Prop) (w:World):GrP S w w:=⟨rfl,rfl,rfl,Nat.le_refl _,fun _ _ _=>rfl⟩
theorem GrP.trans {S:Nat->Prop} {a b c:World} (h:GrP S a b) (k:GrP S b c):GrP S a c :=
 ⟨k.1.trans h.1,k.2.1.trans h.2.1,k.2.2.1.trans h.2.2.1,Nat.le_trans h.2.2.2.1 k.2.2.2.1,fun i hi ho=>(k.2.2.2.2 i (Nat.lt_of_lt_of_le hi h.2.2.2.1) ho).trans (h.2.2.2.2 i hi ho)⟩
theorem GrP.size {S:Nat->Prop} {w w':World} (h:GrP S w w'):w.heap.size<=w'.heap.size:=h.2.2.2.1
theorem GrP.of_below {S:Nat->Prop} {w w':World} (h:Below w.heap.size w w'):GrP S w w':=⟨h.os,h.tape,h.output,h.size,fun k hk _=>h.block k hk⟩
theorem GrP.of_grown {S:Nat->Prop} {w w':World} {row:Option Nat} (h:w.grownBy w' row) (hr:∀ g,row=some g->S g):GrP S w w' :=
 ⟨h.os,h.tape,h.output,h.size,fun k hk ho=>h.block k hk (fun e=>ho (hr k e.symm))⟩
theorem GrP.mono {S S':Nat->Prop} {w w':World} (h:GrP S w w') (hs:∀ k,k<w.heap.size->S k->S' k):GrP S' w w' :=
 ⟨h.1,h.2.1,h.2.2.1,h.2.2.2.1,fun k hk ho=>h.2.2.2.2 k hk (fun c=>ho (hs k hk c))⟩
theorem GrP.to_below {S:Nat->Prop} {B:Nat} {w w':World} (h:GrP S w w') (hB:∀ k,S k->B<=k) (hs:B<=w.heap.size):Below B w w' :=
 ⟨h.1,h.2.1,h.2.2.1,h.2.2.2.1,fun k hk=>h.2.2.2.2 k (by omega) (fun c=>by have:=hB k c;omega)⟩
theorem _root_.Go.World.ownsRow.grp {S:Nat->Prop} {w w':World} {base:Nat} {e:TypeId} {size:Nat} {v:Value} {n:Nat} {xs:List Value} (h:w.ownsRow base e size v n xs) (hg:GrP S w w') (hne:∀ g,v.ownBlock=some g->¬ S g):w'.ownsRow base e size v n xs:=by
 refine ⟨h.1,?_⟩;rcases h.2 with h2|⟨g,cap,cur,hv,hbg,hgg,r⟩
 ·exact .inl h2
 ·exact .inr ⟨g,cap,cur,hv,hbg,by rw [hg.2.2.2.2 g (Array.getElem?_eq_some_iff.1 hgg).1 (hne g (by rw [hv];rfl))];exact hgg,r⟩
theorem OwnC.grp {S:Nat->Prop} {w w':World} {base:Nat} {v:Value} {xs:List Ce} (h:OwnC w base v xs) (hg:GrP S w w') (hne:∀ g,v.ownBlock=some g->¬ S g):OwnC w' base v xs:=World.ownsRow.grp (show w.ownsRow _ _ _ _ _ _ from h) hg hne
theorem OwnI.grp {S:Nat->Prop} {w w':World} {base:Nat} {v:Value} {xs:List Int} (h:OwnI w base v xs) (hg:GrP S w w') (hne:∀ g,v.ownBlock=some g->¬ S g):OwnI w' base v xs:=World.ownsRow.grp (show w.ownsRow _ _ _ _ _ _ from h) hg hne
theorem OwnV.grp {S:Nat->Prop} {w w':World} {base B:Nat} {v:Value} {vs:List Value} {rows:List (List Ce)} (h:OwnV w base B v vs rows) (hg:GrP S w w') (hne:∀ k,GrS v vs k->¬ S k):OwnV w' base B v vs rows :=
 ⟨h.1,World.ownsRow.grp h.2.1 hg (fun g e=>hne g (.inl e)),fun i hi=>(h.2.2.1 i hi).grp hg (fun g e=>hne g (.inr ⟨i,by rw [h.1];exact hi,e⟩)),h.2.2.2.1,h.2.2.2.2⟩
theorem LiOk.grp {S:Nat->Prop} {base:Nat} {w w':World} {L:List (Value×List Int)} (h:LiOk w base L) (hg:GrP S w w') (hne:∀ p∈L,∀ g,p.1.ownBlock=some g->¬ S g):LiOk w' base L :=
 ⟨fun p hp=>(h.1 p hp).grp hg (hne p hp),h.2⟩
theorem BlkC.grp {S:Nat->Prop} {w w':World} {B:Nat} {e:TypeId} {cs:List Value} (h:BlkC w B e cs) (hg:GrP S w w') (hne:¬ S B):BlkC w' B e cs:=by
 unfold BlkC;rw [hg.2.2.2.2 B h.lt hne]
 exact h
theorem OwnC.blk {w:World} {base:Nat} {v:Value} {xs:List Ce} (h:OwnC w base v xs) {g:Nat} (e:v.ownBlock=some g):∃ cs,w.heap[g]?=some (.cells cs 146 (0,0)):=by
 rcases h.2 with ⟨hv,_⟩|⟨g',cap,cur,hv,_,hg,_⟩
 ·rw [hv] at e;simp [Value.ownBlock] at e
 ·rw [hv] at e
  simp only [Value.ownBlock,Option.some.injEq] at e;subst e;exact ⟨_,hg⟩
theorem own_blk {w:World} {base:Nat} {T:TypeId} {size:Nat} {v:Value} {n:Nat} {xs:List Value} (h:w.ownsRow base T size v n xs) {g:Nat} (e:v.ownBlock=some g):∃ cs,w.heap[g]?=some (.cells cs T (0,0)):=by
 rcases h.2 with ⟨hv,_⟩|⟨g',cap,cur,hv,_,hg,_⟩
 ·rw [hv] at e;simp [Value.ownBlock] at e
 ·rw [hv] at e
  simp only [Value.ownBlock,Option.some.injEq] at e;subst e;exact ⟨_,hg⟩
theorem blk_ne {w:World} {g:Nat} {cs cs':Array Value} {T T':TypeId} (h:w.heap[g]?=some (.cells cs T (0,0))) (h':w.heap[g]?=some (.cells cs' T' (0,0))) (hT:T≠T'):False:=by
 rw [h] at h'
 simp only [Option.some.injEq,Obj.cells.injEq] at h';exact hT h'.2.1
theorem GrS.blk {w:World} {base B:Nat} {v:Value} {vs:List Value} {rows:List (List Ce)} (h:OwnV w base B v vs rows) {k:Nat} (hk:GrS v vs k):∃ cs T,w.heap[k]?=some (.cells cs T (0,0))/\(T=120\/T=146):=by
 rcases hk with e|⟨i,hi,e⟩
 ·obtain ⟨cs,hc⟩:=own_blk h.2.1 e
  exact ⟨cs,_,hc,.inl rfl⟩
 ·obtain ⟨cs,hc⟩:=(h.2.2.1 i (by rw [<- h.1];exact hi)).blk e
  exact ⟨cs,_,hc,.inr rfl⟩
theorem RwS.blk {w:World} {base B:Nat} {v:Value} {vs:List Value} {rows:List (List Ce)} (h:OwnV w base B v vs rows) {k:Nat} (hk:RwS vs k):∃ cs,w.heap[k]?=some (.cells cs 146 (0,0)):=by
 obtain ⟨i,hi,e⟩:=hk;exact (h.2.2.1 i (by rw [<- h.1];exact hi)).blk e
theorem grS_not {w:World} {base B:Nat} {v:Value} {vs:List Value} {rows:List (List Ce)} (h:OwnV w base B v vs rows) {k:Nat} {cs:Array Value} {T:TypeId} (hb:w.heap[k]?=some (.cells cs T (0,0))) (h1:T≠120) (h2:T≠146):¬ GrS v vs k:=fun c=>by
 obtain ⟨cs',T',hc,hT⟩:=c.blk h;rcases hT with rfl|rfl
 ·exact blk_ne hb hc h1
 ·exact blk_ne hb hc h2
theorem li_not_grS {w:World} {base base' B:Nat} {u v:Value} {vs:List Value} {rows:List (List Ce)} {xs:List Int} (h:OwnV w base B v vs rows) (hu:OwnI w base' u xs):∀ k,u.ownBlock=some k->¬ GrS v vs k:=fun k e=>by
 obtain ⟨cs,hc⟩:=own_blk (show w.ownsRow _ _ _ _ _ _ from hu) e;exact grS_not h hc (by decide) (by decide)
theorem GrS.bd {w:World} {base B:Nat} {v:Value} {vs:List Value} {rows:List (List Ce)} (h:OwnV w base B v vs rows) {k:Nat} (hk:GrS v vs k):base<=k/\k<w.heap.size:=by
 rcases hk with e|⟨i,hi,e⟩
 ·exact h.g.lt k e
 ·exact (h.2.2.1 i (by rw [<- h.1];exact hi)).lt k e
theorem RwS.bd {w:World} {base B:Nat} {v:Value} {vs:List Value} {rows:List (List Ce)} (h:OwnV w base B v vs rows) {k:Nat} (hk:RwS vs k):base<=k/\k<w.heap.size:=GrS.bd h (.inr hk)
def OwnS (w:World) (base:Nat) (t:Te) (v:Tv) (vg vo:List Value):Prop :=
 OwnV w base w.heap.size v.g vg t.g/\OwnV w base w.heap.size v.o vo t.o/\(∀ k,GrS v.g vg k->¬ GrS v.o vo k)/\LiOk w base [(v.ti,t.ti),(v.pp,t.pa.params),(v.pt,t.pa.text)]
theorem OwnS.below {w w':World} {base:Nat} {t:Te} {v:Tv} {vg vo:List Value} (h:OwnS w base t v vg vo) (hb:Below w.heap.size w w'):OwnS w' base t v vg vo :=
 ⟨(h.1.below hb).up hb.size,(h.2.1.below hb).up hb.size,h.2.2.1,h.2.2.2.below hb⟩
theorem OwnS.sl {w:World} {base:Nat} {t:Te} {v:Tv} {vg vo:List Value} (h:OwnS w base t v vg vo):SlT w t v :=
 ⟨SlG.of_own h.1.g,SlG.of_own h.2.1.g,SlN.of_own h.2.2.2.head,SlN.of_own h.2.2.2.tail.head,SlN.of_own h.2.2.2.tail.tail.head⟩
theorem ownV_low {w:World} {base base' B:Nat} {v:Value} {vs:List Value} {rows:List (List Ce)} (h:OwnV w base B v vs rows) (hb:base'<=base):OwnV w base' B v vs rows :=
 ⟨h.1,own_low' h.2.1 hb,fun i hi=>(h.2.2.1 i hi).low hb,h.2.2.2.1,h.2.2.2.2⟩
theorem OwnS.low {w:World} {base base':Nat} {t:Te} {v:Tv} {vg vo:List Value} (h:OwnS w base t v vg vo) (hb:base'<=base):OwnS w base' t v vg vo :=
 ⟨ownV_low h.1 hb,ownV_low h.2.1 hb,h.2.2.1,h.2.2.2.low hb⟩
theorem OwnS.grown {w w':World} {base B:Nat} {t:Te} {v:Tv} {vg vo:List Value} {T:TypeId} {cs:Array Value} (h:OwnS w base t v vg vo) (hg:w.grownBy w' (some B)) (hT:w.heap[B]?=some (.cells cs T (0,0))) (h1:T≠120) (h2:T≠146) (h3:T≠2):OwnS w' base t v vg vo:=by
 have hp:GrP (fun k=>k=B) w w':=GrP.of_grown hg (fun g e=>by cases e;rfl)
 exact ⟨(h.1.grp hp (fun k hk e=>by subst e;exact grS_not h.1 hT h1 h2 hk)).up hg.size,(h.2.1.grp hp (fun k hk e=>by subst e;exact grS_not h.2.1 hT h1 h2 hk)).up hg.size,h.2.2.1,
  h.2.2.2.kept hg (fun p hp=>.inr ((h.2.2.2.1 p hp).not_block hT h3))⟩
theorem apart_ranges {w:World} {lo hi lo' hi':Nat} {v v':Value} {vs vs':List Value} {rows rows':List (List Ce)} (h:OwnV w lo hi v vs rows) (h':OwnV w lo' hi' v' vs' rows') (hv:∀ g,v.ownBlock=some g->g<hi) (hv':∀ g,v'.ownBlock=some g->g<hi') (hd:hi<=lo'\/hi'<=lo):∀ k,GrS v vs k->¬ GrS v' vs' k:=fun k hk hk'=>by
 have a:=GrS.bd h hk;have b:=GrS.bd h' hk'
 have a2:k<hi:=by
  rcases hk with e|⟨i,hi,e⟩
  ·exact hv k e
  ·exact h.2.2.2.1 i (by rw [<- h.1];exact hi) k e
 have b2:k<hi':=by
  rcases hk' with e|⟨i,hi,e⟩
  ·exact hv' k e
  ·exact h'.2.2.2.1 i (by rw [<- h'.1];exact hi) k e
 omega
theorem RgT.own {w:World} {base b1 b2 b3:Nat} {t:Te} {v:Tv} (h:RgT w base b1 b2 b3 t v):∃ vg vo,OwnS w base t v vg vo:=by
 obtain ⟨⟨h1,h1v,h1s⟩,⟨h2,h2v,h2s⟩,h3,h4,h5,h6,h7⟩:=h;obtain ⟨vg,hg⟩:=h1.v;obtain ⟨vo,ho⟩:=h2.v;exact ⟨vg,vo,hg.up h1s,(ownV_low ho h4).up h2s,apart_ranges hg ho h1v h2v (.inl (Nat.le_refl _)),h3.low (by omega)⟩
theorem st_iff (f b:Int) (bo un tu:Bool) (f' b':Int) (bo' un' tu':Bool):(St.mk f b bo un tu=St.mk f' b' bo' un' tu') ↔ (f=f'/\b=b'/\bo=bo'/\un=un'/\tu=tu'):=by
 constructor
 ·intro e;cases e;simp
 ·rintro ⟨rfl,rfl,rfl,rfl,rfl⟩;rfl
theorem eq_st (a b:St) (W:World):(Op.equalIn 10000 28 (.agg #[.int .i64 a.fore,.int .i64 a.back,.bool a.bold,.bool a.under,.bool a.turned]) (.agg #[.int .i64 b.fore,.int .i64 b.back,.bool b.bold,.bool b.under,.bool b.turned])).run Tryz.prog W=.ok (decide (a=b)) W:=by
 have hu:=Tryz.underlying28;have hi:=Tryz.underlying2;have hb:=Tryz.underlying4;obtain ⟨f,g,bo,un,tu⟩:=a;obtain ⟨f',g',bo',un',tu'⟩:=b;simp only [st_iff];rw [run_equalIn_struct W 9999 _ _ _ (by simp [Program.fieldsOf,hu]) (by kernel_rfl)]
 by_cases h1:f=f'<;>by_cases h2:g=g'<;>by_cases h3:bo=bo'<;>by_cases h4:un=un'<;>by_cases h5:tu=tu'<;>simp [Program.fieldsOf,hu,hi,hb,Op.eqFields,go_sem,h1,h2,h3,h4,h5,Result.andThen]
theorem OwnV.setV {w:World} {base B g n cap:Nat} {vs:List Value} {rows:List (List Ce)} (h:OwnV w base B (.slice (some ⟨g,0,none⟩) n cap) vs rows) (hn:rows.length=n) (i:Nat) (hi:i<n) (r:Value) (xs:List Ce) (hr:OwnC w base r xs) (hB:∀ q,r.ownBlock=some q->B<=q) :
  OwnV (w.setCell ⟨g,i,none⟩ r) base (w.setCell ⟨g,i,none⟩ r).heap.size (.slice (some ⟨g,0,none⟩) n cap) (vs.set i r) (rows.set i xs)/\w.grownBy (w.setCell ⟨g,i,none⟩ r) (some g):=by
 have h':=h;subst hn;obtain ⟨hvl,hown,hrs,hlt,hd⟩:=h;have h0:=World.ownsRow.stored hown i r;have hap:∀ {u:Value} {ys:List Ce},OwnC w base u ys->OwnC (w.setCell ⟨g,i,none⟩ r) base u ys:=fun hu=>hu.kept h0.2 (outer_apart hown hu)
 refine ⟨h'.mixed (fun k=>if k=i then none else some k) _ _ (by simp [hvl]) (by simp) h0.1 (fun p hp=>hap (hrs p hp)) (fun k p hk e=>?_) (fun a b p hab hb e1 e2=>?_) (fun k hk e=>?_) (fun a b hab hb e1 e2=>?_),h0.2⟩
 ·by_cases c:k=i
  ·rw [if_pos c] at e;cases e
  ·rw [if_neg c] at e;cases e
   exact ⟨hk,by rw [rowV_setV (by omega),if_neg c],by rw [rowX_set hi,if_neg c]⟩
 ·by_cases c:a=i
  ·rw [if_pos c] at e1;cases e1
  ·by_cases d:b=i
   ·rw [if_pos d] at e2;cases e2
   ·rw [if_neg c] at e1;rw [if_neg d] at e2;cases e1;cases e2;omega
 ·by_cases c:k=i
  ·rw [rowV_setV (by omega),if_pos c,rowX_set hi,if_pos c];exact ⟨hap hr,hB⟩
  ·rw [if_neg c] at e;cases e
 ·by_cases c:a=i
  ·by_cases d:b=i
   ·omega
   ·rw [if_neg d] at e2;cases e2
  ·rw [if_neg c] at e1;cases e1
end Go.Proofs.YtgcnmjjlmcnllaaGreatDoor
