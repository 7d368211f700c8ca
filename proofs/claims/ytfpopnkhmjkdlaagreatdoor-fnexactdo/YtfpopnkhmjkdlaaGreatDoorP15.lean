import Derived.Test.YtfpopnkhmjkdlaaGreatDoorP14
import Derived.Lib.AppendZeros
set_option maxRecDepth 20000
set_option maxHeartbeats 16000000
namespace Go.Proofs.YtfpopnkhmjkdlaaGreatDoor
open Go.ChangeShapes Go.WideShapes Go.ChangeAt Go.RowKit
structure Te where
 gc:Int
 g:List (List Ce)
 oc:Int
 o:List (List Ce)
 row:Int
 col:Int
 st:St
 top:Int
 bot:Int
 full:Bool
 wrap:Bool
 away:Bool
 hid:Bool
 sr:Int
 sc:Int
 ss:St
 ti:List Int
 pa:Pa
 fe:ByteArray
structure Tv where
 g:Value
 o:Value
 ti:Value
 pp:Value
 pt:Value
def Y4 (gc:Int) (n:Nat) (r c:Int):Bool:=decide (0<=r/\r<=(n:Int)-1) && decide (0<=c/\c<=gc-1)
def Xk (t:Te):Bool :=
 (Xy t.gc t.g && (Xy t.oc t.o && (decide (t.gc=t.oc) && decide (t.g.length=t.o.length)))) && ((Y4 t.gc t.g.length t.row t.col && Y4 t.gc t.g.length t.sr t.sc) &&
  (decide (0<=t.top/\t.top<=t.bot/\t.bot<=(t.g.length:Int)-1/\¬ (t.top=t.bot/\0<(t.g.length:Int)-1)) && (decide (t.full=true->t.col=t.gc-1) && ((t.st.ok && t.ss.ok) && ((decide (t.ti.length<=40) && XZ t.ti) && (okV t.pa && Zg t.fe))))))
def Xg (t:Te) (v:Tv):Array Value:=#[.int .i64 t.gc,v.g,.int .i64 t.oc,v.o,.int .i64 t.row,.int .i64 t.col,.int .i64 t.st.fore,.int .i64 t.st.back,.bool t.st.bold,.bool t.st.under,.bool t.st.turned,.int .i64 t.top,.int .i64 t.bot,.bool t.full,.bool t.wrap,.bool t.away,.bool t.hid,.int .i64 t.sr,.int .i64 t.sc,.int .i64 t.ss.fore,.int .i64 t.ss.back,.bool t.ss.bold,.bool t.ss.under,.bool t.ss.turned,v.ti,.int .i64 t.pa.state,v.pp,.int .i64 t.pa.mark,v.pt,.string t.fe]
def teV (t:Te) (v:Tv):Value:=.agg (Xg t v)
def TeB (w:World) (B:Nat) (T:TypeId) (t:Te) (v:Tv):Prop:=w.heap[B]?=some (.cells (Xg t v) T (0,0))
theorem TeB.lt {w:World} {B:Nat} {T:TypeId} {t:Te} {v:Tv} (h:TeB w B T t v):B<w.heap.size:=(Array.getElem?_eq_some_iff.1 h).1
theorem TeB.kept {w w':World} {B:Nat} {T:TypeId} {t:Te} {v:Tv} {row:Option Nat} (h:TeB w B T t v) (hg:w.grownBy w' row) (hne:row≠some B):TeB w' B T t v:=by
 unfold TeB;rw [hg.block B h.lt (Ne.symm hne)]
 exact h
theorem TeB.below {w w':World} {B:Nat} {T:TypeId} {t:Te} {v:Tv} (h:TeB w B T t v) (hb:Below w.heap.size w w'):TeB w' B T t v:=h.kept (gbl hb none) (by simp)
theorem TeB.new (w:World) (T:TypeId) (t:Te) (v:Tv):TeB (w.alloc (.cells (Xg t v) T)) w.heap.size T t v:=heap_alloc_new w _
theorem TeB.cells {w:World} {B:Nat} {T:TypeId} {t:Te} {v:Tv} (h:TeB w B T t v) :
  w.cell? ⟨B,0,none⟩=some (.int .i64 t.gc)/\w.cell? ⟨B,1,none⟩=some (v.g)/\w.cell? ⟨B,2,none⟩=some (.int .i64 t.oc)/\w.cell? ⟨B,3,none⟩=some (v.o)/\w.cell? ⟨B,4,none⟩=some (.int .i64 t.row)/\w.cell? ⟨B,5,none⟩=some (.int .i64 t.col)/\w.cell? ⟨B,6,none⟩=some (.int .i64 t.st.fore)/\w.cell? ⟨B,7,none⟩=some (.int .i64 t.st.back)/\w.cell? ⟨B,8,none⟩=some (.bool t.st.bold)/\w.cell? ⟨B,9,none⟩=some (.bool t.st.under)/\w.cell? ⟨B,10,none⟩=some (.bool t.st.turned)/\w.cell? ⟨B,11,none⟩=some (.int .i64 t.top)/\w.cell? ⟨B,12,none⟩=some (.int .i64 t.bot)/\w.cell? ⟨B,13,none⟩=some (.bool t.full)/\w.cell? ⟨B,14,none⟩=some (.bool t.wrap)/\w.cell? ⟨B,15,none⟩=some (.bool t.away)/\w.cell? ⟨B,16,none⟩=some (.bool t.hid)/\w.cell? ⟨B,17,none⟩=some (.int .i64 t.sr)/\w.cell? ⟨B,18,none⟩=some (.int .i64 t.sc)/\w.cell? ⟨B,19,none⟩=some (.int .i64 t.ss.fore)/\w.cell? ⟨B,20,none⟩=some (.int .i64 t.ss.back)/\w.cell? ⟨B,21,none⟩=some (.bool t.ss.bold)/\w.cell? ⟨B,22,none⟩=some (.bool t.ss.under)/\w.cell? ⟨B,23,none⟩=some (.bool t.ss.turned)/\w.cell? ⟨B,24,none⟩=some (v.ti)/\w.cell? ⟨B,25,none⟩=some (.int .i64 t.pa.state)/\w.cell? ⟨B,26,none⟩=some (v.pp)/\w.cell? ⟨B,27,none⟩=some (.int .i64 t.pa.mark)/\w.cell? ⟨B,28,none⟩=some (v.pt)/\w.cell? ⟨B,29,none⟩=some (.string t.fe):=by
 refine ⟨?_,?_,?_,?_,?_,?_,?_,?_,?_,?_,?_,?_,?_,?_,?_,?_,?_,?_,?_,?_,?_,?_,?_,?_,?_,?_,?_,?_,?_,?_⟩<;>(rw [cell_of_row w B _ _ _ (0,0) h];rfl)
def SlT (w:World) (t:Te) (v:Tv):Prop:=SlG w v.g t.g/\SlG w v.o t.o/\SlN w v.ti t.ti/\SlN w v.pp t.pa.params/\SlN w v.pt t.pa.text
theorem SlT.below {w w':World} {t:Te} {v:Tv} (h:SlT w t v) (hb:Below w.heap.size w w'):SlT w' t v:=⟨h.1.below hb,h.2.1.below hb,h.2.2.1.below hb,h.2.2.2.1.below hb,h.2.2.2.2.below hb⟩
def SzT (n:Nat) (t:Te):Prop:=t.g.length<=n/\(∀ i,i<t.g.length->(Xb t.g i).length<=n)/\t.o.length<=n/\(∀ i,i<t.o.length->(Xb t.o i).length<=n)/\t.ti.length<=n/\t.pa.params.length<=n/\t.pa.text.length<=n
theorem sGs {w:World} {v:Value} {rows:List (List Ce)} (h:SlG w v rows):∃ a c,v=.slice a rows.length c:=by
 obtain ⟨a,c,vs,rfl,_⟩:=h;exact ⟨a,c,rfl⟩
theorem Xr:(Tryz.prog.info? 35).map (·.size)=some 30:=by kernel_rfl
theorem Yk {w:World} {ops:Array Oper} {rest:List Oper} {o:Oper} {a:Act} {Q:Exit->Act->World->Prop} {B:Nat} {t:Te} {v:Tv} (hb:TeB w B 35 t v) (hgd:Region.wanted o (yielded ops a.tmps)=true) (x:Operand)
  (ho:o.op=.load 35 x) (hx:a.eval x=.pointer (some ⟨B,0,none⟩))
  (h:wpList Tryz.prog ops Q rest (a.put o.dst (.agg (Xg t v))) w):wpList Tryz.prog ops Q (o::rest) a w :=
 KX (cs:=Xg t v) hgd 35 x ho Tryz.underlying35 rfl Xr hb hx h
theorem UK (v:Value) (xs:List Int) (left:Nat) (w:World) (hv:SlI w v xs) (hl:xs.length<=maxLen) (hf:left<=4611686018427387904) :
  Calls Tryz.prog 88 #[v,.int .i64 left] w fun e w'=>e=.returned (.int .i64 (if left<xs.length then -1 else ((left-xs.length:Nat):Int)))/\w'=w:=by
 unfold maxLen at hl;obtain ⟨a,c,rfl⟩:=hv.shp;clear hv;generalize xs.length=n at *
 by_cases h:left<n
 ·have h2:(left:Int)-(n:Int)<0:=by omega
  rw [if_pos h]
  go_enter Tryz.func88,Tryz.ntmps88;go_wp2;go_ret;exact ⟨rfl,rfl⟩
 ·have h2:¬ (left:Int)-(n:Int)<0:=by omega
  have h3:Hid (((left-n:Nat):Int)=(left:Int)-(n:Int)):=by show _=_;omega
  rw [if_neg h]
  go_enter Tryz.func88,Tryz.ntmps88;go_wp2;go_ret;exact ⟨by rw [h3.out];rfl,rfl⟩
def szP (n m left:Nat):Int:=if left<n then -1 else if left-n<m then -1 else ((left-n-m:Nat):Int)
theorem XbT (p:Pa) (pv tv:Value) (left:Nat) (w:World) (hp:SlI w pv p.params) (ht:SlI w tv p.text) (hpl:p.params.length<=maxLen) (htl:p.text.length<=maxLen) (hf:left<=4611686018427387904) :
  Calls Tryz.prog 89 #[paV p pv tv,.int .i64 left] w fun e w'=>e=.returned (.int .i64 (szP p.params.length p.text.length left))/\Below w.heap.size w w':=by
 obtain ⟨s,ps,m,ts⟩:=p;have hb:=Xd w (Obj.cells #[.int .i64 s,pv,.int .i64 m,tv] 62);have hP:=PaC.new w s m pv tv 62;have h1:=UK pv ps left _ (hp.below hb) hpl hf;have h2:=fun l h=>UK tv ts l _ (ht.below hb) htl h
 unfold paV at *;simp only at *;obtain ⟨pa,pc,hpv⟩:=hp.shp;obtain ⟨ta,tc,htv⟩:=ht.shp;subst hpv;subst htv;obtain ⟨_,⟨c0,c1,c2,c3⟩,_⟩:=id hP;obtain ⟨rv,hrv⟩:∃ rv,Hid (rv=szP ps.length ts.length left):=⟨_,rfl⟩;rw [<- hrv.out]
 by_cases q1:left<ps.length
 ·have hv:Hid (rv=-1):=by show _=_;rw [hrv.out];unfold szP;rw [if_pos q1]
  rw [if_pos q1] at h1
  clear h2 hp ht hP hrv;go_enter Tryz.func89,Tryz.ntmps89;go_wp2_with (go_at_call 88;refine h1.mono ?_;rintro e w' ⟨rfl,rfl⟩);go_ret;exact ⟨by rw [hv.out];rfl,hb⟩
 ·rw [if_neg q1] at h1
  have h3:=h2 (left-ps.length) (by omega);have hn:¬ (((left-ps.length:Nat):Int)<0):=by omega
  obtain ⟨l2,hl2⟩:∃ l2,Hid (l2=left-ps.length):=⟨_,rfl⟩;rw [<- hl2.out] at h1 h3 hn
  by_cases q2:l2<ts.length
  ·have hv:Hid (rv=-1):=by show _=_;rw [hrv.out];unfold szP;rw [if_neg q1,if_pos (by rw [<- hl2.out];exact q2)]
   rw [if_pos q2] at h3
   clear h2 hp ht hP hrv hl2;go_enter Tryz.func89,Tryz.ntmps89;go_wp2_with fail;refine h1.mono ?_;rintro e w3 ⟨rfl,hw⟩;subst hw;clear h1;go_wp2_with fail;refine h3.mono ?_;rintro e w4 ⟨rfl,hw⟩;subst hw;clear h3;go_wp2;go_ret;exact ⟨by rw [hv.out];rfl,hb⟩
  ·obtain ⟨l3,hl3⟩:∃ l3,Hid (l3=l2-ts.length):=⟨_,rfl⟩
   have hv:Hid (rv=(l3:Int)):=by show _=_;rw [hrv.out,hl3.out,hl2.out];unfold szP;rw [if_neg q1,if_neg (by rw [<- hl2.out];exact q2)]
   rw [if_neg q2,<- hl3.out] at h3
   have hn3:¬ ((l3:Int)<0):=by omega
   clear h2 hp ht hP hrv hl2 hl3;go_enter Tryz.func89,Tryz.ntmps89;go_wp2_with fail;refine h1.mono ?_;rintro e w3 ⟨rfl,hw⟩;subst hw;clear h1;go_wp2_with fail;refine h3.mono ?_;rintro e w4 ⟨rfl,hw⟩;subst hw;clear h3;go_wp2;go_ret;exact ⟨by rw [hv.out];rfl,hb⟩
theorem K1 (w:World) (n:Nat):Below w.heap.size w (w.drewN n):=by
 induction n with
 | zero=>exact Below.refl _ _
 | succ n ih=>exact ih.trans ((bdr _).mono ih.size)
theorem Xay (p:Pa) (pv tv pv2 tv2:Value) (w:World) (hp:SlI w pv p.params) (ht:SlI w tv p.text) (hp2:SlI w pv2 p.params) (ht2:SlI w tv2 p.text) (hpl:p.params.length<=1073741824) (htl:p.text.length<=1073741824) :
  Calls Tryz.prog 99 #[paV p pv tv,paV p pv2 tv2] w fun e w'=>e=.returned (.bool true)/\Below w.heap.size w w':=by
 obtain ⟨s,ps,m,ts⟩:=p;have hb1:=Xd w (Obj.cells #[.int .i64 s,pv,.int .i64 m,tv] 31);have hb2:=Xd (w.alloc (Obj.cells #[.int .i64 s,pv,.int .i64 m,tv] 31)) (Obj.cells #[.int .i64 s,pv2,.int .i64 m,tv2] 31);have hbb:=hb1.trans (hb2.mono hb1.size);have hP:=(PaC.new w s m pv tv 31).below hb2;have hR:=PaC.new (w.alloc (Obj.cells #[.int .i64 s,pv,.int .i64 m,tv] 31)) s m pv2 tv2 31;rw [show (w.alloc (Obj.cells #[.int .i64 s,pv,.int .i64 m,tv] 31)).heap.size=w.heap.size+1 by simp] at hR
 have e1:=JC pv pv2 ps _ (hp.below hbb) (hp2.below hbb) hpl;have e2:=fun W h1 h2=>JC tv tv2 ts W h1 h2 htl
 have ht3:=ht.below hbb;have ht4:=ht2.below hbb;unfold paV at *;simp only at *;obtain ⟨pa,pc,hpv⟩:=hp.shp;obtain ⟨ta,tc,htv⟩:=ht.shp;obtain ⟨pa2,pc2,hpv2⟩:=hp2.shp;obtain ⟨ta2,tc2,htv2⟩:=ht2.shp;subst hpv;subst htv;subst hpv2;subst htv2;obtain ⟨_,⟨c0,c1,c2,c3⟩,_⟩:=id hP;obtain ⟨_,⟨d0,d1,d2,d3⟩,_⟩:=id hR;clear hp ht hp2 ht2 hb1 hb2;go_enter Tryz.func99,Tryz.ntmps99;go_wp2_with fail;refine e1.mono ?_;rintro e w3 ⟨rfl,n,hw⟩;have hbn:Below _ _ w3:=hw ▸ K1 _ n;have hP3:=hP.below hbn;have hR3:=hR.below hbn;have e3:=e2 w3 (ht3.below hbn) (ht4.below hbn);have hb3:=hbb.trans (hbn.mono hbb.size);clear hw hbn hP hR e1 e2 ht3 ht4 hbb c0 c1 c2 c3 d0 d1 d2 d3;obtain ⟨_,⟨c0,c1,c2,c3⟩,_⟩:=hP3;obtain ⟨_,⟨d0,d1,d2,d3⟩,_⟩:=hR3;go_wp2_with fail;refine e3.mono ?_;rintro e w4 ⟨rfl,n2,hw⟩;have hbn:Below w3.heap.size w3 w4:=hw ▸ K1 _ n2;have hb4:=hb3.trans (hbn.mono hb3.size);clear hw hbn e3 hb3 c0 c1 c2 c3 d0 d1 d2 d3;go_wp2;go_ret;exact ⟨rfl,hb4⟩
theorem XaN (p:Pa) (pv tv:Value) (w:World) (hp:SlI w pv p.params) (ht:SlI w tv p.text) (hpl:p.params.length<=1073741824) (htl:p.text.length<=1073741824) :
  Calls Tryz.prog 94 #[paV p pv tv] w fun e w'=>∃ pv' tv',e=.returned (paV p pv' tv')/\XS w' w.heap.size [(pv',p.params),(tv',p.text)]/\Below w.heap.size w w':=by
 obtain ⟨s,ps,m,ts⟩:=p;have hto1:=fun W h=>JV pv ps W h hpl
 have hto2:=fun W h=>JV tv ts W h htl
 unfold paV at *;simp only at *;obtain ⟨pa,pc,hpv⟩:=hp.shp;obtain ⟨ta,tc,htv⟩:=ht.shp;subst hpv;subst htv;have hb0:=Xd w (Obj.cells #[.int .i64 s,.slice pa ps.length pc,.int .i64 m,.slice ta ts.length tc] 62);have hA:=PaC.new w s m (.slice pa ps.length pc) (.slice ta ts.length tc) 62;have z0:(w.alloc (Obj.cells #[.int .i64 s,.slice pa ps.length pc,.int .i64 m,.slice ta ts.length tc] 62)).heap.size=w.heap.size+1:=by simp
 have hp1:=hp.below hb0;have ht1:=ht.below hb0;generalize hw1:w.alloc (Obj.cells #[.int .i64 s,.slice pa ps.length pc,.int .i64 m,.slice ta ts.length tc] 62)=w1 at *;have hb1:=Xd w1 (Obj.cells #[.int .i64 0,.slice none 0 0,.int .i64 0,.slice none 0 0] 31);have hb2:=Xd (w1.alloc (Obj.cells #[.int .i64 0,.slice none 0 0,.int .i64 0,.slice none 0 0] 31)) (Obj.cells #[.int .i64 s,.slice none 0 0,.int .i64 0,.slice none 0 0] 31);have hbb:=hb1.trans (hb2.mono hb1.size);have hR:=(PbB.new w1 0 0 (.slice none 0 0) (.slice none 0 0)).below hb2;have hO:=PbB.new (w1.alloc (Obj.cells #[.int .i64 0,.slice none 0 0,.int .i64 0,.slice none 0 0] 31)) s 0 (.slice none 0 0) (.slice none 0 0);rw [show (w1.alloc (Obj.cells #[.int .i64 0,.slice none 0 0,.int .i64 0,.slice none 0 0] 31)).heap.size=w.heap.size+2 by simp [z0]] at hO
 rw [z0] at hR
 have hA2:=hA.below hbb;have hp2:=hp1.below hbb;have ht2:=ht1.below hbb;have z3:((w1.alloc (Obj.cells #[.int .i64 0,.slice none 0 0,.int .i64 0,.slice none 0 0] 31)).alloc (Obj.cells #[.int .i64 s,.slice none 0 0,.int .i64 0,.slice none 0 0] 31)).heap.size=w.heap.size+3:=by simp [z0]
 have hbw:=hb0.trans (hbb.mono hb0.size);obtain ⟨_,⟨c0,c1,c2,c3⟩,_⟩:=id hA2;have hT:=hto1 _ hp2;subst hw1;have htw:=ht;clear hA hp hp1 ht ht1 hb0 hb1 hb2 hto1 hp2;go_enter Tryz.func94,Tryz.ntmps94;go_wp2_with fail;refine hT.mono ?_;rintro e w4 ⟨u,rfl,hou,hb4⟩;have hR4:=hR.below hb4;have hO4:=hO.below hb4;have hA4:=hA2.below hb4;have ht4:=ht2.below hb4;have hou:Yi w4 (w.heap.size+3) u ps:=by rw [<- z3];exact hou
 obtain ⟨ua,un,uc,hu⟩:=hou.shape;subst hu;have hs4:w.heap.size+3<=w4.heap.size:=by rw [<- z3];exact hb4.size
 have hb4w:=hbw.trans (hb4.mono hbw.size)
  -- the first list and the mark are stored
 have g1:=sCc w4 (w.heap.size+2) 1 (.slice ua un uc);have k1:PbB (w4.setCell ⟨w.heap.size+2,1,none⟩ (.slice ua un uc)) (w.heap.size+2) s (.slice ua un uc) 0 (.slice none 0 0):=hO4.set 1 _;have g2:=sCc (w4.setCell ⟨w.heap.size+2,1,none⟩ (.slice ua un uc)) (w.heap.size+2) 2 (.int .i64 m);have k2:PbB ((w4.setCell ⟨w.heap.size+2,1,none⟩ (.slice ua un uc)).setCell ⟨w.heap.size+2,2,none⟩ (.int .i64 m)) (w.heap.size+2) s (.slice ua un uc) m (.slice none 0 0):=k1.set 2 _;have gg:=Xf g1 g2;have hb5:Below (w.heap.size+2) w4 ((w4.setCell ⟨w.heap.size+2,1,none⟩ (.slice ua un uc)).setCell ⟨w.heap.size+2,2,none⟩ (.int .i64 m)):=(Below.refl _ _).grown gg (by omega) (fun k e=>by cases e;exact Nat.le_refl _);have hou5:=hou.kept gg (.inr (fun e=>by have:=(hou.lt _ e).1;omega));have hA5:=hA4.grown gg (by simp);have hR5:=hR4.kept gg (by simp);have ht0:SlI ((w4.setCell ⟨w.heap.size+2,1,none⟩ (.slice ua un uc)).setCell ⟨w.heap.size+2,2,none⟩ (.int .i64 m)) (.slice ta ts.length tc) ts:=htw.below (hb4w.grown gg (by omega) (fun k e=>by cases e;omega));have z5:((w4.setCell ⟨w.heap.size+2,1,none⟩ (.slice ua un uc)).setCell ⟨w.heap.size+2,2,none⟩ (.int .i64 m)).heap.size=w4.heap.size:=by simp
 have hT2:=hto2 _ ht0;obtain ⟨_,⟨e0,e1,e2,e3⟩,_⟩:=id hA4;obtain ⟨r0,r1,r2,r3⟩:=hO4.cells;obtain ⟨y0,y1,y2,y3⟩:=hO4.frozen;have hb5w:=hb4w.grown gg (by omega) (fun k e=>by cases e;omega);clear hT hb4 hR hO hA2 c0 c1 c2 c3 ht2 ht4 hbb hR4 hO4 hA4 hou k1 g1 g2 gg hb5 ht0 htw hto2 hb4w;obtain ⟨W5,hW5⟩:∃ W5,W5=(w4.setCell ⟨w.heap.size+2,1,none⟩ (.slice ua un uc)).setCell ⟨w.heap.size+2,2,none⟩ (.int .i64 m):=⟨_,rfl⟩;rw [<- hW5] at k2 hou5 hA5 hR5 z5 hb5w
 have hW6:=(show Hid _ from hW5);clear hW5;go_wp2_with fail;refine hT2.mono ?_;rintro e w6 ⟨t,rfl,hot,hb6⟩;rw [<- hW6.out] at hot hb6
 clear hT2 e0 e1 e2 e3 r0 r1 r2 r3 y0 y1 y2 y3 hW6;have k6:=k2.below hb6;have hR6:=hR5.below hb6;have hou6:=hou5.below hb6;have hot:Yi w6 w4.heap.size t ts:=by rw [<- z5];exact hot
 obtain ⟨sa,sn,sc,hu⟩:=hot.shape;subst hu;have g7:=sCc w6 (w.heap.size+2) 3 (.slice sa sn sc);have k7:PbB (w6.setCell ⟨w.heap.size+2,3,none⟩ (.slice sa sn sc)) (w.heap.size+2) s (.slice ua un uc) m (.slice sa sn sc):=k6.set 3 _;have hR7:=hR6.kept g7 (by simp)
 have hL6:XS w6 w.heap.size [(.slice ua un uc,ps),(.slice sa sn sc,ts)] :=
  ((show XS W5 w.heap.size [(.slice ua un uc,ps)] from ⟨fun p hp=>by rw [List.mem_singleton] at hp;subst hp;exact hou5.low (by omega),List.pairwise_singleton _ _⟩).new hb6 (hot.low (by omega)) (fun g e=>by rw [z5];exact (hot.lt g e).1)).perm (List.Perm.swap _ _ _)
 have hne:∀ p∈[((.slice ua un uc:Value),ps),(.slice sa sn sc,ts)],∀ k,p.1.ownBlock=some k->w.heap.size+3<=k:=fun p hp k e=>by
  simp only [List.mem_cons,List.mem_nil_iff,or_false] at hp;rcases hp with rfl|rfl
  ·exact (hou6.lt k e).1
  ·have:=(hot.lt k e).1;omega
 have hb6w:=hb5w.trans (hb6.mono hb5w.size);have hs6:w4.heap.size<=w6.heap.size:=by rw [<- z5];exact hb6.size
 have hb7:=hb6w.grown g7 (by omega) (fun k e=>by cases e;omega);have hL7:=hL6.kept g7 (fun p hp=>.inr fun e=>by have:=hne p hp _ e;omega);have g8:=Xac (w6.setCell ⟨w.heap.size+2,3,none⟩ (.slice sa sn sc)) (w.heap.size+1) s (.slice ua un uc) m (.slice sa sn sc);have hF:=(hR7.put s m (.slice ua un uc) (.slice sa sn sc)).cells;have hL8:=hL7.kept g8 (fun p hp=>.inr fun e=>by have:=hne p hp _ e;omega);have hb8:=hb7.grown g8 (by simp;omega) (fun k e=>by cases e;omega);obtain ⟨e0,e1,e2,e3⟩:=k6.cells;obtain ⟨y0,y1,y2,y3⟩:=k6.frozen;obtain ⟨r0,r1,r2,r3⟩:=hR7.cells;obtain ⟨q0,q1,q2,q3⟩:=hR7.frozen;obtain ⟨f0,f1,f2,f3⟩:=hF;obtain ⟨j0,j1,j2,j3⟩:=k7.cells;simp only [Xhq] at f0 f1 f2 f3 hL8 hb8;have hfin:=(show Hid _ from And.intro hL8 hb8);clear hL8 hb8 hL7 hb7 hL6 hne hb6w hs6 g7 g8 k6 k7 hR6 hR7 hou6 hot hb6 hou5 k2 hA5 hR5 hb5w z5;go_wp2;exact bodyPost_ret (v:=.agg #[.int .i64 s,.slice ua un uc,.int .i64 m,.slice sa sn sc]) (by simp [results,Tryz.results94,go_sem,f0,f1,f2,f3]) rfl ⟨_,_,rfl,hfin.out⟩
theorem XbS (h:ByteArray) (n:Int) (w:World) (hs:h.size<=maxLen) (hn:0<=n/\n<=1048576) :
  Calls Tryz.prog 90 #[.agg #[.string h],.int .i64 n] w fun e w'=>e=.returned (.int .i64 (if n-(h.size:Int)<0 then -1 else n-(h.size:Int)))/\Below w.heap.size w w':=by
 unfold maxLen at hs
 by_cases hl:n-(h.size:Int)<0
 ·rw [if_pos hl]
  go_enter Tryz.func90,Tryz.ntmps90;go_wp2;go_ret;exact ⟨rfl,(Below.refl _ _).alloc (Nat.le_refl _) _⟩
 ·rw [if_neg hl]
  go_enter Tryz.func90,Tryz.ntmps90;go_wp2;go_ret;exact ⟨rfl,(Below.refl _ _).alloc (Nat.le_refl _) _⟩
theorem XbV (h:ByteArray) (w:World) :
  Calls Tryz.prog 95 #[.agg #[.string h]] w fun e w'=>e=.returned (.agg #[.string h])/\Below w.heap.size w w':=by
 go_enter Tryz.func95,Tryz.ntmps95;go_wp2;refine bodyPost_ret (v:=.agg #[.string h]) (by simp [results,Tryz.results95,go_sem]) rfl ⟨rfl,?_⟩;exact (((Below.refl _ _).alloc (Nat.le_refl _) _).alloc (by simp) _).alloc (by simp;omega) _
theorem U2 {P:Program} (w:World) (B k:Nat) (e ty:TypeId) (cs:List Value) (part:List Value) (d:TypeDesc) (hb:Xj w B e cs)
  (hu:P.underlying ty=some d) (hd:(match d with|.struct _|.array _ _=>true|_=>false)=true) (hi:(P.info? ty).map (·.size)=some part.length) (hp:(cs.drop k).take part.length=part) :
  (loadVar ty ⟨B,k,none⟩).run P w=.ok (.agg part.toArray) w:=by
 have hl:(loadCells ⟨B,k,none⟩ part.length).run P w=.ok part.toArray w :=
  run_loadCells_list (P:=P) w ⟨B,k,none⟩ part (fun j v hv=>by
   have hadd:(⟨B,k,none⟩:Addr).add j=⟨B,k+j,none⟩:=by unfold Addr.add;split<;>simp_all
   rw [hadd,cell_of_row w B _ cs.toArray e (0,0) hb]
   have hj:=(List.getElem?_eq_some_iff.1 hv).1;rw [<- hp,List.getElem?_take_of_lt hj,List.getElem?_drop] at hv
   simpa using hv)
 cases hq:P.info? ty with
 | none=>simp [hq] at hi
 | some i =>
  have hs:i.size=part.length:=by simpa [hq] using hi
  have hagg:(isAgg ty).run P w=.ok true w:=by
   unfold isAgg;rw [Sem.run_bind,run_underlying hu w]
   cases d<;>simp_all
  simp [loadVar,Sem.run_bind,hagg,sizeOf,typeInfo,hq,hs,hl]
theorem XbE {P:Program} {w:World} {ops:Array Oper} {rest:List Oper} {o:Oper} {a:Act} {Q:Exit->Act->World->Prop} (hgd:Region.wanted o (yielded ops a.tmps)=true) (t:TypeId) (x:Operand)
  (ho:o.op=.load t x) {e:TypeId} {B k:Nat} {cs:List Value} (part:List Value) {d:TypeDesc} (hu:P.underlying t=some d) (hd:(match d with|.struct _|.array _ _=>true|_=>false)=true) (hi:(P.info? t).map (·.size)=some part.length) (hb:Xj w B e cs) (hx:a.eval x=.pointer (some ⟨B,k,none⟩)) (hp:(cs.drop k).take part.length=part)
  (h:wpList P ops Q rest (a.put o.dst (.agg part.toArray)) w):wpList P ops Q (o::rest) a w:=by
 refine wpList_step fun K hK=>?_
 rw [if_pos hgd]
 unfold Oper.wp execOp;simp only [ho,hx,Instr.loadAt,Instr.sureAddr,Sem.run_bind,Sem.run_pure,Result.andThen_ok,U2 w B k e t cs part d hb hu hd hi hp];exact hK _ _ h
theorem Xj.lt {w:World} {B:Nat} {e:TypeId} {cs:List Value} (h:Xj w B e cs):B<w.heap.size:=(Array.getElem?_eq_some_iff.1 h).1
theorem Xj.kept {w w':World} {B:Nat} {e:TypeId} {cs:List Value} {row:Option Nat} (h:Xj w B e cs) (hg:w.grownBy w' row) (hne:row≠some B):Xj w' B e cs:=by
 unfold Xj;rw [hg.block B h.lt (Ne.symm hne)]
 exact h
theorem Xj.below {w w':World} {B:Nat} {e:TypeId} {cs:List Value} (h:Xj w B e cs) (hb:Below w.heap.size w w'):Xj w' B e cs:=by
 unfold Xj;rw [hb.block B h.lt]
 exact h
theorem Xj.new (w:World) (e:TypeId) (cs:List Value):Xj (w.alloc (.cells cs.toArray e)) w.heap.size e cs:=heap_alloc_new w _
def GrV (u v:Value) (w w':World):Prop:=w'.os=w.os/\w'.tape=w.tape/\w'.output=w.output/\w.heap.size<=w'.heap.size/\∀ k,k<w.heap.size->u.ownBlock≠some k->v.ownBlock≠some k->w'.heap[k]?=w.heap[k]?
theorem GrV.of_below {u v:Value} {w w':World} (h:Below w.heap.size w w'):GrV u v w w':=⟨h.os,h.tape,h.output,h.size,fun k hk _ _=>h.block k hk⟩
theorem GrV.grown {u v:Value} {a b c:World} {row:Option Nat} (h:GrV u v a b) (k:b.grownBy c row) (hr:∀ g,row=some g->u.ownBlock=some g\/v.ownBlock=some g\/a.heap.size<=g):GrV u v a c :=
 ⟨k.os.trans h.1,k.tape.trans h.2.1,k.output.trans h.2.2.1,Nat.le_trans h.2.2.2.1 k.size,fun i hi h1 h2=>(k.block i (Nat.lt_of_lt_of_le hi h.2.2.2.1) (fun e=>by
  rcases hr i e.symm with h3|h3|h3
  ·exact h1 h3
  ·exact h2 h3
  ·omega)).trans (h.2.2.2.2 i hi h1 h2)⟩
theorem Xcm (s:Int) (w:World) :
  Calls Tryz.prog 40 #[.int .i64 s] w fun e w'=>e=.returned (.agg #[.int .i64 s,.slice none 0 0,.int .i64 0,.slice none 0 0])/\Below w.heap.size w w':=by
 have hb:=Xd w (Obj.cells #[.int .i64 s,.slice none 0 0,.int .i64 0,.slice none 0 0] 31);obtain ⟨f0,f1,f2,f3⟩:=(PbB.new w s 0 (.slice none 0 0) (.slice none 0 0)).cells;go_enter Tryz.func40,Tryz.ntmps40;go_wp2;exact bodyPost_ret (v:=.agg #[.int .i64 s,.slice none 0 0,.int .i64 0,.slice none 0 0]) (by simp [results,Tryz.results40,go_sem]) rfl ⟨rfl,hb⟩
theorem Xbc {w:World} {ops:Array Oper} {rest:List Oper} {o:Oper} {ac:Act} {Q:Exit->Act->World->Prop} (hgd:o.guard=none) (s x:Operand)
  (ho:o.op=.call { callee:=.builtin .append,args:=#[s,x],argTypes:=#[29,29] })
  (g:Nat) (hg:w.heap.size=g) (v:Value) (xs:List Int) (hs:ac.eval s=.slice (some ⟨g,0,none⟩) 0 0) (k:SlN w v xs) (hl:xs.length<=1073741824) (hx:ac.eval x=v)
  (h:∀ v' w',Yi w' w.heap.size v' xs->Below w.heap.size w w'->wpList Tryz.prog ops Q rest (ac.put o.dst v') w') :
  wpList Tryz.prog ops Q (o::rest) ac (w.alloc (.cells #[] 2)):=by
 subst hg;exact Xf5 hgd s x ho v xs hs k hl hx h
theorem Xdj (p:Pa) (pv tv:Value) (w:World) (hp:SlN w pv p.params) (ht:SlN w tv p.text) (hpl:p.params.length<=1073741824) (htl:p.text.length<=1073741824) :
  Calls Tryz.prog 112 #[paV p pv tv] w fun e w'=>∃ pv' tv',e=.returned (paV p pv' tv')/\XS w' w.heap.size [(pv',p.params),(tv',p.text)]/\Below w.heap.size w w':=by
 obtain ⟨s,ps,m,ts⟩:=p;have hb0:=Xd w (Obj.cells #[.int .i64 s,pv,.int .i64 m,tv] 31);have hb1:=Xd (w.alloc (Obj.cells #[.int .i64 s,pv,.int .i64 m,tv] 31)) (Obj.cells #[.int .i64 0,.slice none 0 0,.int .i64 0,.slice none 0 0] 31);have hbb:=hb0.trans (hb1.mono hb0.size);have hP:=(PbB.new w s m pv tv).below hb1;have hR:=PbB.new (w.alloc (Obj.cells #[.int .i64 s,pv,.int .i64 m,tv] 31)) 0 0 (.slice none 0 0) (.slice none 0 0);rw [show (w.alloc (Obj.cells #[.int .i64 s,pv,.int .i64 m,tv] 31)).heap.size=w.heap.size+1 by simp] at hR
 have hs2:((w.alloc (Obj.cells #[.int .i64 s,pv,.int .i64 m,tv] 31)).alloc (Obj.cells #[.int .i64 0,.slice none 0 0,.int .i64 0,.slice none 0 0] 31)).heap.size=w.heap.size+2:=by simp
 have hp2:=hp.below hbb;have ht2:=ht.below hbb;unfold paV at *;simp only at *;obtain ⟨pa,pc,hpv⟩:=hp.shp;obtain ⟨ta,tc,htv⟩:=ht.shp;subst hpv;subst htv;generalize hw2:(w.alloc (Obj.cells #[.int .i64 s,.slice pa ps.length pc,.int .i64 m,.slice ta ts.length tc] 31)).alloc (Obj.cells #[.int .i64 0,.slice none 0 0,.int .i64 0,.slice none 0 0] 31)=w2 at *;have hP2:=hP.below (Xd w2 (Obj.cells #[] 2));obtain ⟨c0,c1,c2,c3⟩:=hP2.cells;subst hw2;have ht0:=ht;clear hb0 hb1 hp ht hP2;go_enter Tryz.func112,Tryz.ntmps112;go_wp2_with (refine Xbc (by rfl) _ _ (by rfl) _ hs2 _ ps (by rfl) hp2 hpl (by rfl) ?_);intro u w3 hou hb3;have hP3:=hP.below (hs2.symm ▸ hb3);have hR3:=hR.below (hs2.symm ▸ hb3);obtain ⟨ua,un,uc,hu⟩:=hou.shape;subst hu;have hg3:=sCc w3 w.heap.size 1 (.slice ua un uc);have hP4:PbB (w3.setCell ⟨w.heap.size,1,none⟩ (.slice ua un uc)) w.heap.size s (.slice ua un uc) m (.slice ta ts.length tc):=hP3.set 1 _;have hR4:=hR3.kept hg3 (by simp)
 try rw [hs2] at hou hb3
 have hs3:w.heap.size+2<=w3.heap.size:=by have:=hb3.size;rw [hs2] at this;exact this
 have hou4:=hou.kept hg3 (.inr (fun e=>by have:=(hou.lt _ e).1;omega));have hbw3:=hbb.trans (hb3.mono (show w.heap.size<=w.heap.size+2 by omega));have hbw4:=hbw3.grown hg3 (by omega) (fun k e=>by cases e;exact Nat.le_refl _);have ht4:=ht0.below hbw4;have hs4:(w3.setCell ⟨w.heap.size,1,none⟩ (.slice ua un uc)).heap.size=w3.heap.size:=by simp
 obtain ⟨d0,d1,d2,d3⟩:=hP3.cells;obtain ⟨y0,y1,y2,y3⟩:=hP3.frozen;obtain ⟨g0,g1,g2,g3⟩:=(hP4.below (Xd _ (Obj.cells #[] 2))).cells;clear hp2 ht2 hP hR hb3 c0 c1 c2 c3 hR3 hP3 hbw3 hbb;go_wp2_with (refine Xbc (by rfl) _ _ (by rfl) _ hs4 _ ts (by rfl) ht4 htl (by rfl) ?_);intro t w5 hot hb5;have hb5:=(show Below (w3.setCell ⟨w.heap.size,1,none⟩ (.slice ua un uc)).heap.size _ w5 from hs4.symm ▸ hb5);have hP5:=hP4.below hb5;have hR5:=hR4.below hb5;have hou5:=hou4.below hb5;obtain ⟨sa,sn,sc,hu⟩:=hot.shape;subst hu;have hg5:=sCc w5 w.heap.size 3 (.slice sa sn sc);have hP6:PbB (w5.setCell ⟨w.heap.size,3,none⟩ (.slice sa sn sc)) w.heap.size s (.slice ua un uc) m (.slice sa sn sc):=hP5.set 3 _;have hR6:=hR5.kept hg5 (by simp)
 try rw [hs4] at hot
 have hL5:XS w5 w.heap.size [(.slice ua un uc,ps),(.slice sa sn sc,ts)] :=
  ((show XS (w3.setCell ⟨w.heap.size,1,none⟩ (.slice ua un uc)) w.heap.size [(.slice ua un uc,ps)] from ⟨fun p hp=>by rw [List.mem_singleton] at hp;subst hp;exact hou4.low (by omega),List.pairwise_singleton _ _⟩).new hb5 (hot.low (by omega)) (fun g e=>by rw [hs4];exact (hot.lt g e).1)).perm (List.Perm.swap _ _ _)
 have hL6:=hL5.kept hg5 (fun p hp=>.inr fun e=>by
  simp only [List.mem_cons,List.mem_nil_iff,or_false] at hp;rcases hp with rfl|rfl
  ·have:=(hou5.lt _ e).1;omega
  ·have:=(hot.lt _ e).1;omega)
 have hbw6:=(hbw4.trans (hb5.mono hbw4.size)).grown hg5 (by have:=hb5.size;simp at this;omega) (fun k e=>by cases e;exact Nat.le_refl _);have hg7:=Xac (w5.setCell ⟨w.heap.size,3,none⟩ (.slice sa sn sc)) (w.heap.size+1) s (.slice ua un uc) m (.slice sa sn sc);have hF:=(hR6.put s m (.slice ua un uc) (.slice sa sn sc)).cells
 have hL7:=hL6.kept hg7 (fun p hp=>.inr fun e=>by
  simp only [List.mem_cons,List.mem_nil_iff,or_false] at hp;rcases hp with rfl|rfl
  ·have:=(hou5.lt _ e).1;omega
  ·have:=(hot.lt _ e).1;omega)
 have hbw7:=hbw6.grown hg7 (by have:=hb5.size;simp at this ⊢;omega) (fun k e=>by cases e;omega);obtain ⟨e0,e1,e2,e3⟩:=hP5.cells;obtain ⟨z0,z1,z2,z3⟩:=hP5.frozen;obtain ⟨f0,f1,f2,f3⟩:=hF;obtain ⟨r0,r1,r2,r3⟩:=hR6.cells;obtain ⟨q0,q1,q2,q3⟩:=hR6.frozen;simp only [Xhq] at f0 f1 f2 f3 hL7 hbw7;have hfin:=(show Hid _ from And.intro hL7 hbw7);clear hL5 hL6 hL7 hbw7 hbw6 hg7 hg5 hP6 hR6 hP5 hR5 hou5 hot hb5 hP4 hR4 hou4 hbw4 ht4 hg3 hou d0 d1 d2 d3 y0 y1 y2 y3 g0 g1 g2 g3 hs3 hs4;go_wp2;exact bodyPost_ret (v:=.agg #[.int .i64 s,.slice ua un uc,.int .i64 m,.slice sa sn sc]) (by simp [results,Tryz.results112,go_sem,f0,f1,f2,f3]) rfl ⟨_,_,rfl,hfin.out⟩
theorem XfM:Tryz.prog.underlying 3=some (.int .i64):=by kernel_rfl
theorem Xdc {w:World} {ops:Array Oper} {rest:List Oper} {o:Oper} {ac:Act} {Q:Exit->Act->World->Prop} (hgd:o.guard=none) (s x:Operand)
  (ho:o.op=.call { callee:=.builtin .append,args:=#[s,x],argTypes:=#[143,3] })
  (n:Nat) (hs:ac.eval s=.slice none 0 0) (hx:ac.eval x=.int .i64 (n:Int)) (h0:0<n) (hn:n<=1000000)
  (h:∀ cap w',n<=cap->w'.ownsRow w.heap.size 120 1 (.slice (some ⟨w.heap.size,0,none⟩) 0 cap) 0 []->Below w.heap.size w w'->wpList Tryz.prog ops Q rest (ac.put o.dst (.slice (some ⟨w.heap.size,0,none⟩) n cap)) w') :
  wpList Tryz.prog ops Q (o::rest) ac w:=by
 refine wpList_plain hgd fun K hK'=>?_
 obtain ⟨i0,hi,hz0,hz1,hz2⟩:=info_parts Z4;have hrun:=fun ty=>Lib.run_append_nil_zeros (P:=Tryz.prog) w 143 3 ty 120 i0 (.slice none 0 0) .i64 .i64 ZH XfM hi hz0 n h0 (by omega) (by omega) (by rw [hz2];omega)
 have hge:=grownCap_ge w n 0 120;have hle:=grownCap_le_maxLen w n 0 120 (by unfold maxLen;omega);generalize grownCap w n 0 120=cap at hrun hge hle;have hZs:(Builtin.zeroCells (Value.slice none 0 0).cells n++Builtin.zeroCells (Value.slice none 0 0).cells (cap-n)).size=cap:=by simp [size_zeroCells,Value.cells];omega
 generalize Builtin.zeroCells (Value.slice none 0 0).cells n++Builtin.zeroCells (Value.slice none 0 0).cells (cap-n)=Z at hrun hZs;have hb:Below w.heap.size w (w.drew.alloc (.cells Z 120)):=(bdr w).trans (Xd w.drew _)
 have hown:(w.drew.alloc (.cells Z 120)).ownsRow w.heap.size 120 1 (.slice (some ⟨w.heap.size,0,none⟩) 0 cap) 0 []:=by
  refine ⟨rfl,.inr ⟨w.heap.size,cap,Z,rfl,Nat.le_refl _,heap_alloc_new w.drew _,Nat.zero_le _,hle,by omega,by simp⟩⟩
 unfold Oper.wp;simp [execOp,ho,resolve,invoke,builtin,hs,hx,hrun,Result.andThen];exact hK' _ _ (h cap _ hge hown hb)
theorem XeG (n:Nat) (w:World) (h0:0<n) (hn:n<=1000000) :
  Calls Tryz.prog 271 #[.slice none 0 0,.int .i64 (n:Int)] w fun e w'=>∃ cap,e=.returned (.slice (some ⟨w.heap.size,0,none⟩) 0 cap)/\w'.ownsRow w.heap.size 120 1 (.slice (some ⟨w.heap.size,0,none⟩) 0 cap) 0 []/\Below w.heap.size w w':=by
 have h1:¬ (n:Int)<0:=by omega
 have h2:(0:Int)<(n:Int):=by omega
 go_enter Tryz.func271,Tryz.ntmps271;go_wp2_with (at_builtin;refine Xdc (by rfl) _ _ (by rfl) n (by rfl) (by rfl) h0 hn ?_;intro cap w1 hcap ho1 hb1);go_ret;exact ⟨_,rfl,ho1,hb1⟩
theorem XdN {w:World} {base n:Nat} {v:Value} {xs:List Value} (h:w.ownsRow base 120 1 v n xs):∃ a n c,v=Value.slice a n c:=by
 rcases h.2 with ⟨h1,_⟩|⟨g,cap,cur,hv,_⟩
 ·exact ⟨_,_,_,h1⟩
 ·exact ⟨_,_,_,hv⟩
theorem Qc (bb cc:Nat) (pa pb:Option Addr) (ca cb:Nat) (As Bs:List Value) (w:World) (c0:w.cell? ⟨bb,0,none⟩=some (.slice pa As.length ca)) (c1:w.cell? ⟨bb,1,none⟩=some (.slice pb Bs.length cb))
  (ha:Z1 w (.slice pa As.length ca) As) (hb:Z1 w (.slice pb Bs.length cb) Bs) (h0:0<As.length+Bs.length) (hn:As.length+Bs.length<=1000) (h1a:∀ u∈As,u.oneCell'=true) (h1b:∀ u∈Bs,u.oneCell'=true) :
  Calls Tryz.prog 270 #[.slice (some ⟨bb,0,none⟩) 2 cc] w fun e w'=>∃ v,e=.returned v/\w'.ownsRow w.heap.size 120 1 v (As.length+Bs.length) (As++Bs)/\Below w.heap.size w w':=by
 have hbb:=World.block_lt_of_cell? w _ c0;have hgr:=fun W=>XeG (As.length+Bs.length) W h0 (by omega)
 have hsum:((As.length+Bs.length:Nat):Int)=(As.length:Int)+(Bs.length:Int):=by omega
 rw [hsum] at hgr
 generalize hA:As.length=la at *;generalize hB:Bs.length=lb at *;have hla:¬ ((la:Int)<0):=by omega
 have hlb:¬ ((la:Int)+(lb:Int)<0):=by omega
 obtain ⟨i0,hi,hz0,hz1,hz2⟩:=info_parts Z4;clear hsum;go_enter Tryz.func270,Tryz.ntmps270;go_wp2;refine wp_loop_rounds 3 ?_;rw [rounds_succ]
 go_wp2;rw [rounds_succ]
 go_wp2;rw [rounds_succ]
 go_wp2_with fail;refine (hgr _).mono ?_;rintro e w2 ⟨cap,rfl,ho2,hb2⟩;have d0:=(hb2.cell (p:=⟨bb,0,none⟩) hbb).trans c0;have d1:=(hb2.cell (p:=⟨bb,1,none⟩) hbb).trans c1;have ha2:=ha.below hb2;clear c0 c1 ha hgr;go_wp2;refine wp_loop_rounds 3 ?_;rw [rounds_succ]
 go_wp2_with (at_builtin;refine Uc (by rfl) _ _ 143 (by rfl) w.heap.size 120 i0 (.slice none 0 0) 24 ZH hi hz0 hz1 hz2 (by rfl) (.slice (some ⟨w.heap.size,0,none⟩) 0 cap) 0 [] (by rfl) ho2 (.slice pa la ca) As (by rfl) ha2 h1a (by rw [hA];unfold maxLen;omega) (by rw [hA];omega) hb2.size ?_;intro v3 w3 ho3 hg3);have hb3:=hb2.grown hg3 hb2.size (fun g e=>by cases e;exact Nat.le_refl _);have e1:=(hb3.cell (p:=⟨bb,1,none⟩) hbb).trans ((hb2.cell (p:=⟨bb,1,none⟩) hbb).symm.trans d1);have hbw3:=hb.below hb3;rw [hA,Nat.zero_add,List.nil_append] at ho3
 clear hg3 ho2 ha2 d0 d1;obtain ⟨va,vn,vc,rfl⟩:=XdN ho3;rw [rounds_succ]
 go_wp2_with (at_builtin;refine Uc (by rfl) _ _ 143 (by rfl) w.heap.size 120 i0 (.slice none 0 0) 24 ZH hi hz0 hz1 hz2 (by rfl) (.slice va vn vc) la As (by rfl) ho3 (.slice pb lb cb) Bs (by rfl) hbw3 h1b (by rw [hB];unfold maxLen;omega) (by rw [hB];omega) hb3.size ?_;intro v4 w4 ho4 hg4);have hb4:=hb3.grown hg4 hb3.size (fun g e=>(World.ownsRow.lt ho3 g e).1);rw [hB] at ho4
 clear hg4 ho3 hbw3 e1 hb hb2 hb3;rw [rounds_succ]
 go_wp2;go_ret;exact ⟨_,rfl,ho4,hb4⟩
theorem Uj (a b:Int) (w:World) :
  Calls Tryz.prog 157 #[.int .i64 a,.int .i64 b] w fun e w'=>e=.returned (.int .i64 (max a b))/\w'=w:=by
 by_cases h:b<a
 ·have hm:Hid (max a b=a):=by show _=_;omega
  go_enter Tryz.func157,Tryz.ntmps157;go_wp2;go_ret;exact ⟨by rw [hm.out];rfl,rfl⟩
 ·have hm:Hid (max a b=b):=by show _=_;omega
  go_enter Tryz.func157,Tryz.ntmps157;go_wp2;go_ret;exact ⟨by rw [hm.out];rfl,rfl⟩
theorem XcY (xs:List Ce) (p r:Int) (s:St) (h0:wdV r≠0) :
  (X4 xs p (IntKind.i64.wrap (p+wdV r)) s=[]/\X5 xs p r s=[]) \/
   (∃ q:Nat,p=q/\q+(wdV r).toNat<=xs.length/\xs.length<=60/\XK xs/\s.ok=true/\X4 xs p (IntKind.i64.wrap (p+wdV r)) s=XU xs q (q+(wdV r).toNat) s/\X5 xs p r s=X6 xs q r s):=by
 have hw:=XG r;unfold X4 X5
 by_cases hr:Xu xs=true
 ·obtain ⟨hl,hR⟩:=(YN xs).1 hr
  by_cases ho:s.ok=true
  ·by_cases hp:0<=p/\p<=(xs.length:Int)-wdV r
   ·have e:IntKind.i64.wrap (p+wdV r)=p+wdV r:=by rw [IntKind.wrap_i64];omega
    right
    refine ⟨p.toNat,by omega,by omega,hl.2,hR,ho,?_,?_⟩
    ·rw [e,if_pos ⟨hr,ho,by omega,by omega⟩]
     congr 1
     omega
    ·rw [if_pos ⟨hr,h0,hp,ho⟩]
   ·left
    refine ⟨if_neg ?_,if_neg fun x=>hp x.2.2.1⟩;rintro ⟨_,_,x1,x2⟩;apply hp
    refine ⟨x1.1,?_⟩;have h1:=x1.2;have e:IntKind.i64.wrap (p+wdV r)=p+wdV r:=by rw [IntKind.wrap_i64];omega
    rw [e] at x2;omega
  ·left;exact ⟨if_neg fun x=>ho x.2.1,if_neg fun x=>ho x.2.2.2⟩
 ·left;exact ⟨if_neg fun x=>hr x.1,if_neg fun x=>hr x.1⟩
theorem Xb1 {l:List Ce} (a b:Nat) (s:St) (hb:b<=l.length) (i:Nat) (h1:a<=i) (h2:i<b):atC (XU l a b s) i=Xz s:=by
 have e:atC (XI l a b s) i=Xz s:=by rw [Zq _ _ _ _ _ hb,if_pos ⟨h1,h2⟩]
 rw [XU,Zk,Z5]
 have:¬ Yl (XI l a b s) i=true:=by rw [YK,e];simp [Xz]
 rw [if_neg this,e]
theorem Zr (v:Value) (xs:List Ce) (p r:Int) (s:St) (w:World) (hS:Xo w) (hv:SlC w v xs) (hl:xs.length<=1048576) :
  Calls Tryz.prog 178 #[v,.int .i64 p,.int .i64 r,stV s] w fun e w'=>∃ u,e=.returned u/\Xl w' w.heap.size u (X5 xs p r s)/\Below w.heap.size w w':=by
 have h2:=XT.new w s 28;have hbA:=Xd w (Obj.cells #[.int .i64 s.fore,.int .i64 s.back,.bool s.bold,.bool s.under,.bool s.turned] 28);have hno:∀ W:World,Xl W w.heap.size (.slice none 0 0) []:=fun W=>ZX W _
 have hv1:=hv.below hbA;have hwd:=Yr r _ (hS.below hbA hS.lt);have hbd:=XG r;have hSl:=hS.lt;obtain ⟨a,c,rfl,hcp,_⟩:=id hv;unfold stV at *;go_enter Tryz.func178,Tryz.ntmps178;go_wp2_with fail;refine hwd.mono ?_;rintro e w2 ⟨rfl,hb2⟩;have kb:=hbA.trans (hb2.mono hbA.size);have hs:=h2.below hb2;have hv2:=hv1.below hb2;have hcl:=Js _ xs p (IntKind.i64.wrap (p+wdV r)) s w2 (hS.below kb hSl) hv2 hl;clear hbA hb2 h2 hwd hv1;obtain ⟨_,⟨c0,c1,c2,c3,c4⟩,_⟩:=id hs;have hway:=fun h=>XcY xs p r s h
 have hWL:Hid (∀ q,X6 xs q r s=if wdV r=2 then ((XU xs q (q+(wdV r).toNat) s).set q ⟨r,s,wdV r-1⟩).set (q+1) ⟨0,s,2⟩ else (XU xs q (q+(wdV r).toNat) s).set q ⟨r,s,wdV r-1⟩):=fun _=>rfl
 have hV0:wdV r=0->X5 xs p r s=[]:=fun h=>by unfold X5;rw [if_neg (fun x=>x.2.1 h)]
 generalize wdV r=W at *;unfold stV at hcl;generalize hT:IntKind.i64.wrap (p+W)=T at *;go_wp2_with fail;refine hcl.mono ?_;clear hcl;rintro e w3 ⟨u,rfl,ho3,hb3⟩;have hs3:=hs.below hb3;have kb3:=kb.trans (hb3.mono kb.size);have hgB:∀ g,u.ownBlock=some g->w.heap.size<g:=fun g e=>Nat.lt_of_lt_of_le hs.1 (ho3.lt g e).1
 have ho3:=ho3.low kb.size;clear c0 c1 c2 c3 c4 hb3 hs hv2
 by_cases hW0:W=0
 ·have hWb:(W==0)=true:=by simp [hW0]
  have hV:Hid (X5 xs p r s=[]):=hV0 hW0;clear hW0 hway hV0 hs3 ho3;go_wp2;go_ret;exact ⟨_,rfl,by rw [hV.out];exact hno _,kb3⟩
 ·have hWb:(W==0)=false:=by simp [hW0]
  rcases hway hW0 with ⟨hZ,hV⟩|⟨q,hpq,hq,hx60,hR,hok,hZ,hV⟩
  ·have hV:Hid (X5 xs p r s=[]):=hV
   rw [hZ] at ho3
   rcases ho3.shape with ⟨rfl,_⟩|⟨g,cap,rfl,_⟩
   all_goals
    clear hway hV0 hs3 ho3 hZ hW0 hgB;go_wp2;go_ret;exact ⟨_,rfl,by rw [hV.out];exact hno _,kb3⟩
  ·have hV:Hid (X5 xs p r s=X6 xs q r s):=hV
   have hV2:=hWL.out q;rw [hZ] at ho3
   have hcLen:=X9 xs q (q+W.toNat) s;have hc0:=Xb1 (l:=xs) q (q+W.toNat) s hq q (Nat.le_refl _) (by omega);subst hpq;clear hway hV0 hZ hWL hT hno;generalize XU xs q (q+W.toNat) s=L at *;have hqx:q<xs.length:=by omega
   have hqi:(q:Int)<(xs.length:Int):=by omega
   have hq0:(0:Int)<=(q:Int):=by omega
   rcases ho3.shape with ⟨_,hx⟩|⟨g,cap,rfl,hbg,hlg,hcap⟩
   ·rw [hx] at hcLen;simp at hcLen;omega
   ·rw [hcLen] at ho3 hcap ⊢
    have hBg:=hgB g rfl;have hl0:((xs.length:Int)==0)=false:=beq_eq_false_iff_ne.2 (by omega);have hp1:=ho3.put1 hcLen q hqx 0 (by decide) (.int .i64 r) ⟨r,s,0⟩ (by rw [hc0];rfl);have hlen1:(L.set q ⟨r,s,0⟩).length=xs.length:=by rw [List.length_set];exact hcLen
    have hat0:=ho3.at hcLen q hqx;have f0:=ho3.frozen hcLen (q*7);have kb4:=kb3.grown hp1.2 kb3.size (fun k hk=>by cases hk;omega)
    by_cases hW2:W=2
    ·have hWb2:(W==2)=true:=by simp [hW2]
     have hc1:atC (L.set q ⟨r,s,0⟩) q=⟨r,s,0⟩:=by rw [Kj,if_pos ⟨rfl,by omega⟩]
     have hp2:=hp1.1.put1 hlen1 q hqx 6 (by decide) (.int .i64 1) ⟨r,s,1⟩ (by rw [hc1];rfl);have hlen2:((L.set q ⟨r,s,0⟩).set q ⟨r,s,1⟩).length=xs.length:=by rw [List.length_set];exact hlen1
     have hp3:=hp2.1.put hlen2 (q+1) (by omega) ⟨0,s,2⟩;have hat1:=hp1.1.at hlen1 q hqx;have f1:=hp1.1.frozen hlen1 (q*7+6);have hat2:=hp2.1.at hlen2 (q+1) (by omega);have g0:=hp2.1.frozen hlen2 ((q+1)*7);have g1:=hp2.1.frozen hlen2 ((q+1)*7+1);have g2:=hp2.1.frozen hlen2 ((q+1)*7+2);have g3:=hp2.1.frozen hlen2 ((q+1)*7+3);have g4:=hp2.1.frozen hlen2 ((q+1)*7+4);have g5:=hp2.1.frozen hlen2 ((q+1)*7+5);have g6:=hp2.1.frozen hlen2 ((q+1)*7+6);have kb5:=kb4.grown hp2.2 kb4.size (fun k hk=>by cases hk;omega);have kb6:=kb5.grown hp3.2 kb5.size (fun k hk=>by cases hk;omega);have hs5:=(hs3.grown hp1.2 (by simp;omega)).grown hp2.2 (by simp;omega);have ho6:=hp3.1;rw [List.set_set] at ho6
     have hfin:Hid (X5 xs (q:Int) r s=(L.set q ⟨r,s,1⟩).set (q+1) ⟨0,s,2⟩):=by show _=_;rw [hV.out,hV2,if_pos hW2,hW2];rfl
     have hq1i:(q:Int)+1<(xs.length:Int):=by omega
     have hq1:q+1<xs.length:=by omega
     obtain ⟨_,⟨b0,b1,b2,b3,b4⟩,_⟩:=id hs5;obtain ⟨d0,d1,d2,d3,d4,d5,d6⟩:=hat0;obtain ⟨e0,e1,e2,e3,e4,e5,e6⟩:=hat1;obtain ⟨h0,h1,h2,h3,h4,h5,h6⟩:=hat2;clear hp1 hp2 hp3 hV hV2 hW2 hs3 hs5 kb3 kb4 kb5 ho3 hc0 hc1;generalize hX:w3.setCell ⟨g,q*7+0,none⟩ (.int .i64 r)=X at *;rw [Nat.add_zero] at hX
     generalize hY:X.setCell ⟨g,q*7+6,none⟩ (.int .i64 1)=Y at *;generalize hZZ:YJ Y g ((q+1)*7) ⟨0,s,2⟩=Z at *;simp only [YJ] at hZZ;go_wp2;go_ret;exact ⟨_,rfl,by rw [hfin.out];exact ho6,kb6⟩
    ·have hWb2:(W==2)=false:=by simp [hW2]
     have hW1:W=1:=by omega
     have hfin:Hid (X5 xs (q:Int) r s=L.set q ⟨r,s,0⟩):=by show _=_;rw [hV.out,hV2,if_neg hW2,hW1];rfl
     have ho4:=hp1.1;obtain ⟨d0,d1,d2,d3,d4,d5,d6⟩:=hat0;clear hp1 hV hV2 hW2 hW1 hs3 kb3 ho3 hc0;generalize hX:w3.setCell ⟨g,q*7+0,none⟩ (.int .i64 r)=X at *;rw [Nat.add_zero] at hX
     go_wp2;go_ret;exact ⟨_,rfl,by rw [hfin.out];exact ho4,kb4⟩
theorem Xho (xs:List Ce) (p n:Nat) (s:St):KP xs p n s=Ju xs p n s:=rfl
theorem QO (v:Value) (xs:List Ce) (f t:Int) (s:St) (w:World) (hS:Xo w) (hv:SlC w v xs) (hl:xs.length<=1048576) :
  Calls Tryz.prog 238 #[v,.int .i64 f,.int .i64 t,stV s] w fun e w'=>∃ u,e=.returned u/\Xl w' w.heap.size u (Ko xs f t s)/\Below w.heap.size w w':=by
 have h2:=XT.new w s 28;have hbA:=Xd w (Obj.cells #[.int .i64 s.fore,.int .i64 s.back,.bool s.bold,.bool s.under,.bool s.turned] 28);have hno:∀ W:World,Xl W w.heap.size (.slice none 0 0) []:=fun W=>ZX W _
 have hmo:=Q8 v xs f t s _ (hS.below hbA hS.lt) (hv.below hbA) hl;have hv1:=hv.below hbA;have hmi:=XaU xs f t s;obtain ⟨a,c,rfl,hcp,_⟩:=id hv;unfold stV at *;obtain ⟨_,⟨c0,c1,c2,c3,c4⟩,_⟩:=id h2;go_enter Tryz.func238,Tryz.ntmps238;go_wp2_with fail;refine hmo.mono ?_;rintro e w2 ⟨rfl,hb2⟩;have kb:=hbA.trans (hb2.mono hbA.size);have hs:=h2.below hb2;have hv2:=hv1.below hb2;clear hbA hb2 h2 hmo hv1 hv c0 c1 c2 c3 c4
 cases hm:Ua xs f t s
 ·have hV:Hid (Ko xs f t s=[]):=by show _=_;unfold Ko;rw [if_neg (fun h=>by have:=hmi.2 h;rw [hm] at this;cases this)]
  clear hmi hm;go_wp2;go_ret;exact ⟨_,rfl,by rw [hV.out];exact hno _,kb⟩
 ·obtain ⟨hr,ho,h1,h3⟩:=hmi.1 hm
  obtain ⟨p,rfl⟩:∃ p:Nat,f=p:=⟨f.toNat,by omega⟩;obtain ⟨n,rfl⟩:∃ n:Nat,t=n:=⟨t.toNat,by omega⟩;have hV:Hid (Ko xs p n s=Ju xs p n s):=by show _=_;unfold Ko;rw [if_pos ⟨hr,ho,h1,h3⟩];simp [Xho]
  obtain ⟨hx60,hR⟩:=(YN xs).1 hr;have hcop:=Ue _ xs _ hv2 (by omega);have hlt3:=hs.1;have hpx:p<xs.length:=by omega
  have hway:=fun m=>XgQ hR p n m s ho hpx
  clear hr hmi hm;generalize hN:xs.length=N at *;have hnN:n<=N:=by omega
  have hw0:IntKind.i64.wrap ((N:Int)-(p:Int))=(N:Int)-(p:Int):=by simp [IntKind.wrap_i64];omega
  go_wp2_with fail;refine hcop.mono ?_;rintro e w4 ⟨g,rfl,ho4,hb4⟩;have kb4:=kb.trans (hb4.mono kb.size);have hs4:=hs.below hb4;have hgl:=(ho4.lt g rfl).1;have ho4:=ho4.low kb.size;have hBg:w.heap.size≠g:=by omega
  clear hcop hb4 hs hv2;obtain ⟨m,hm⟩:∃ m,m=min n (N-p):=⟨_,rfl⟩;have hmI:(if (N:Int)-(p:Int)<(n:Int) then (N:Int)-(p:Int) else (n:Int))=(m:Int):=by split<;>omega
  have hmJ:min (n:Int) ((N:Int)-(p:Int))=(m:Int):=by omega
  by_cases h0:n=0
  ·have hm0:m=0:=by omega
   have hV2:Hid (Ko xs p n s=xs):=by show _=_;rw [hV.out,Ju,if_pos h0]
   subst hm0;clear hway hV hm h0 hR;go_wp2;go_ret;exact ⟨_,rfl,by rw [hV2.out];exact ho4,kb4⟩
  ·have hway:=hway m h0 (by rw [hm])
   have hmp:0<m:=by omega
   have hmN:p+m<=N:=by omega
   have hmpi:(0:Int)<(m:Int):=by omega
   have hw1:IntKind.i64.wrap ((N:Int)-(m:Int))=(N:Int)-(m:Int):=by simp [IntKind.wrap_i64];omega
   have hw2:IntKind.i64.wrap ((p:Int)+(m:Int))=(p:Int)+(m:Int):=by simp [IntKind.wrap_i64];omega
   have hpa:=K4 w.heap.size g N N p xs w4 ho4 hN hR (by omega) (by omega);have hpb:=fun W h=>K4 w.heap.size g N N (N-m) (Xp xs p) W h (by rw [Xv];exact hN) (Z7 hR p) (by omega) (by omega)
   have eNm:((N-m:Nat):Int)=(N:Int)-(m:Int):=by omega
   have epm:((p+m:Nat):Int)=(p:Int)+(m:Int):=by omega
   have hQl:(Xp (Xp xs p) (N-m)).length=N:=by rw [Xv,Xv];exact hN
   have hcut2:=fun W=>JX g N N p (p+m) W (by omega) (by omega) (Nat.le_refl _)
   rw [eNm] at hpb
   rw [epm,show p+m-p=m by omega] at hcut2
   have hbo:=fun L W h1 h2 (h3:L.length=N)=>Jh w.heap.size w.heap.size g N N p m m (p*7) L s W h1 hBg h2 h3 (by omega) (by omega) (by omega) rfl
   have hwm:=Xa5 (Xp (Xp xs p) (N-m)) (p+m) p (N-m-p) (by rw [hQl];omega) (by rw [hQl];omega);have hml:(((Xp (Xp xs p) (N-m)).drop p).take (N-m-p)).length=N-m-p:=by rw [List.length_take,List.length_drop,hQl];omega
   have hmat:∀ i,i<N-m-p->atC (((Xp (Xp xs p) (N-m)).drop p).take (N-m-p)) i=atC (Xp (Xp xs p) (N-m)) (p+i):=fun i hi=>by rw [Kw _ _ _ hi,Y3]
   have hfin:Hid (XI (YH (Xp (Xp xs p) (N-m)) (p+m) (((Xp (Xp xs p) (N-m)).drop p).take (N-m-p))) p (p+m) s=Ju xs p n s):=by show _=_;rw [hwm];exact hway
   have hwl:(YH (Xp (Xp xs p) (N-m)) (p+m) (((Xp (Xp xs p) (N-m)).drop p).take (N-m-p))).length=N:=by rw [ZZ _ _ _ (by rw [hml,hQl];omega)];exact hQl
   clear hway hm h0 hwm hnN;go_wp2_with fail;refine hpa.mono ?_;clear hpa;rintro e w5 ⟨rfl,ho5,hg5⟩;have kb5:=kb4.grown hg5 kb4.size (fun k hk=>by cases hk;exact Nat.le_trans kb.size hgl);have hs5:=hs4.grown hg5 (by simpa using Ne.symm hBg);clear ho4 hg5 hs4;go_wp2_with fail;refine (hpb _ ho5).mono ?_;clear hpb;rintro e w6 ⟨rfl,ho6,hg6⟩;have kb6:=kb5.grown hg6 kb5.size (fun k hk=>by cases hk;exact Nat.le_trans kb.size hgl);have hs6:=hs5.grown hg6 (by simpa using Ne.symm hBg);clear ho5 hg6 hs5;generalize hQ:Xp (Xp xs p) (N-m)=Q at *;generalize hM:(Q.drop p).take (N-m-p)=M at *;have hpm0:(0:Int)<=(p:Int)+(m:Int):=by omega
   have htn:((p:Int)+(m:Int)).toNat=p+m:=by omega
   have hpmN:(p:Int)+(m:Int)<=(N:Int):=by omega
   have hod:=ho6.below (bdr w6);have hsd:=hs6.below (bdr w6);have kbd:=kb6.trans ((bdr w6).mono kb6.size);have hnat:∀ i,i<N->Je w6.drew g (i*7) (atC Q i):=fun i hi=>hod.at hQl i hi
   by_cases hE:p+m=N
   ·have hcut:=fun W=>Xb5 g N N p W (by omega) (Nat.le_refl _)
    have eNp:(N:Int)-(m:Int)=(p:Int):=by omega
    have hEt:(N=p+m)=True:=eq_true hE.symm;have hM0:M.length=0:=by rw [hml];omega
    have hz0:N-(p+m)=0:=by omega
    have hw3:IntKind.i64.wrap (p:Int)=(p:Int):=by simp [IntKind.wrap_i64];omega
    clear hmI hmJ hE;go_wp2
    go_region_held3 (fun _=>True) (trivial)
     (first
      | (go_at_call 219;refine (hcut _).mono ?_;rintro e wk ⟨rfl,hwk⟩;subst hwk)
      | (refine Kp (by rfl) _ _ (by rfl) w.heap.size g N N (p+m) Q M hod hQl (some ⟨g,0,none⟩) (some ⟨g,0,none⟩) 0 0 0 0 (by rfl) (by rfl) hM0 (by rw [hM0];omega) (fun h=>by rw [hM0] at h;exact absurd h (Nat.lt_irrefl 0)) ?_;intro w7 ho7 hg7))
    have hs7:=hsd.grown hg7 (by simpa using Ne.symm hBg);have kb7:=kbd.grown hg7 kbd.size (fun k hk=>by cases hk;exact Nat.le_trans kb.size hgl);have hod7:=ho7.below (bdr w7);have hsd7:=hs7.below (bdr w7);have kbd7:=kb7.trans ((bdr w7).mono kb7.size);have hcd:w7.drew.cell? ⟨w.heap.size,0,none⟩=some (.int .i64 s.fore)/\w7.drew.cell? ⟨w.heap.size,1,none⟩=some (.int .i64 s.back)/\w7.drew.cell? ⟨w.heap.size,2,none⟩=some (.bool s.bold)/\w7.drew.cell? ⟨w.heap.size,3,none⟩=some (.bool s.under)/\w7.drew.cell? ⟨w.heap.size,4,none⟩=some (.bool s.turned):=hsd7.2.1;have hbz:=hbo (YH Q (p+m) M) _ hsd7 hod7 hwl;obtain ⟨_,⟨c0,c1,c2,c3,c4⟩,_⟩:=id hs7;clear hbo hs7 hsd7 hod hsd kbd hg7 ho7 hmat hnat;go_wp2;clear c0 c1 c2 c3 c4
    go_region_held3 (fun W=>W.cell? ⟨w.heap.size,0,none⟩=some (.int .i64 s.fore)/\W.cell? ⟨w.heap.size,1,none⟩=some (.int .i64 s.back)/\W.cell? ⟨w.heap.size,2,none⟩=some (.bool s.bold)/\W.cell? ⟨w.heap.size,3,none⟩=some (.bool s.under)/\W.cell? ⟨w.heap.size,4,none⟩=some (.bool s.turned)) (first|with_reducible assumption)
     (first
      | (go_at_call 219;refine (hcut2 _).mono ?_;rintro e wk ⟨rfl,hwk⟩;subst hwk)
      | (go_at_call 206;refine hbz.mono ?_;rintro e wz ⟨rfl,hcz,hoz,hgz⟩))
    go_wp2;go_ret;rw [hfin.out] at hoz
    exact ⟨_,rfl,by rw [hV.out];exact hoz,kbd7.grown hgz kbd7.size (fun k hk=>by cases hk;exact Nat.le_trans kb.size hgl)⟩
   ·have hcut:=fun W=>JX g N N p (N-m) W (by omega) (by omega) (Nat.le_refl _)
    rw [eNm] at hcut
    have hEf:(N=p+m)=False:=eq_false (fun h=>hE h.symm);clear hmI hmJ;clear hE;go_wp2
    go_region_held3 (fun _=>True) (trivial)
     (first
      | (go_at_call 219;refine (hcut _).mono ?_;rintro e wk ⟨rfl,hwk⟩;subst hwk)
      | (refine Kp (by rfl) _ _ (by rfl) w.heap.size g N N (p+m) Q M hod hQl (some ⟨g,(p+m)*7,none⟩) (some ⟨g,p*7,none⟩) (N-(p+m)) (N-(p+m)) (N-m-p) (N-m-p) (by rfl) (by rfl) (by rw [hml,show N-(p+m)=N-m-p by omega];exact (Nat.min_self _).symm) (by rw [hml];omega) (fun _=>⟨rfl,g,p*7,rfl,fun i hi=>by rw [hml] at hi;rw [hmat i hi,<- Nat.add_mul];exact hnat _ (by omega)⟩) ?_;intro w7 ho7 hg7))
    have hs7:=hsd.grown hg7 (by simpa using Ne.symm hBg);have kb7:=kbd.grown hg7 kbd.size (fun k hk=>by cases hk;exact Nat.le_trans kb.size hgl);have hod7:=ho7.below (bdr w7);have hsd7:=hs7.below (bdr w7);have kbd7:=kb7.trans ((bdr w7).mono kb7.size);have hcd:w7.drew.cell? ⟨w.heap.size,0,none⟩=some (.int .i64 s.fore)/\w7.drew.cell? ⟨w.heap.size,1,none⟩=some (.int .i64 s.back)/\w7.drew.cell? ⟨w.heap.size,2,none⟩=some (.bool s.bold)/\w7.drew.cell? ⟨w.heap.size,3,none⟩=some (.bool s.under)/\w7.drew.cell? ⟨w.heap.size,4,none⟩=some (.bool s.turned):=hsd7.2.1;have hbz:=hbo (YH Q (p+m) M) _ hsd7 hod7 hwl;obtain ⟨_,⟨c0,c1,c2,c3,c4⟩,_⟩:=id hs7;clear hbo hs7 hsd7 hod hsd kbd hg7 ho7 hmat hnat;go_wp2;clear c0 c1 c2 c3 c4
    go_region_held3 (fun W=>W.cell? ⟨w.heap.size,0,none⟩=some (.int .i64 s.fore)/\W.cell? ⟨w.heap.size,1,none⟩=some (.int .i64 s.back)/\W.cell? ⟨w.heap.size,2,none⟩=some (.bool s.bold)/\W.cell? ⟨w.heap.size,3,none⟩=some (.bool s.under)/\W.cell? ⟨w.heap.size,4,none⟩=some (.bool s.turned)) (first|with_reducible assumption)
     (first
      | (go_at_call 219;refine (hcut2 _).mono ?_;rintro e wk ⟨rfl,hwk⟩;subst hwk)
      | (go_at_call 206;refine hbz.mono ?_;rintro e wz ⟨rfl,hcz,hoz,hgz⟩))
    go_wp2;go_ret;rw [hfin.out] at hoz
    exact ⟨_,rfl,by rw [hV.out];exact hoz,kbd7.grown hgz kbd7.size (fun k hk=>by cases hk;exact Nat.le_trans kb.size hgl)⟩
theorem Xhn (xs:List Ce) (p n:Nat) (s:St):K6 xs p n s=Jt xs p n s:=rfl
theorem QN (v:Value) (xs:List Ce) (f t:Int) (s:St) (w:World) (hS:Xo w) (hv:SlC w v xs) (hl:xs.length<=1048576) :
  Calls Tryz.prog 240 #[v,.int .i64 f,.int .i64 t,stV s] w fun e w'=>∃ u,e=.returned u/\Xl w' w.heap.size u (Kn xs f t s)/\Below w.heap.size w w':=by
 have h2:=XT.new w s 28;have hbA:=Xd w (Obj.cells #[.int .i64 s.fore,.int .i64 s.back,.bool s.bold,.bool s.under,.bool s.turned] 28);have hno:∀ W:World,Xl W w.heap.size (.slice none 0 0) []:=fun W=>ZX W _
 have hmo:=Q8 v xs f t s _ (hS.below hbA hS.lt) (hv.below hbA) hl;have hv1:=hv.below hbA;have hmi:=XaU xs f t s;obtain ⟨a,c,rfl,hcp,_⟩:=id hv;unfold stV at *;obtain ⟨_,⟨c0,c1,c2,c3,c4⟩,_⟩:=id h2;go_enter Tryz.func240,Tryz.ntmps240;go_wp2_with fail;refine hmo.mono ?_;rintro e w2 ⟨rfl,hb2⟩;have kb:=hbA.trans (hb2.mono hbA.size);have hs:=h2.below hb2;have hv2:=hv1.below hb2;clear hbA hb2 h2 hmo hv1 hv c0 c1 c2 c3 c4
 cases hm:Ua xs f t s
 ·have hV:Hid (Kn xs f t s=[]):=by show _=_;unfold Kn;rw [if_neg (fun h=>by have:=hmi.2 h;rw [hm] at this;cases this)]
  clear hmi hm;go_wp2;go_ret;exact ⟨_,rfl,by rw [hV.out];exact hno _,kb⟩
 ·obtain ⟨hr,ho,h1,h3⟩:=hmi.1 hm
  obtain ⟨p,rfl⟩:∃ p:Nat,f=p:=⟨f.toNat,by omega⟩;obtain ⟨n,rfl⟩:∃ n:Nat,t=n:=⟨t.toNat,by omega⟩;have hV:Hid (Kn xs p n s=Jt xs p n s):=by show _=_;unfold Kn;rw [if_pos ⟨hr,ho,h1,h3⟩];simp [Xhn]
  obtain ⟨hx60,hR⟩:=(YN xs).1 hr;have hcop:=Ue _ xs _ hv2 (by omega);have hlt3:=hs.1;have hpx:p<xs.length:=by omega
  have hway:=fun m=>XgO hR p n m s hpx
  clear hr hmi hm;generalize hN:xs.length=N at *;have hnN:n<=N:=by omega
  have hw0:IntKind.i64.wrap ((N:Int)-(p:Int))=(N:Int)-(p:Int):=by simp [IntKind.wrap_i64];omega
  go_wp2_with fail;refine hcop.mono ?_;rintro e w4 ⟨g,rfl,ho4,hb4⟩;have kb4:=kb.trans (hb4.mono kb.size);have hs4:=hs.below hb4;have hgl:=(ho4.lt g rfl).1;have ho4:=ho4.low kb.size;have hBg:w.heap.size≠g:=by omega
  clear hcop hb4 hs hv2;obtain ⟨m,hm⟩:∃ m,m=min n (N-p):=⟨_,rfl⟩;have hmI:(if (N:Int)-(p:Int)<(n:Int) then (N:Int)-(p:Int) else (n:Int))=(m:Int):=by split<;>omega
  have hmJ:min (n:Int) ((N:Int)-(p:Int))=(m:Int):=by omega
  by_cases h0:n=0
  ·have hm0:m=0:=by omega
   have hV2:Hid (Kn xs p n s=xs):=by show _=_;rw [hV.out,Jt,if_pos (by omega)]
   subst hm0;clear hway hV hm h0 hR;go_wp2;go_ret;exact ⟨_,rfl,by rw [hV2.out];exact ho4,kb4⟩
  ·have hway:=hway m h0 (by rw [hm])
   have hmp:0<m:=by omega
   have hmN:p+m<=N:=by omega
   have hmpi:(0:Int)<(m:Int):=by omega
   have hw1:IntKind.i64.wrap ((N:Int)-(m:Int))=(N:Int)-(m:Int):=by simp [IntKind.wrap_i64];omega
   have hw2:IntKind.i64.wrap ((p:Int)+(m:Int))=(p:Int)+(m:Int):=by simp [IntKind.wrap_i64];omega
   have hpa:=K4 w.heap.size g N N p xs w4 ho4 hN hR (by omega) (by omega);have hpb:=fun W h=>K4 w.heap.size g N N (p+m) (Xp xs p) W h (by rw [Xv];exact hN) (Z7 hR p) (by omega) (by omega)
   have eNm:((N-m:Nat):Int)=(N:Int)-(m:Int):=by omega
   have epm:((p+m:Nat):Int)=(p:Int)+(m:Int):=by omega
   have hQl:(Xp (Xp xs p) (p+m)).length=N:=by rw [Xv,Xv];exact hN
   have hcut2:=fun W=>JX g N N (N-m) N W (by omega) (by omega) (Nat.le_refl _)
   rw [epm] at hpb
   rw [eNm,show N-(N-m)=m by omega] at hcut2
   have hbo:=fun L W h1 h2 (h3:L.length=N)=>Jh w.heap.size w.heap.size g N N (N-m) m m ((N-m)*7) L s W h1 hBg h2 h3 (by omega) (by omega) (by omega) rfl
   have hwm:=Xa5 (Xp (Xp xs p) (p+m)) p (p+m) (N-m-p) (by rw [hQl];omega) (by rw [hQl];omega);have hml:(((Xp (Xp xs p) (p+m)).drop (p+m)).take (N-m-p)).length=N-m-p:=by rw [List.length_take,List.length_drop,hQl];omega
   have hmat:∀ i,i<N-m-p->atC (((Xp (Xp xs p) (p+m)).drop (p+m)).take (N-m-p)) i=atC (Xp (Xp xs p) (p+m)) (p+m+i):=fun i hi=>by rw [Kw _ _ _ hi,Y3]
   have hfin:Hid (XI (YH (Xp (Xp xs p) (p+m)) p (((Xp (Xp xs p) (p+m)).drop (p+m)).take (N-m-p))) (N-m) (N-m+m) s=Jt xs p n s):=by show _=_;rw [hwm,show N-m+m=N by omega];exact hway
   have hwl:(YH (Xp (Xp xs p) (p+m)) p (((Xp (Xp xs p) (p+m)).drop (p+m)).take (N-m-p))).length=N:=by rw [ZZ _ _ _ (by rw [hml,hQl];omega)];exact hQl
   clear hway hm h0 hwm hnN;go_wp2_with fail;refine hpa.mono ?_;clear hpa;rintro e w5 ⟨rfl,ho5,hg5⟩;have kb5:=kb4.grown hg5 kb4.size (fun k hk=>by cases hk;exact Nat.le_trans kb.size hgl);have hs5:=hs4.grown hg5 (by simpa using Ne.symm hBg);clear ho4 hg5 hs4;go_wp2_with fail;refine (hpb _ ho5).mono ?_;clear hpb;rintro e w6 ⟨rfl,ho6,hg6⟩;have kb6:=kb5.grown hg6 kb5.size (fun k hk=>by cases hk;exact Nat.le_trans kb.size hgl);have hs6:=hs5.grown hg6 (by simpa using Ne.symm hBg);clear ho5 hg6 hs5;generalize hQ:Xp (Xp xs p) (p+m)=Q at *;generalize hM:(Q.drop (p+m)).take (N-m-p)=M at *;have hpm0:(0:Int)<=(p:Int)+(m:Int):=by omega
   have htn:((p:Int)+(m:Int)).toNat=p+m:=by omega
   have hpmN:(p:Int)+(m:Int)<=(N:Int):=by omega
   have hod:=ho6.below (bdr w6);have hsd:=hs6.below (bdr w6);have kbd:=kb6.trans ((bdr w6).mono kb6.size);have hnat:∀ i,i<N->Je w6.drew g (i*7) (atC Q i):=fun i hi=>hod.at hQl i hi
   by_cases hE:p+m=N
   ·have hcut:=fun W=>Xb5 g N N p W (by omega) (Nat.le_refl _)
    have eNp:(N:Int)-(m:Int)=(p:Int):=by omega
    have hEt:(N=p+m)=True:=eq_true hE.symm;have hM0:M.length=0:=by rw [hml];omega
    have hz0:N-(p+m)=0:=by omega
    have hw3:IntKind.i64.wrap (p:Int)=(p:Int):=by simp [IntKind.wrap_i64];omega
    rw [eNp] at hcut2
    clear hmI hmJ hE;go_wp2
    go_region_held3 (fun _=>True) (trivial)
     (first
      | (go_at_call 219;refine (hcut _).mono ?_;rintro e wk ⟨rfl,hwk⟩;subst hwk)
      | (refine Kp (by rfl) _ _ (by rfl) w.heap.size g N N p Q M hod hQl (some ⟨g,0,none⟩) (some ⟨g,0,none⟩) 0 0 0 0 (by rfl) (by rfl) hM0 (by rw [hM0];omega) (fun h=>by rw [hM0] at h;exact absurd h (Nat.lt_irrefl 0)) ?_;intro w7 ho7 hg7))
    have hs7:=hsd.grown hg7 (by simpa using Ne.symm hBg);have kb7:=kbd.grown hg7 kbd.size (fun k hk=>by cases hk;exact Nat.le_trans kb.size hgl);have hod7:=ho7.below (bdr w7);have hsd7:=hs7.below (bdr w7);have kbd7:=kb7.trans ((bdr w7).mono kb7.size);have hcd:w7.drew.cell? ⟨w.heap.size,0,none⟩=some (.int .i64 s.fore)/\w7.drew.cell? ⟨w.heap.size,1,none⟩=some (.int .i64 s.back)/\w7.drew.cell? ⟨w.heap.size,2,none⟩=some (.bool s.bold)/\w7.drew.cell? ⟨w.heap.size,3,none⟩=some (.bool s.under)/\w7.drew.cell? ⟨w.heap.size,4,none⟩=some (.bool s.turned):=hsd7.2.1;have hbz:=hbo (YH Q p M) _ hsd7 hod7 hwl;obtain ⟨_,⟨c0,c1,c2,c3,c4⟩,_⟩:=id hs7;clear hbo hs7 hsd7 hod hsd kbd hg7 ho7 hmat hnat;go_wp2;clear c0 c1 c2 c3 c4
    go_region_held3 (fun W=>W.cell? ⟨w.heap.size,0,none⟩=some (.int .i64 s.fore)/\W.cell? ⟨w.heap.size,1,none⟩=some (.int .i64 s.back)/\W.cell? ⟨w.heap.size,2,none⟩=some (.bool s.bold)/\W.cell? ⟨w.heap.size,3,none⟩=some (.bool s.under)/\W.cell? ⟨w.heap.size,4,none⟩=some (.bool s.turned)) (first|with_reducible assumption)
     (first
      | (go_at_call 219;refine (hcut2 _).mono ?_;rintro e wk ⟨rfl,hwk⟩;subst hwk)
      | (go_at_call 206;refine hbz.mono ?_;rintro e wz ⟨rfl,hcz,hoz,hgz⟩))
    go_wp2;go_ret;rw [hfin.out] at hoz
    exact ⟨_,rfl,by rw [hV.out];exact hoz,kbd7.grown hgz kbd7.size (fun k hk=>by cases hk;exact Nat.le_trans kb.size hgl)⟩
   ·have hcut:=fun W=>JX g N N p (N-m) W (by omega) (by omega) (Nat.le_refl _)
    rw [eNm] at hcut
    have hEf:(N=p+m)=False:=eq_false (fun h=>hE h.symm);clear hmI hmJ;clear hE;go_wp2
    go_region_held3 (fun _=>True) (trivial)
     (first
      | (go_at_call 219;refine (hcut _).mono ?_;rintro e wk ⟨rfl,hwk⟩;subst hwk)
      | (refine Kp (by rfl) _ _ (by rfl) w.heap.size g N N p Q M hod hQl (some ⟨g,p*7,none⟩) (some ⟨g,(p+m)*7,none⟩) (N-m-p) (N-m-p) (N-(p+m)) (N-(p+m)) (by rfl) (by rfl) (by rw [hml,show N-(p+m)=N-m-p by omega];exact (Nat.min_self _).symm) (by rw [hml];omega) (fun _=>⟨rfl,g,(p+m)*7,rfl,fun i hi=>by rw [hml] at hi;rw [hmat i hi,<- Nat.add_mul];exact hnat _ (by omega)⟩) ?_;intro w7 ho7 hg7))
    have hs7:=hsd.grown hg7 (by simpa using Ne.symm hBg);have kb7:=kbd.grown hg7 kbd.size (fun k hk=>by cases hk;exact Nat.le_trans kb.size hgl);have hod7:=ho7.below (bdr w7);have hsd7:=hs7.below (bdr w7);have kbd7:=kb7.trans ((bdr w7).mono kb7.size);have hcd:w7.drew.cell? ⟨w.heap.size,0,none⟩=some (.int .i64 s.fore)/\w7.drew.cell? ⟨w.heap.size,1,none⟩=some (.int .i64 s.back)/\w7.drew.cell? ⟨w.heap.size,2,none⟩=some (.bool s.bold)/\w7.drew.cell? ⟨w.heap.size,3,none⟩=some (.bool s.under)/\w7.drew.cell? ⟨w.heap.size,4,none⟩=some (.bool s.turned):=hsd7.2.1;have hbz:=hbo (YH Q p M) _ hsd7 hod7 hwl;obtain ⟨_,⟨c0,c1,c2,c3,c4⟩,_⟩:=id hs7;clear hbo hs7 hsd7 hod hsd kbd hg7 ho7 hmat hnat;go_wp2;clear c0 c1 c2 c3 c4
    go_region_held3 (fun W=>W.cell? ⟨w.heap.size,0,none⟩=some (.int .i64 s.fore)/\W.cell? ⟨w.heap.size,1,none⟩=some (.int .i64 s.back)/\W.cell? ⟨w.heap.size,2,none⟩=some (.bool s.bold)/\W.cell? ⟨w.heap.size,3,none⟩=some (.bool s.under)/\W.cell? ⟨w.heap.size,4,none⟩=some (.bool s.turned)) (first|with_reducible assumption)
     (first
      | (go_at_call 219;refine (hcut2 _).mono ?_;rintro e wk ⟨rfl,hwk⟩;subst hwk)
      | (go_at_call 206;refine hbz.mono ?_;rintro e wz ⟨rfl,hcz,hoz,hgz⟩))
    go_wp2;go_ret;rw [hfin.out] at hoz
    exact ⟨_,rfl,by rw [hV.out];exact hoz,kbd7.grown hgz kbd7.size (fun k hk=>by cases hk;exact Nat.le_trans kb.size hgl)⟩
