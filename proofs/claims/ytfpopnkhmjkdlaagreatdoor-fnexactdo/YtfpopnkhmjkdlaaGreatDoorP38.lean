import Derived.Test.YtfpopnkhmjkdlaaGreatDoorP32
import Derived.Test.YtfpopnkhmjkdlaaGreatDoorP33
set_option maxRecDepth 20000
set_option maxHeartbeats 16000000
namespace Go.Proofs.YtfpopnkhmjkdlaaGreatDoor
open Go.ChangeShapes Go.WideShapes Go.ChangeAt Go.RowKit
attribute [local go_sem ↓] XaO QH
theorem XE {P : Program} {f : FuncId} {fn : Func} {c : Code} (hf : P.funcs[f]? = some fn) (hname : (fn.name == "runtime.NumGoroutine") = false) (hb : fn.body = some c) : ∀ args w, (callFunc f args).run P w = Result.ok (Next.enter f args) w := by
 intro args w;have h1 : fn.name ≠ "runtime.NumGoroutine" := by simpa using hname
 simp [callFunc,hf,h1,hb,mark]
def XhP:Value->Bool
 | .nilFunc=>true
 | _=>false
theorem XgX:((List.range 128).all fun r=>[65,66,67,68,71,100,72,102,74,75,88,76,77,64,80,83,84,109,114].contains r || XhP (Jv.getD r (.int .i64 0)))=true:=by kernel_rfl
theorem XgY (r:Nat) (h:r<128) (hn:[65,66,67,68,71,100,72,102,74,75,88,76,77,64,80,83,84,109,114].contains r=false):Jv[r]?=some .nilFunc:=by
 have h1:=List.all_eq_true.1 XgX r (List.mem_range.2 h);rw [hn,Bool.false_or] at h1
 have hs:r<Jv.size:=h;have e:Jv.getD r (.int .i64 0)=Jv[r]:=by unfold Array.getD;rw [dif_pos hs];rfl
 rw [e] at h1
 rw [Array.getElem?_eq_getElem hs]
 cases hv:Jv[r]<;>rw [hv] at h1<;>first|rfl|cases h1
theorem J3 (t:Te) (how:Int) (b:Bool):Zf { t with full:=b } how={ Zf t how with full:=b }:=by
 unfold Zf;split
 ·rfl
 ·split
  ·rfl
  ·split<;>rfl
theorem Xaz (t:Te) (how:Int) (b:Bool):ZJ { t with full:=b } how={ ZJ t how with full:=b }:=by
 unfold ZJ;rw [J3]
set_option maxRecDepth 40000 in
theorem XaI (base B:Nat) (x0 x1 x2 x3 x4 x5 x:Value) (pa:Option Addr) (pc:Nat) (ps:List Int) (k r:Int) (t:Te) (v:Tv) (vg vo:List Value) (w:World) (h:Scr w 98 base B [x0,x1,x2,x3,x4,x5] t v vg vo) (hr:0<=r) (hn:r<128->Jv[r.toNat]?=some .nilFunc) :
  Calls Tryz.prog 125 #[.pointer (some ⟨B,0,none⟩),.agg (acA k r (.slice pa ps.length pc) 0 x)] w fun e w'=>e=.returned (.tuple #[])/\∃ v' vg' vo',Res w w' 98 base B [x0,x1,x2,x3,x4,x5] v vg vo t v' vg' vo':=by
 obtain ⟨W,hW⟩:∃ W,W=w.alloc (Obj.cells #[.int .i64 k,.int .i64 r,.slice pa ps.length pc,.int .i64 0,x] 37):=⟨_,rfl⟩;have hb0:Below w.heap.size w W:=by rw [hW];exact Xd _ _
 have hA:Xj W w.heap.size 37 [.int .i64 k,.int .i64 r,.slice pa ps.length pc,.int .i64 0,x]:=by rw [hW];exact heap_alloc_new w _
 have hz0:W.heap.size=w.heap.size+1:=by rw [hW];simp
 replace hW:=(show Hid _ from hW);have hA3:W.cell? ⟨w.heap.size,3,none⟩=some (.int .i64 0):=cAl hA 3;unfold acA;have hS0:(W.alloc (Obj.cells Tryz.zeroCells182 182)).heap[w.heap.size+1]?=some (.cells Tryz.zeroCells182 182 (0,0)):=by rw [<- hz0];exact heap_alloc_new W _
 have hal:=Xd W (Obj.cells Tryz.zeroCells182 182);have hbz:=hb0.trans (hal.mono hb0.size);have hres:=fun W (hb:Below w.heap.size w W)=>(show Hid _ from Res.of_below h hb)
 clear h
 by_cases i1:r<128
 ·have hf:=(show Hid _ from hn i1)
  have q1:decide (128<=r)=false:=decide_eq_false (by omega);have i0:0<=r:=hr;go_enter Tryz.func125,Tryz.ntmps125;refine wp_seq_k (fun K hK=>?_);have hH:=(show Hid _ from hK);clear hK;go_wp2;refine hH.out _ _ ?_;rw [<- hW.out]
  clear hH hW;go_wp2_with (refine Yh (cs:=Jv) (by rfl) 182 _ _ (by rfl) QT (by kernel_rfl) (by rfl) hS0 (by rfl) (by rfl) ?_;intro W2 hg hS hz2;have hA2:=Xj.kept (hA.below hal) hg (fun e=>by injection e with e;omega);have hbW:=hbz.grown hg hbz.size (fun g e=>by cases e;omega);have e1:W2.cell? ⟨w.heap.size,1,none⟩=some (.int .i64 r):=cAl hA2 1;have dS0:W2.cell? ⟨w.heap.size+1,r.toNat,none⟩=some .nilFunc:=(cAl hS _).trans hf.out;clear hS);exact bodyPost_ret (v:=.tuple #[]) (results_none rfl _ _ _) rfl ⟨rfl,_,_,_,(hres _ hbW).out⟩
 ·have q1:decide (128<=r)=true:=decide_eq_true (by omega)
  go_enter Tryz.func125,Tryz.ntmps125;refine wp_seq_k (fun K hK=>?_);have hH:=(show Hid _ from hK);clear hK;go_wp2;refine hH.out _ _ ?_;rw [<- hW.out]
  clear hH hW;go_wp2_with (refine Yh (cs:=Jv) (by rfl) 182 _ _ (by rfl) QT (by kernel_rfl) (by rfl) hS0 (by rfl) (by rfl) ?_;intro W2 hg hS hz2;have hA2:=Xj.kept (hA.below hal) hg (fun e=>by injection e with e;omega);have hbW:=hbz.grown hg hbz.size (fun g e=>by cases e;omega);have e1:W2.cell? ⟨w.heap.size,1,none⟩=some (.int .i64 r):=cAl hA2 1;clear hS);exact bodyPost_ret (v:=.tuple #[]) (results_none rfl _ _ _) rfl ⟨rfl,_,_,_,(hres _ hbW).out⟩
set_option maxRecDepth 40000 in
theorem XbO (cn N base B:Nat) (x0 x1 x2 x3 x4 x5 pv x:Value) (ps:List Int) (k r m:Int) (t:Te) (v:Tv) (vg vo:List Value) (w:World) (hSp:Xo w) (hSb:0<base) (h:Scr w 98 base B [x0,x1,x2,x3,x4,x5] t v vg vo) (hbase:base<=w.heap.size) (rk:RtK t cn N) (hp:SlN w pv ps) (hl:ps.length<=16) (hq:∀ x∈ps,0<=x/\x<=9999) (hap:ApF w B v vg vo pv) (hr:0<=r) (hm:m=0\/m=63) :
  Calls Tryz.prog 125 #[.pointer (some ⟨B,0,none⟩),.agg (acA k r pv m x)] w fun e w'=>e=.returned (.tuple #[])/\∃ v' vg' vo',Res w w' 98 base B [x0,x1,x2,x3,x4,x5] v vg vo (if m=63 then (if r=104\/r=108 then ps.foldl (XA (decide (r=104))) t else t) else Xi t r ps) v' vg' vo':=by
 obtain ⟨pa,pc,hpe⟩:=hp.shp;subst hpe;rcases hm with rfl|rfl
 case inr =>
  rw [if_pos rfl]
  obtain ⟨W,hW⟩:∃ W,W=w.alloc (Obj.cells #[.int .i64 k,.int .i64 r,.slice pa ps.length pc,.int .i64 63,x] 37):=⟨_,rfl⟩;have hb0:Below w.heap.size w W:=by rw [hW];exact Xd _ _
  have hA:Xj W w.heap.size 37 [.int .i64 k,.int .i64 r,.slice pa ps.length pc,.int .i64 63,x]:=by rw [hW];exact heap_alloc_new w _
  have hz0:W.heap.size=w.heap.size+1:=by rw [hW];simp
  replace hW:=(show Hid _ from hW);have hA3:W.cell? ⟨w.heap.size,3,none⟩=some (.int .i64 63):=cAl hA 3;have hsm:=XbN cn N base B x0 x1 x2 x3 x4 x5 (.slice pa ps.length pc) x ps k r 63 t v vg vo W (h.below hb0) (Nat.le_trans hbase hb0.size) rk (hp.below hb0) (by omega) (hap.mono hb0.size);obtain ⟨tt,et⟩:∃ tt,Hid ((if r=104\/r=108 then ps.foldl (XA (decide (r=104))) t else t)=tt):=⟨_,rfl⟩;rw [et.out] at hsm ⊢
  have hof:=Res.of_below h hb0;have a0:W.cell? ⟨w.heap.size,0,none⟩=some (.int .i64 k):=cAl hA 0;have a1:W.cell? ⟨w.heap.size,1,none⟩=some (.int .i64 r):=cAl hA 1;have a2:W.cell? ⟨w.heap.size,2,none⟩=some (.slice pa ps.length pc):=cAl hA 2;have a4:W.cell? ⟨w.heap.size,4,none⟩=some x:=cAl hA 4;unfold acA at *;clear h hbase hp hap hA hz0 rk hSp hSb;go_enter Tryz.func125,Tryz.ntmps125;refine wp_seq_k (fun K hK=>?_);have hH:=(show Hid _ from hK);clear hK;go_wp2;refine hH.out _ _ ?_;rw [<- hW.out]
  clear hH hW;go_wp2_with fail;refine hsm.mono ?_;rintro e w2 ⟨rfl,v2,g2,o2,hR⟩;clear hsm;go_wp2;exact bodyPost_ret (v:=.tuple #[]) (results_none rfl _ _ _) rfl ⟨rfl,_,_,_,hof.trans hR⟩
 rw [if_neg (by decide)]
 have hn:=XW hq 0 1 (by omega);have hn1:=XW hq 1 1 (by omega);have hN:=rk.w.n;have hN1:=rk.w.n1;have hm1:=XW hq 1 (t.g.length:Int) (by omega);have hrow:=rk.w.row;have hcol:=rk.w.col;have hgc:=rk.w.gc;have hcc:=rk.w.c;have er:max 0 (min ((t.g.length:Int)-1) t.row)=t.row:=by omega
 have ec:max 0 (min (t.gc-1) t.col)=t.col:=by omega
 by_cases r65:r=65
 ·subst r65
  have hV:Xi t 65 ps={ ({ t with row:=max (if t.top<=t.row then t.top else 0) (t.row-Xa ps 0 1) }:Te) with full:=({ t with row:=max (if t.top<=t.row then t.top else 0) (t.row-Xa ps 0 1) }:Te).full && decide ((65:Int)=109) }:=by
   rw [show decide ((65:Int)=109)=false from rfl,Bool.and_false]
   rfl
  rw [hV]
  exact sLw base B x0 x1 x2 x3 x4 x5 _ x k 65 0 t v vg vo w h hbase (by omega) rfl 183 rfl (XE Tryz.func183 (by kernel_rfl) rfl) _ (fun W hb=>Xgj cn N base B x0 x1 x2 x3 x4 x5 (.slice pa ps.length pc) ps t v vg vo W (h.below hb) rk.w (hp.below hb) (by omega) (by omega)) ⟨_,_,_,rfl⟩
 by_cases r66:r=66
 ·subst r66
  have hV:Xi t 66 ps={ ({ t with row:=min (if t.row<=t.bot then t.bot else (t.g.length:Int)-1) (t.row+Xa ps 0 1) }:Te) with full:=({ t with row:=min (if t.row<=t.bot then t.bot else (t.g.length:Int)-1) (t.row+Xa ps 0 1) }:Te).full && decide ((66:Int)=109) }:=by
   rw [show decide ((66:Int)=109)=false from rfl,Bool.and_false]
   rfl
  rw [hV]
  exact sLw base B x0 x1 x2 x3 x4 x5 _ x k 66 0 t v vg vo w h hbase (by omega) rfl 184 rfl (XE Tryz.func184 (by kernel_rfl) rfl) _ (fun W hb=>Xda cn N base B x0 x1 x2 x3 x4 x5 (.slice pa ps.length pc) ps t v vg vo W (h.below hb) rk.w (hp.below hb) (by omega) (by omega)) ⟨_,_,_,rfl⟩
 by_cases r67:r=67
 ·subst r67
  have hV:Xi t 67 ps={ ({ t with col:=min (t.col+Xa ps 0 1) (t.gc-1) }:Te) with full:=({ t with col:=min (t.col+Xa ps 0 1) (t.gc-1) }:Te).full && decide ((67:Int)=109) }:=by
   rw [show decide ((67:Int)=109)=false from rfl,Bool.and_false]
   have e0:Xi t 67 ps=goT { t with full:=false } (t.row) (t.col+Xa ps 0 1):=rfl;rw [e0]
   unfold goT;simp only;rw [er,show max 0 (min (t.gc-1) (t.col+Xa ps 0 1))=min (t.col+Xa ps 0 1) (t.gc-1) by omega]
  rw [hV]
  exact sLw base B x0 x1 x2 x3 x4 x5 _ x k 67 0 t v vg vo w h hbase (by omega) rfl 185 rfl (XE Tryz.func185 (by kernel_rfl) rfl) _ (fun W hb=>Xcd cn N base B x0 x1 x2 x3 x4 x5 (.slice pa ps.length pc) ps t v vg vo W (h.below hb) rk.w (hp.below hb) (by omega) _ rfl (by omega)) ⟨_,_,_,rfl⟩
 by_cases r68:r=68
 ·subst r68
  have hV:Xi t 68 ps={ ({ t with col:=max 0 (t.col-Xa ps 0 1) }:Te) with full:=({ t with col:=max 0 (t.col-Xa ps 0 1) }:Te).full && decide ((68:Int)=109) }:=by
   rw [show decide ((68:Int)=109)=false from rfl,Bool.and_false]
   have e0:Xi t 68 ps=goT { t with full:=false } (t.row) (t.col-Xa ps 0 1):=rfl;rw [e0]
   unfold goT;simp only;rw [er,show max 0 (min (t.gc-1) (t.col-Xa ps 0 1))=max 0 (t.col-Xa ps 0 1) by omega]
  rw [hV]
  exact sLw base B x0 x1 x2 x3 x4 x5 _ x k 68 0 t v vg vo w h hbase (by omega) rfl 186 rfl (XE Tryz.func186 (by kernel_rfl) rfl) _ (fun W hb=>Xdb cn N base B x0 x1 x2 x3 x4 x5 (.slice pa ps.length pc) ps t v vg vo W (h.below hb) rk.w (hp.below hb) (by omega) _ rfl (by omega)) ⟨_,_,_,rfl⟩
 by_cases r71:r=71
 ·subst r71
  have hV:Xi t 71 ps={ ({ t with col:=min (Xa ps 0 1-1) (t.gc-1) }:Te) with full:=({ t with col:=min (Xa ps 0 1-1) (t.gc-1) }:Te).full && decide ((71:Int)=109) }:=by
   rw [show decide ((71:Int)=109)=false from rfl,Bool.and_false]
   have e0:Xi t 71 ps=goT { t with full:=false } (t.row) (Xa ps 0 1-1):=rfl;rw [e0]
   unfold goT;simp only;rw [er,show max 0 (min (t.gc-1) (Xa ps 0 1-1))=min (Xa ps 0 1-1) (t.gc-1) by omega]
  rw [hV]
  exact sLw base B x0 x1 x2 x3 x4 x5 _ x k 71 0 t v vg vo w h hbase (by omega) rfl 187 rfl (XE Tryz.func187 (by kernel_rfl) rfl) _ (fun W hb=>XfK cn N base B x0 x1 x2 x3 x4 x5 (.slice pa ps.length pc) ps t v vg vo W (h.below hb) rk.w (hp.below hb) (by omega) _ rfl (by omega)) ⟨_,_,_,rfl⟩
 by_cases r100:r=100
 ·subst r100
  have hV:Xi t 100 ps={ ({ t with row:=min (Xa ps 0 1-1) ((t.g.length:Int)-1) }:Te) with full:=({ t with row:=min (Xa ps 0 1-1) ((t.g.length:Int)-1) }:Te).full && decide ((100:Int)=109) }:=by
   rw [show decide ((100:Int)=109)=false from rfl,Bool.and_false]
   have e0:Xi t 100 ps=goT { t with full:=false } (Xa ps 0 1-1) (t.col):=rfl;rw [e0]
   unfold goT;simp only;rw [ec,show max 0 (min ((t.g.length:Int)-1) (Xa ps 0 1-1))=min (Xa ps 0 1-1) ((t.g.length:Int)-1) by omega]
  rw [hV]
  exact sLw base B x0 x1 x2 x3 x4 x5 _ x k 100 0 t v vg vo w h hbase (by omega) rfl 188 rfl (XE Tryz.func188 (by kernel_rfl) rfl) _ (fun W hb=>Xa4 cn N base B x0 x1 x2 x3 x4 x5 (.slice pa ps.length pc) ps t v vg vo W (h.below hb) rk.w (hp.below hb) (by omega) _ rfl (by omega)) ⟨_,_,_,rfl⟩
 by_cases r72:r=72
 ·subst r72
  have hV:Xi t 72 ps={ ({ t with row:=min (Xa ps 0 1-1) ((t.g.length:Int)-1),col:=min (Xa ps 1 1-1) (t.gc-1) }:Te) with full:=({ t with row:=min (Xa ps 0 1-1) ((t.g.length:Int)-1),col:=min (Xa ps 1 1-1) (t.gc-1) }:Te).full && decide ((72:Int)=109) }:=by
   rw [show decide ((72:Int)=109)=false from rfl,Bool.and_false]
   have e0:Xi t 72 ps=goT { t with full:=false } (Xa ps 0 1-1) (Xa ps 1 1-1):=rfl;rw [e0]
   unfold goT;simp only;rw [show max 0 (min ((t.g.length:Int)-1) (Xa ps 0 1-1))=min (Xa ps 0 1-1) ((t.g.length:Int)-1) by omega,show max 0 (min (t.gc-1) (Xa ps 1 1-1))=min (Xa ps 1 1-1) (t.gc-1) by omega]
  rw [hV]
  exact sLw base B x0 x1 x2 x3 x4 x5 _ x k 72 0 t v vg vo w h hbase (by omega) rfl 189 rfl (XE Tryz.func189 (by kernel_rfl) rfl) _ (fun W hb=>QM cn N base B x0 x1 x2 x3 x4 x5 (.slice pa ps.length pc) ps t v vg vo W (h.below hb) rk (hp.below hb) (by omega) (hap.mono hb.size) _ _ rfl rfl (by omega) (by omega)) ⟨_,_,_,rfl⟩
 by_cases r102:r=102
 ·subst r102
  have hV:Xi t 102 ps={ ({ t with row:=min (Xa ps 0 1-1) ((t.g.length:Int)-1),col:=min (Xa ps 1 1-1) (t.gc-1) }:Te) with full:=({ t with row:=min (Xa ps 0 1-1) ((t.g.length:Int)-1),col:=min (Xa ps 1 1-1) (t.gc-1) }:Te).full && decide ((102:Int)=109) }:=by
   rw [show decide ((102:Int)=109)=false from rfl,Bool.and_false]
   have e0:Xi t 102 ps=goT { t with full:=false } (Xa ps 0 1-1) (Xa ps 1 1-1):=rfl;rw [e0]
   unfold goT;simp only;rw [show max 0 (min ((t.g.length:Int)-1) (Xa ps 0 1-1))=min (Xa ps 0 1-1) ((t.g.length:Int)-1) by omega,show max 0 (min (t.gc-1) (Xa ps 1 1-1))=min (Xa ps 1 1-1) (t.gc-1) by omega]
  rw [hV]
  exact sLw base B x0 x1 x2 x3 x4 x5 _ x k 102 0 t v vg vo w h hbase (by omega) rfl 189 rfl (XE Tryz.func189 (by kernel_rfl) rfl) _ (fun W hb=>QM cn N base B x0 x1 x2 x3 x4 x5 (.slice pa ps.length pc) ps t v vg vo W (h.below hb) rk (hp.below hb) (by omega) (hap.mono hb.size) _ _ rfl rfl (by omega) (by omega)) ⟨_,_,_,rfl⟩
 by_cases r74:r=74
 ·subst r74
  have hV:Xi t 74 ps={ ((ZJ t (Xa ps 0 0)):Te) with full:=((ZJ t (Xa ps 0 0)):Te).full && decide ((74:Int)=109) }:=by
   rw [show decide ((74:Int)=109)=false from rfl,Bool.and_false]
   exact Xaz t _ false
  rw [hV]
  exact sLw base B x0 x1 x2 x3 x4 x5 _ x k 74 0 t v vg vo w h hbase (by omega) rfl 190 rfl (XE Tryz.func190 (by kernel_rfl) rfl) _ (fun W hb=>Xat cn N base B x0 x1 x2 x3 x4 x5 (.slice pa ps.length pc) ps t v vg vo W (hSp.below hb hSp.lt) (h.below hb) (Nat.le_trans hbase hb.size) rk (hp.below hb) (by omega) hSb (hap.mono hb.size) _ rfl) ⟨_,_,_,rfl⟩
 by_cases r75:r=75
 ·subst r75
  have hV:Xi t 75 ps={ ((Zf t (Xa ps 0 0)):Te) with full:=((Zf t (Xa ps 0 0)):Te).full && decide ((75:Int)=109) }:=by
   rw [show decide ((75:Int)=109)=false from rfl,Bool.and_false]
   exact J3 t _ false
  rw [hV]
  exact sLw base B x0 x1 x2 x3 x4 x5 _ x k 75 0 t v vg vo w h hbase (by omega) rfl 191 rfl (XE Tryz.func191 (by kernel_rfl) rfl) _ (fun W hb=>Us cn N base B x0 x1 x2 x3 x4 x5 (.slice pa ps.length pc) ps t v vg vo W (hSp.below hb hSp.lt) (h.below hb) (Nat.le_trans hbase hb.size) rk (hp.below hb) (by omega) _ rfl) ⟨_,_,_,rfl⟩
 by_cases r88:r=88
 ·subst r88
  have hV:Xi t 88 ps={ ((X3 t t.row t.col (min t.gc (t.col+Xa ps 0 1))):Te) with full:=((X3 t t.row t.col (min t.gc (t.col+Xa ps 0 1))):Te).full && decide ((88:Int)=109) }:=by
   rw [show decide ((88:Int)=109)=false from rfl,Bool.and_false]
   rfl
  rw [hV]
  exact sLw base B x0 x1 x2 x3 x4 x5 _ x k 88 0 t v vg vo w h hbase (by omega) rfl 192 rfl (XE Tryz.func192 (by kernel_rfl) rfl) _ (fun W hb=>QC cn N base B x0 x1 x2 x3 x4 x5 (.slice pa ps.length pc) ps t v vg vo W (hSp.below hb hSp.lt) (h.below hb) (Nat.le_trans hbase hb.size) rk (hp.below hb) (by omega) _ rfl (by omega)) ⟨_,_,_,rfl⟩
 by_cases r76:r=76
 ·subst r76
  have hV:Xi t 76 ps={ ((if t.top<=t.row/\t.row<=t.bot then { XH t t.row t.bot (-(Xa ps 0 1)) with col:=0 } else t):Te) with full:=((if t.top<=t.row/\t.row<=t.bot then { XH t t.row t.bot (-(Xa ps 0 1)) with col:=0 } else t):Te).full && decide ((76:Int)=109) }:=by
   rw [show decide ((76:Int)=109)=false from rfl,Bool.and_false]
   by_cases hc:t.top<=t.row/\t.row<=t.bot
   ·rw [if_pos hc]
    exact if_pos hc
   ·rw [if_neg hc]
    exact if_neg hc
  rw [hV]
  exact sLw base B x0 x1 x2 x3 x4 x5 _ x k 76 0 t v vg vo w h hbase (by omega) rfl 193 rfl (XE Tryz.func193 (by kernel_rfl) rfl) _ (fun W hb=>XcH cn N base B x0 x1 x2 x3 x4 x5 (.slice pa ps.length pc) ps t v vg vo W (h.below hb) (Nat.le_trans hbase hb.size) rk.w (hp.below hb) (by omega) _ rfl (by omega)) ⟨_,_,_,rfl⟩
 by_cases r77:r=77
 ·subst r77
  have hV:Xi t 77 ps={ ((if t.top<=t.row/\t.row<=t.bot then { XH t t.row t.bot (Xa ps 0 1) with col:=0 } else t):Te) with full:=((if t.top<=t.row/\t.row<=t.bot then { XH t t.row t.bot (Xa ps 0 1) with col:=0 } else t):Te).full && decide ((77:Int)=109) }:=by
   rw [show decide ((77:Int)=109)=false from rfl,Bool.and_false]
   by_cases hc:t.top<=t.row/\t.row<=t.bot
   ·rw [if_pos hc]
    exact if_pos hc
   ·rw [if_neg hc]
    exact if_neg hc
  rw [hV]
  exact sLw base B x0 x1 x2 x3 x4 x5 _ x k 77 0 t v vg vo w h hbase (by omega) rfl 194 rfl (XE Tryz.func194 (by kernel_rfl) rfl) _ (fun W hb=>XbU cn N base B x0 x1 x2 x3 x4 x5 (.slice pa ps.length pc) ps t v vg vo W (h.below hb) (Nat.le_trans hbase hb.size) rk.w (hp.below hb) (by omega) _ rfl (by omega)) ⟨_,_,_,rfl⟩
 by_cases r64:r=64
 ·subst r64
  have hV:Xi t 64 ps={ ((Ka t t.row (KP (Xb t.g t.row.toNat) t.col.toNat (min (Xa ps 0 1) (t.gc-t.col)).toNat (Xn t.st))):Te) with full:=((Ka t t.row (KP (Xb t.g t.row.toNat) t.col.toNat (min (Xa ps 0 1) (t.gc-t.col)).toNat (Xn t.st))):Te).full && decide ((64:Int)=109) }:=by
   rw [show decide ((64:Int)=109)=false from rfl,Bool.and_false]
   rfl
  rw [hV]
  exact sLw base B x0 x1 x2 x3 x4 x5 _ x k 64 0 t v vg vo w h hbase (by omega) rfl 195 rfl (XE Tryz.func195 (by kernel_rfl) rfl) _ (fun W hb=>XbI cn N base B x0 x1 x2 x3 x4 x5 (.slice pa ps.length pc) ps t v vg vo W (hSp.below hb hSp.lt) (h.below hb) (Nat.le_trans hbase hb.size) rk (hp.below hb) (by omega) _ rfl (by omega)) ⟨_,_,_,rfl⟩
 by_cases r80:r=80
 ·subst r80
  have hV:Xi t 80 ps={ ((Ka t t.row (K6 (Xb t.g t.row.toNat) t.col.toNat (min (Xa ps 0 1) (t.gc-t.col)).toNat (Xn t.st))):Te) with full:=((Ka t t.row (K6 (Xb t.g t.row.toNat) t.col.toNat (min (Xa ps 0 1) (t.gc-t.col)).toNat (Xn t.st))):Te).full && decide ((80:Int)=109) }:=by
   rw [show decide ((80:Int)=109)=false from rfl,Bool.and_false]
   rfl
  rw [hV]
  exact sLw base B x0 x1 x2 x3 x4 x5 _ x k 80 0 t v vg vo w h hbase (by omega) rfl 196 rfl (XE Tryz.func196 (by kernel_rfl) rfl) _ (fun W hb=>XaL cn N base B x0 x1 x2 x3 x4 x5 (.slice pa ps.length pc) ps t v vg vo W (hSp.below hb hSp.lt) (h.below hb) (Nat.le_trans hbase hb.size) rk (hp.below hb) (by omega) _ rfl (by omega)) ⟨_,_,_,rfl⟩
 by_cases r83:r=83
 ·subst r83
  have hV:Xi t 83 ps={ ((XH t t.top t.bot (Xa ps 0 1)):Te) with full:=((XH t t.top t.bot (Xa ps 0 1)):Te).full && decide ((83:Int)=109) }:=by
   rw [show decide ((83:Int)=109)=false from rfl,Bool.and_false]
   rfl
  rw [hV]
  exact sLw base B x0 x1 x2 x3 x4 x5 _ x k 83 0 t v vg vo w h hbase (by omega) rfl 197 rfl (XE Tryz.func197 (by kernel_rfl) rfl) _ (fun W hb=>XbM cn N base B x0 x1 x2 x3 x4 x5 (.slice pa ps.length pc) ps t v vg vo W (h.below hb) (Nat.le_trans hbase hb.size) rk.w (hp.below hb) (by omega) _ rfl (by omega)) ⟨_,_,_,rfl⟩
 by_cases r84:r=84
 ·subst r84
  have hV:Xi t 84 ps={ ((XH t t.top t.bot (-(Xa ps 0 1))):Te) with full:=((XH t t.top t.bot (-(Xa ps 0 1))):Te).full && decide ((84:Int)=109) }:=by
   rw [show decide ((84:Int)=109)=false from rfl,Bool.and_false]
   rfl
  rw [hV]
  exact sLw base B x0 x1 x2 x3 x4 x5 _ x k 84 0 t v vg vo w h hbase (by omega) rfl 198 rfl (XE Tryz.func198 (by kernel_rfl) rfl) _ (fun W hb=>Xaf cn N base B x0 x1 x2 x3 x4 x5 (.slice pa ps.length pc) ps t v vg vo W (h.below hb) (Nat.le_trans hbase hb.size) rk.w (hp.below hb) (by omega) _ rfl (by omega)) ⟨_,_,_,rfl⟩
 by_cases r109:r=109
 ·subst r109
  have hV:Xi t 109 ps={ ({ t with st:=KR t.st ps }:Te) with full:=({ t with st:=KR t.st ps }:Te).full && decide ((109:Int)=109) }:=by
   rw [show decide ((109:Int)=109)=true from rfl,Bool.and_true]
   rfl
  rw [hV]
  exact sLw base B x0 x1 x2 x3 x4 x5 _ x k 109 0 t v vg vo w h hbase (by omega) rfl 199 rfl (XE Tryz.func199 (by kernel_rfl) rfl) _ (fun W hb=>XcJ cn N base B x0 x1 x2 x3 x4 x5 (.slice pa ps.length pc) ps t v vg vo W (hSp.below hb hSp.lt) (h.below hb) (Nat.le_trans hbase hb.size) rk (hp.below hb) (by omega) hl hq) ⟨_,_,_,rfl⟩
 by_cases r114:r=114
 ·subst r114
  have hV:Xi t 114 ps={ ((if Xa ps 0 1-1<Xa ps 1 (t.g.length:Int)-1/\Xa ps 1 (t.g.length:Int)-1<=(t.g.length:Int)-1 then { t with top:=Xa ps 0 1-1,bot:=Xa ps 1 (t.g.length:Int)-1,row:=0,col:=0 } else t):Te) with full:=((if Xa ps 0 1-1<Xa ps 1 (t.g.length:Int)-1/\Xa ps 1 (t.g.length:Int)-1<=(t.g.length:Int)-1 then { t with top:=Xa ps 0 1-1,bot:=Xa ps 1 (t.g.length:Int)-1,row:=0,col:=0 } else t):Te).full && decide ((114:Int)=109) }:=by
   rw [show decide ((114:Int)=109)=false from rfl,Bool.and_false]
   by_cases hc:Xa ps 0 1-1<Xa ps 1 (t.g.length:Int)-1/\Xa ps 1 (t.g.length:Int)-1<=(t.g.length:Int)-1
   ·rw [if_pos hc]
    exact if_pos hc
   ·rw [if_neg hc]
    exact if_neg hc
  rw [hV]
  exact sLw base B x0 x1 x2 x3 x4 x5 _ x k 114 0 t v vg vo w h hbase (by omega) rfl 200 rfl (XE Tryz.func200 (by kernel_rfl) rfl) _ (fun W hb=>Xag cn N base B x0 x1 x2 x3 x4 x5 (.slice pa ps.length pc) ps t v vg vo W (h.below hb) rk (hp.below hb) (by omega) _ _ rfl rfl (by omega) (by omega)) ⟨_,_,_,rfl⟩
 have hV:Xi t r ps=t:=by
  unfold Xi;simp only;rw [if_neg r65,if_neg r66,if_neg r67,if_neg r68,if_neg r71,if_neg r100,if_neg (by omega),if_neg r74,if_neg r75,if_neg (by omega),if_neg r64,if_neg r80,if_neg r88,if_neg r83,if_neg r84,if_neg r109,if_neg r114]
 rw [hV]
 refine XaI base B x0 x1 x2 x3 x4 x5 x pa pc ps k r t v vg vo w h hr (fun h1=>XgY r.toNat (by omega) ?_);simp only [List.contains_eq_any_beq,List.any_cons,List.any_nil,Bool.or_false,Bool.or_eq_false_iff,beq_eq_false_iff_ne,ne_eq];omega
end Go.Proofs.YtfpopnkhmjkdlaaGreatDoor
namespace Go.Proofs.YtfpopnkhmjkdlaaGreatDoor
open Go.ChangeShapes Go.WideShapes Go.ChangeAt Go.RowKit
theorem Xdl (cn N base B:Nat) (t:Te) (v:Tv) (vg vo:List Value) (w:World) (h:Scr w 35 base B [] t v vg vo) (hbase:base<=w.heap.size) (rt:RtW t cn N) :
  Calls Tryz.prog 214 #[.pointer (some ⟨B,0,none⟩),.int .i64 0,.bool false] w fun e w'=>e=.returned (.tuple #[])/\∃ v' vg' vo',Res w w' 35 base B [] v vg vo (if false=true then ZJ t 0 else Zf t 0) v' vg' vo':=by
 have hrow:=rt.row;have hcol:=rt.col;have hcc:=rt.c;have hn1:=rt.n1;have c0:w.cell? ⟨B,0,none⟩=some (.int .i64 (cn:Int)):=by rw [<- rt.gc];exact h.cell 0
 have c4:w.cell? ⟨B,4,none⟩=some (.int .i64 t.row):=h.cell 4;have c5:w.cell? ⟨B,5,none⟩=some (.int .i64 t.col):=h.cell 5
 have hin:∀ (j:Nat) (wr:World) (v':Tv) (vg' vo':List Value),Res w wr 35 base B [] v vg vo { t with g:=eaG t 0 cn j } v' vg' vo'->wr.cell? ⟨B,4,none⟩=some (.int .i64 t.row)/\∃ a c,wr.cell? ⟨B,1,none⟩=some (.slice a N c):=fun j wr v' vg' vo' hr=>by
  refine ⟨hr.s.cell 4,?_⟩;obtain ⟨a,c,e⟩:=sGs (SlG.of_own hr.s.o.1.g);have en:(eaG t 0 cn j).length=N:=by rw [Yj];exact rt.n
  refine ⟨a,c,?_⟩;rw [hr.s.cell 1]
  show some v'.g=_
  rw [e]
  show some (Value.slice a (eaG t 0 cn j).length c)=_
  rw [en]
 have hE:X3 t t.row t.col (cn:Int)=Zf t 0:=by rw [<- rt.gc];rfl
 have hd:=bdr w;have hcl:=Ys cn N base B t v vg vo w.drew (h.below hd) (Nat.le_trans hbase hd.size) rt t.row t.col (cn:Int) (by omega) (by omega);rw [hE] at hcl
 have cf:∀ W,Below w.heap.size w W->W.cell? ⟨B,4,none⟩=some (.int .i64 t.row)/\W.cell? ⟨B,5,none⟩=some (.int .i64 t.col):=fun W hb=>⟨(h.below hb).cell 4,(h.below hb).cell 5⟩
 have cg:∀ W v1 vg1 vo1,Res w.drew W 35 base B [] v vg vo (Zf t 0) v1 vg1 vo1->W.cell? ⟨B,4,none⟩=some (.int .i64 t.row)/\W.cell? ⟨B,5,none⟩=some (.int .i64 t.col):=fun W v1 vg1 vo1 r=>by
  rw [<- hE] at r
  exact ⟨r.s.cell 4,r.s.cell 5⟩
 clear hE;go_enter Tryz.func214,Tryz.ntmps214;go_wp2;clear c0 c4 c5;refine wp_region_noPanic ?_;refine wp_region_held_drew (S:=(fun W=>W.cell? ⟨B,4,none⟩=some (.int .i64 t.row)/\W.cell? ⟨B,5,none⟩=some (.int .i64 t.col))) (by kernel_rfl) (cf _ hd) (fun Hh=>?_);refine tK 0 ?_;refine tK 1 ?_;refine tK 2 ?_;refine tK 3 ?_;refine tK 4 ?_;refine tK 5 ?_;refine tK 6 ?_;refine tK 7 ?_;refine tK 8 ?_;refine tk 9 ?_;refine rd 10 fun K hK=>?_
 go_simp;refine hcl.mono ?_;rintro e w1 ⟨rfl,v1,vg1,vo1,hR⟩;go_wp2_with fail;refine hK.out _ _ (cg _ _ _ _ hR) (fun Hh=>?_);clear hK K
 (try simp only [Act.put,ZA,ZB,ZC,ZD,ZE,ZF])
 refine dn ?_;replace hR:=(Res.of_below h hd).trans hR;clear hcl cf cg hd Hh;have hK:=(show Hid (Res w _ 35 base B [] v vg vo { t with g:=eaG t 0 cn 0 } _ _ _) from by rw [Y5];exact hR);clear hR;go_wp2;go_loopw [7] (fun i wr=>∃ (j:Nat) (v':Tv) (vg' vo':List Value),i=.int .i64 j/\j<=N/\Hid (false=false->j=0)/\Hid (Res w wr 35 base B [] v vg vo { t with g:=eaG t 0 cn j } v' vg' vo')) (fun i _=>N-(intOf i).toNat)
 case atStart=>exact ⟨0,_,_,_,rfl,Nat.zero_le _,(fun _=>rfl),hK⟩
 case round =>
  clear hK;obtain ⟨j,v',vg',vo',rfl,hj,hz,hK⟩:=hrel;obtain ⟨c4,la,lc,hlc⟩:=hin j wr v' vg' vo' hK.out;have hla:=Yn B la N lc wr hlc (by omega);have hj0:(0:Int)<=(j:Int):=by omega
  obtain rfl:j=0:=hz.out rfl;clear hin hz
  by_cases hle:(0:Int)<=(N:Int)-1
  ·rw [Y5] at hK
   go_wp2_with fail;refine hla.mono ?_;rintro e wk ⟨rfl,hw⟩;subst hw;clear hla hlc c4;go_wp2;refine be ?_;exact ⟨rfl,_,_,_,hK.out⟩
  ·omega
theorem Xdp (cn N base B:Nat) (t:Te) (v:Tv) (vg vo:List Value) (w:World) (h:Scr w 35 base B [] t v vg vo) (hbase:base<=w.heap.size) (rt:RtW t cn N) :
  Calls Tryz.prog 214 #[.pointer (some ⟨B,0,none⟩),.int .i64 2,.bool false] w fun e w'=>e=.returned (.tuple #[])/\∃ v' vg' vo',Res w w' 35 base B [] v vg vo (if false=true then ZJ t 2 else Zf t 2) v' vg' vo':=by
 have hrow:=rt.row;have hcol:=rt.col;have hcc:=rt.c;have hn1:=rt.n1;have c0:w.cell? ⟨B,0,none⟩=some (.int .i64 (cn:Int)):=by rw [<- rt.gc];exact h.cell 0
 have c4:w.cell? ⟨B,4,none⟩=some (.int .i64 t.row):=h.cell 4;have c5:w.cell? ⟨B,5,none⟩=some (.int .i64 t.col):=h.cell 5
 have hin:∀ (j:Nat) (wr:World) (v':Tv) (vg' vo':List Value),Res w wr 35 base B [] v vg vo { t with g:=eaG t 2 cn j } v' vg' vo'->wr.cell? ⟨B,4,none⟩=some (.int .i64 t.row)/\∃ a c,wr.cell? ⟨B,1,none⟩=some (.slice a N c):=fun j wr v' vg' vo' hr=>by
  refine ⟨hr.s.cell 4,?_⟩;obtain ⟨a,c,e⟩:=sGs (SlG.of_own hr.s.o.1.g);have en:(eaG t 2 cn j).length=N:=by rw [Yj];exact rt.n
  refine ⟨a,c,?_⟩;rw [hr.s.cell 1]
  show some v'.g=_
  rw [e]
  show some (Value.slice a (eaG t 2 cn j).length c)=_
  rw [en]
 have hE:X3 t t.row 0 (cn:Int)=Zf t 2:=by rw [<- rt.gc];rfl
 have hcl:=Ys cn N base B t v vg vo w h hbase rt t.row 0 (cn:Int) (by omega) (by omega);rw [hE] at hcl
 clear hE;go_enter Tryz.func214,Tryz.ntmps214;go_wp2_with fail;refine hcl.mono ?_;rintro e w1 ⟨rfl,v1,vg1,vo1,hR⟩;clear hcl c0 c4 c5;have hK:=(show Hid (Res w _ 35 base B [] v vg vo { t with g:=eaG t 2 cn 0 } _ _ _) from by rw [Y5];exact hR);clear hR;go_wp2;go_loopw [7] (fun i wr=>∃ (j:Nat) (v':Tv) (vg' vo':List Value),i=.int .i64 j/\j<=N/\Hid (false=false->j=0)/\Hid (Res w wr 35 base B [] v vg vo { t with g:=eaG t 2 cn j } v' vg' vo')) (fun i _=>N-(intOf i).toNat)
 case atStart=>exact ⟨0,_,_,_,rfl,Nat.zero_le _,(fun _=>rfl),hK⟩
 case round =>
  clear hK;obtain ⟨j,v',vg',vo',rfl,hj,hz,hK⟩:=hrel;obtain ⟨c4,la,lc,hlc⟩:=hin j wr v' vg' vo' hK.out;have hla:=Yn B la N lc wr hlc (by omega);have hj0:(0:Int)<=(j:Int):=by omega
  obtain rfl:j=0:=hz.out rfl;clear hin hz
  by_cases hle:(0:Int)<=(N:Int)-1
  ·rw [Y5] at hK
   go_wp2_with fail;refine hla.mono ?_;rintro e wk ⟨rfl,hw⟩;subst hw;clear hla hlc c4;go_wp2;refine be ?_;exact ⟨rfl,_,_,_,hK.out⟩
  ·omega
theorem Xdq (cn N base B:Nat) (t:Te) (v:Tv) (vg vo:List Value) (w:World) (h:Scr w 35 base B [] t v vg vo) (hbase:base<=w.heap.size) (rt:RtW t cn N) :
  Calls Tryz.prog 214 #[.pointer (some ⟨B,0,none⟩),.int .i64 2,.bool true] w fun e w'=>e=.returned (.tuple #[])/\∃ v' vg' vo',Res w w' 35 base B [] v vg vo (if true=true then ZJ t 2 else Zf t 2) v' vg' vo':=by
 have hrow:=rt.row;have hcol:=rt.col;have hcc:=rt.c;have hn1:=rt.n1;have c0:w.cell? ⟨B,0,none⟩=some (.int .i64 (cn:Int)):=by rw [<- rt.gc];exact h.cell 0
 have c4:w.cell? ⟨B,4,none⟩=some (.int .i64 t.row):=h.cell 4;have c5:w.cell? ⟨B,5,none⟩=some (.int .i64 t.col):=h.cell 5
 have hin:∀ (j:Nat) (wr:World) (v':Tv) (vg' vo':List Value),Res w wr 35 base B [] v vg vo { t with g:=eaG t 2 cn j } v' vg' vo'->wr.cell? ⟨B,4,none⟩=some (.int .i64 t.row)/\∃ a c,wr.cell? ⟨B,1,none⟩=some (.slice a N c):=fun j wr v' vg' vo' hr=>by
  refine ⟨hr.s.cell 4,?_⟩;obtain ⟨a,c,e⟩:=sGs (SlG.of_own hr.s.o.1.g);have en:(eaG t 2 cn j).length=N:=by rw [Yj];exact rt.n
  refine ⟨a,c,?_⟩;rw [hr.s.cell 1]
  show some v'.g=_
  rw [e]
  show some (Value.slice a (eaG t 2 cn j).length c)=_
  rw [en]
 have hE:X3 t t.row 0 (cn:Int)=Zf t 2:=by rw [<- rt.gc];rfl
 have hcl:=Ys cn N base B t v vg vo w h hbase rt t.row 0 (cn:Int) (by omega) (by omega);rw [hE] at hcl
 clear hE;go_enter Tryz.func214,Tryz.ntmps214;go_wp2_with fail;refine hcl.mono ?_;rintro e w1 ⟨rfl,v1,vg1,vo1,hR⟩;clear hcl c0 c4 c5;have hK:=(show Hid (Res w _ 35 base B [] v vg vo { t with g:=eaG t 2 cn 0 } _ _ _) from by rw [Y5];exact hR);clear hR;go_wp2;go_loopw [7] (fun i wr=>∃ (j:Nat) (v':Tv) (vg' vo':List Value),i=.int .i64 j/\j<=N/\Hid (true=false->j=0)/\Hid (Res w wr 35 base B [] v vg vo { t with g:=eaG t 2 cn j } v' vg' vo')) (fun i _=>N-(intOf i).toNat)
 case atStart=>exact ⟨0,_,_,_,rfl,Nat.zero_le _,(fun _=>rfl),hK⟩
 case round =>
  clear hK;obtain ⟨j,v',vg',vo',rfl,hj,hz,hK⟩:=hrel;obtain ⟨c4,la,lc,hlc⟩:=hin j wr v' vg' vo' hK.out;have hla:=Yn B la N lc wr hlc (by omega);have hj0:(0:Int)<=(j:Int):=by omega
  by_cases hlt:j<N
  ·have hle:(j:Int)<=(N:Int)-1:=by omega
   have hbj:base<=wr.heap.size:=Nat.le_trans hbase hK.out.g.size;have hcl:=Ys cn N base B { t with g:=eaG t 2 cn j } v' vg' vo' wr hK.out.s hbj (rt.ea 2 j) (j:Int) 0 (cn:Int) (by omega) (by omega);rw [QG t 2 cn j (by rw [rt.n];exact hlt) (.inl rfl)] at hcl
   have hnx:=fun W v2 g2 o2 (r:Res wr W 35 base B [] v' vg' vo' { t with g:=eaG t 2 cn (j+1) } v2 g2 o2)=>(show Hid (Res w W 35 base B [] v vg vo { t with g:=eaG t 2 cn (j+1) } v2 g2 o2) from hK.out.trans r)
   clear hK hin hz hbj rt hbase h hlc;go_wp2_with fail;refine hla.mono ?_;rintro e wk ⟨rfl,hw⟩;subst hw;clear hla;go_wp2_with fail;refine hcl.mono ?_;rintro e w2 ⟨rfl,v2,g2,o2,hR⟩;have hF:=hnx _ _ _ _ hR;clear hcl hnx hR c4;go_wp2;go_roundw
   case rel=>exact ⟨j+1,v2,g2,o2,by go_num,by omega,(fun e=>by simp at e),hF⟩
   case measure=>simp [intOf];omega
  ·have hle:¬ (j:Int)<=(N:Int)-1:=by omega
   obtain rfl:j=N:=by omega
   rw [Qw rt 2] at hK
   clear hin hz;go_wp2_with fail;refine hla.mono ?_;rintro e wk ⟨rfl,hw⟩;subst hw;clear hla hlc c4;go_wp2;refine be ?_;exact ⟨rfl,_,_,_,hK.out⟩
theorem Xdr (cn N base B:Nat) (t:Te) (v:Tv) (vg vo:List Value) (w:World) (h:Scr w 35 base B [] t v vg vo) (_hbase:base<=w.heap.size) (rt:RtW t cn N) (how:Int) (h0:how≠0) (h1:how≠1) (h2:how≠2) :
  Calls Tryz.prog 214 #[.pointer (some ⟨B,0,none⟩),.int .i64 how,.bool false] w fun e w'=>e=.returned (.tuple #[])/\∃ v' vg' vo',Res w w' 35 base B [] v vg vo (if false=true then ZJ t how else Zf t how) v' vg' vo':=by
 have hrow:=rt.row;have hcol:=rt.col;have hcc:=rt.c;have hn1:=rt.n1;have c0:w.cell? ⟨B,0,none⟩=some (.int .i64 (cn:Int)):=by rw [<- rt.gc];exact h.cell 0
 have c4:w.cell? ⟨B,4,none⟩=some (.int .i64 t.row):=h.cell 4;have c5:w.cell? ⟨B,5,none⟩=some (.int .i64 t.col):=h.cell 5
 have hin:∀ (j:Nat) (wr:World) (v':Tv) (vg' vo':List Value),Res w wr 35 base B [] v vg vo { t with g:=eaG t how cn j } v' vg' vo'->wr.cell? ⟨B,4,none⟩=some (.int .i64 t.row)/\∃ a c,wr.cell? ⟨B,1,none⟩=some (.slice a N c):=fun j wr v' vg' vo' hr=>by
  refine ⟨hr.s.cell 4,?_⟩;obtain ⟨a,c,e⟩:=sGs (SlG.of_own hr.s.o.1.g);have en:(eaG t how cn j).length=N:=by rw [Yj];exact rt.n
  refine ⟨a,c,?_⟩;rw [hr.s.cell 1]
  show some v'.g=_
  rw [e]
  show some (Value.slice a (eaG t how cn j).length c)=_
  rw [en]
 have q0:(how==0)=false:=by simp [h0]
 have q1:(how==1)=false:=by simp [h1]
 have q2:(how==2)=false:=by simp [h2]
 have hR:=h.res;have hE:t=Zf t how:=by unfold Zf;rw [if_neg h0,if_neg h1,if_neg h2]
 rw [show Res w w 35 base B [] v vg vo t v vg vo=Res w w 35 base B [] v vg vo (Zf t how) v vg vo by rw [<- hE]] at hR
 clear hE;have hK:=(show Hid (Res w _ 35 base B [] v vg vo { t with g:=eaG t how cn 0 } _ _ _) from by rw [Y5];exact hR);clear hR;go_enter Tryz.func214,Tryz.ntmps214;go_wp2;clear c0 c4 c5;go_loopw [7] (fun i wr=>∃ (j:Nat) (v':Tv) (vg' vo':List Value),i=.int .i64 j/\j<=N/\Hid (false=false->j=0)/\Hid (Res w wr 35 base B [] v vg vo { t with g:=eaG t how cn j } v' vg' vo')) (fun i _=>N-(intOf i).toNat)
 case atStart=>exact ⟨0,_,_,_,rfl,Nat.zero_le _,(fun _=>rfl),hK⟩
 case round =>
  clear hK;obtain ⟨j,v',vg',vo',rfl,hj,hz,hK⟩:=hrel;obtain ⟨c4,la,lc,hlc⟩:=hin j wr v' vg' vo' hK.out;have hla:=Yn B la N lc wr hlc (by omega);have hj0:(0:Int)<=(j:Int):=by omega
  obtain rfl:j=0:=hz.out rfl;clear hin hz
  by_cases hle:(0:Int)<=(N:Int)-1
  ·rw [Y5] at hK
   go_wp2_with fail;refine hla.mono ?_;rintro e wk ⟨rfl,hw⟩;subst hw;clear hla hlc c4;go_wp2;refine be ?_;exact ⟨rfl,_,_,_,hK.out⟩
  ·omega
theorem Xds (cn N base B:Nat) (t:Te) (v:Tv) (vg vo:List Value) (w:World) (h:Scr w 35 base B [] t v vg vo) (hbase:base<=w.heap.size) (rt:RtW t cn N) (how:Int) (h0:how≠0) (h1:how≠1) (h2:how≠2) :
  Calls Tryz.prog 214 #[.pointer (some ⟨B,0,none⟩),.int .i64 how,.bool true] w fun e w'=>e=.returned (.tuple #[])/\∃ v' vg' vo',Res w w' 35 base B [] v vg vo (if true=true then ZJ t how else Zf t how) v' vg' vo':=by
 have hrow:=rt.row;have hcol:=rt.col;have hcc:=rt.c;have hn1:=rt.n1;have c0:w.cell? ⟨B,0,none⟩=some (.int .i64 (cn:Int)):=by rw [<- rt.gc];exact h.cell 0
 have c4:w.cell? ⟨B,4,none⟩=some (.int .i64 t.row):=h.cell 4;have c5:w.cell? ⟨B,5,none⟩=some (.int .i64 t.col):=h.cell 5
 have hin:∀ (j:Nat) (wr:World) (v':Tv) (vg' vo':List Value),Res w wr 35 base B [] v vg vo { t with g:=eaG t how cn j } v' vg' vo'->wr.cell? ⟨B,4,none⟩=some (.int .i64 t.row)/\∃ a c,wr.cell? ⟨B,1,none⟩=some (.slice a N c):=fun j wr v' vg' vo' hr=>by
  refine ⟨hr.s.cell 4,?_⟩;obtain ⟨a,c,e⟩:=sGs (SlG.of_own hr.s.o.1.g);have en:(eaG t how cn j).length=N:=by rw [Yj];exact rt.n
  refine ⟨a,c,?_⟩;rw [hr.s.cell 1]
  show some v'.g=_
  rw [e]
  show some (Value.slice a (eaG t how cn j).length c)=_
  rw [en]
 have q0:(how==0)=false:=by simp [h0]
 have q1:(how==1)=false:=by simp [h1]
 have q2:(how==2)=false:=by simp [h2]
 have hR:=h.res;have hE:t=Zf t how:=by unfold Zf;rw [if_neg h0,if_neg h1,if_neg h2]
 rw [show Res w w 35 base B [] v vg vo t v vg vo=Res w w 35 base B [] v vg vo (Zf t how) v vg vo by rw [<- hE]] at hR
 clear hE;have hK:=(show Hid (Res w _ 35 base B [] v vg vo { t with g:=eaG t how cn 0 } _ _ _) from by rw [Y5];exact hR);clear hR;go_enter Tryz.func214,Tryz.ntmps214;go_wp2;clear c0 c4 c5;go_loopw [7] (fun i wr=>∃ (j:Nat) (v':Tv) (vg' vo':List Value),i=.int .i64 j/\j<=N/\Hid (true=false->j=0)/\Hid (Res w wr 35 base B [] v vg vo { t with g:=eaG t how cn j } v' vg' vo')) (fun i _=>N-(intOf i).toNat)
 case atStart=>exact ⟨0,_,_,_,rfl,Nat.zero_le _,(fun _=>rfl),hK⟩
 case round =>
  clear hK;obtain ⟨j,v',vg',vo',rfl,hj,hz,hK⟩:=hrel;obtain ⟨c4,la,lc,hlc⟩:=hin j wr v' vg' vo' hK.out;have hla:=Yn B la N lc wr hlc (by omega);have hj0:(0:Int)<=(j:Int):=by omega
  by_cases hlt:j<N
  ·have hle:(j:Int)<=(N:Int)-1:=by omega
   have hbj:base<=wr.heap.size:=Nat.le_trans hbase hK.out.g.size;rw [<- QF t how cn j (fun e=>by unfold eaP at e;omega)] at hK
   clear hin hz hbj rt hbase h hlc;go_wp2_with fail;refine hla.mono ?_;rintro e wk ⟨rfl,hw⟩;subst hw;clear hla;go_wp2;go_roundw
   case rel=>exact ⟨j+1,_,_,_,by go_num,by omega,(fun e=>by simp at e),hK⟩
   case measure=>simp [intOf];omega
  ·have hle:¬ (j:Int)<=(N:Int)-1:=by omega
   obtain rfl:j=N:=by omega
   rw [Qw rt how] at hK
   clear hin hz;go_wp2_with fail;refine hla.mono ?_;rintro e wk ⟨rfl,hw⟩;subst hw;clear hla hlc c4;go_wp2;refine be ?_;exact ⟨rfl,_,_,_,hK.out⟩
theorem XhT (cn N base B:Nat) (pv x:Value) (ps:List Int) (r m:Int) (t:Te) (v:Tv) (vg vo:List Value) (w:World) (h:Scr w 35 base B [] t v vg vo) (hbase:base<=w.heap.size) (rk:RtK t cn N) (hp:SlN w pv ps) (_hl:ps.length<=1000) (hap:ApF w B v vg vo pv) (_hb:∀ y∈ps,0<=y/\y<=9999) (xs:List Int) (hx:SlN w x xs) (hxl:xs.length<=1000) :
  Calls Tryz.prog 62 #[.pointer (some ⟨B,0,none⟩),.agg (acA 5 r pv m x)] w fun e w'=>e=.returned (.tuple #[])/\∃ v' vg' vo',Res w w' 35 base B [] v vg vo { t with ti:=xs } v' vg' vo':=by
 obtain ⟨W,hW⟩:∃ W,Hid (W=w.alloc (Obj.cells #[.int .i64 5,.int .i64 r,pv,.int .i64 m,x] 37)):=⟨_,rfl⟩;have hb0:Below w.heap.size w W:=by rw [hW.out];exact Xd _ _
 have hof:=Res.of_below h hb0;have hbw:=Nat.le_trans hbase hb0.size;have hpW:=hp.below hb0;have haW:=hap.mono hb0.size;have rt:=rk.w;have hxW:=hx.below hb0;have hxl2:xs.length<=1073741824:=by omega
 obtain ⟨ta,tc,hti⟩:=(SlN.of_own h.o.2.2.2.head).shp;obtain ⟨pa,pn,pc,rfl⟩:∃ a n c,pv=.slice a n c:=by obtain ⟨a,c,e⟩:=hp.shp;exact ⟨a,_,c,e⟩
 replace hof:=(show Hid _ from hof);clear h hbase rk hp hap hpW haW rt _hb hx;have hA0:W.cell? ⟨w.heap.size,0,none⟩=some (.int .i64 5):=by rw [hW.out];exact cAl (heap_alloc_new w _) 0
 have hA4:W.cell? ⟨w.heap.size,4,none⟩=some x:=by rw [hW.out];exact cAl (heap_alloc_new w _) 4
 have hbx:w.heap.size<W.heap.size:=by rw [hW.out];simp
 replace hxl2:=(show Hid _ from hxl2);replace hxW:=(show Hid _ from hxW);clear hxl _hl;unfold acA;go_enter Tryz.func62,Tryz.ntmps62;refine wp_seq_k (fun K hK=>?_);have hH:=(show Hid _ from hK);clear hK;go_wp2;refine hH.out _ _ ?_;rw [<- hW.out]
 clear hH hW;refine wp_seq_k (fun K hK=>?_);have hH:=(show Hid _ from hK);clear hK;go_wp2;refine hH.out _ _ ?_;clear hH;refine wp_block ?_;refine wp_seq_k (fun K hK=>?_);have hH:=(show Hid _ from hK);clear hK;go_wp2;refine hH.out _ _ ?_;clear hH;refine wp_cond_false (by rfl) ?_;refine wp_seq_k (fun K hK=>?_);have hH:=(show Hid _ from hK);clear hK;go_wp2;refine hH.out _ _ ?_;clear hH;refine wp_cond_false (by rfl) ?_;refine wp_seq_k (fun K hK=>?_);have hH:=(show Hid _ from hK);clear hK;go_wp2;refine hH.out _ _ ?_;clear hH;refine wp_cond_false (by rfl) ?_;refine wp_seq_k (fun K hK=>?_);have hH:=(show Hid _ from hK);clear hK;go_wp2;refine hH.out _ _ ?_;clear hH;refine wp_cond_false (by rfl) ?_;refine wp_seq_k (fun K hK=>?_);have hH:=(show Hid _ from hK);clear hK;go_wp2;refine hH.out _ _ ?_;clear hH;refine wp_cond_true (by rfl) ?_;go_wp2_with (refine Xbc (by rfl) _ _ (by rfl) W.heap.size rfl _ xs (by rfl) hxW.out hxl2.out (by rfl) ?_;intro u w1 hu hb1;obtain ⟨ua,uc,hue⟩:=(SlN.of_own hu).shp;subst hue;have hs1:=hof.out.s.below hb1;have c24:w1.cell? ⟨B,24,none⟩=some (.slice ta t.ti.length tc):=(by rw [hs1.cell 24];show some v.ti=_;rw [hti]);have z24:w1.frozen? ⟨B,24,none⟩=false:=hs1.frozen 24;have hR:=(show Hid (Res w (w1.setCell ⟨B,24,none⟩ (.slice ua xs.length uc)) 35 base B [] v vg vo { t with ti:=xs } ⟨v.g,v.o,.slice ua xs.length uc,v.pp,v.pt⟩ vg vo) from hof.out.trans (hof.out.s.title hbw hb1 _ xs hu (sCg B [.slice ua xs.length uc] 24 w1) (sCh B 35 [.slice ua xs.length uc] 24 w1 _ hs1.b)));clear hof hu hb1 hs1 hbw hti hxW);refine be ?_;exact ⟨rfl,_,_,_,hR.out⟩
