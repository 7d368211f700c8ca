import Derived.Test.YtfpopnkhmjkdlaaGreatDoorP30
import Derived.Test.YtfpopnkhmjkdlaaGreatDoorP31
set_option maxRecDepth 20000
set_option maxHeartbeats 16000000
namespace Go.Proofs.YtfpopnkhmjkdlaaGreatDoor
open Go.ChangeShapes Go.WideShapes Go.ChangeAt Go.RowKit
def Jv:Array Value:=#[.nilFunc,.nilFunc,.nilFunc,.nilFunc,.nilFunc,.nilFunc,.nilFunc,.nilFunc,.nilFunc,.nilFunc,.nilFunc,.nilFunc,.nilFunc,.nilFunc,.nilFunc,.nilFunc,.nilFunc,.nilFunc,.nilFunc,.nilFunc,.nilFunc,.nilFunc,.nilFunc,.nilFunc,.nilFunc,.nilFunc,.nilFunc,.nilFunc,.nilFunc,.nilFunc,.nilFunc,.nilFunc,.nilFunc,.nilFunc,.nilFunc,.nilFunc,.nilFunc,.nilFunc,.nilFunc,.nilFunc,.nilFunc,.nilFunc,.nilFunc,.nilFunc,.nilFunc,.nilFunc,.nilFunc,.nilFunc,.nilFunc,.nilFunc,.nilFunc,.nilFunc,.nilFunc,.nilFunc,.nilFunc,.nilFunc,.nilFunc,.nilFunc,.nilFunc,.nilFunc,.nilFunc,.nilFunc,.nilFunc,.nilFunc,.func (.func 195) #[] #[],.func (.func 183) #[] #[],.func (.func 184) #[] #[],.func (.func 185) #[] #[],.func (.func 186) #[] #[],.nilFunc,.nilFunc,.func (.func 187) #[] #[],.func (.func 189) #[] #[],.nilFunc,.func (.func 190) #[] #[],.func (.func 191) #[] #[],.func (.func 193) #[] #[],.func (.func 194) #[] #[],.nilFunc,.nilFunc,.func (.func 196) #[] #[],.nilFunc,.nilFunc,.func (.func 197) #[] #[],.func (.func 198) #[] #[],.nilFunc,.nilFunc,.nilFunc,.func (.func 192) #[] #[],.nilFunc,.nilFunc,.nilFunc,.nilFunc,.nilFunc,.nilFunc,.nilFunc,.nilFunc,.nilFunc,.nilFunc,.nilFunc,.func (.func 188) #[] #[],.nilFunc,.func (.func 189) #[] #[],.nilFunc,.nilFunc,.nilFunc,.nilFunc,.nilFunc,.nilFunc,.func (.func 199) #[] #[],.nilFunc,.nilFunc,.nilFunc,.nilFunc,.func (.func 200) #[] #[],.nilFunc,.nilFunc,.nilFunc,.nilFunc,.nilFunc,.nilFunc,.nilFunc,.nilFunc,.nilFunc,.nilFunc,.nilFunc,.nilFunc,.nilFunc]
theorem QT:(Tryz.prog.info? 182).map (·.size)=some 128:=by kernel_rfl
theorem XaO (fn:Nat) (W:World):(binOp BinOp.eql 180 (Value.func (Fn.func fn) #[] #[]) Value.nilFunc).run Tryz.prog W=Result.ok (Value.bool false) W:=by kernel_rfl
theorem QH (W:World):(binOp BinOp.eql 180 Value.nilFunc Value.nilFunc).run Tryz.prog W=Result.ok (Value.bool true) W:=by kernel_rfl
attribute [local go_sem ↓] XaO QH
set_option maxRecDepth 40000 in
theorem sLw (base B:Nat) (x0 x1 x2 x3 x4 x5 pv x:Value) (k r m:Int) (t:Te) (v:Tv) (vg vo:List Value) (w:World) (h:Scr w 98 base B [x0,x1,x2,x3,x4,x5] t v vg vo) (_hbase:base<=w.heap.size) (hr:0<=r/\r<128) (hm:m=0) (fn:Nat) (hf:Jv[r.toNat]?=some (.func (.func fn) #[] #[])) (he:∀ args w,(callFunc fn args).run Tryz.prog w=Result.ok (Next.enter fn args) w) (t2:Te)
  (hc:∀ W,Below w.heap.size w W->Calls Tryz.prog fn #[.pointer (some ⟨B,0,none⟩),pv] W fun e w'=>e=.returned (.tuple #[])/\∃ v' vg' vo',Res W w' 98 base B [x0,x1,x2,x3,x4,x5] v vg vo t2 v' vg' vo') (hpv:∃ a n c,pv=.slice a n c) :
  Calls Tryz.prog 125 #[.pointer (some ⟨B,0,none⟩),.agg (acA k r pv m x)] w fun e w'=>e=.returned (.tuple #[])/\∃ v' vg' vo',Res w w' 98 base B [x0,x1,x2,x3,x4,x5] v vg vo { t2 with full:=t2.full && decide (r=109) } v' vg' vo':=by
 subst hm;obtain ⟨pa,pn,pc,rfl⟩:=hpv;obtain ⟨W,hW⟩:∃ W,W=w.alloc (Obj.cells #[.int .i64 k,.int .i64 r,.slice pa pn pc,.int .i64 0,x] 37):=⟨_,rfl⟩;have hb0:Below w.heap.size w W:=by rw [hW];exact Xd _ _
 have hA:Xj W w.heap.size 37 [.int .i64 k,.int .i64 r,.slice pa pn pc,.int .i64 0,x]:=by rw [hW];exact heap_alloc_new w _
 have hz0:W.heap.size=w.heap.size+1:=by rw [hW];simp
 have hlt:=h.lt;replace hW:=(show Hid _ from hW);have hA3:W.cell? ⟨w.heap.size,3,none⟩=some (.int .i64 0):=cAl hA 3;unfold acA;go_enter Tryz.func125,Tryz.ntmps125;refine wp_seq_k (fun K hK=>?_);have hH:=(show Hid _ from hK);clear hK;go_wp2;refine hH.out _ _ ?_;rw [<- hW.out]
 clear hH hW;have hS0:(W.alloc (Obj.cells Tryz.zeroCells182 182)).heap[w.heap.size+1]?=some (.cells Tryz.zeroCells182 182 (0,0)):=by rw [<- hz0];exact heap_alloc_new W _
 have hal:=Xd W (Obj.cells Tryz.zeroCells182 182);have hbz:=hb0.trans (hal.mono hb0.size);have i0:0<=r:=hr.1;have i1:r<128:=hr.2;have q1:decide (128<=r)=false:=decide_eq_false (by omega)
 have hnf:∀ g,w.heap.size<=g->¬ Ft B v vg vo g:=fun g hg c=>by
  rcases c with c|c|c
  ·omega
  ·have:=(GrS.bd h.o.1 c).2;omega
  ·have:=(GrS.bd h.o.2.1 c).2;omega
 replace hf:=(show Hid _ from hf);go_wp2_with (refine Yh (cs:=Jv) (by rfl) 182 _ _ (by rfl) QT (by kernel_rfl) (by rfl) hS0 (by rfl) (by rfl) ?_;intro W2 hg hS hz2;have hS2:Xj W2 (w.heap.size+1) 182 Jv.toList:=hS;have hA2:=Xj.kept (hA.below hal) hg (fun e=>by injection e with e;omega);have hbW:=(hbz.grown hg hbz.size (fun g e=>by cases e;omega)).trans ((bdr W2).mono (hbz.grown hg hbz.size (fun g e=>by cases e;omega)).size);have e1:W2.cell? ⟨w.heap.size,1,none⟩=some (.int .i64 r):=cAl hA2 1;have dS0:W2.cell? ⟨w.heap.size+1,r.toNat,none⟩=some (.func (.func fn) #[] #[]):=(cAl hS _).trans hf.out;clear hS);clear q1 hS0 hal hA3 hb0 hA hz0;have d1:W2.drew.cell? ⟨w.heap.size,1,none⟩=some (.int .i64 r):=cAl (hA2.below (bdr W2)) 1;have d2:W2.drew.cell? ⟨w.heap.size,2,none⟩=some (.slice pa pn pc):=cAl (hA2.below (bdr W2)) 2;have dS:W2.drew.cell? ⟨w.heap.size+1,r.toNat,none⟩=some (.func (.func fn) #[] #[]):=dS0;clear dS0;refine wp_region_noPanic ?_;refine wp_region_held_drew (S:=(fun W=>W.cell? ⟨w.heap.size,1,none⟩=some (.int .i64 r)/\W.cell? ⟨w.heap.size,2,none⟩=some (.slice pa pn pc)/\W.cell? ⟨w.heap.size+1,r.toNat,none⟩=some (.func (.func fn) #[] #[]))) (by kernel_rfl) ⟨d1,d2,dS⟩ (fun Hh=>?_);clear d1 d2 dS;refine tK 0 ?_;refine tK 1 ?_;refine tK 2 ?_;refine tK 3 ?_;refine tK 4 ?_;refine tK 5 ?_;refine tk 6 ?_;refine rd 7 fun K hK=>?_
 go_simp;refine (hc _ hbW).mono ?_;rintro e w3 ⟨rfl,v3,g3,o3,hR⟩;have hA3:=Xj.grp (hA2.below (bdr W2)) hR.g (hnf _ (Nat.le_refl _));have hS3:=Xj.grp (Xj.below hS2 (bdr W2)) hR.g (hnf _ (by omega));go_wp2_with fail;refine hK.out _ _ ⟨cAl hA3 1,cAl hA3 2,(cAl hS3 _).trans hf.out⟩ (fun Hh=>?_);clear hK K
 (try simp only [Act.put])
 refine dn ?_;have c19:w3.cell? ⟨B,19,none⟩=some (.bool t2.full):=hR.s.cell 19;have z19:w3.frozen? ⟨B,19,none⟩=false:=hR.s.frozen 19;have dA:w3.cell? ⟨w.heap.size,1,none⟩=some (.int .i64 r):=cAl hA3 1
 have hF:=fun c (hcc:c=(t2.full && decide (r=109)))=>(show Hid (Res w (w3.setCell ⟨B,19,none⟩ (.bool c)) 98 base B [x0,x1,x2,x3,x4,x5] v vg vo { t2 with full:=t2.full && decide (r=109) } v3 g3 o3) from by
  subst hcc;exact ((Res.of_below h hbW).trans hR).trans (hR.s.put (sCg B [.bool (t2.full && decide (r=109))] 19 w3) { t2 with full:=t2.full && decide (r=109) } (sCh B 98 [.bool (t2.full && decide (r=109))] 19 w3 _ hR.s.b) rfl rfl rfl rfl rfl))
 obtain ⟨b,hb⟩:∃ b,Hid (t2.full=b):=⟨_,rfl⟩;rw [hb.out] at c19
 clear Hh hA3 hS3 hR hA2 hS2 hbW hc hf hnf hg hz2 hbz
 cases b
 ·have hG:=hF false (by rw [hb.out];rfl)
  clear hF hb h hr;go_wp2;refine be ?_;exact ⟨rfl,_,_,_,hG.out⟩
 ·by_cases r9:r=109
  ·have q9:(r==109)=true:=by simp [r9]
   have hG:=hF true (by rw [hb.out,decide_eq_true r9];rfl);clear hF hb h hr r9;go_wp2;refine be ?_;exact ⟨rfl,_,_,_,hG.out⟩
  ·have q9:(r==109)=false:=by simp [r9]
   have hG:=hF false (by rw [decide_eq_false r9,Bool.and_false]);clear hF hb h hr r9;go_wp2;refine be ?_;exact ⟨rfl,_,_,_,hG.out⟩
end Go.Proofs.YtfpopnkhmjkdlaaGreatDoor
namespace Go.Proofs.YtfpopnkhmjkdlaaGreatDoor
open Go.ChangeShapes Go.WideShapes Go.ChangeAt Go.RowKit
def Yy (t:Te) (r:Int):Te:={ Ka t t.row (X6 (Xb t.g t.row.toNat) (min t.col (t.gc-wdV r)).toNat r t.st) with col:=min (min t.col (t.gc-wdV r)+wdV r) (t.gc-1),full:=decide (t.gc-1<min t.col (t.gc-wdV r)+wdV r) }
theorem Kz (t:Te):(Xm t).gc=t.gc:=by unfold Xm XH;(split;rfl;split<;>rfl)
def p1T (t:Te):Te:=if t.full=true/\t.wrap=true then Xm { t with full:=false,col:=0 } else { t with full:=false }
def p2T (u:Te) (g r:Int):Te:=if g<u.col+wdV r then (if u.wrap=true then Xm { u with col:=0 } else { u with col:=g-wdV r }) else u
def p3T (u:Te) (g r:Int):Te:=if g<=u.col+wdV r then { Ka u u.row (X6 (Xb u.g u.row.toNat) u.col.toNat r u.st) with col:=g-1,full:=true } else { Ka u u.row (X6 (Xb u.g u.row.toNat) u.col.toNat r u.st) with col:=u.col+wdV r }
theorem YC (t:Te) (r:Int) (h1:1<=wdV r) (h2:wdV r<=t.gc):XJ t r=p3T (p2T (p1T t) t.gc r) t.gc r:=by
 unfold XJ;rw [if_neg (by omega)]
 rfl
theorem UD (u:Te) (g r:Int) (hg:u.gc=g) (hf:u.full=false) (hq:u.col<=u.gc-wdV r):p3T u g r=Yy u r:=by
 unfold p3T Yy Ka;subst hg;rw [show min u.col (u.gc-wdV r)=u.col by omega]
 by_cases h:u.gc<=u.col+wdV r
 ·rw [if_pos h,show min (u.col+wdV r) (u.gc-1)=u.gc-1 by omega,decide_eq_true (show u.gc-1<u.col+wdV r by omega)]
 ·rw [if_neg h,show min (u.col+wdV r) (u.gc-1)=u.col+wdV r by omega,decide_eq_false (show ¬ u.gc-1<u.col+wdV r by omega),<- hf]
theorem Xfk {t:Te} {cn N:Nat} (h:RtK t cn N) (r:Int) (h1:1<=wdV r) (h2:wdV r<=t.gc):XJ t r=Yy (if t.wrap=true/\(t.full=true\/t.gc<t.col+wdV r) then { Xm t with col:=0 } else t) r:=by
 have hcol:=h.w.col;have hgc:=h.w.gc;have hcc:=h.w.c
 have hl:Xm { t with full:=false,col:=0 }={ Xm t with full:=false,col:=0 }:=by
  have e1:=Za { t with full:=false } 0;rw [ZT t false] at e1
  exact e1
 have hg:=Kz t;have hz:Yy { Xm t with full:=false,col:=0 } r=Yy { Xm t with col:=0 } r:=rfl
 have hE:p3T { Xm t with full:=false,col:=0 } t.gc r=Yy { Xm t with col:=0 } r:=by
  rw [<- hz]
  exact UD _ _ _ hg rfl (by show 0<=(Xm t).gc-wdV r;omega)
 rw [YC t r h1 h2]
 by_cases hw:t.wrap=true
 ·by_cases hf:t.full=true
  ·have e1:p1T t={ Xm t with full:=false,col:=0 }:=by unfold p1T;rw [if_pos ⟨hf,hw⟩,hl]
   have e2:p2T { Xm t with full:=false,col:=0 } t.gc r={ Xm t with full:=false,col:=0 }:=if_neg (by show ¬ (t.gc<0+wdV r);omega);rw [e1,e2,hE,if_pos ⟨hw,.inl hf⟩]
  ·have e1:p1T t={ t with full:=false }:=if_neg (fun e=>hf e.1)
   rw [e1]
   by_cases hc:t.gc<t.col+wdV r
   ·have e2:p2T { t with full:=false } t.gc r={ Xm t with full:=false,col:=0 }:=by
     refine (if_pos hc).trans ((if_pos hw).trans ?_);exact hl
    rw [e2,hE,if_pos ⟨hw,.inr hc⟩]
   ·have e2:p2T { t with full:=false } t.gc r={ t with full:=false }:=if_neg hc
    rw [e2,if_neg (fun e=>e.2.elim hf hc)]
    exact UD { t with full:=false } _ r rfl rfl (by show t.col<=t.gc-wdV r;omega)
 ·have e1:p1T t={ t with full:=false }:=if_neg (fun e=>hw e.2)
  rw [e1,if_neg (fun e=>hw e.1)]
  by_cases hc:t.gc<t.col+wdV r
  ·have e2:p2T { t with full:=false } t.gc r={ t with full:=false,col:=t.gc-wdV r }:=(if_pos hc).trans (if_neg hw)
   rw [e2,UD { t with full:=false,col:=t.gc-wdV r } _ r rfl rfl (Int.le_refl _)]
   unfold Yy Ka;simp only;rw [show min (t.gc-wdV r) (t.gc-wdV r)=min t.col (t.gc-wdV r) by omega]
  ·have e2:p2T { t with full:=false } t.gc r={ t with full:=false }:=if_neg hc
   rw [e2]
   exact UD { t with full:=false } _ r rfl rfl (by show t.col<=t.gc-wdV r;omega)
theorem RtK.print1 {t:Te} {cn N:Nat} (h:RtK t cn N):RtK { Xm t with col:=0,full:=false } cn N:=by
 have k:=h.line;exact k.cur _ 0 k.w.row (by have:=h.w.c;omega)
theorem Xbb (x y:List Ce) (n:Nat) (s:St) (hx:x.length=n) (hy:y.length=n):XU x 0 n s=XU y 0 n s:=by
 unfold XU
 have e:XI x 0 n s=XI y 0 n s:=by
  refine List.ext_getElem (by rw [Xq,Xq,hx,hy]) fun i h1 h2=>?_
  rw [Xq,hx] at h1
  simp [XI,h1,hx,hy]
 rw [e]
def eaP (t:Te) (how:Int) (i:Nat):Prop:=how=2\/how=0/\t.row<(i:Int)\/how=1/\(i:Int)<t.row
instance (t:Te) (how:Int) (i:Nat):Decidable (eaP t how i):=by unfold eaP;infer_instance
def eaG (t:Te) (how:Int) (cn j:Nat):List (List Ce):=Z3 t.g.length fun i=>if i<j/\eaP t how i then XU (Xb (Zf t how).g i) 0 cn (Xn t.st) else Xb (Zf t how).g i
theorem Yj (t:Te) (how:Int) (cn j:Nat):(eaG t how cn j).length=t.g.length:=XM _ _
theorem JB (t:Te) (how:Int) (cn j i:Nat) (hi:i<t.g.length):Xb (eaG t how cn j) i=if i<j/\eaP t how i then XU (Xb (Zf t how).g i) 0 cn (Xn t.st) else Xb (Zf t how).g i:=Yq _ _ _ hi
theorem Xbg (t:Te) (how:Int):(Zf t how).g.length=t.g.length:=by
 unfold Zf X3 Ka;split
 ·simp
 split
 ·simp
 split
 ·simp
 rfl
theorem Xc6 (t:Te) (how:Int):{ t with g:=(Zf t how).g }=Zf t how:=by
 unfold Zf X3 Ka;split
 ·rfl
 split
 ·rfl
 split<;>rfl
theorem JD (t:Te) (how:Int) (i:Nat) (_hi:i<t.g.length):(Xb (Zf t how).g i).length=(Xb t.g i).length:=by
 have hs:∀ (r:Nat) (xs:List Ce),xs.length=(Xb t.g r).length->(Xb (t.g.set r xs) i).length=(Xb t.g i).length:=fun r xs hx=>by
  by_cases hr:r<t.g.length
  ·rw [J2 _ _ _ _ hr]
   split
   ·rename_i e;rw [hx,e]
   ·rfl
  ·rw [List.set_eq_of_length_le (by omega)]
 unfold Zf X3 Ka;split
 ·exact hs _ _ (X9 _ _ _ _)
 split
 ·exact hs _ _ (X9 _ _ _ _)
 split
 ·exact hs _ _ (X9 _ _ _ _)
 rfl
theorem Y5 (t:Te) (how:Int) (cn:Nat):({ t with g:=eaG t how cn 0 }:Te)=Zf t how:=by
 rw [<- Xc6]
 congr 1
 refine X7 _ _ (by rw [Yj,Xbg]) fun i hi=>?_
 rw [Yj] at hi
 rw [JB _ _ _ _ _ hi,if_neg (by omega)]
theorem QF (t:Te) (how:Int) (cn j:Nat) (hp:¬ eaP t how j):eaG t how cn (j+1)=eaG t how cn j :=
 X7 _ _ (by rw [Yj,Yj]) fun i hi=>by
  rw [Yj] at hi
  rw [JB _ _ _ _ _ hi,JB _ _ _ _ _ hi]
  by_cases e:i=j
  ·subst e;rw [if_neg (fun e=>hp e.2),if_neg (by omega)]
  ·by_cases c:i<j/\eaP t how i
   ·rw [if_pos ⟨by omega,c.2⟩,if_pos c]
   ·rw [if_neg (fun q=>c ⟨by omega,q.2⟩),if_neg c]
theorem QG (t:Te) (how:Int) (cn j:Nat) (hj:j<t.g.length) (hp:eaP t how j):X3 { t with g:=eaG t how cn j } (j:Int) 0 (cn:Int)={ t with g:=eaG t how cn (j+1) }:=by
 unfold X3 Ka;simp only;rw [Int.toNat_natCast,Int.toNat_natCast,JB _ _ _ _ _ hj,if_neg (by omega)]
 congr 1
 refine X7 _ _ (by rw [List.length_set,Yj,Yj]) fun i hi=>?_
 rw [List.length_set,Yj] at hi
 rw [J2 _ _ _ _ (by rw [Yj];exact hj),JB _ _ _ _ _ hi,JB _ _ _ _ _ hi]
 by_cases e:i=j
 ·subst e;rw [if_pos rfl,if_pos ⟨by omega,hp⟩];rfl
 ·rw [if_neg e]
  by_cases c:i<j/\eaP t how i
  ·rw [if_pos c,if_pos ⟨by omega,c.2⟩]
  ·rw [if_neg c,if_neg (fun q=>c ⟨by omega,q.2⟩)]
theorem Qw {t:Te} {cn N:Nat} (rt:RtW t cn N) (how:Int):({ t with g:=eaG t how cn N }:Te)=ZJ t how:=by
 have hN:=rt.n;unfold ZJ
 congr 1
 refine X7 _ _ (by rw [Yj,XM]) fun i hi=>?_
 rw [Yj] at hi
 rw [JB _ _ _ _ _ hi,Yq _ _ _ hi]
 by_cases c:eaP t how i
 ·rw [if_pos ⟨by omega,c⟩,rt.gc,Int.toNat_natCast]
  unfold eaP at c;rw [if_pos c]
  exact Xbb _ _ _ _ (by rw [JD _ _ _ hi];exact rt.gx i (by omega)) (rt.gx i (by omega))
 ·rw [if_neg (fun q=>c q.2)]
  unfold eaP at c;rw [if_neg c]
theorem RtW.ea {t:Te} {cn N:Nat} (rt:RtW t cn N) (how:Int) (j:Nat):RtW { t with g:=eaG t how cn j } cn N :=
 ⟨rt.gc,rt.oc,rt.c,by rw [<- rt.n];exact Yj _ _ _ _,rt.m,rt.n1,fun i hi=>by
  have hi2:i<t.g.length:=by rw [rt.n];exact hi
  show (Xb (eaG t how cn j) i).length=cn
  rw [JB _ _ _ _ _ hi2]
  split
  ·rw [X9,JD _ _ _ hi2];exact rt.gx i hi
  ·rw [JD _ _ _ hi2];exact rt.gx i hi,rt.ox,rt.row,rt.col,rt.tb⟩
