import Derived.Test.YtfpopnkhmjkdlaaGreatDoorP9
import Derived.Test.YtfpopnkhmjkdlaaGreatDoorP10
import Derived.Deep.LoopGhost
set_option maxRecDepth 20000
set_option maxHeartbeats 16000000
namespace Go.Proofs.YtfpopnkhmjkdlaaGreatDoor
open Go.ChangeShapes Go.WideShapes Go.ChangeAt Go.RowKit
def GrB (lo hi:Nat) (w w':World):Prop:=w'.os=w.os/\w'.tape=w.tape/\w'.output=w.output/\w.heap.size<=w'.heap.size/\∀ k,k<w.heap.size->(k<lo\/hi<=k)->w'.heap[k]?=w.heap[k]?
theorem GrB.size {lo hi:Nat} {w w':World} (h:GrB lo hi w w'):w.heap.size<=w'.heap.size:=h.2.2.2.1
theorem GrB.of_grown {lo hi:Nat} {w w':World} {row:Option Nat} (h:w.grownBy w' row) (hr:∀ g,row=some g->lo<=g/\g<hi):GrB lo hi w w' :=
 ⟨h.os,h.tape,h.output,h.size,fun k hk ho=>h.block k hk (fun e=>by have:=hr k e.symm;omega)⟩
theorem GrB.cell {lo hi k o:Nat} {w w':World} (h:GrB lo hi w w') (hk:k<w.heap.size) (ho:k<lo\/hi<=k):w'.cell? ⟨k,o,none⟩=w.cell? ⟨k,o,none⟩:=World.cell?_of_block (w:=w) (h.2.2.2.2 k hk ho)
theorem GrB.frozen {lo hi k o:Nat} {w w':World} (h:GrB lo hi w w') (hk:k<w.heap.size) (ho:k<lo\/hi<=k):w'.frozen? ⟨k,o,none⟩=w.frozen? ⟨k,o,none⟩:=World.frozen?_of_block (w:=w) (h.2.2.2.2 k hk ho)
theorem _root_.Go.World.ownsRow.gr {lo hi:Nat} {w w':World} {base:Nat} {e:TypeId} {size:Nat} {v:Value} {n:Nat} {xs:List Value} (h:w.ownsRow base e size v n xs) (hg:GrB lo hi w w') (hne:∀ g,v.ownBlock=some g->g<lo\/hi<=g):w'.ownsRow base e size v n xs:=by
 refine ⟨h.1,?_⟩;rcases h.2 with h2|⟨g,cap,cur,hv,hbg,hgg,r⟩
 ·exact .inl h2
 ·exact .inr ⟨g,cap,cur,hv,hbg,by rw [hg.2.2.2.2 g (Array.getElem?_eq_some_iff.1 hgg).1 (hne g (by rw [hv];rfl))];exact hgg,r⟩
def XF (w:World) (base B:Nat) (v:Value) (vs:List Value) (rows:List (List Ce)):Prop :=
 vs.length=rows.length/\w.ownsRow base 120 1 v rows.length vs/\(∀ i,i<rows.length->Xl w base (Xw vs i) (Xb rows i)) /\
  (∀ i,i<rows.length->∀ g,(Xw vs i).ownBlock=some g->g<B)/\(∀ i j,i<j->j<rows.length->∀ g,(Xw vs i).ownBlock=some g->(Xw vs j).ownBlock≠some g)
theorem Yu.v {w:World} {base B:Nat} {v:Value} {rows:List (List Ce)} (h:Yu w base B v rows):∃ vs,XF w base B v vs rows:=h
theorem XF.g {w:World} {base B:Nat} {v:Value} {vs:List Value} {rows:List (List Ce)} (h:XF w base B v vs rows):Yu w base B v rows:=⟨vs,h⟩
theorem XF.apart {w:World} {base B:Nat} {v:Value} {vs:List Value} {rows:List (List Ce)} (h:XF w base B v vs rows) {i j:Nat} (hi:i<rows.length) (hj:j<rows.length) (hij:i≠j):(Xw vs i).ownBlock=none\/(Xw vs i).ownBlock≠(Xw vs j).ownBlock:=by
 cases hv:(Xw vs i).ownBlock with
 | none=>exact .inl rfl
 | some g =>
  right
  intro e;rcases Nat.lt_or_gt_of_ne hij with c|c
  ·exact h.2.2.2.2 i j c hj g hv e.symm
  ·exact h.2.2.2.2 j i c hi g e.symm hv
theorem Xc0 {a b:Option Nat} (h:a=none\/a≠b):b=none\/b≠a:=by
 cases b with
 | none=>exact .inl rfl
 | some g=>right;intro e;rcases h with h|h<;>rw [<- e] at h<;>simp at h
theorem XF.below {w w':World} {base B:Nat} {v:Value} {vs:List Value} {rows:List (List Ce)} (h:XF w base B v vs rows) (hb:Below w.heap.size w w'):XF w' base B v vs rows :=
 ⟨h.1,World.ownsRow.below h.2.1 hb,fun i hi=>(h.2.2.1 i hi).below hb,h.2.2.2.1,h.2.2.2.2⟩
theorem XF.up {w:World} {base B B':Nat} {v:Value} {vs:List Value} {rows:List (List Ce)} (h:XF w base B v vs rows) (hb:B<=B'):XF w base B' v vs rows :=
 ⟨h.1,h.2.1,h.2.2.1,fun i hi g e=>Nat.lt_of_lt_of_le (h.2.2.2.1 i hi g e) hb,h.2.2.2.2⟩
theorem XF.rowset {w w':World} {base B:Nat} {v:Value} {vs:List Value} {rows:List (List Ce)} (h:XF w base B v vs rows) {j:Nat} (hj:j<rows.length) (ys:List Ce) (ho:Xl w' base (Xw vs j) ys) (hg:w.grownBy w' (Xw vs j).ownBlock):XF w' base B v vs (rows.set j ys):=by
 have hx:∀ i,i<rows.length->Xb (rows.set j ys) i=if i=j then ys else Xb rows i:=fun i hi=>by
  unfold Xb
  by_cases e:i=j
  ·subst e;rw [if_pos rfl];simp [List.getD,hi]
  ·rw [if_neg e];simp [List.getD,Ne.symm e]
 refine ⟨by rw [List.length_set];exact h.1,?_,fun i hi=>?_,fun i hi=>?_,fun a b hab hb=>?_⟩
 ·rw [List.length_set]
  exact World.ownsRow.kept h.2.1 hg (Xc0 (YG h.2.1 (h.2.2.1 j hj)))
 ·rw [List.length_set] at hi
  rw [hx i hi]
  by_cases e:i=j
  ·subst e;rw [if_pos rfl];exact ho
  ·rw [if_neg e];exact (h.2.2.1 i hi).kept hg (h.apart hi hj e)
 ·rw [List.length_set] at hi;exact h.2.2.2.1 i hi
 ·rw [List.length_set] at hb;exact h.2.2.2.2 a b hab hb
theorem XF.shape {w:World} {base B:Nat} {v:Value} {vs:List Value} {rows:List (List Ce)} (h:XF w base B v vs rows):(v=.slice none 0 0/\rows=[])\/∃ g cap,v=.slice (some ⟨g,0,none⟩) rows.length cap/\base<=g/\g<w.heap.size/\rows.length<=cap:=h.g.shape
theorem XF.cell {w:World} {base B g n cap:Nat} {vs:List Value} {rows:List (List Ce)} (h:XF w base B (.slice (some ⟨g,0,none⟩) n cap) vs rows) (hn:rows.length=n) (i:Nat) (hi:i<n):w.cell? ⟨g,i,none⟩=some (Xw vs i):=by
 subst hn;rw [World.ownsRow.cellAt h.2.1 i (by have:=h.1;omega),ZP (by have:=h.1;omega)]
theorem XF.frozen {w:World} {base B g n cap:Nat} {vs:List Value} {rows:List (List Ce)} (h:XF w base B (.slice (some ⟨g,0,none⟩) n cap) vs rows) (hn:rows.length=n) (i:Nat):w.frozen? ⟨g,i,none⟩=false:=by
 subst hn;exact World.ownsRow.frozenAt h.2.1 i
def YE (w:World) (lo hi:Nat) (v:Value) (rows:List (List Ce)):Prop:=Yu w lo hi v rows/\(∀ g,v.ownBlock=some g->g<hi)/\hi<=w.heap.size
theorem YE.of {w:World} {lo:Nat} {v:Value} {rows:List (List Ce)} (h:Yu w lo w.heap.size v rows):YE w lo w.heap.size v rows:=⟨h,fun g e=>(h.lt g e).2,Nat.le_refl _⟩
theorem YE.below {base B:Nat} {w w':World} {v:Value} {rows:List (List Ce)} (h:YE w base B v rows) (hb:Below w.heap.size w w'):YE w' base B v rows:=⟨h.1.below hb,h.2.1,Nat.le_trans h.2.2 hb.size⟩
theorem YE.sl {base B:Nat} {w:World} {v:Value} {rows:List (List Ce)} (h:YE w base B v rows):SlG w v rows:=SlG.of_own h.1
def Z3 (n:Nat) (f:Nat->List Ce):List (List Ce):=(List.range n).map f
theorem XM (n:Nat) (f:Nat->List Ce):(Z3 n f).length=n:=by simp [Z3]
theorem Yq (n:Nat) (f:Nat->List Ce) (i:Nat) (h:i<n):Xb (Z3 n f) i=f i:=by
 rw [Zd (by rw [XM];exact h)]
 simp [Z3]
theorem X7 (a b:List (List Ce)) (hl:a.length=b.length) (h:∀ i,i<a.length->Xb a i=Xb b i):a=b:=by
 apply List.ext_getElem hl
 intro i h1 h2;rw [<- Zd h1,<- Zd h2]
 exact h i h1
theorem Xfl {rows:List (List Ce)} {j:Nat} (hj:j<rows.length) (ys:List Ce) (i:Nat):Xb (rows.set j ys) i=if i=j then ys else Xb rows i:=by
 unfold Xb
 by_cases e:i=j
 ·subst e;rw [if_pos rfl];simp [List.getD,hj]
 ·rw [if_neg e];simp [List.getD,Ne.symm e]
def XhD (l:List Int):Prop:=∀ x∈l,Xh x=true
def Xie (l l':List Int) (X X':List Ax) (r:Int):Prop:=(r=-1->X'.length+l'.length<=X.length+l.length)/\(r≠-1->X'.length+l'.length<X.length+l.length)/\XhD l'
def KM (h:ByteArray) (n:Nat):Bool:=((XP (h++({ data:=#[128,128,128] }:ByteArray).extract 0 (n-h.size))).2==(n:Int)) || ((XP (h++({ data:=#[160,128,128] }:ByteArray).extract 0 (n-h.size))).2==(n:Int)) || ((XP (h++({ data:=#[144,128,128] }:ByteArray).extract 0 (n-h.size))).2==(n:Int)) || ((XP (h++({ data:=#[191,191,191] }:ByteArray).extract 0 (n-h.size))).2==(n:Int)) || ((XP (h++({ data:=#[159,191,191] }:ByteArray).extract 0 (n-h.size))).2==(n:Int)) || ((XP (h++({ data:=#[143,191,191] }:ByteArray).extract 0 (n-h.size))).2==(n:Int))
def Jf (g:Nat) (w:World):Prop :=
 g<w.heap.size/\w.cell? ⟨g,1,none⟩=some (.string ({ data:=#[160,128,128] }:ByteArray))/\w.cell? ⟨g,2,none⟩=some (.string ({ data:=#[144,128,128] }:ByteArray))/\w.cell? ⟨g,3,none⟩=some (.string ({ data:=#[191,191,191] }:ByteArray))/\w.cell? ⟨g,4,none⟩=some (.string ({ data:=#[159,191,191] }:ByteArray))/\w.cell? ⟨g,5,none⟩=some (.string ({ data:=#[143,191,191] }:ByteArray))
theorem Jf.below {g:Nat} {w w':World} (h:Jf g w) (hb:Below w.heap.size w w'):Jf g w':=by
 obtain ⟨hg,q1,q2,q3,q4,q5⟩:=h;exact ⟨Nat.lt_of_lt_of_le hg hb.size,(hb.cell (p:=⟨g,1,none⟩) hg).trans q1,(hb.cell (p:=⟨g,2,none⟩) hg).trans q2,(hb.cell (p:=⟨g,3,none⟩) hg).trans q3,(hb.cell (p:=⟨g,4,none⟩) hg).trans q4,(hb.cell (p:=⟨g,5,none⟩) hg).trans q5⟩
theorem Xgb (w:World):Jf w.heap.size (w.alloc (.cells #[(.string ({ data:=#[128,128,128] }:ByteArray):Value),(.string ({ data:=#[160,128,128] }:ByteArray):Value),(.string ({ data:=#[144,128,128] }:ByteArray):Value),(.string ({ data:=#[191,191,191] }:ByteArray):Value),(.string ({ data:=#[159,191,191] }:ByteArray):Value),(.string ({ data:=#[143,191,191] }:ByteArray):Value)] 9)):=by
 refine ⟨by simp,?_,?_,?_,?_,?_⟩<;>simp [go_sem]
theorem Xck (h:ByteArray) (n:Nat) (w:World) (h0:0<h.size) (hs:h.size<=3) (hn:h.size<n/\n<=4) (hx:XO (h[0].toNat:Int)=n) :
  Calls Tryz.prog 152 #[.string h] w fun e w'=>e=.returned (.bool (KM h n))/\Below w.heap.size w w':=by
 have hl:Hid (XO (h[0].toNat:Int)=n):=hx;clear hx;have he:=YV h h0;have hb0:(h[0].toNat:Int)<256:=by have:=h[0].toNat_lt;omega
 have hlt:¬ ((n:Int)<=(h.size:Int)):=by omega
 have hy0:=fun o=>(Below.refl w.heap.size w).alloc (Nat.le_refl _) o
 have m0:(h++({ data:=#[128,128,128] }:ByteArray).extract 0 (n-h.size)).size<=maxLen:=by rw [ByteArray.size_append,ByteArray.size_extract];unfold maxLen;omega
 have m1:(h++({ data:=#[160,128,128] }:ByteArray).extract 0 (n-h.size)).size<=maxLen:=by rw [ByteArray.size_append,ByteArray.size_extract];unfold maxLen;omega
 have m2:(h++({ data:=#[144,128,128] }:ByteArray).extract 0 (n-h.size)).size<=maxLen:=by rw [ByteArray.size_append,ByteArray.size_extract];unfold maxLen;omega
 have m3:(h++({ data:=#[191,191,191] }:ByteArray).extract 0 (n-h.size)).size<=maxLen:=by rw [ByteArray.size_append,ByteArray.size_extract];unfold maxLen;omega
 have m4:(h++({ data:=#[159,191,191] }:ByteArray).extract 0 (n-h.size)).size<=maxLen:=by rw [ByteArray.size_append,ByteArray.size_extract];unfold maxLen;omega
 have m5:(h++({ data:=#[143,191,191] }:ByteArray).extract 0 (n-h.size)).size<=maxLen:=by rw [ByteArray.size_append,ByteArray.size_extract];unfold maxLen;omega
 have g0:=fun W=>ZG (h++({ data:=#[128,128,128] }:ByteArray).extract 0 (n-h.size)) W m0
 have g1:=fun W=>ZG (h++({ data:=#[160,128,128] }:ByteArray).extract 0 (n-h.size)) W m1
 have g2:=fun W=>ZG (h++({ data:=#[144,128,128] }:ByteArray).extract 0 (n-h.size)) W m2
 have g3:=fun W=>ZG (h++({ data:=#[191,191,191] }:ByteArray).extract 0 (n-h.size)) W m3
 have g4:=fun W=>ZG (h++({ data:=#[159,191,191] }:ByteArray).extract 0 (n-h.size)) W m4
 have g5:=fun W=>ZG (h++({ data:=#[143,191,191] }:ByteArray).extract 0 (n-h.size)) W m5
 clear m0 m1 m2 m3 m4 m5;go_enter Tryz.func152,Tryz.ntmps152;go_wp2_with (first|(go_at_call 173;refine (Ym _ _ (by omega)).mono ?_;rw [hl.out];rintro e w' ⟨rfl,hw⟩;subst w'));refine wp_loop_rounds 7 ?_;rw [rounds_succ]
 go_wp2_with (go_at_call 114;refine (g0 _).mono ?_;rintro e w1 ⟨rfl,hb⟩;obtain ⟨hg,q1,q2,q3,q4,q5⟩:=(Xgb w).below hb;replace hb:=(hy0 _).trans (hb.mono (by simp)))
 ·go_ret
  exact ⟨Xe (by simp only [KM, *,Bool.true_or]),hb⟩
 rw [rounds_succ]
 go_wp2_with (go_at_call 114;refine (g1 _).mono ?_;rintro e w1 ⟨rfl,hc⟩;replace hb:=hb.trans (hc.mono hb.size);obtain ⟨hgx1,q1x1,q2x1,q3x1,q4x1,q5x1⟩:=Jf.below ⟨hg,q1,q2,q3,q4,q5⟩ hc;clear hg q1 q2 q3 q4 q5)
 ·go_ret
  exact ⟨Xe (by simp only [KM, *,Bool.true_or,Bool.or_true]),hb⟩
 rw [rounds_succ]
 go_wp2_with (go_at_call 114;refine (g2 _).mono ?_;rintro e w1 ⟨rfl,hc⟩;replace hb:=hb.trans (hc.mono hb.size);obtain ⟨hgx2,q1x2,q2x2,q3x2,q4x2,q5x2⟩:=Jf.below ⟨hgx1,q1x1,q2x1,q3x1,q4x1,q5x1⟩ hc;clear hgx1 q1x1 q2x1 q3x1 q4x1 q5x1)
 ·go_ret
  exact ⟨Xe (by simp only [KM, *,Bool.true_or,Bool.false_or,Bool.or_true]),hb⟩
 rw [rounds_succ]
 go_wp2_with (go_at_call 114;refine (g3 _).mono ?_;rintro e w1 ⟨rfl,hc⟩;replace hb:=hb.trans (hc.mono hb.size);obtain ⟨hgx3,q1x3,q2x3,q3x3,q4x3,q5x3⟩:=Jf.below ⟨hgx2,q1x2,q2x2,q3x2,q4x2,q5x2⟩ hc;clear hgx2 q1x2 q2x2 q3x2 q4x2 q5x2)
 ·go_ret
  exact ⟨Xe (by simp only [KM, *,Bool.true_or,Bool.false_or,Bool.or_true]),hb⟩
 rw [rounds_succ]
 go_wp2_with (go_at_call 114;refine (g4 _).mono ?_;rintro e w1 ⟨rfl,hc⟩;replace hb:=hb.trans (hc.mono hb.size);obtain ⟨hgx4,q1x4,q2x4,q3x4,q4x4,q5x4⟩:=Jf.below ⟨hgx3,q1x3,q2x3,q3x3,q4x3,q5x3⟩ hc;clear hgx3 q1x3 q2x3 q3x3 q4x3 q5x3)
 ·go_ret
  exact ⟨Xe (by simp only [KM, *,Bool.true_or,Bool.false_or,Bool.or_true]),hb⟩
 rw [rounds_succ]
 go_wp2_with (go_at_call 114;refine (g5 _).mono ?_;rintro e w1 ⟨rfl,hc⟩;replace hb:=hb.trans (hc.mono hb.size);obtain ⟨hgx5,q1x5,q2x5,q3x5,q4x5,q5x5⟩:=Jf.below ⟨hgx4,q1x4,q2x4,q3x4,q4x4,q5x4⟩ hc;clear hgx4 q1x4 q2x4 q3x4 q4x4 q5x4)
 ·go_ret
  exact ⟨Xe (by simp only [KM, *,Bool.false_or,Bool.or_true]),hb⟩
 rw [rounds_succ]
 go_wp2;go_ret;exact ⟨Xe (by simp only [KM, *,Bool.or_false]),hb⟩
theorem XeN (h:ByteArray) (n:Int) (w:World) (h0:0<h.size) (hn:n<=h.size) (hx:XO (h[0].toNat:Int)=n) :
  Calls Tryz.prog 152 #[.string h] w fun e w'=>e=.returned (.bool false)/\Below w.heap.size w w':=by
 have hl:Hid (XO (h[0].toNat:Int)=n):=hx;clear hx;have he:=YV h h0;have hb0:(h[0].toNat:Int)<256:=by have:=h[0].toNat_lt;omega
 go_enter Tryz.func152,Tryz.ntmps152;go_wp2_with (first|(go_at_call 173;refine (Ym _ _ (by omega)).mono ?_;rw [hl.out];rintro e w' ⟨rfl,rfl⟩));go_ret;exact ⟨rfl,Below.refl _ _⟩
theorem Xbx (h:ByteArray) (w:World) (h0:¬ 0<h.size) :
  Calls Tryz.prog 152 #[.string h] w fun e w'=>e=.returned (.bool true)/\Below w.heap.size w w':=by
 have he:=JI h h0;go_enter Tryz.func152,Tryz.ntmps152;go_wp2;go_ret;exact ⟨rfl,Below.refl _ _⟩
theorem XfJ (v:Value) (xs:List Ce) (w:World) (hv:SlC w v xs) (hl:xs.length<=1073741824) :
  Calls Tryz.prog 224 #[v] w fun e w'=>∃ u,e=.returned u/\Xl w' w.heap.size u xs/\Below w.heap.size w w':=by
 have hto:=fun c W=>Xd1 c W
 unfold ceV at hto;obtain ⟨a,c,rfl,hc0⟩:=id hv;clear hc0;go_enter Tryz.func224,Tryz.ntmps224;go_wp2_with (refine Qy rfl _ _ rfl xs.length rfl rfl hl ?_;intro w1 ho1 hb1);go_wp2;go_loopw [4] (fun i wr=>∃ (j:Nat) (ys:List Ce),i=.int .i64 j/\j<=xs.length/\ys.length=xs.length/\(∀ t,t<j->atC ys t=atC xs t)/\OC w.heap.size (.slice (some ⟨w.heap.size,0,none⟩) xs.length xs.length) ys w wr) (fun i _=>xs.length-(intOf i).toNat)
 case atStart=>exact ⟨0,_,rfl,Nat.zero_le _,List.length_replicate,(fun t h=>absurd h (Nat.not_lt_zero t)),ho1,hb1,hb1.size,Nat.le_refl _⟩
 case round =>
  clear ho1 hb1;obtain ⟨j,ys,rfl,hj,hyl,hys,k⟩:=hrel
  by_cases hlt:j<xs.length
  ·have hji:(j:Int)<(xs.length:Int):=by omega
   have hj0:(0:Int)<=(j:Int):=by omega
   obtain ⟨b,off,rfl,hbb,hat⟩:=(hv.below k.2.1).at j hlt;obtain ⟨c0,c1,c2,c3,c4,c5,c6⟩:=hat;go_wp2_with fail;refine (hto (atC xs j) _).mono ?_;rintro e w2 ⟨rfl,hb2⟩;have k2:=k.below hb2;have hp:=k2.1.put hyl j hlt (atC xs j);have kk:OC w.heap.size (.slice (some ⟨w.heap.size,0,none⟩) xs.length xs.length) (ys.set j (atC xs j)) w (YJ w2 w.heap.size (j*7) (atC xs j)):=k2.own hp.1 hp.2
   have hys2:∀ t,t<j+1->atC (ys.set j (atC xs j)) t=atC xs t:=by
    intro t ht;rw [Kj]
    by_cases e:t=j
    ·subst e;rw [if_pos ⟨rfl,by omega⟩]
    ·rw [if_neg (fun h=>e h.1)];exact hys t (by omega)
   have hyl2:(ys.set j (atC xs j)).length=xs.length:=by simpa using hyl
   have hat:=k2.1.at hyl j hlt;have f0:=k2.1.frozen hyl (j*7);have f1:=k2.1.frozen hyl (j*7+1);have f2:=k2.1.frozen hyl (j*7+2);have f3:=k2.1.frozen hyl (j*7+3);have f4:=k2.1.frozen hyl (j*7+4);have f5:=k2.1.frozen hyl (j*7+5);have f6:=k2.1.frozen hyl (j*7+6);clear hp k hb2 hto hys c0 c1 c2 c3 c4 c5 c6 k2 hv hyl;generalize ys.set j (atC xs j)=ys2 at *;obtain ⟨c0,c1,c2,c3,c4,c5,c6⟩:=hat;simp only [YJ] at kk;go_wp2;go_roundw
   case rel=>exact ⟨j+1,ys2,by go_num,by omega,hyl2,hys2,kk⟩
   case measure=>simp [intOf];omega
  ·have hjn:j=xs.length:=by omega
   have hji:¬ (j:Int)<(xs.length:Int):=by omega
   have hye:ys=xs:=YF _ _ hyl (fun i hi=>hys i (by omega));subst hye;clear hys hyl hv hto;go_wp2;go_ret;exact ⟨_,rfl,k.1,k.2.1⟩
theorem UI {vs:List Value} {i:Nat} (hi:i<vs.length) (r:Value) (k:Nat):Xw (vs.set i r) k=if k=i then r else Xw vs k:=by
 unfold Xw
 by_cases e:k=i
 ·subst e;rw [if_pos rfl];simp [List.getD,hi]
 ·rw [if_neg e];simp [List.getD,Ne.symm e]
theorem KI {rows:List (List Ce)} {i:Nat} (hi:i<rows.length) (x:List Ce) (k:Nat):Xb (rows.set i x) k=if k=i then x else Xb rows k:=by
 unfold Xb
 by_cases e:k=i
 ·subst e;rw [if_pos rfl];simp [List.getD,hi]
 ·rw [if_neg e];simp [List.getD,Ne.symm e]
theorem Yu.set {w:World} {base B g n cap:Nat} {rows:List (List Ce)} (h:Yu w base B (.slice (some ⟨g,0,none⟩) n cap) rows) (hn:rows.length=n) (i:Nat) (hi:i<n) (r:Value) (xs:List Ce) (hr:Xl w base r xs) (hB:∀ q,r.ownBlock=some q->B<=q) :
  Yu (w.setCell ⟨g,i,none⟩ r) base (w.setCell ⟨g,i,none⟩ r).heap.size (.slice (some ⟨g,0,none⟩) n cap) (rows.set i xs)/\w.grownBy (w.setCell ⟨g,i,none⟩ r) (some g):=by
 subst hn;obtain ⟨vs,hvl,hown,hrs,hlt,hd⟩:=h;have h0:=World.ownsRow.stored hown i r;have hap:∀ {u:Value} {ys:List Ce},Xl w base u ys->Xl (w.setCell ⟨g,i,none⟩ r) base u ys:=fun hu=>hu.kept h0.2 (YG hown hu)
 have hs2:=h0.2.size;refine ⟨⟨vs.set i r,by simp [hvl],by rw [List.length_set];exact h0.1,fun k hk=>?_,fun k hk q e=>?_,fun a b hab hb q e=>?_⟩,h0.2⟩
 ·rw [List.length_set] at hk
  rw [UI (by omega),KI hi]
  by_cases e:k=i
  ·rw [if_pos e,if_pos e];exact hap hr
  ·rw [if_neg e,if_neg e];exact hap (hrs k hk)
 ·rw [List.length_set] at hk
  rw [UI (by omega)] at e
  by_cases c:k=i
  ·rw [if_pos c] at e;have:=(hr.lt q e).2;omega
  ·rw [if_neg c] at e;have:=((hrs k hk).lt q e).2;omega
 ·rw [List.length_set] at hb
  rw [UI (by omega)] at e
  rw [UI (by omega)]
  by_cases c:a=i
  ·rw [if_pos c] at e
   rw [if_neg (by omega)]
   intro e2;have:=hlt b hb q e2;have:=hB q e;omega
  ·rw [if_neg c] at e
   by_cases c2:b=i
   ·rw [if_pos c2]
    intro e2;have:=hlt a (by omega) q e;have:=hB q e2;omega
   ·rw [if_neg c2];exact hd a b hab hb q e
theorem XaS (n:Nat):(madeCells (Value.slice none 0 0).cells (n*1)).toList=List.replicate n (Value.slice none 0 0):=by
 apply List.ext_getElem?
 intro i
 by_cases hi:i<n
 ·simp [madeCells,Value.cells,hi,Nat.mod_one]
 ·simp [madeCells,Value.cells,hi]
theorem Xhi {w:World} {ops:Array Oper} {rest:List Oper} {o:Oper} {ac:Act} {Q:Exit->Act->World->Prop} (hgd:o.guard=none) (x y:Operand)
  (ho:o.op=Op.makeSlice 24 x y) (n:Nat) (hx:ac.eval x=.int .i64 (n:Int)) (hy:ac.eval y=.int .i64 (n:Int)) (hn:n<=1073741824)
  (h:∀ w',Yu w' w.heap.size w'.heap.size (.slice (some ⟨w.heap.size,0,none⟩) n n) (List.replicate n [])->Below w.heap.size w w'->wpList Tryz.prog ops Q rest (ac.put o.dst (.slice (some ⟨w.heap.size,0,none⟩) n n)) w') :
  wpList Tryz.prog ops Q (o::rest) ac w:=by
 obtain ⟨i0,hi,hz0,hz1,hz2⟩:=info_parts Z4;refine wpList_make_full _ hgd x y 24 ho w.heap.size 120 i0 (.slice none 0 0) 1 Jq hi hz0 hz1 .i64 .i64 (n:Int) (n:Int) n hx hy rfl rfl (by rw [hz2];omega) (by unfold maxLen;omega) (Nat.le_refl _) (fun w' ho' hg=>?_);rw [XaS] at ho'
 have hv:∀ i,Xw (List.replicate n (Value.slice none 0 0)) i=.slice none 0 0:=fun i=>by
  unfold Xw;by_cases hi:i<n<;>simp [List.getD,hi]
 have hr:∀ i,Xb (List.replicate n ([]:List Ce)) i=[]:=fun i=>by
  unfold Xb;by_cases hi:i<n<;>simp [List.getD,hi]
 have hG:Yu w' w.heap.size w'.heap.size (.slice (some ⟨w.heap.size,0,none⟩) n n) (List.replicate n []) :=
  ⟨List.replicate n (.slice none 0 0),by simp,by rw [List.length_replicate];exact ho',fun i _=>by rw [hv,hr];exact ZX _ _,(fun i _ g e=>by rw [hv] at e;cases e),(fun i j _ _ g e=>by rw [hv] at e;cases e)⟩
 exact h w' hG ((Below.refl _ _).grown hg (Nat.le_refl _) (fun k hk=>by cases hk))
def NG (M B:Nat) (cols:Int) (u:Value) (rows:List (List Ce)) (w0 W:World):Prop :=
 GrW W M 0 (.slice none 0 0)/\GrW W (M+1) cols u/\Yu W (M+2) B u rows/\M+2<=W.heap.size/\B<=W.heap.size/\Below M w0 W
theorem NG.below {M B:Nat} {cols:Int} {u:Value} {rows:List (List Ce)} {w0 W W':World} (k:NG M B cols u rows w0 W) (hb:Below W.heap.size W W'):NG M B cols u rows w0 W' :=
 ⟨k.1.below hb,k.2.1.below hb,k.2.2.1.below hb,Nat.le_trans k.2.2.2.1 hb.size,Nat.le_trans k.2.2.2.2.1 hb.size,k.2.2.2.2.2.trans (hb.mono (by have:=k.2.2.2.1;omega))⟩
theorem NG.drew {M B:Nat} {cols:Int} {u:Value} {rows:List (List Ce)} {w0 W:World} (k:NG M B cols u rows w0 W):NG M B cols u rows w0 W.drew:=k.below (bdr W)
theorem NG.more {M B:Nat} {cols:Int} {u v':Value} {rows rows':List (List Ce)} {w0 W W':World} (k:NG M B cols u rows w0 W) (ho:Yu W' (M+2) W'.heap.size v' rows') (hg:W.grownBy W' u.ownBlock) :
  GrW W' M 0 (.slice none 0 0)/\GrW W' (M+1) cols u/\Yu W' (M+2) W'.heap.size v' rows'/\M+2<=W'.heap.size/\W'.heap.size<=W'.heap.size/\Below M w0 W':=by
 have hne:∀ g,u.ownBlock=some g->M+2<=g:=fun g e=>(k.2.2.1.lt g e).1
 refine ⟨k.1.grown hg (fun e=>by have:=hne _ e;omega),k.2.1.grown hg (fun e=>by have:=hne _ e;omega),ho,Nat.le_trans k.2.2.2.1 hg.size,Nat.le_refl _,?_⟩;exact k.2.2.2.2.2.grown hg (by have:=k.2.2.2.1;omega) (fun g e=>by have:=hne g e;omega)
theorem Ul {M:Nat} {cols:Int} {u:Value} {rows:List (List Ce)} {w0 W:World} {v':Value} (k:GrW W M 0 (.slice none 0 0)/\GrW W (M+1) cols u/\Yu W (M+2) W.heap.size v' rows/\M+2<=W.heap.size/\W.heap.size<=W.heap.size/\Below M w0 W) :
  NG M (Um W (M+1) v').heap.size cols v' rows w0 (Um W (M+1) v'):=by
 have hg:=Xab W (M+1) v';refine ⟨k.1.grown hg (fun e=>by cases e),k.2.1.put v',((k.2.2.1).kept hg (fun g e=>by cases e;omega)).up hg.size,Nat.le_trans k.2.2.2.1 hg.size,Nat.le_refl _,?_⟩;exact k.2.2.2.2.2.grown hg (by have:=k.2.2.2.1;omega) (fun g e=>by cases e;omega)
theorem XaR (cols n:Nat) (w:World) (hc:cols<=1000) (hn:n<=1000) :
  Calls Tryz.prog 138 #[.int .i64 cols,.int .i64 n] w fun e w'=>∃ u,e=.returned (Yp cols u)/\Yu w' w.heap.size w'.heap.size u (XB cols n)/\Below w.heap.size w w':=by
 have hrow:=fun W=>JZ cols St.zero W hc
 unfold stV at hrow;simp only [St.zero] at hrow
 have k0:NG w.heap.size ((w.alloc (Obj.cells #[Value.int IntKind.i64 0,Value.slice none 0 0] 26)).alloc (Obj.cells #[Value.int IntKind.i64 cols,Value.slice none 0 0] 26)).heap.size cols (.slice none 0 0) [] w ((w.alloc (Obj.cells #[Value.int IntKind.i64 0,Value.slice none 0 0] 26)).alloc (Obj.cells #[Value.int IntKind.i64 cols,Value.slice none 0 0] 26)):=by
  have h1:=GrW.new w 0 (.slice none 0 0) 26;have h2:=GrW.new (w.alloc (Obj.cells #[Value.int IntKind.i64 0,Value.slice none 0 0] 26)) cols (.slice none 0 0) 26;have hb1:=Xd w (Obj.cells #[Value.int IntKind.i64 0,Value.slice none 0 0] 26);have e:(w.alloc (Obj.cells #[Value.int IntKind.i64 0,Value.slice none 0 0] 26)).heap.size=w.heap.size+1:=by simp
  rw [e] at h2
  exact ⟨h1.below (Xd _ _),h2,ZY _ _ _,by simp,Nat.le_refl _,hb1.trans ((Xd _ _).mono (by simp))⟩
 go_enter Tryz.func138,Tryz.ntmps138;go_wp2;go_loopw [6] (fun i wr=>∃ j:Nat,i=.int .i64 j/\j<=n/\∃ u,NG w.heap.size wr.heap.size cols u (XB cols j) w wr) (fun i _=>n-(intOf i).toNat)
 case atStart=>exact ⟨0,rfl,Nat.zero_le _,_,k0⟩
 case round =>
  clear k0;obtain ⟨j,rfl,hj,u,k⟩:=hrel
  by_cases hlt:j<n
  ·have hji:(j:Int)<(n:Int):=by omega
   have hsn:Hid (XB cols (j+1)=XB cols j++[X0 cols St.zero]):=Xfe cols j;have hlr:(XB cols j).length<2000000:=by simp [XB];omega
   generalize hBB:wr.heap.size=B at k;generalize XB cols j=rows at *;obtain ⟨⟨_,⟨d0,d1⟩,⟨y0,y1⟩⟩,⟨_,⟨c0,c1⟩,⟨z0,z1⟩⟩,_⟩:=id k;go_wp2;refine wp_region_noPanic ?_;refine wp_region_held_drew (S:=fun _=>True) (by kernel_rfl) trivial (fun Hh=>?_);refine tK 0 ?_;refine tK 2 ?_;refine tk 3 ?_;refine rd2 1 4 (fun K hK=>?_) fun K hK=>?_
   ·go_simp
    refine hK.out _ _ trivial (fun Hh=>?_);clear hK K;refine rd 4 fun K hK=>?_
    go_simp;refine (hrow _).mono ?_;rintro e w2 ⟨r,rfl,hor,hb2⟩;have k2:=k.drew.below hb2;have hB2:∀ g,r.ownBlock=some g->B<=g:=fun g e=>Nat.le_trans k.2.2.2.2.1 ((hor.lt g e).1)
    have hor2:=hor.low k.2.2.2.1;clear hor hb2 k hrow;obtain ⟨⟨_,⟨d0,d1⟩,⟨y0,y1⟩⟩,⟨_,⟨c0,c1⟩,⟨z0,z1⟩⟩,_⟩:=id k2;obtain ⟨ra,rn,rc,rfl⟩:∃ a n c,r=Value.slice a n c:=by rcases hor2.shape with ⟨h,_⟩|⟨_,_,h,_⟩<;>exact ⟨_,_,_,h⟩
    go_wp2_with fail;refine hK.out _ _ trivial (fun Hh=>?_);clear hK K;refine rd 5 fun K hK=>?_
    go_simp;refine hK.out _ _ trivial (fun Hh=>?_);clear hK K;refine rd 6 fun K hK=>?_
    refine Yz (by rfl) _ _ (by rfl) (w.heap.size+2) B _ _ _ _ (by rfl) k2.2.2.1 hor2 hB2 k2.2.2.2.1 hlr _ rfl (by rfl) ?_;intro v' w' ho' hg';have k4:=(k2.below (Xd _ _)).more ho' hg';clear k2 ho' hg' hor2 hB2 d0 d1 y0 y1 c0 c1 z0 z1;obtain ⟨⟨_,⟨d0,d1⟩,⟨y0,y1⟩⟩,⟨_,⟨c0,c1⟩,⟨z0,z1⟩⟩,_⟩:=id k4;obtain ⟨va,vn,vc,rfl⟩:∃ a n c,v'=Value.slice a n c:=by rcases k4.2.2.1.shape with ⟨h,_⟩|⟨_,_,h,_⟩<;>exact ⟨_,_,_,h⟩
    refine hK.out _ _ trivial (fun Hh=>?_);clear hK K;refine tk 7 ?_;refine rd 8 fun K hK=>?_
    go_simp;refine hK.out _ _ trivial (fun Hh=>?_);clear hK K
    (try simp only [Act.put,ZA,ZB,ZC,ZD,ZE,ZF])
    refine dn ?_;have k5:=Ul k4;simp only [Um] at k5;clear k4 d0 d1 y0 y1 c0 c1 z0 z1;go_wp2;go_roundw
    case rel=>exact ⟨j+1,by go_num,by omega,_,by rw [hsn.out];exact k5⟩
    case measure=>simp [intOf];omega
   ·go_simp
    refine (hrow _).mono ?_;rintro e w2 ⟨r,rfl,hor,hb2⟩;have k2:=k.drew.below hb2;have hB2:∀ g,r.ownBlock=some g->B<=g:=fun g e=>Nat.le_trans k.2.2.2.2.1 ((hor.lt g e).1)
    have hor2:=hor.low k.2.2.2.1;clear hor hb2 k hrow;obtain ⟨⟨_,⟨d0,d1⟩,⟨y0,y1⟩⟩,⟨_,⟨c0,c1⟩,⟨z0,z1⟩⟩,_⟩:=id k2;obtain ⟨ra,rn,rc,rfl⟩:∃ a n c,r=Value.slice a n c:=by rcases hor2.shape with ⟨h,_⟩|⟨_,_,h,_⟩<;>exact ⟨_,_,_,h⟩
    go_wp2_with fail;refine hK.out _ _ trivial (fun Hh=>?_);clear hK K;refine rd2 1 5 (fun K hK=>?_) fun K hK=>?_
    ·go_simp
     refine hK.out _ _ trivial (fun Hh=>?_);clear hK K;refine rd 5 fun K hK=>?_
     go_simp;refine hK.out _ _ trivial (fun Hh=>?_);clear hK K;refine rd 6 fun K hK=>?_
     refine Yz (by rfl) _ _ (by rfl) (w.heap.size+2) B _ _ _ _ (by rfl) k2.2.2.1 hor2 hB2 k2.2.2.2.1 hlr _ rfl (by rfl) ?_;intro v' w' ho' hg';have k4:=(k2.below (Xd _ _)).more ho' hg';clear k2 ho' hg' hor2 hB2 d0 d1 y0 y1 c0 c1 z0 z1;obtain ⟨⟨_,⟨d0,d1⟩,⟨y0,y1⟩⟩,⟨_,⟨c0,c1⟩,⟨z0,z1⟩⟩,_⟩:=id k4;obtain ⟨va,vn,vc,rfl⟩:∃ a n c,v'=Value.slice a n c:=by rcases k4.2.2.1.shape with ⟨h,_⟩|⟨_,_,h,_⟩<;>exact ⟨_,_,_,h⟩
     refine hK.out _ _ trivial (fun Hh=>?_);clear hK K;refine tk 7 ?_;refine rd 8 fun K hK=>?_
     go_simp;refine hK.out _ _ trivial (fun Hh=>?_);clear hK K
     (try simp only [Act.put,ZA,ZB,ZC,ZD,ZE,ZF])
     refine dn ?_;have k5:=Ul k4;simp only [Um] at k5;clear k4 d0 d1 y0 y1 c0 c1 z0 z1;go_wp2;go_roundw
     case rel=>exact ⟨j+1,by go_num,by omega,_,by rw [hsn.out];exact k5⟩
     case measure=>simp [intOf];omega
    ·go_simp
     refine hK.out _ _ trivial (fun Hh=>?_);clear hK K;refine rd 1 fun K hK=>?_
     go_simp;refine hK.out _ _ trivial (fun Hh=>?_);clear hK K;refine rd 6 fun K hK=>?_
     refine Yz (by rfl) _ _ (by rfl) (w.heap.size+2) B _ _ _ _ (by rfl) k2.2.2.1 hor2 hB2 k2.2.2.2.1 hlr _ rfl (by rfl) ?_;intro v' w' ho' hg';have k4:=(k2.below (Xd _ _)).more ho' hg';clear k2 ho' hg' hor2 hB2 d0 d1 y0 y1 c0 c1 z0 z1;obtain ⟨⟨_,⟨d0,d1⟩,⟨y0,y1⟩⟩,⟨_,⟨c0,c1⟩,⟨z0,z1⟩⟩,_⟩:=id k4;obtain ⟨va,vn,vc,rfl⟩:∃ a n c,v'=Value.slice a n c:=by rcases k4.2.2.1.shape with ⟨h,_⟩|⟨_,_,h,_⟩<;>exact ⟨_,_,_,h⟩
     refine hK.out _ _ trivial (fun Hh=>?_);clear hK K;refine tk 7 ?_;refine rd 8 fun K hK=>?_
     go_simp;refine hK.out _ _ trivial (fun Hh=>?_);clear hK K
     (try simp only [Act.put,ZA,ZB,ZC,ZD,ZE,ZF])
     refine dn ?_;have k5:=Ul k4;simp only [Um] at k5;clear k4 d0 d1 y0 y1 c0 c1 z0 z1;go_wp2;go_roundw
     case rel=>exact ⟨j+1,by go_num,by omega,_,by rw [hsn.out];exact k5⟩
     case measure=>simp [intOf];omega
  ·have hjn:j=n:=by omega
   have hji:¬ (j:Int)<(n:Int):=by omega
   subst hjn;clear hrow;obtain ⟨⟨_,⟨d0,d1⟩,⟨y0,y1⟩⟩,⟨_,⟨c0,c1⟩,⟨z0,z1⟩⟩,_⟩:=id k;obtain ⟨ua,un,uc,rfl⟩:∃ a n c,u=Value.slice a n c:=by rcases k.2.2.1.shape with ⟨h,_⟩|⟨_,_,h,_⟩<;>exact ⟨_,_,_,h⟩
   have kF:=(k.1.put2 cols (.slice ua un uc)).2.1;have hgF:=KQ wr w.heap.size cols (.slice ua un uc);have hoF:=((k.2.2.1).kept hgF (fun g e=>by cases e;omega)).up hgF.size;have hbF:=k.2.2.2.2.2.grown hgF (by omega) (fun g e=>by cases e;omega);obtain ⟨f0,f1⟩:=kF;simp only [Qj] at f0 f1 hoF hbF;clear hgF;go_wp2;exact bodyPost_ret (v:=.agg #[.int .i64 cols,.slice ua un uc]) (by simp [results,Tryz.results138,go_sem,f0,f1]) rfl ⟨_,rfl,hoF.low (by omega),hbF⟩
def KB (cols n:Int):Prop:=(1<=cols/\cols<=60)/\(1<=n/\n<=30)
instance (cols n:Int):Decidable (KB cols n):=by unfold KB;exact inferInstance
def Zx (rows:List (List Ce)) (left:Nat):Nat->Option Nat
 | 0=>if left<rows.length then none else some (left-rows.length)
 | j+1=>match Zx rows left j with
  | none=>none
  | some m=>if m<(Xb rows j).length then none else some (m-(Xb rows j).length)
def szG (rows:List (List Ce)) (left:Nat):Int:=match Zx rows left rows.length with|none=>-1|some m=>m
theorem Uk {rows:List (List Ce)} {left j:Nat} (h:Zx rows left j=none):∀ k,j<=k->Zx rows left k=none
 | 0,hk=>by
        have:j=0:=by omega
        subst this;exact h
 | k+1,hk=>by
  by_cases e:j=k+1
  ·subst e;exact h
  ·have:=Uk h k (by omega)
   rw [Zx,this]
theorem Uz {rows:List (List Ce)} {left:Nat}:∀ {j m:Nat},Zx rows left j=some m->m<=left/\rows.length<=left/\∀ i,i<j->(Xb rows i).length<=left
 | 0,m,h=>by
  rw [Zx] at h
  split at h
  ·cases h
  ·cases h;exact ⟨by omega,by omega,fun i hi=>absurd hi (Nat.not_lt_zero i)⟩
 | j+1,m,h=>by
  rw [Zx] at h
  split at h
  ·cases h
  ·rename_i q hq
   split at h
   ·cases h
   ·cases h
    obtain ⟨h1,h2,h3⟩:=Uz hq;refine ⟨by omega,h2,fun i hi=>?_⟩
    by_cases e:i=j
    ·subst e;omega
    ·exact h3 i (by omega)
theorem XfA (v:Value) (rows:List (List Ce)) (left:Nat) (w:World) (hv:SlG w v rows) (hl:rows.length<=maxLen) (hx:∀ i,i<rows.length->(Xb rows i).length<=maxLen) (hf:left<=4611686018427387904) :
  Calls Tryz.prog 161 #[v,.int .i64 left] w fun e w'=>e=.returned (.int .i64 (szG rows left))/\w'=w:=by
 unfold maxLen at hl;obtain ⟨a,c,vs,rfl,hcp,_,hr,hs⟩:=id hv
 by_cases h:left<rows.length
 ·have h2:(left:Int)-(rows.length:Int)<0:=by omega
  have hz:Hid (szG rows left=-1):=by show _=_;unfold szG;rw [Uk (j:=0) (by rw [Zx,if_pos h]) _ (Nat.zero_le _)]
  clear hs hr;go_enter Tryz.func161,Tryz.ntmps161;go_wp2;go_ret;exact ⟨by rw [hz.out];rfl,rfl⟩
 ·have h2:¬ (left:Int)-(rows.length:Int)<0:=by omega
  have h3:Hid (Zx rows left 0=some (left-rows.length)):=by show _=_;rw [Zx,if_neg h]
  have h4:Hid ((left:Int)-(rows.length:Int)=((left-rows.length:Nat):Int)):=by show _=_;omega
  go_enter Tryz.func161,Tryz.ntmps161;go_wp2;go_loopw [1,5] (fun u i wr=>∃ j m:Nat,i=.int .i64 j/\u=.int .i64 m/\j<=rows.length/\Hid (Zx rows left j=some m)/\wr=w) (fun _ i _=>rows.length-(intOf i).toNat)
  case atStart=>exact ⟨0,left-rows.length,rfl,by rw [<- h4.out],Nat.zero_le _,h3,rfl⟩
  case round =>
   clear h3 h4 h2 h;obtain ⟨j,m,rfl,rfl,hj,hm,hw⟩:=hrel;subst hw
   by_cases hlt:j<rows.length
   ·have hji:(j:Int)<(rows.length:Int):=by omega
    have hj0:(0:Int)<=(j:Int):=by omega
    rcases hr with h|⟨b,off,rfl,hbb,hrc⟩
    ·rw [h] at hlt;simp at hlt
    have hsj:=hs j hlt;have hcj:=hrc j hlt;obtain ⟨aj,cj,ev,_⟩:=id hsj;rw [ev] at hcj hsj
    have hsz:=Xhu _ _ m wr hsj (hx j hlt) (by have:=(Uz hm.out).1;omega);clear hs hrc ev hsj hv
    by_cases h5:m<(Xb rows j).length
    ·have hz:Hid (szG rows left=-1):=by show _=_;unfold szG;rw [Uk (j:=j+1) (by rw [Zx,hm.out];simp [h5]) _ hlt]
     rw [if_pos h5] at hsz
     go_wp2_with fail;refine hsz.mono ?_;rintro e w2 ⟨rfl,hw2⟩;subst hw2;go_wp2;go_ret;exact ⟨by rw [hz.out];rfl,rfl⟩
    ·have hm2:Hid (Zx rows left (j+1)=some (m-(Xb rows j).length)):=by show _=_;rw [Zx,hm.out];simp [h5]
     have h6:¬ (((m-(Xb rows j).length:Nat):Int)<0):=by omega
     rw [if_neg h5] at hsz
     generalize m-(Xb rows j).length=m2 at *;go_wp2_with fail;refine hsz.mono ?_;rintro e w2 ⟨rfl,hw2⟩;subst hw2;go_wp2;go_roundw
     case rel=>exact ⟨j+1,m2,by go_num,rfl,by omega,hm2,trivial⟩
     case measure=>simp [intOf];omega
   ·have hjn:j=rows.length:=by omega
    have hji:¬ (j:Int)<(rows.length:Int):=by omega
    subst hjn;have hz:Hid (szG rows left=(m:Int)):=by show _=_;unfold szG;rw [hm.out]
    clear hs hr hv;go_wp2;go_ret;exact ⟨by rw [hz.out];rfl,rfl⟩
theorem Xam (cols:Int) (v:Value) (rows:List (List Ce)) (left:Nat) (w:World) (hv:SlG w v rows) (hl:rows.length<=maxLen) (hx:∀ i,i<rows.length->(Xb rows i).length<=maxLen) (hf:left<=4611686018427387904) :
  Calls Tryz.prog 87 #[Yp cols v,.int .i64 left] w fun e w'=>e=.returned (.int .i64 (szG rows left))/\Below w.heap.size w w':=by
 have hb0:=Xd w (Obj.cells #[.int .i64 cols,v] 60);have hG0:=GrN.new w cols v 60;have hsz:=fun W h=>XfA v rows left W h hl hx hf
 have hv1:=hv.below hb0;obtain ⟨a,c,vs,rfl,_⟩:=id hv;unfold Yp;obtain ⟨_,g0,g1⟩:=id hG0;go_enter Tryz.func87,Tryz.ntmps87;go_wp2_with fail;refine (hsz _ hv1).mono ?_;rintro e w2 ⟨rfl,hw⟩;subst hw
 by_cases h:szG rows left<0
 ·have hz:Hid (szG rows left=-1):=by
   show _=_
   unfold szG at *;split at h
   ·rfl
   ·omega
  go_wp2;go_ret;exact ⟨by rw [hz.out];rfl,hb0⟩
 ·go_wp2
  go_ret;exact ⟨rfl,hb0⟩
def mkC (q:Nat):Ce:=⟨(q:Int),⟨(q:Int)+1,(q:Int)+1+1,((q:Int)+1+1+1).tmod 3==0,((q:Int)+1+1+1+1).tmod 3==0,((q:Int)+1+1+1+1+1).tmod 3==0⟩,(q:Int)+1+1+1+1+1+1⟩
def ZM (k n:Nat):List Ce:=(List.range n).map fun i=>mkC (k+7*i)
theorem KA (k n:Nat):(ZM k n).length=n:=by simp [ZM]
theorem XaT (k n i:Nat) (h:i<n):atC (ZM k n) i=mkC (k+7*i):=by
 rw [Jg (by rw [KA];exact h)]
 simp [ZM]
theorem Xcg (v:Value) (k n:Nat) (w:World) (hv:SlC w v (ZM k n)) (hk:k<=1073741824) (hl:n<=1073741824) :
  Calls Tryz.prog 227 #[v,.int .i64 k] w fun e w'=>e=.returned (.int .i64 ((k+7*n:Nat):Int))/\w'=w:=by
 obtain ⟨a,c,rfl,hc0⟩:=id hv;rw [KA] at hv ⊢
 clear hc0;go_enter Tryz.func227,Tryz.ntmps227;go_wp2;go_loop [1,5] (fun q i=>∃ j:Nat,j<=n/\i=.int .i64 j/\q=.int .i64 ((k+7*j:Nat):Int)) (fun _ i=>n-(intOf i).toNat)
 case atStart=>exact ⟨0,Nat.zero_le _,rfl,by simp⟩
 case round =>
  obtain ⟨j,hj,rfl,rfl⟩:=hrel
  by_cases hlt:j<n
  ·have hji:(j:Int)<(n:Int):=by omega
   have hj0:(0:Int)<=(j:Int):=by omega
   obtain ⟨b,off,rfl,hbb,hat⟩:=hv.at j (by rw [KA];exact hlt);rw [XaT k n j hlt] at hat
   have hq:k+7*j<=8*1073741824:=by omega
   have hq7:Hid (((k+7*(j+1):Nat):Int)=((k+7*j:Nat):Int)+1+1+1+1+1+1+1):=by show _=_;omega
   generalize k+7*j=q at *;obtain ⟨c0,c1,c2,c3,c4,c5,c6⟩:=hat;simp only [mkC] at c0 c1 c2 c3 c4 c5 c6;clear hv;go_wp2;go_round
   case rel=>exact ⟨j+1,by omega,by go_num,by rw [hq7.out]⟩
   case measure=>simp [intOf];omega
  ·have hjn:j=n:=by omega
   subst hjn;go_wp2;go_ret;exact ⟨rfl,rfl⟩
theorem Xe9 (base:Nat) (v:Value) (k:Nat) (xs:List Ce) (w:World) (hown:Xl w base v xs) (hk:k<=1073741824) (hl:xs.length<=1073741824) :
  Calls Tryz.prog 226 #[v,.int .i64 k] w fun e w'=>e=.returned (.int .i64 ((k+7*xs.length:Nat):Int))/\Xl w' base v (ZM k xs.length)/\w.grownBy w' v.ownBlock:=by
 rcases hown.shape with ⟨rfl,rfl⟩|⟨g,cap,rfl,hbg,hlg,hcap⟩
 ·go_enter Tryz.func226,Tryz.ntmps226
  go_wp2;refine wp_loop_rounds 1 ?_;rw [rounds_succ]
  go_wp2;go_ret;exact ⟨by simp,by simpa [ZM] using hown,World.grownBy.refl _ _⟩
 ·generalize hn:xs.length=n at *
  go_enter Tryz.func226,Tryz.ntmps226;go_wp2;go_loopw [1,5] (fun q i wr=>∃ (j:Nat) (ys:List Ce),j<=n/\i=.int .i64 j/\q=.int .i64 ((k+7*j:Nat):Int)/\ys.length=n/\(∀ t,t<j->atC ys t=mkC (k+7*t))/\Xl wr base (.slice (some ⟨g,0,none⟩) n cap) ys/\w.grownBy wr (some g)) (fun _ i _=>n-(intOf i).toNat)
  case atStart=>exact ⟨0,xs,Nat.zero_le _,rfl,by simp,hn,(fun t h=>absurd h (Nat.not_lt_zero t)),hown,World.grownBy.refl _ _⟩
  case round =>
   obtain ⟨j,ys,hj,rfl,rfl,hyl,hys,ho,hgr⟩:=hrel
   by_cases hlt:j<n
   ·have hji:(j:Int)<(n:Int):=by omega
    have hj0:(0:Int)<=(j:Int):=by omega
    have hq:k+7*j<=8*1073741824:=by omega
    have hq7:Hid (((k+7*(j+1):Nat):Int)=((k+7*j:Nat):Int)+1+1+1+1+1+1+1):=by show _=_;omega
    have hp:=ho.put hyl j hlt (mkC (k+7*j))
    have hys2:∀ t,t<j+1->atC (ys.set j (mkC (k+7*j))) t=mkC (k+7*t):=by
     intro t ht;rw [Kj]
     by_cases e:t=j
     ·subst e;rw [if_pos ⟨rfl,by omega⟩]
     ·rw [if_neg (fun h=>e h.1)];exact hys t (by omega)
    have hyl2:(ys.set j (mkC (k+7*j))).length=n:=by simpa using hyl
    obtain ⟨kk,kg⟩:=hp;have hgr2:=Xf hgr kg;have hat:=ho.at hyl j hlt;have f0:=ho.frozen hyl (j*7);have f1:=ho.frozen hyl (j*7+1);have f2:=ho.frozen hyl (j*7+2);have f3:=ho.frozen hyl (j*7+3);have f4:=ho.frozen hyl (j*7+4);have f5:=ho.frozen hyl (j*7+5);have f6:=ho.frozen hyl (j*7+6);clear hown ho hgr kg hys hyl hbg hlg;generalize ys.set j (mkC (k+7*j))=ys2 at *;generalize k+7*j=q at *;obtain ⟨c0,c1,c2,c3,c4,c5,c6⟩:=hat;simp only [YJ,mkC] at kk hgr2;go_wp2;go_roundw
    case rel=>exact ⟨j+1,ys2,by omega,by go_num,by rw [hq7.out],hyl2,hys2,kk,hgr2⟩
    case measure=>simp [intOf];omega
   ·have hjn:j=n:=by omega
    have hji:¬ (j:Int)<(n:Int):=by omega
    have hye:ys=ZM k n:=YF _ _ (by rw [KA];exact hyl) (fun i hi=>by rw [XaT k n i (by omega)];exact hys i (by omega));subst hjn;clear hys hyl hown;subst hye;go_wp2;go_ret;exact ⟨rfl,ho,hgr⟩
theorem Xgc (n:Nat) (s:St):XI (List.replicate n Ce.zero) 0 (0+n) s=X0 n s:=YF _ _ (by rw [Xq];simp [X0]) fun i hi=>by
 rw [Xq,List.length_replicate] at hi
 rw [ZS _ _ _ _ _ (by simpa using hi),if_pos (by omega),J1 _ _ _ hi]
theorem XaC (n:Int) (s:St) (w:World) :
  Calls Tryz.prog 137 #[.int .i64 n,stV s] w fun e w'=>∃ v,e=.returned v/\Xl w' w.heap.size v (Kx n s)/\Below w.heap.size w w':=by
 have h2:=XT.new w s 28;have hbA:=Xd w (Obj.cells #[.int .i64 s.fore,.int .i64 s.back,.bool s.bold,.bool s.under,.bool s.turned] 28);have hOK:=Yc s;have hno:∀ W:World,Xl W w.heap.size (.slice none 0 0) []:=fun W=>ZX W _
 by_cases h1:1<=n
 ·by_cases h60:n<=60
  ·have h1i:¬ n<1:=by omega
   have h60i:¬ 60<n:=by omega
   obtain ⟨_,⟨c0,c1,c2,c3,c4⟩,_⟩:=id h2
   have hV:Hid (Kx n s=if s.ok=true then X0 n.toNat s else []):=by
    show _=_;unfold Kx
    by_cases h:s.ok=true
    ·rw [if_pos ⟨h1,h60,h⟩,if_pos h]
    ·rw [if_neg (fun x=>h x.2.2),if_neg h]
   unfold stV at *;go_enter Tryz.func137,Tryz.ntmps137;go_wp2_with fail;generalize w.alloc (Obj.cells #[.int .i64 s.fore,.int .i64 s.back,.bool s.bold,.bool s.under,.bool s.turned] 28)=W0 at *;refine (hOK _).mono ?_;rintro e w1 ⟨rfl,hb1⟩;have kb:=hbA.trans (hb1.mono hbA.size);have hs1:=h2.below hb1;clear hbA h2 hb1 c0 c1 c2 c3 c4 hOK
   cases ho:s.ok
   ·have hV2:Hid (Kx n s=[]):=by show _=_;rw [hV.out,if_neg (by rw [ho];decide)]
    clear ho hs1;go_wp2;go_ret;exact ⟨_,rfl,by rw [hV2.out];exact hno _,kb⟩
   ·obtain ⟨m,rfl⟩:∃ m:Nat,n=m:=⟨n.toNat,by omega⟩
    have hV2:Hid (Kx m s=X0 m s):=by show _=_;rw [hV.out,if_pos ho];simp
    have hm2:m<=1073741824:=by omega
    have hbo:=fun W h=>Kk w1.heap.size w1.heap.size m m 0 m m 0 (List.replicate m Ce.zero) s W h (by simp) (by omega) (by omega) (by omega) rfl
    have hs0:=hs1.1;unfold stV at hbo;clear ho h1 h60 hV;go_wp2_with (refine Qy rfl _ _ rfl m rfl rfl hm2 ?_;intro w2 ho2 hb2;have hs2:=hs1.below hb2;have hss:=hs2;obtain ⟨_,⟨c0,c1,c2,c3,c4⟩,_⟩:=hss);refine (hbo _ ho2).mono ?_;rintro e w3 ⟨rfl,ho3,hg3⟩;rw [Xgc] at ho3
    have kb2:=kb.trans (hb2.mono kb.size);go_wp2;go_ret;exact ⟨_,rfl,by rw [hV2.out];exact ho3.low kb.size,kb2.grown hg3 kb2.size (fun k hk=>by cases hk;exact kb.size)⟩
  ·have h60i:60<n:=by omega
   have h1i:¬ n<1:=by omega
   have hV:Hid (Kx n s=[]):=by show _=_;unfold Kx;rw [if_neg (by omega)]
   clear hOK;unfold stV;go_enter Tryz.func137,Tryz.ntmps137;go_wp2;go_ret;exact ⟨_,rfl,by rw [hV.out];exact hno _,hbA⟩
 ·have h1i:n<1:=by omega
  have hV:Hid (Kx n s=[]):=by show _=_;unfold Kx;rw [if_neg (by omega)]
  clear hOK;unfold stV;go_enter Tryz.func137,Tryz.ntmps137;go_wp2;go_ret;exact ⟨_,rfl,by rw [hV.out];exact hno _,hbA⟩
def X6 (xs:List Ce) (p:Nat) (r:Int) (s:St):List Ce :=
 if wdV r=2 then ((XU xs p (p+(wdV r).toNat) s).set p ⟨r,s,wdV r-1⟩).set (p+1) ⟨0,s,2⟩ else (XU xs p (p+(wdV r).toNat) s).set p ⟨r,s,wdV r-1⟩
theorem Xao (xs:List Ce) (p:Nat) (r:Int) (s:St):(X6 xs p r s).length=xs.length:=by
 unfold X6;split<;>simp [X9]
theorem XaD (v:Value) (xs:List Ce) (p:Nat) (r:Int) (s:St) (w:World) (hv:SlC w v xs) (hw1:1<=wdV r) (hp:(p:Int)+wdV r<=xs.length) (hl:xs.length<=1000) :
  Calls Tryz.prog 208 #[v,.int .i64 p,.int .i64 r,stV s] w fun e w'=>∃ u,e=.returned u/\Xl w' w.heap.size u (X6 xs p r s)/\Below w.heap.size w w':=by
 have h2:=XT.new w s 28;have hbA:=Xd w (Obj.cells #[.int .i64 s.fore,.int .i64 s.back,.bool s.bold,.bool s.under,.bool s.turned] 28);have hsz:(w.alloc (Obj.cells #[.int .i64 s.fore,.int .i64 s.back,.bool s.bold,.bool s.under,.bool s.turned] 28)).heap.size=w.heap.size+1:=by simp
 have hwd:=fun W=>sWa r W
 have hbd:=XG r;have hv1:=hv.below hbA;have hcl:=J9 v xs p (p+(wdV r).toNat) s _ hv1 (by omega) (by omega) hl;have hwl:Hid (X6 xs p r s=if wdV r=2 then ((XU xs p (p+(wdV r).toNat) s).set p ⟨r,s,wdV r-1⟩).set (p+1) ⟨0,s,2⟩ else (XU xs p (p+(wdV r).toNat) s).set p ⟨r,s,wdV r-1⟩):=rfl;have hcLen:=X9 xs p (p+(wdV r).toNat) s;have eW:((p+(wdV r).toNat:Nat):Int)=(p:Int)+wdV r:=by omega
 rw [eW] at hcl
 generalize XU xs p (p+(wdV r).toNat) s=L at *;generalize wdV r=W at *;clear eW hv1;obtain ⟨a,c,rfl,hcp,_⟩:=hv;obtain ⟨_,⟨c0,c1,c2,c3,c4⟩,_⟩:=id h2;unfold stV at *;go_enter Tryz.func208,Tryz.ntmps208;go_wp2_with (go_at_call 172;refine (hwd _).mono ?_;rintro e w4 ⟨rfl,hw⟩;subst hw);refine hcl.mono ?_;rintro e w5 ⟨u,rfl,ho5,hb5⟩;have ko:OC (w.heap.size+1) u L w w5:=⟨ho5.low (by rw [hsz];exact Nat.le_refl _),hbA.trans (hb5.mono hbA.size),by have:=hb5.size;rw [hsz] at this;exact this,by omega⟩;have hs:=h2.below hb5;clear hcl ho5 hb5 h2 hbA c0 c1 c2 c3 c4 hwd hsz;have hpx:p<xs.length:=by omega
 rcases ko.1.shape with ⟨_,hx⟩|⟨g,cap,rfl,hbg,hlg,hcap⟩
 ·rw [hx] at hcLen;simp at hcLen;omega
 ·rw [hcLen] at ko hcap ⊢
  have hp1:=ko.1.put hcLen p hpx ⟨r,s,W-1⟩;have k2:OC (w.heap.size+1) (.slice (some ⟨g,0,none⟩) xs.length cap) (L.set p ⟨r,s,W-1⟩) w (YJ w5 g (p*7) ⟨r,s,W-1⟩):=ko.own hp1.1 hp1.2;have hs2:=hs.own ko.1 (Nat.lt_succ_self _) hp1.2;have hat:=ko.1.at hcLen p hpx;have f0:=ko.1.frozen hcLen (p*7);have f1:=ko.1.frozen hcLen (p*7+1);have f2:=ko.1.frozen hcLen (p*7+2);have f3:=ko.1.frozen hcLen (p*7+3);have f4:=ko.1.frozen hcLen (p*7+4);have f5:=ko.1.frozen hcLen (p*7+5);have f6:=ko.1.frozen hcLen (p*7+6);have hlen2:(L.set p ⟨r,s,W-1⟩).length=xs.length:=by rw [List.length_set];exact hcLen
  obtain ⟨_,⟨c0,c1,c2,c3,c4⟩,_⟩:=id hs;obtain ⟨d0,d1,d2,d3,d4,d5,d6⟩:=hat;have hpi:(p:Int)<(xs.length:Int):=by omega
  have hp0:(0:Int)<=(p:Int):=by omega
  by_cases hW:W=2
  ·have hWb:(W==2)=true:=by simp [hW]
   have hp1x:p+1<xs.length:=by omega
   have hp1i:(p:Int)+1<(xs.length:Int):=by omega
   have hq1:=k2.1.put hlen2 (p+1) hp1x ⟨0,s,2⟩;have k3:OC (w.heap.size+1) (.slice (some ⟨g,0,none⟩) xs.length cap) ((L.set p ⟨r,s,W-1⟩).set (p+1) ⟨0,s,2⟩) w (YJ (YJ w5 g (p*7) ⟨r,s,W-1⟩) g ((p+1)*7) ⟨0,s,2⟩):=k2.own hq1.1 hq1.2;have hat2:=k2.1.at hlen2 (p+1) hp1x;have g0:=k2.1.frozen hlen2 ((p+1)*7);have g1:=k2.1.frozen hlen2 ((p+1)*7+1);have g2:=k2.1.frozen hlen2 ((p+1)*7+2);have g3:=k2.1.frozen hlen2 ((p+1)*7+3);have g4:=k2.1.frozen hlen2 ((p+1)*7+4);have g5:=k2.1.frozen hlen2 ((p+1)*7+5);have g6:=k2.1.frozen hlen2 ((p+1)*7+6);obtain ⟨_,⟨b0,b1,b2,b3,b4⟩,_⟩:=id hs2;obtain ⟨e0,e1,e2,e3,e4,e5,e6⟩:=hat2;have hwl':Hid (X6 xs p r s=(L.set p ⟨r,s,W-1⟩).set (p+1) ⟨0,s,2⟩):=by show _=_;rw [hwl.out,if_pos hW]
   clear hp1 hq1 k2 hs hs2 ko hwl hW;generalize hY:YJ w5 g (p*7) ⟨r,s,W-1⟩=Y at *;simp only [YJ] at hY;generalize hZ:YJ Y g ((p+1)*7) ⟨0,s,2⟩=Z at *;simp only [YJ] at hZ;go_wp2;go_ret;exact ⟨_,rfl,by rw [hwl'.out];exact k3.1.low (by omega),k3.2.1⟩
  ·have hWb:(W==2)=false:=by simp [hW]
   have hwl':Hid (X6 xs p r s=L.set p ⟨r,s,W-1⟩):=by show _=_;rw [hwl.out,if_neg hW]
   clear hp1 hs hs2 ko hwl hW;generalize hY:YJ w5 g (p*7) ⟨r,s,W-1⟩=Y at *;simp only [YJ] at hY;go_wp2;go_ret;exact ⟨_,rfl,by rw [hwl'.out];exact k2.1.low (by omega),k2.2.1⟩
def X5 (xs:List Ce) (at_ r:Int) (s:St):List Ce:=if Xu xs=true/\wdV r≠0/\(0<=at_/\at_<=xs.length-wdV r)/\s.ok=true then X6 xs at_.toNat r s else []
theorem JX (g n cap f t:Nat) (w:World) (hft:f<t) (ht:t<=n) (hc:n<=cap) :
  Calls Tryz.prog 219 #[.slice (some ⟨g,0,none⟩) n cap,.int .i64 f,.int .i64 t] w fun e w'=>e=.returned (.slice (some ⟨g,f*7,none⟩) (t-f) (t-f))/\w'=w:=by
 have h1:(f:Int)<=(t:Int):=by omega
 have h0:(0:Int)<=(f:Int):=by omega
 have h2:(t:Int)<=(cap:Int):=by omega
 have h3:¬ (t-f=0):=by omega
 go_enter Tryz.func219,Tryz.ntmps219;go_wp2;go_ret;exact ⟨rfl,rfl⟩
theorem Xb5 (g n cap f:Nat) (w:World) (ht:f<=n) (hc:n<=cap) :
  Calls Tryz.prog 219 #[.slice (some ⟨g,0,none⟩) n cap,.int .i64 f,.int .i64 f] w fun e w'=>e=.returned (.slice (some ⟨g,0,none⟩) 0 0)/\w'=w:=by
 have h1:(f:Int)<=(f:Int):=by omega
 have h0:(0:Int)<=(f:Int):=by omega
 have h2:(f:Int)<=(cap:Int):=by omega
 go_enter Tryz.func219,Tryz.ntmps219;go_wp2;go_ret;exact ⟨rfl,rfl⟩
theorem Ue (v:Value) (xs:List Ce) (w:World) (hv:SlC w v xs) (hl:xs.length<=1000) :
  Calls Tryz.prog 250 #[v] w fun e w'=>∃ g,e=.returned (.slice (some ⟨g,0,none⟩) xs.length xs.length)/\Xl w' w.heap.size (.slice (some ⟨g,0,none⟩) xs.length xs.length) xs/\Below w.heap.size w w':=by
 obtain ⟨a,c,rfl,hcp,hnc,hr⟩:=id hv;have hl2:xs.length<=1073741824:=by omega
 have hwin:Hid (YH (List.replicate xs.length Ce.zero) 0 xs=xs):=by show _=_;simp [YH]
 have hmin:Hid (xs.length=Nat.min xs.length xs.length):=(Nat.min_self _).symm;have hre:Hid ((List.replicate xs.length Ce.zero).length=xs.length):=by show _=_;simp
 have hsrc:=fun W h (h0:0<xs.length)=>(show SlC W (.slice a xs.length c) xs from h).src h0
 clear hr;go_enter Tryz.func250,Tryz.ntmps250
 go_wp2_with (first
  | (refine Qy rfl _ _ rfl xs.length rfl rfl hl2 ?_;intro w1 ho1 hb1;have hv1:=hv.below hb1)
  | (refine Xd7 rfl _ _ rfl w.heap.size w.heap.size xs.length xs.length 0 (List.replicate xs.length Ce.zero) xs ho1 hre.out (some ⟨w.heap.size,0,none⟩) a xs.length xs.length xs.length c rfl rfl hmin.out (Nat.le_of_eq (Nat.zero_add _)) (fun h0=>⟨rfl,hsrc w1 hv1 h0⟩) ?_;intro w2 ho2 hg2;rw [hwin.out] at ho2))
 have hb2:=hb1.grown hg2 hb1.size (fun k hk=>by cases hk;exact Nat.le_refl _);go_ret;exact ⟨_,rfl,ho2,hb2⟩
theorem Qt (s:St) (a:Option Addr) (c:Nat) (xs:List Int) (w:World) (hl:xs.length<=1048576) (hn:¬ (s.ok=true/\xs.length<=16/\xs≠[])) :
  Calls Tryz.prog 241 #[stV s,.slice a xs.length c] w fun e w'=>e=.returned (stV St.zero)/\Below w.heap.size w w':=by
 have h2:=XT.new w s 28;have h4:=XT.new (w.alloc (Obj.cells #[.int .i64 s.fore,.int .i64 s.back,.bool s.bold,.bool s.under,.bool s.turned] 28)) St.zero 28;have e4:(w.alloc (Obj.cells #[.int .i64 s.fore,.int .i64 s.back,.bool s.bold,.bool s.under,.bool s.turned] 28)).heap.size=w.heap.size+1:=by simp
 rw [e4] at h4
 have hbA:Below w.heap.size w ((w.alloc (Obj.cells #[.int .i64 s.fore,.int .i64 s.back,.bool s.bold,.bool s.under,.bool s.turned] 28)).alloc (Obj.cells #[.int .i64 0,.int .i64 0,.bool false,.bool false,.bool false] 28)):=((Below.refl _ _).alloc (Nat.le_refl _) _).alloc (by simp) _;have hOK:=Yc s
 have H3:s.ok=false\/(s.ok=true/\(((xs.length:Int)==0)=true))\/(s.ok=true/\(((xs.length:Int)==0)=false)/\16<(xs.length:Int)):=by
  cases h:s.ok
  ·exact .inl rfl
  ·by_cases hx:xs=[]
   ·exact .inr (.inl ⟨rfl,by simp [hx]⟩)
   ·refine .inr (.inr ⟨rfl,by simp;exact hx,?_⟩)
    have:¬ xs.length<=16:=fun e=>hn ⟨h,e,hx⟩
    omega
 clear hn;unfold stV at *;go_enter Tryz.func241,Tryz.ntmps241;go_wp2_with fail;refine (hOK _).mono ?_;rintro e w2 ⟨rfl,hb2⟩;have k4:=h4.below hb2;have kb:=hbA.trans (hb2.mono hbA.size);clear h2 h4 e4 hbA hb2 hOK;have kP:=k4.put St.zero;have kbP:=UA kb (Zz w2 (w.heap.size+1) St.zero) (by omega);obtain ⟨_,⟨d0,d1,d2,d3,d4⟩,⟨x0,x1,x2,x3,x4⟩⟩:=k4;obtain ⟨_,⟨e0,e1,e2,e3,e4⟩,_⟩:=kP;simp only [UG,St.zero] at kbP e0 e1 e2 e3 e4 d0 d1 d2 d3 d4;rcases H3 with h|⟨h,hz⟩|⟨h,hz,hi⟩
 all_goals
  rw [h]
  clear h;go_wp2;exact bodyPost_ret (v:=.agg #[.int .i64 0,.int .i64 0,.bool false,.bool false,.bool false]) (by simp [results,Tryz.results241,go_sem,e0,e1,e2,e3,e4]) rfl ⟨rfl,kbP⟩
theorem QQ (s:St) (v:Value) (xs:List Int) (w:World) (hv:SlI w v xs) (hwf:∀ x∈xs,-9223372036854775808<=x/\x<=9223372036854775807) (hl:xs.length<=1048576) :
  Calls Tryz.prog 241 #[stV s,v] w fun e w'=>e=.returned (stV (Jn s xs))/\Below w.heap.size w w':=by
 by_cases hc:s.ok=true/\xs.length<=16/\xs≠[]
 ·obtain ⟨h1,h2,h3⟩:=hc
  have hs:Jn s xs=X8 s xs:=by unfold Jn;rw [if_pos ⟨h1,h2⟩,if_neg h3]
  obtain ⟨_,c,rfl,e|⟨bb,off,rfl,hbb,hcl⟩⟩:=hv
  ·exact absurd e h3
  ·rw [hs]
   exact Qs s bb off c xs w hbb hcl (fun j hj=>by
    have e:xs.getD j 0=xs[j]:=by simp [List.getD,hj]
    rw [e];exact Xic _ (hwf _ (List.getElem_mem hj))) (List.length_pos_iff.2 h3) h2 h1
 ·have hs:Jn s xs=St.zero:=by
   unfold Jn
   by_cases hx:xs=[]
   ·subst hx;by_cases h1:s.ok=true<;>simp [h1]
   ·rw [if_neg (fun h=>hc ⟨h.1,h.2,hx⟩)]
  obtain ⟨a,c,rfl,_⟩:=hv;rw [hs]
  exact Qt s a c xs w hl hc
theorem Xc5 (va vb:Value) (rows:List (List Ce)) (w:World) (ha:SlG w va rows) (hb:SlG w vb rows) (hl:rows.length<=1073741824) (hx:∀ i,i<rows.length->(Xb rows i).length<=1073741824) :
  Calls Tryz.prog 163 #[va,vb] w fun e w'=>e=.returned (.bool true)/\Below w.heap.size w w':=by
 obtain ⟨a,c,vs,rfl,_,_,hr,hs⟩:=id ha;obtain ⟨a2,c2,vs2,rfl,_,_,hr2,hs2⟩:=id hb;clear ha hb;go_enter Tryz.func163,Tryz.ntmps163;go_wp2;go_loopw [5] (fun i wr=>∃ j:Nat,i=.int .i64 j/\j<=rows.length/\Below w.heap.size w wr) (fun i _=>rows.length-(intOf i).toNat)
 case atStart=>exact ⟨0,rfl,Nat.zero_le _,Below.refl _ _⟩
 case round =>
  obtain ⟨j,rfl,hj,kb⟩:=hrel
  by_cases hlt:j<rows.length
  ·have hji:(j:Int)<(rows.length:Int):=by omega
   have hj0:(0:Int)<=(j:Int):=by omega
   rcases hr with h|⟨b,off,rfl,hbb,hrc⟩
   ·rw [h] at hlt;simp at hlt
   rcases hr2 with h|⟨b2,off2,rfl,hbb2,hrc2⟩
   ·rw [h] at hlt;simp at hlt
   have hsj:=(hs j hlt).below kb;have hsj2:=(hs2 j hlt).below kb;have hcj:=(kb.cell (p:=⟨b,off+j,none⟩) hbb).trans (hrc j hlt);have hcj2:=(kb.cell (p:=⟨b2,off2+j,none⟩) hbb2).trans (hrc2 j hlt);obtain ⟨aj,cj,ev,_⟩:=id hsj;obtain ⟨aj2,cj2,ev2,_⟩:=id hsj2;rw [ev] at hcj hsj
   rw [ev2] at hcj2 hsj2
   have heq:=fun W (hW:Below wr.heap.size wr W)=>Xga _ _ _ W (hsj.below hW) (hsj2.below hW) (hx j hlt)
   clear hs hs2 hrc hrc2 ev ev2 hsj hsj2;go_wp2;go_region_with (go_at_call 225;refine (heq _ (bdr _)).mono ?_;rintro e w2 ⟨rfl,hb2⟩)
   all_goals
    have kb2:=(kb.trans ((bdr wr).mono kb.size)).trans (hb2.mono kb.size);clear kb hb2 heq;go_wp2;go_roundw
    case rel=>exact ⟨j+1,by go_num,by omega,by first|exact kb2|exact kb2.drew⟩
    case measure=>simp [intOf];omega
  ·have hjn:j=rows.length:=by omega
   have hji:¬ (j:Int)<(rows.length:Int):=by omega
   subst hjn;clear hs hs2 hr hr2;go_wp2;go_ret;exact ⟨rfl,kb⟩
theorem Qe (cols:Int) (va vb:Value) (rows:List (List Ce)) (w:World) (ha:SlG w va rows) (hb:SlG w vb rows) (hl:rows.length<=1073741824) (hx:∀ i,i<rows.length->(Xb rows i).length<=1073741824) :
  Calls Tryz.prog 96 #[Yp cols va,Yp cols vb] w fun e w'=>e=.returned (.bool true)/\Below w.heap.size w w':=by
 have hb0:=Xd w (Obj.cells #[.int .i64 cols,va] 26);have hb1:=Xd (w.alloc (Obj.cells #[.int .i64 cols,va] 26)) (Obj.cells #[.int .i64 cols,vb] 26);have hG0:=(GrN.new w cols va 26).below hb1;have hG1:=GrN.new (w.alloc (Obj.cells #[.int .i64 cols,va] 26)) cols vb 26;have e0:(w.alloc (Obj.cells #[.int .i64 cols,va] 26)).heap.size=w.heap.size+1:=by simp
 rw [e0] at hG1
 have heq:=fun W h1 h2=>Xc5 va vb rows W h1 h2 hl hx
 have hbb:=hb0.trans (hb1.mono hb0.size);have ha1:=ha.below hbb;have hb2:=hb.below hbb;obtain ⟨a,c,vs,rfl,_⟩:=id ha;obtain ⟨a2,c2,vs2,rfl,_⟩:=id hb;unfold Yp;obtain ⟨_,g0,g1⟩:=id hG0;obtain ⟨_,f0,f1⟩:=id hG1;go_enter Tryz.func96,Tryz.ntmps96;go_wp2_with fail;refine (heq _ ha1 hb2).mono ?_;rintro e w2 ⟨rfl,hw⟩;go_wp2;go_ret;exact ⟨rfl,hbb.trans (hw.mono hbb.size)⟩
