import Derived.Test.YtfpopnkhmjkdlaaGreatDoorP11
set_option maxRecDepth 20000
set_option maxHeartbeats 16000000
namespace Go.Proofs.YtfpopnkhmjkdlaaGreatDoor
open Go.ChangeShapes Go.WideShapes Go.ChangeAt Go.RowKit
theorem Xd0 (v:Value) (rows:List (List Ce)) (w:World) (hv:SlG w v rows) (hl:rows.length<=1073741824) (hx:∀ i,i<rows.length->(Xb rows i).length<=1073741824) :
  Calls Tryz.prog 162 #[v] w fun e w'=>∃ u,e=.returned u/\Yu w' w.heap.size w'.heap.size u rows/\Below w.heap.size w w':=by
 obtain ⟨a,c,vs,rfl,hcp,_,hr,hs⟩:=id hv;go_enter Tryz.func162,Tryz.ntmps162;go_wp2_with (refine Xhi rfl _ _ rfl rows.length rfl rfl hl ?_;intro w1 ho1 hb1);go_wp2;go_loopw [4] (fun i wr=>∃ (j:Nat) (R:List (List Ce)),i=.int .i64 j/\j<=rows.length/\R.length=rows.length/\(∀ t,t<j->Xb R t=Xb rows t)/\Yu wr w.heap.size wr.heap.size (.slice (some ⟨w.heap.size,0,none⟩) rows.length rows.length) R/\Below w.heap.size w wr) (fun i _=>rows.length-(intOf i).toNat)
 case atStart=>exact ⟨0,_,rfl,Nat.zero_le _,List.length_replicate,(fun t h=>absurd h (Nat.not_lt_zero t)),ho1,hb1⟩
 case round =>
  clear ho1 hb1;obtain ⟨j,R,rfl,hj,hRl,hR,k,kb⟩:=hrel
  by_cases hlt:j<rows.length
  ·have hji:(j:Int)<(rows.length:Int):=by omega
   have hj0:(0:Int)<=(j:Int):=by omega
   rcases hr with h|⟨b,off,rfl,hbb,hrc⟩
   ·rw [h] at hlt;simp at hlt
   have hsj:=(hs j hlt).below kb;have hcj:=(kb.cell (p:=⟨b,off+j,none⟩) hbb).trans (hrc j hlt);obtain ⟨aj,cj,ev,_⟩:=id hsj;rw [ev] at hcj hsj
   have hto:=XfJ _ _ wr hsj (hx j hlt);clear hs hrc ev hsj hv;go_wp2_with fail;refine hto.mono ?_;rintro e w2 ⟨r,rfl,hor,hb2⟩;have hk2:=(k.below hb2).set hRl j hlt r _ (hor.low kb.size) (fun q e=>(hor.lt q e).1)
   have hw0:∃ cur,w2.cell? ⟨w.heap.size,j,none⟩=some cur:=by
    obtain ⟨vs2,hvl2,hown2,_⟩:=k.below hb2;rw [hRl] at hown2
    exact ⟨_,by rw [World.ownsRow.cellAt hown2 j (by omega),ZP (by omega)]⟩
   have hfz:w2.frozen? ⟨w.heap.size,j,none⟩=false:=by
    obtain ⟨vs2,hvl2,hown2,_⟩:=k.below hb2;rw [hRl] at hown2
    exact World.ownsRow.frozenAt hown2 j
   have kb3:=(kb.trans (hb2.mono kb.size)).grown hk2.2 (by have:=kb.size;have:=hb2.size;omega) (fun g e=>by cases e;exact Nat.le_refl _)
   have hR2:∀ t,t<j+1->Xb (R.set j (Xb rows j)) t=Xb rows t:=fun t ht=>by
    rw [KI (by omega)]
    by_cases e:t=j
    ·rw [if_pos e,e]
    ·rw [if_neg e];exact hR t (by omega)
   have hRl2:(R.set j (Xb rows j)).length=rows.length:=by simpa using hRl
   have kk:=hk2.1;obtain ⟨cur,hcur⟩:=hw0;obtain ⟨ra,rn,rc,rfl⟩:∃ a n c,r=Value.slice a n c:=by rcases hor.shape with ⟨h,_⟩|⟨_,_,h,_⟩<;>exact ⟨_,_,_,h⟩
   clear k kb hor hb2 hto hk2 hR hRl hcj;generalize R.set j (Xb rows j)=R2 at *;go_wp2;go_roundw
   case rel=>exact ⟨j+1,R2,by go_num,by omega,hRl2,hR2,kk,kb3⟩
   case measure=>simp [intOf];omega
  ·have hjn:j=rows.length:=by omega
   have hji:¬ (j:Int)<(rows.length:Int):=by omega
   have hye:R=rows:=by
    apply List.ext_getElem hRl
    intro i h1 h2;rw [<- Zd h1,<- Zd h2]
    exact hR i (by omega)
   subst hye;clear hs hr hR hv;go_wp2;go_ret;exact ⟨_,rfl,k,kb⟩
theorem K4 (base g n cap p:Nat) (L:List Ce) (w:World) (h:Xl w base (.slice (some ⟨g,0,none⟩) n cap) L) (hn:L.length=n) (hR:XK L) (hp:p<=n) (hl:n<=1000) :
  Calls Tryz.prog 155 #[.slice (some ⟨g,0,none⟩) n cap,.int .i64 p] w fun e w'=>e=.returned (.tuple #[])/\Xl w' base (.slice (some ⟨g,0,none⟩) n cap) (Xp L p)/\w.grownBy w' (some g):=by
 have hp0:(0:Int)<=(p:Int):=by omega
 obtain ⟨_,_,_,hnc,_⟩:=h.cur hn;have hG:∀ W,w.grownBy W (some g)->w.heap.size<=W.heap.size:=fun W h=>h.size
 by_cases hpn:p<n
 ·have hpi:(p:Int)<(n:Int):=by omega
  have hat:=h.at hn p hpn;obtain ⟨c0,c1,c2,c3,c4,c5,c6⟩:=hat
  by_cases h2:(atC L p).part=2
  ·have b2:((atC L p).part==2)=true:=by simp [h2]
   obtain ⟨q0,q1,q2,q3⟩:=hR.two h2;have hV:Hid (Xp L p=XI L (p-1) (p-1+2) (atC L p).st):=by show _=_;unfold Xp;rw [if_pos h2,show p-1+2=p+1 by omega]
   have hcut:=fun W=>JX g n cap (p-1) (p+1) W (by omega) (by omega) hnc
   have e1:((p-1:Nat):Int)=(p:Int)-1:=by omega
   have e2:((p+1:Nat):Int)=(p:Int)+1:=by omega
   have e3:p+1-(p-1)=2:=by omega
   rw [e1,e2,e3] at hcut
   have hbo:∀ W,Xl W base (.slice (some ⟨g,0,none⟩) n cap) L->Calls Tryz.prog 206 #[.slice (some ⟨g,(p-1)*7,none⟩) 2 2,stV (atC L p).st] W fun e w'=>e=.returned (.tuple #[])/\(w'.cell? ⟨g,p*7+1,none⟩=some (.int .i64 (atC L p).st.fore)/\w'.cell? ⟨g,p*7+2,none⟩=some (.int .i64 (atC L p).st.back)/\w'.cell? ⟨g,p*7+3,none⟩=some (.bool (atC L p).st.bold)/\w'.cell? ⟨g,p*7+4,none⟩=some (.bool (atC L p).st.under)/\w'.cell? ⟨g,p*7+5,none⟩=some (.bool (atC L p).st.turned))/\Xl w' base (.slice (some ⟨g,0,none⟩) n cap) (XI L (p-1) (p-1+2) (atC L p).st)/\W.grownBy w' (some g):=fun W hW =>
    (Kk base g n cap (p-1) 2 2 ((p-1)*7) L (atC L p).st W hW hn (by omega) (by omega) hl rfl).mono fun e w' ⟨he,ho,hg⟩=>by
     have hz:=ho.at (by rw [Xq];exact hn) p hpn;rw [Zq _ _ _ _ _ (by omega),if_pos (by omega)] at hz
     exact ⟨he,⟨hz.2.1,hz.2.2.1,hz.2.2.2.1,hz.2.2.2.2.1,hz.2.2.2.2.2.1⟩,ho,hg⟩
   have hd:=h.below (bdr w);have hgd:w.grownBy w.drew (some g):=gbl (bdr w) _;have hcd:w.drew.cell? ⟨g,p*7+1,none⟩=some (.int .i64 (atC L p).st.fore)/\w.drew.cell? ⟨g,p*7+2,none⟩=some (.int .i64 (atC L p).st.back)/\w.drew.cell? ⟨g,p*7+3,none⟩=some (.bool (atC L p).st.bold)/\w.drew.cell? ⟨g,p*7+4,none⟩=some (.bool (atC L p).st.under)/\w.drew.cell? ⟨g,p*7+5,none⟩=some (.bool (atC L p).st.turned):=⟨c1,c2,c3,c4,c5⟩;have hw1:IntKind.i64.wrap ((p:Int)-1)=(p:Int)-1:=by simp [IntKind.wrap_i64];omega
   have hw2:IntKind.i64.wrap ((p:Int)+1)=(p:Int)+1:=by simp [IntKind.wrap_i64];omega
   unfold stV at hbo;clear e1 e2 e3 h2 q3 q2 hR;go_enter Tryz.func155,Tryz.ntmps155;go_wp2;clear h c0 c1 c2 c3 c4 c5 c6
   go_region_held3 (fun W=>W.cell? ⟨g,p*7+1,none⟩=some (.int .i64 (atC L p).st.fore)/\W.cell? ⟨g,p*7+2,none⟩=some (.int .i64 (atC L p).st.back)/\W.cell? ⟨g,p*7+3,none⟩=some (.bool (atC L p).st.bold)/\W.cell? ⟨g,p*7+4,none⟩=some (.bool (atC L p).st.under)/\W.cell? ⟨g,p*7+5,none⟩=some (.bool (atC L p).st.turned)) (first|with_reducible assumption)
    (first
     | (go_at_call 219;refine (hcut _).mono ?_;rintro e wk ⟨rfl,hwk⟩;subst hwk)
     | (go_at_call 206;refine (hbo _ hd).mono ?_;rintro e wz ⟨rfl,hcz,ho,hg⟩))
   refine be ?_;exact ⟨rfl,by rw [hV.out];exact ho,Xf hgd hg⟩
  ·have b2:((atC L p).part==2)=false:=by simp [h2]
   have hV:Hid (Xp L p=L):=by show _=_;unfold Xp;rw [if_neg h2]
   clear h2 hR;go_enter Tryz.func155,Tryz.ntmps155;go_wp2;refine be ?_;exact ⟨rfl,by rw [hV.out];exact h,World.grownBy.refl _ _⟩
 ·have hpi:¬ (p:Int)<(n:Int):=by omega
  have hV:Hid (Xp L p=L):=by show _=_;unfold Xp;rw [Z9 (by omega),if_neg (by decide)]
  clear hR;go_enter Tryz.func155,Tryz.ntmps155;go_wp2;refine be ?_;exact ⟨rfl,by rw [hV.out];exact h,World.grownBy.refl _ _⟩
