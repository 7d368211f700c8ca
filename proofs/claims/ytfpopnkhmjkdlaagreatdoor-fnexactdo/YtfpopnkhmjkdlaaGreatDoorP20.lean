import Derived.Test.YtfpopnkhmjkdlaaGreatDoorP18
import Derived.Test.YtfpopnkhmjkdlaaGreatDoorP19
set_option maxRecDepth 20000
set_option maxHeartbeats 16000000
namespace Go.Proofs.YtfpopnkhmjkdlaaGreatDoor
open Go.ChangeShapes Go.WideShapes Go.ChangeAt Go.RowKit
def Jy (vs' vs:List Value):Prop:=∀ i,i<vs'.length->∃ j,j<vs.length/\Xw vs' i=Xw vs j
theorem Jy.rw {vs' vs:List Value} (h:Jy vs' vs) {k:Nat} (c:RwS vs' k):RwS vs k:=by
 obtain ⟨i,hi,e⟩:=c;obtain ⟨j,hj,e'⟩:=h i hi;exact ⟨j,hj,by rw [<- e'];exact e⟩
theorem Jy.gr {v:Value} {vs' vs:List Value} (h:Jy vs' vs) {k:Nat} (c:GrS v vs' k):GrS v vs k:=c.elim .inl (fun c=>.inr (h.rw c))
theorem Xal {vs:List Value} {a m k n:Nat} (hvl:vs.length=n) (ham:a+m<=n) (hk:k<=m):Jy (ZR vs a (Y8 vs a m k)) vs:=by
 have hl:=Kv vs a m k hk;intro i hi;rw [U8 _ _ _ (by omega)] at hi
 refine ⟨ZQ a m k i,by rw [hvl];exact Zj hk ham (by omega),?_⟩;rw [XcX _ _ _ (by omega) _ (by omega),hl]
 by_cases c:a<=i/\i<a+m
 ·rw [if_pos c,UL _ _ _ _ _ hk (by omega),show a+(i-a)=i by omega]
 ·rw [if_neg c]
  unfold ZQ;rw [if_neg c]
theorem XT.grp {S:Nat->Prop} {B:Nat} {w w':World} {s:St} (h:XT w B s) (hg:GrP S w w') (hne:¬ S B):XT w' B s:=by
 obtain ⟨h0,⟨c0,c1,c2,c3,c4⟩,z0,z1,z2,z3,z4⟩:=h;have hb:=hg.2.2.2.2 B h0 hne;refine ⟨Nat.lt_of_lt_of_le h0 hg.size,⟨?_,?_,?_,?_,?_⟩,?_,?_,?_,?_,?_⟩
 all_goals first|rw [World.cell?_of_block (w:=w) hb]|rw [World.frozen?_of_block (w:=w) hb]
 all_goals assumption
theorem Xd2 (base B g n cap a m k c:Nat) (vs:List Value) (rows:List (List Ce)) (w:World) (h:XF w base B (.slice (some ⟨g,0,none⟩) n cap) vs rows) (hn:rows.length=n) (ham:a+m<=n) (hk:k<m) (hc:m<=c) (hl:n<=1000) :
  Calls Tryz.prog 268 #[.slice (some ⟨g,a,none⟩) m c,.int .i64 (k:Int)] w fun e w'=>e=.returned (.tuple #[])/\(∃ vs',Jy vs' vs/\XF w' base B (.slice (some ⟨g,0,none⟩) n cap) vs' (Z8 rows a m k))/\w.grownBy w' (some g):=by
 have hown:=h.2.1;rw [hn] at hown
 have hvl:vs.length=n:=by rw [h.1];exact hn
 have hsub:Hid (Jy (ZR vs a (Y8 vs a m k)) vs):=Xal hvl ham (by omega);have hvs:=h.areSl;have hg:=(World.ownsRow.lt hown g rfl).2
 have hlt:U9 (Y8 vs a m k):=fun i hi=>by
  rw [Kv _ _ _ _ (by omega)] at hi
  rw [UL _ _ _ _ _ (by omega) hi]
  exact hvs _ (by rw [hvl];exact Zj (n:=n) (by omega) ham (by omega))
 have hcat:∀ W,W.cell? ⟨w.heap.size,0,none⟩=some (.slice (some ⟨g,a+k,none⟩) (m-k) (c-k))->W.cell? ⟨w.heap.size,1,none⟩=some (.slice (some ⟨g,a,none⟩) k c)->Below w.heap.size w W ->
   Calls Tryz.prog 270 #[.slice (some ⟨w.heap.size,0,none⟩) 2 2] W fun e w'=>∃ v,e=.returned v/\w'.ownsRow W.heap.size 120 1 v m (Y8 vs a m k)/\Below W.heap.size W w':=fun W c0 c1 hb=>by
  have hoW:=World.ownsRow.below hown hb;have r1:=U7 (c:=c-k) hoW (show (a+k)+(m-k)<=n by omega);have r2:=U7 (c:=c) hoW (show a+k<=n by omega);have hlA:=Y7 (m-k) fun i=>Xw vs (a+k+i)
  have hlB:=Y7 k fun i=>Xw vs (a+i)
  have h3:=Qc w.heap.size 2 (some ⟨g,a+k,none⟩) (some ⟨g,a,none⟩) (c-k) c (US (m-k) fun i=>Xw vs (a+k+i)) (US k fun i=>Xw vs (a+i)) W (by rw [hlA];exact c0) (by rw [hlB];exact c1) (by rw [hlA];exact r1) (by rw [hlB];exact r2) (by omega) (by omega)
   (KZ (Xbh fun i hi=>hvs _ (by omega))) (KZ (Xbh fun i hi=>hvs _ (by omega)))
  rw [hlA,hlB,show m-k+k=m by omega] at h3
  exact h3
 have hfin:=fun (W W':World) (hb:Below w.heap.size w W) (ho:W'.ownsRow base 120 1 (.slice (some ⟨g,0,none⟩) n cap) n (ZR vs a (Y8 vs a m k))) (hgr:W.grownBy W' (some g))=>(h.below hb).turned hn ham (Nat.le_of_lt hk) ho hgr
 have hbA:=fun o=>(Xd w o).trans ((bdr (w.alloc o)).mono (Xd w o).size)
 have hm0:0<m:=by omega
 have hk0:(0:Int)<=(k:Int):=by omega
 have hkm:(k:Int)<=(m:Int):=by omega
 have hkc:(k:Int)<=(c:Int):=by omega
 have hmc:(m:Int)<=(c:Int):=by omega
 have hkc2:¬ (c-k=0):=by omega
 have htl:=Kv vs a m k (by omega);have hone:=KZ hlt;have hmin:Hid ((Y8 vs a m k).length=Nat.min m m):=by show _=_;rw [htl];exact (Nat.min_self _).symm
 have hqn:Hid (a+(Y8 vs a m k).length<=n):=by show _<=_;rw [htl];exact ham
 have hownW:=fun W hb=>World.ownsRow.below hown (w':=W) hb
 clear h hvs hlt htl hvl hown;generalize Y8 vs a m k=us at *;go_enter Tryz.func268,Tryz.ntmps268;go_wp2
 go_region_held3 (fun _=>True) (trivial)
  (first
   | (go_at_call 270;refine (hcat _ (by simp [go_sem];omega) (by simp [go_sem]) (hbA _)).mono ?_;rintro e w2 ⟨v,rfl,ho2,hb2⟩;have hbw2:=(hbA _).trans (hb2.mono (hbA _).size);obtain ⟨gv,cv,rfl⟩:=Xaa ho2 hm0)
   | (refine Jm (by rfl) _ _ (by rfl) base g n cap a vs us (hownW _ hbw2) _ _ _ _ _ _ (by rfl) (by rfl) hmin.out hqn.out (fun _=>⟨rfl,_,rfl,World.ownsRow.cells ho2 rfl⟩) hone ?_;intro w3 ho3 hg3))
 have hF:=hfin _ _ hbw2 ho3 hg3;have hG:=Xf (gbl hbw2 (some g)) hg3;clear hfin ho3 hg3 ho2 hb2 hbw2 hcat hbA hownW hone;go_wp2;refine be ?_;exact ⟨rfl,⟨_,hsub.out,hF⟩,hG⟩
theorem Xd3 (base B g n cap a m c:Nat) (vs:List Value) (rows:List (List Ce)) (w:World) (h:XF w base B (.slice (some ⟨g,0,none⟩) n cap) vs rows) (hn:rows.length=n) (ham:a+m<=n) (hm0:0<m) (hc:m<=c) (hl:n<=1000) :
  Calls Tryz.prog 268 #[.slice (some ⟨g,a,none⟩) m c,.int .i64 (m:Int)] w fun e w'=>e=.returned (.tuple #[])/\(∃ vs',Jy vs' vs/\XF w' base B (.slice (some ⟨g,0,none⟩) n cap) vs' (Z8 rows a m m))/\w.grownBy w' (some g):=by
 have hown:=h.2.1;rw [hn] at hown
 have hvl:vs.length=n:=by rw [h.1];exact hn
 have hsub:Hid (Jy (ZR vs a (Y8 vs a m m)) vs):=Xal hvl ham (by omega);have hvs:=h.areSl;have hg:=(World.ownsRow.lt hown g rfl).2
 have hlt:U9 (Y8 vs a m m):=fun i hi=>by
  rw [Kv _ _ _ _ (by omega)] at hi
  rw [UL _ _ _ _ _ (by omega) hi]
  exact hvs _ (by rw [hvl];exact Zj (n:=n) (by omega) ham (by omega))
 have hcat:∀ W ad q,W.cell? ⟨w.heap.size,0,none⟩=some (.slice (some ad) 0 q)->W.cell? ⟨w.heap.size,1,none⟩=some (.slice (some ⟨g,a,none⟩) m c)->Below w.heap.size w W ->
   Calls Tryz.prog 270 #[.slice (some ⟨w.heap.size,0,none⟩) 2 2] W fun e w'=>∃ v,e=.returned v/\w'.ownsRow W.heap.size 120 1 v m (Y8 vs a m m)/\Below W.heap.size W w':=fun W ad q c0 c1 hb=>by
  have hoW:=World.ownsRow.below hown hb;have r2:=U7 (c:=c) hoW (show a+m<=n by omega);have hlB:=Y7 m fun i=>Xw vs (a+i)
  have h3:=Qc w.heap.size 2 (some ad) (some ⟨g,a,none⟩) q c [] (US m fun i=>Xw vs (a+i)) W c0 (by rw [hlB];exact c1) (.inr ⟨ad,q,rfl,fun j x hx=>by simp at hx⟩) (by rw [hlB];exact r2) (by rw [hlB];simp;omega) (by rw [hlB];simp;omega)
   (fun u hu=>by simp at hu) (KZ (Xbh fun i hi=>hvs _ (by omega)))
  rw [hlB] at h3
  have e:Y8 vs a m m=[]++US m fun i=>Xw vs (a+i):=by unfold Y8;rw [Nat.sub_self];rfl
  rw [e]
  simpa using h3
 have hfin:=fun (W W':World) (hb:Below w.heap.size w W) (ho:W'.ownsRow base 120 1 (.slice (some ⟨g,0,none⟩) n cap) n (ZR vs a (Y8 vs a m m))) (hgr:W.grownBy W' (some g))=>(h.below hb).turned hn ham (Nat.le_refl m) ho hgr
 have hbA:=fun o=>(Xd w o).trans ((bdr (w.alloc o)).mono (Xd w o).size)
 have hmc:(m:Int)<=(c:Int):=by omega
 have hm00:(0:Int)<=(m:Int):=by omega
 have htl:=Kv vs a m m (by omega);have hone:=KZ hlt;have hmin:Hid ((Y8 vs a m m).length=Nat.min m m):=by show _=_;rw [htl];exact (Nat.min_self _).symm
 have hqn:Hid (a+(Y8 vs a m m).length<=n):=by show _<=_;rw [htl];exact ham
 have hownW:=fun W hb=>World.ownsRow.below hown (w':=W) hb
 clear h hvs hlt htl hvl hown;generalize Y8 vs a m m=us at *
 by_cases hce:c=m
 ·subst hce
  go_enter Tryz.func268,Tryz.ntmps268;go_wp2
  go_region_held3 (fun _=>True) (trivial)
   (first
    | (go_at_call 270;refine (hcat _ ⟨g,a,none⟩ 0 (by simp [go_sem]) (by simp [go_sem]) (hbA _)).mono ?_;rintro e w2 ⟨v,rfl,ho2,hb2⟩;have hbw2:=(hbA _).trans (hb2.mono (hbA _).size);obtain ⟨gv,cv,rfl⟩:=Xaa ho2 hm0)
    | (refine Jm (by rfl) _ _ (by rfl) base g n cap a vs us (hownW _ hbw2) _ _ _ _ _ _ (by rfl) (by rfl) hmin.out hqn.out (fun _=>⟨rfl,_,rfl,World.ownsRow.cells ho2 rfl⟩) hone ?_;intro w3 ho3 hg3))
  have hF:=hfin _ _ hbw2 ho3 hg3;have hG:=Xf (gbl hbw2 (some g)) hg3;clear hfin ho3 hg3 ho2 hb2 hbw2 hcat hbA hownW hone;go_wp2;refine be ?_;exact ⟨rfl,⟨_,hsub.out,hF⟩,hG⟩
 ·have hce2:¬ (c-m=0):=by omega
  go_enter Tryz.func268,Tryz.ntmps268;go_wp2
  go_region_held3 (fun _=>True) (trivial)
   (first
    | (go_at_call 270;refine (hcat _ ⟨g,a+m,none⟩ (c-m) (by simp [go_sem]) (by simp [go_sem]) (hbA _)).mono ?_;rintro e w2 ⟨v,rfl,ho2,hb2⟩;have hbw2:=(hbA _).trans (hb2.mono (hbA _).size);obtain ⟨gv,cv,rfl⟩:=Xaa ho2 hm0)
    | (refine Jm (by rfl) _ _ (by rfl) base g n cap a vs us (hownW _ hbw2) _ _ _ _ _ _ (by rfl) (by rfl) hmin.out hqn.out (fun _=>⟨rfl,_,rfl,World.ownsRow.cells ho2 rfl⟩) hone ?_;intro w3 ho3 hg3))
  have hF:=hfin _ _ hbw2 ho3 hg3;have hG:=Xf (gbl hbw2 (some g)) hg3;clear hfin ho3 hg3 ho2 hb2 hbw2 hcat hbA hownW hone;go_wp2;refine be ?_;exact ⟨rfl,⟨_,hsub.out,hF⟩,hG⟩
theorem Jp (base B g n cap a m k c:Nat) (vs:List Value) (rows:List (List Ce)) (w:World) (h:XF w base B (.slice (some ⟨g,0,none⟩) n cap) vs rows) (hn:rows.length=n) (ham:a+m<=n) (hm0:0<m) (hk:k<=m) (hc:m<=c) (hl:n<=1000) :
  Calls Tryz.prog 268 #[.slice (some ⟨g,a,none⟩) m c,.int .i64 (k:Int)] w fun e w'=>e=.returned (.tuple #[])/\(∃ vs',Jy vs' vs/\XF w' base B (.slice (some ⟨g,0,none⟩) n cap) vs' (Z8 rows a m k))/\w.grownBy w' (some g):=by
 by_cases e:k=m
 ·subst e;exact Xd3 base B g n cap a k c vs rows w h hn ham hm0 hc hl
 ·exact Xd2 base B g n cap a m k c vs rows w h hn ham (by omega) hc hl
theorem Z2 (B base g n cap q k c:Nat) (ad:Option Addr) (vs:List Value) (rows:List (List Ce)) (s:St) (w:World) (h:XF w base B (.slice (some ⟨g,0,none⟩) n cap) vs rows) (hn:rows.length=n) (hq:q+k<=n) (had:0<k->ad=some ⟨g,q,none⟩) (hB:B<=w.heap.size) (hx:∀ i,i<n->0<(Xb rows i).length/\(Xb rows i).length<=1000) (hl:n<=1000) :
  Calls Tryz.prog 269 #[.slice ad k c,stV s] w fun e w'=>e=.returned (.tuple #[])/\XF w' base B (.slice (some ⟨g,0,none⟩) n cap) vs (YL rows q k s)/\GrP (RwS vs) w w':=by
 have hS1:=XT.new w s 28;have hb1:=Xd w (Obj.cells #[.int .i64 s.fore,.int .i64 s.back,.bool s.bold,.bool s.under,.bool s.turned] 28);have h1:=h.below hb1;have hg1:=GrP.of_below (S:=RwS vs) hb1;have hvl:vs.length=n:=by rw [h.1];exact hn
 clear hb1 h;unfold stV;go_enter Tryz.func269,Tryz.ntmps269;go_wp2;go_loopw [5,8] (fun _ i wr=>∃ j:Nat,i=.int .i64 j/\j<=k/\XF wr base B (.slice (some ⟨g,0,none⟩) n cap) vs (YL rows q j s)/\XT wr w.heap.size s/\GrP (RwS vs) w wr) (fun _ i _=>k-(intOf i).toNat)
 case atStart=>exact ⟨0,rfl,Nat.zero_le _,by rw [Xas];exact h1,hS1,hg1⟩
 case round =>
  clear h1 hS1 hg1;obtain ⟨j,rfl,hj,ko,hs,hg⟩:=hrel
  by_cases hlt:j<k
  ·have hji:(j:Int)<(k:Int):=by omega
   have hj0:(0:Int)<=(j:Int):=by omega
   obtain rfl:=had (by omega);have hbl:(YL rows q j s).length=n:=by rw [XY];exact hn
   have hcj:=ko.cell hbl (q+j) (by omega);have hrow:=ko.2.2.1 (q+j) (by omega);rw [Ze _ _ _ _ _ (by omega),if_neg (by omega)] at hrow
   have hst:Hid (YL rows q (j+1) s=(YL rows q j s).set (q+j) (X0 (Xb rows (q+j)).length s)):=Xar rows q j s (by omega);obtain ⟨hx1,hx2⟩:=hx (q+j) (by omega);have hfu:Hid (XI (Xb rows (q+j)) 0 (0+(Xb rows (q+j)).length) s=X0 (Xb rows (q+j)).length s):=Xc8 _ _;have hB2:=ko.2.2.2.1 (q+j) (by omega);rcases hrow.shape with ⟨_,h⟩|⟨gr,cr,hv,hgr,hgl,hcr⟩
   ·rw [h] at hx1;simp at hx1
   have hRw:RwS vs gr:=⟨q+j,by omega,by rw [hv];rfl⟩;rw [hv] at hcj hrow hB2
   have hbo:=Kk base gr (Xb rows (q+j)).length cr 0 (Xb rows (q+j)).length cr 0 (Xb rows (q+j)) s wr hrow rfl (by omega) hx1 hx2 rfl;rw [hfu.out] at hbo
   have hset:=fun W' (h1:Xl W' base (Value.slice (some ⟨gr,0,none⟩) (Xb rows (q+j)).length cr) (X0 (Xb rows (q+j)).length s)) (h2:wr.grownBy W' (some gr))=>ko.rowset (w':=W') (j:=q+j) (by omega) (X0 (Xb rows (q+j)).length s) (by rw [hv];exact h1) (by rw [hv];exact h2)
   rw [<- hst.out] at hset
   unfold stV at hbo;obtain ⟨_,⟨d0,d1,d2,d3,d4⟩,_⟩:=id hs;have hgB:=hB2 gr rfl;clear hst hfu hv hrow hB2 hx ko;generalize (Xb rows (q+j)).length=m at *;go_wp2_with fail;refine hbo.mono ?_;rintro e w2 ⟨rfl,ho2,hg2⟩;have kk:=hset w2 ho2 hg2;have ks:=hs.grown hg2 (by simp;omega);have kg:=hg.trans (GrP.of_grown (S:=RwS vs) hg2 (fun g' e=>by cases e;exact hRw));clear hset ho2 hg2 hs hg hbo d0 d1 d2 d3 d4 hcj;go_wp2;go_roundw
   case rel=>exact ⟨j+1,by go_num,by omega,kk,ks,kg⟩
   case measure=>simp [intOf];omega
  ·have hjn:j=k:=by omega
   have hji:¬ (j:Int)<(k:Int):=by omega
   subst hjn;clear hs hx;go_wp2;refine be ?_;exact ⟨rfl,ko,hg⟩
theorem XcI (cols base B g N cap a m c nn:Nat) (vs:List Value) (rows:List (List Ce)) (s:St) (w:World) (h:XF w base B (.slice (some ⟨g,0,none⟩) N cap) vs rows) (hgB:g<B) (hB:B<=w.heap.size) (hn:rows.length=N) (hf:∀ i,i<N->(Xb rows i).length=cols) (hc1:1<=cols) (hc2:cols<=60) (ham:a+m<=N) (hm0:0<m) (hc:m<=c) (hl:N<=30) :
  Calls Tryz.prog 251 #[.slice (some ⟨g,a,none⟩) m c,.int .i64 (nn:Int),stV s] w fun e w'=>e=.returned (.tuple #[])/\(∃ vs',Jy vs' vs/\XF w' base B (.slice (some ⟨g,0,none⟩) N cap) vs' (Zo cols rows a (a+m-1) ((nn:Int)) s))/\GrP (GrS (.slice (some ⟨g,0,none⟩) N cap) vs) w w':=by
 have hb1:=Xd w (Obj.cells #[.int .i64 s.fore,.int .i64 s.back,.bool s.bold,.bool s.under,.bool s.turned] 28);have hS1:=XT.new w s 28;have h1:=h.below hb1;have hgl:=(World.ownsRow.lt h.2.1 g rfl).1;have hg1:=GrP.of_below (S:=GrS (.slice (some ⟨g,0,none⟩) N cap) vs) hb1;unfold stV;obtain ⟨R,hR⟩:∃ R,Hid (Zo cols rows a (a+m-1) ((nn:Int)) s=R):=⟨_,rfl⟩;rw [hR.out]
 have hz1:w.heap.size<(w.alloc (Obj.cells #[.int .i64 s.fore,.int .i64 s.back,.bool s.bold,.bool s.under,.bool s.turned] 28)).heap.size:=by simp
 rcases Nat.lt_or_ge m nn with hnm|hnm
 ·have hnm1:(m:Int)<(nn:Int):=by omega
  have hnm2:¬ (nn:Int)<=(m:Int):=by omega
  have hnmA:min (m:Int) (nn:Int)=(m:Int):=by omega
  have hnmB:min (nn:Int) (m:Int)=(m:Int):=by omega
  have hnm3:(m:Int)<=(nn:Int):=by omega
  have hw:=Xg1 cols rows a (a+m-1) nn m m s (fun i hi=>hf i (by omega)) (by omega) (by omega) (by omega) (by omega);rw [hR.out,Nat.sub_self,Nat.add_zero] at hw
  replace hw:=(show Hid _ from hw);have htu:=Jp base B g N cap a m m c vs rows _ h1 hn ham hm0 (by omega) hc (by omega);have hm0i:(0:Int)<=(m:Int):=by omega
  have hmc:(m:Int)<=(c:Int):=by omega
  clear hR h
  have hbk:=fun ad c' W v6 (hv6:XF W base B (.slice (some ⟨g,0,none⟩) N cap) v6 (Z8 rows a m m)) (hW:B<=W.heap.size) (had:0<m->ad=some ⟨g,a,none⟩)=>Z2 B base g N cap (a) m c' ad v6 (Z8 rows a m m) s W hv6 (by rw [Yv];exact hn) (by omega) had hW (fun i hi=>by
   rw [KK _ _ _ _ _ (by omega),hf _ (Zj (a:=a) (m:=m) (k:=m) (n:=N) (by omega) (by omega) (by omega))]
   omega) (by omega)
  unfold stV at hbk;go_enter Tryz.func251,Tryz.ntmps251;go_wp2_with fail;refine htu.mono ?_;rintro e6 w6 ⟨rfl,⟨vs6,hsub,hu6⟩,hg6⟩;replace hsub:=(show Hid _ from hsub);have hnS:∀ x,w.heap.size<=x->¬ RwS vs6 x:=fun x hx c=>by obtain ⟨i,hi,e⟩:=c;have:=hu6.2.2.2.1 i (by rw [<- hu6.1];exact hi) x e;omega
  have hgb:=GrB.of_grown (lo:=g) (hi:=g+1) hg6 (fun g' e=>by cases e;omega);have hS6:=hS1.gr hgb (.inr (by omega));have hgB6:=hg1.trans (GrP.of_grown (S:=GrS (.slice (some ⟨g,0,none⟩) N cap) vs) hg6 (fun g' e=>by cases e;exact .inl rfl));have hB6:B<=w6.heap.size:=Nat.le_trans hB hgB6.size;clear hgb hg6 htu hb1 hS1 h1 hg1 hz1;have hkd:=(hS6.below (bdr w6)).2.1;have hk0:(0:Int)<=(m:Int):=by omega
  have hkm:(m:Int)<=(m:Int):=by omega
  have hkN:(m:Int)<=(c:Int):=by omega
  clear hf hnm hn hl ham hc hc1 hc2 hnm3;have hw0:IntKind.i64.wrap 0=0:=by simp [IntKind.wrap_i64]
  go_wp2
  go_region_held3 (fun W=>W.cell? ⟨w.heap.size,0,none⟩=some (.int .i64 s.fore)/\W.cell? ⟨w.heap.size,1,none⟩=some (.int .i64 s.back)/\W.cell? ⟨w.heap.size,2,none⟩=some (.bool s.bold)/\W.cell? ⟨w.heap.size,3,none⟩=some (.bool s.under)/\W.cell? ⟨w.heap.size,4,none⟩=some (.bool s.turned)) (with_reducible assumption)
   (first
    | (go_at_call 269;refine (hbk _ _ w6.drew vs6 (hu6.below (bdr _)) hB6 (fun _=>rfl)).mono ?_;rintro e7 w7 ⟨rfl,hu7,hg7⟩;have hkc:=((hS6.below (bdr w6)).grp hg7 (hnS _ (Nat.le_refl _))).2.1))
  have hgb7:=(hgB6.trans (GrP.of_below (S:=GrS (.slice (some ⟨g,0,none⟩) N cap) vs) (bdr w6))).trans (hg7.mono (fun k _ c=>.inr (Jy.rw hsub.out c)));go_wp2;refine be ?_;exact ⟨rfl,⟨vs6,hsub.out,by rw [<- hw.out];exact hu7⟩,hgb7⟩
 ·have hnm1:(nn:Int)<=(m:Int):=by omega
  have hnm2:¬ (m:Int)<(nn:Int):=by omega
  have hnmA:min (m:Int) (nn:Int)=(nn:Int):=by omega
  have hnmB:min (nn:Int) (m:Int)=(nn:Int):=by omega
  obtain ⟨q,hq⟩:∃ q:Nat,q=m-nn:=⟨_,rfl⟩;have hqi:(m:Int)-(nn:Int)=(q:Int):=by omega
  have hqw:IntKind.i64.wrap ((m:Int)-(nn:Int))=(q:Int):=by rw [hqi];simp [IntKind.wrap_i64];omega
  have hqq:=hqw;rw [hqi] at hqq
  have hw:=Xg1 cols rows a (a+m-1) nn m nn s (fun i hi=>hf i (by omega)) (by omega) (by omega) (by omega) (by omega);rw [hR.out,<- hq] at hw
  replace hw:=(show Hid _ from hw);have htu:=Jp base B g N cap a m nn c vs rows _ h1 hn ham hm0 (by omega) hc (by omega);have hm0i:(0:Int)<=(m:Int):=by omega
  have hmc:(m:Int)<=(c:Int):=by omega
  clear hR h
  have hbk:=fun ad c' W v6 (hv6:XF W base B (.slice (some ⟨g,0,none⟩) N cap) v6 (Z8 rows a m nn)) (hW:B<=W.heap.size) (had:0<nn->ad=some ⟨g,a+q,none⟩)=>Z2 B base g N cap (a+q) nn c' ad v6 (Z8 rows a m nn) s W hv6 (by rw [Yv];exact hn) (by omega) had hW (fun i hi=>by
   rw [KK _ _ _ _ _ (by omega),hf _ (Zj (a:=a) (m:=m) (k:=nn) (n:=N) (by omega) (by omega) (by omega))]
   omega) (by omega)
  unfold stV at hbk;go_enter Tryz.func251,Tryz.ntmps251;go_wp2_with fail;refine htu.mono ?_;rintro e6 w6 ⟨rfl,⟨vs6,hsub,hu6⟩,hg6⟩;replace hsub:=(show Hid _ from hsub);have hnS:∀ x,w.heap.size<=x->¬ RwS vs6 x:=fun x hx c=>by obtain ⟨i,hi,e⟩:=c;have:=hu6.2.2.2.1 i (by rw [<- hu6.1];exact hi) x e;omega
  have hgb:=GrB.of_grown (lo:=g) (hi:=g+1) hg6 (fun g' e=>by cases e;omega);have hS6:=hS1.gr hgb (.inr (by omega));have hgB6:=hg1.trans (GrP.of_grown (S:=GrS (.slice (some ⟨g,0,none⟩) N cap) vs) hg6 (fun g' e=>by cases e;exact .inl rfl));have hB6:B<=w6.heap.size:=Nat.le_trans hB hgB6.size;clear hgb hg6 htu hb1 hS1 h1 hg1 hz1;have hkd:=(hS6.below (bdr w6)).2.1;have hk0:(0:Int)<=(nn:Int):=by omega
  have hkm:(nn:Int)<=(m:Int):=by omega
  have hkN:(nn:Int)<=(c:Int):=by omega
  clear hf hnm hn hl ham hc hc1 hc2 hnm2;have hqm:m-q=nn:=by omega
  have hq0:(0:Int)<=(q:Int):=by omega
  have hqmi:(q:Int)<=(m:Int):=by omega
  have hqN:(q:Int)<=(c:Int):=by omega
  by_cases hz:c=q
  ·have hzz:¬ 0<nn:=by omega
   clear hq;subst hz;go_wp2
   go_region_held3 (fun W=>W.cell? ⟨w.heap.size,0,none⟩=some (.int .i64 s.fore)/\W.cell? ⟨w.heap.size,1,none⟩=some (.int .i64 s.back)/\W.cell? ⟨w.heap.size,2,none⟩=some (.bool s.bold)/\W.cell? ⟨w.heap.size,3,none⟩=some (.bool s.under)/\W.cell? ⟨w.heap.size,4,none⟩=some (.bool s.turned)) (with_reducible assumption)
    (first
     | (go_at_call 269;refine (hbk _ _ w6.drew vs6 (hu6.below (bdr _)) hB6 (fun h=>absurd h hzz)).mono ?_;rintro e7 w7 ⟨rfl,hu7,hg7⟩;have hkc:=((hS6.below (bdr w6)).grp hg7 (hnS _ (Nat.le_refl _))).2.1))
   have hgb7:=(hgB6.trans (GrP.of_below (S:=GrS (.slice (some ⟨g,0,none⟩) N cap) vs) (bdr w6))).trans (hg7.mono (fun k _ c=>.inr (Jy.rw hsub.out c)));go_wp2;refine be ?_;exact ⟨rfl,⟨vs6,hsub.out,by rw [<- hw.out];exact hu7⟩,hgb7⟩
  ·clear hq
   go_wp2
   go_region_held3 (fun W=>W.cell? ⟨w.heap.size,0,none⟩=some (.int .i64 s.fore)/\W.cell? ⟨w.heap.size,1,none⟩=some (.int .i64 s.back)/\W.cell? ⟨w.heap.size,2,none⟩=some (.bool s.bold)/\W.cell? ⟨w.heap.size,3,none⟩=some (.bool s.under)/\W.cell? ⟨w.heap.size,4,none⟩=some (.bool s.turned)) (with_reducible assumption)
    (first
     | (go_at_call 269;refine (hbk _ _ w6.drew vs6 (hu6.below (bdr _)) hB6 (fun _=>rfl)).mono ?_;rintro e7 w7 ⟨rfl,hu7,hg7⟩;have hkc:=((hS6.below (bdr w6)).grp hg7 (hnS _ (Nat.le_refl _))).2.1))
   have hgb7:=(hgB6.trans (GrP.of_below (S:=GrS (.slice (some ⟨g,0,none⟩) N cap) vs) (bdr w6))).trans (hg7.mono (fun k _ c=>.inr (Jy.rw hsub.out c)));go_wp2;refine be ?_;exact ⟨rfl,⟨vs6,hsub.out,by rw [<- hw.out];exact hu7⟩,hgb7⟩
theorem Xcu (cols base B g N cap a m c nn:Nat) (vs:List Value) (rows:List (List Ce)) (s:St) (w:World) (h:XF w base B (.slice (some ⟨g,0,none⟩) N cap) vs rows) (hgB:g<B) (hB:B<=w.heap.size) (hn:rows.length=N) (hf:∀ i,i<N->(Xb rows i).length=cols) (hc1:1<=cols) (hc2:cols<=60) (ham:a+m<=N) (hm0:0<m) (hc:m<=c) (hl:N<=30) :
  Calls Tryz.prog 252 #[.slice (some ⟨g,a,none⟩) m c,.int .i64 (nn:Int),stV s] w fun e w'=>e=.returned (.tuple #[])/\(∃ vs',Jy vs' vs/\XF w' base B (.slice (some ⟨g,0,none⟩) N cap) vs' (Zo cols rows a (a+m-1) (-(nn:Int)) s))/\GrP (GrS (.slice (some ⟨g,0,none⟩) N cap) vs) w w':=by
 have hb1:=Xd w (Obj.cells #[.int .i64 s.fore,.int .i64 s.back,.bool s.bold,.bool s.under,.bool s.turned] 28);have hS1:=XT.new w s 28;have h1:=h.below hb1;have hgl:=(World.ownsRow.lt h.2.1 g rfl).1;have hg1:=GrP.of_below (S:=GrS (.slice (some ⟨g,0,none⟩) N cap) vs) hb1;unfold stV;obtain ⟨R,hR⟩:∃ R,Hid (Zo cols rows a (a+m-1) (-(nn:Int)) s=R):=⟨_,rfl⟩;rw [hR.out]
 have hz1:w.heap.size<(w.alloc (Obj.cells #[.int .i64 s.fore,.int .i64 s.back,.bool s.bold,.bool s.under,.bool s.turned] 28)).heap.size:=by simp
 rcases Nat.lt_or_ge m nn with hnm|hnm
 ·have hnm1:(m:Int)<(nn:Int):=by omega
  have hnm2:¬ (nn:Int)<=(m:Int):=by omega
  have hnmA:min (m:Int) (nn:Int)=(m:Int):=by omega
  have hnmB:min (nn:Int) (m:Int)=(m:Int):=by omega
  have hnm3:(m:Int)<=(nn:Int):=by omega
  have hw:=Xb6 cols rows a (a+m-1) nn m m s (fun i hi=>hf i (by omega)) (by omega) (by omega) (by omega) (by omega);rw [hR.out,Nat.sub_self] at hw
  replace hw:=(show Hid _ from hw);have htu:=Jp base B g N cap a m 0 c vs rows _ h1 hn ham hm0 (by omega) hc (by omega);have hm0i:(0:Int)<=(m:Int):=by omega
  have hmc:(m:Int)<=(c:Int):=by omega
  clear hR h
  have hbk:=fun ad c' W v6 (hv6:XF W base B (.slice (some ⟨g,0,none⟩) N cap) v6 (Z8 rows a m 0)) (hW:B<=W.heap.size) (had:0<m->ad=some ⟨g,a,none⟩)=>Z2 B base g N cap (a) m c' ad v6 (Z8 rows a m 0) s W hv6 (by rw [Yv];exact hn) (by omega) had hW (fun i hi=>by
   rw [KK _ _ _ _ _ (by omega),hf _ (Zj (a:=a) (m:=m) (k:=0) (n:=N) (by omega) (by omega) (by omega))]
   omega) (by omega)
  unfold stV at hbk;go_enter Tryz.func252,Tryz.ntmps252;go_wp2_with fail;refine htu.mono ?_;rintro e6 w6 ⟨rfl,⟨vs6,hsub,hu6⟩,hg6⟩;replace hsub:=(show Hid _ from hsub);have hnS:∀ x,w.heap.size<=x->¬ RwS vs6 x:=fun x hx c=>by obtain ⟨i,hi,e⟩:=c;have:=hu6.2.2.2.1 i (by rw [<- hu6.1];exact hi) x e;omega
  have hgb:=GrB.of_grown (lo:=g) (hi:=g+1) hg6 (fun g' e=>by cases e;omega);have hS6:=hS1.gr hgb (.inr (by omega));have hgB6:=hg1.trans (GrP.of_grown (S:=GrS (.slice (some ⟨g,0,none⟩) N cap) vs) hg6 (fun g' e=>by cases e;exact .inl rfl));have hB6:B<=w6.heap.size:=Nat.le_trans hB hgB6.size;clear hgb hg6 htu hb1 hS1 h1 hg1 hz1;have hkd:=(hS6.below (bdr w6)).2.1;have hk0:(0:Int)<=(m:Int):=by omega
  have hkm:(m:Int)<=(m:Int):=by omega
  have hkN:(m:Int)<=(c:Int):=by omega
  clear hf hnm hn hl ham hc hc1 hc2 hnm3;have hw0:IntKind.i64.wrap 0=0:=by simp [IntKind.wrap_i64]
  go_wp2
  go_region_held3 (fun W=>W.cell? ⟨w.heap.size,0,none⟩=some (.int .i64 s.fore)/\W.cell? ⟨w.heap.size,1,none⟩=some (.int .i64 s.back)/\W.cell? ⟨w.heap.size,2,none⟩=some (.bool s.bold)/\W.cell? ⟨w.heap.size,3,none⟩=some (.bool s.under)/\W.cell? ⟨w.heap.size,4,none⟩=some (.bool s.turned)) (with_reducible assumption)
   (first
    | (go_at_call 269;refine (hbk _ _ w6.drew vs6 (hu6.below (bdr _)) hB6 (fun _=>rfl)).mono ?_;rintro e7 w7 ⟨rfl,hu7,hg7⟩;have hkc:=((hS6.below (bdr w6)).grp hg7 (hnS _ (Nat.le_refl _))).2.1))
  have hgb7:=(hgB6.trans (GrP.of_below (S:=GrS (.slice (some ⟨g,0,none⟩) N cap) vs) (bdr w6))).trans (hg7.mono (fun k _ c=>.inr (Jy.rw hsub.out c)));go_wp2;refine be ?_;exact ⟨rfl,⟨vs6,hsub.out,by rw [<- hw.out];exact hu7⟩,hgb7⟩
 ·have hnm1:(nn:Int)<=(m:Int):=by omega
  have hnm2:¬ (m:Int)<(nn:Int):=by omega
  have hnmA:min (m:Int) (nn:Int)=(nn:Int):=by omega
  have hnmB:min (nn:Int) (m:Int)=(nn:Int):=by omega
  obtain ⟨q,hq⟩:∃ q:Nat,q=m-nn:=⟨_,rfl⟩;have hqi:(m:Int)-(nn:Int)=(q:Int):=by omega
  have hqw:IntKind.i64.wrap ((m:Int)-(nn:Int))=(q:Int):=by rw [hqi];simp [IntKind.wrap_i64];omega
  have hqq:=hqw;rw [hqi] at hqq
  have hw:=Xb6 cols rows a (a+m-1) nn m nn s (fun i hi=>hf i (by omega)) (by omega) (by omega) (by omega) (by omega);rw [hR.out,<- hq] at hw
  replace hw:=(show Hid _ from hw);have htu:=Jp base B g N cap a m q c vs rows _ h1 hn ham hm0 (by omega) hc (by omega);have hm0i:(0:Int)<=(m:Int):=by omega
  have hmc:(m:Int)<=(c:Int):=by omega
  clear hR h
  have hbk:=fun ad c' W v6 (hv6:XF W base B (.slice (some ⟨g,0,none⟩) N cap) v6 (Z8 rows a m q)) (hW:B<=W.heap.size) (had:0<nn->ad=some ⟨g,a,none⟩)=>Z2 B base g N cap (a) nn c' ad v6 (Z8 rows a m q) s W hv6 (by rw [Yv];exact hn) (by omega) had hW (fun i hi=>by
   rw [KK _ _ _ _ _ (by omega),hf _ (Zj (a:=a) (m:=m) (k:=q) (n:=N) (by omega) (by omega) (by omega))]
   omega) (by omega)
  unfold stV at hbk;clear hq;go_enter Tryz.func252,Tryz.ntmps252;go_wp2_with fail;refine htu.mono ?_;rintro e6 w6 ⟨rfl,⟨vs6,hsub,hu6⟩,hg6⟩;replace hsub:=(show Hid _ from hsub);have hnS:∀ x,w.heap.size<=x->¬ RwS vs6 x:=fun x hx c=>by obtain ⟨i,hi,e⟩:=c;have:=hu6.2.2.2.1 i (by rw [<- hu6.1];exact hi) x e;omega
  have hgb:=GrB.of_grown (lo:=g) (hi:=g+1) hg6 (fun g' e=>by cases e;omega);have hS6:=hS1.gr hgb (.inr (by omega));have hgB6:=hg1.trans (GrP.of_grown (S:=GrS (.slice (some ⟨g,0,none⟩) N cap) vs) hg6 (fun g' e=>by cases e;exact .inl rfl));have hB6:B<=w6.heap.size:=Nat.le_trans hB hgB6.size;clear hgb hg6 htu hb1 hS1 h1 hg1 hz1;have hkd:=(hS6.below (bdr w6)).2.1;have hk0:(0:Int)<=(nn:Int):=by omega
  have hkm:(nn:Int)<=(m:Int):=by omega
  have hkN:(nn:Int)<=(c:Int):=by omega
  clear hf hnm hn hl ham hc hc1 hc2 hnm2;go_wp2
  go_region_held3 (fun W=>W.cell? ⟨w.heap.size,0,none⟩=some (.int .i64 s.fore)/\W.cell? ⟨w.heap.size,1,none⟩=some (.int .i64 s.back)/\W.cell? ⟨w.heap.size,2,none⟩=some (.bool s.bold)/\W.cell? ⟨w.heap.size,3,none⟩=some (.bool s.under)/\W.cell? ⟨w.heap.size,4,none⟩=some (.bool s.turned)) (with_reducible assumption)
   (first
    | (go_at_call 269;refine (hbk _ _ w6.drew vs6 (hu6.below (bdr _)) hB6 (fun _=>rfl)).mono ?_;rintro e7 w7 ⟨rfl,hu7,hg7⟩;have hkc:=((hS6.below (bdr w6)).grp hg7 (hnS _ (Nat.le_refl _))).2.1))
  have hgb7:=(hgB6.trans (GrP.of_below (S:=GrS (.slice (some ⟨g,0,none⟩) N cap) vs) (bdr w6))).trans (hg7.mono (fun k _ c=>.inr (Jy.rw hsub.out c)));go_wp2;refine be ?_;exact ⟨rfl,⟨vs6,hsub.out,by rw [<- hw.out];exact hu7⟩,hgb7⟩
def XcQ (p:Pa) (pp pt lv av:Value) (t:Te) (v:Tv):List Value:=[.int .i64 p.state,pp,.int .i64 p.mark,pt,lv,av,.int .i64 t.gc,v.g,.int .i64 t.oc,v.o,.int .i64 t.row,.int .i64 t.col,.int .i64 t.st.fore,.int .i64 t.st.back,.bool t.st.bold,.bool t.st.under,.bool t.st.turned,.int .i64 t.top,.int .i64 t.bot,.bool t.full,.bool t.wrap,.bool t.away,.bool t.hid,.int .i64 t.sr,.int .i64 t.sc,.int .i64 t.ss.fore,.int .i64 t.ss.back,.bool t.ss.bold,.bool t.ss.under,.bool t.ss.turned,v.ti,.int .i64 t.pa.state,v.pp,.int .i64 t.pa.mark,v.pt,.string t.fe]
def SB (w:World) (B:Nat) (cs:List Value):Prop:=Xj w B 98 cs
theorem Xgm:(Tryz.prog.info? 24).map (·.size)=some 1:=by kernel_rfl
theorem XhO:(Tryz.prog.info? 9).map (·.size)=some 1:=by kernel_rfl
theorem XfR (p:Pa) (pp pt lv av:Value) (t:Te) (v:Tv):Tryz.prog.built 98 [(0,.agg #[.int .i64 p.state,pp,.int .i64 p.mark,pt,lv,av]),(1,.agg (Xg t v))]=some (XcQ p pp pt lv av t v).toArray:=by kernel_rfl
theorem XfQ {w:World} {ops:Array Oper} {rest:List Oper} {o:Oper} {a:Act} {Q:Exit->Act->World->Prop} (hgd:Region.wanted o (yielded ops a.tmps)=true) (t:TypeId) (i0 i1:Nat) (x0 x1:Operand) (ho:o.op=.build t #[(i0,x0),(i1,x1)]) (v0 v1:Value) (cs:Array Value)
  (h0:a.eval x0=v0) (h1:a.eval x1=v1) (hf:Tryz.prog.built t [(i0,v0),(i1,v1)]=some cs)
  (h:wpList Tryz.prog ops Q rest (a.put o.dst (.agg cs)) w):wpList Tryz.prog ops Q (o::rest) a w:=by
 refine wpList_step fun K hK=>?_
 rw [if_pos hgd]
 have e:(#[(i0,x0),(i1,x1)].map fun (i,x)=>(i,a.eval x)).toList=[(i0,v0),(i1,v1)]:=by simp [h0,h1]
 exact wp_build t _ ho (by rw [e,hf];rfl) (by rw [e,hf];exact hK _ _ h)
structure ScI (w0 W:World) (b1 b2:Nat) (cs:List Value) (xg xo:Value) (G O:List (List Ce)) (L:List (Value×List Int)):Prop where
 b:TB W w0.heap.size cs
 g:YE W (w0.heap.size+1) b1 xg G
 o:YE W b1 b2 xo O
 l:XS W b2 L
 k:Below w0.heap.size w0 W
 z:w0.heap.size+1<=b1/\b1<=b2/\b2<=W.heap.size
theorem ScI.below {w0 W W':World} {b1 b2:Nat} {cs:List Value} {xg xo:Value} {G O:List (List Ce)} {L:List (Value×List Int)} (h:ScI w0 W b1 b2 cs xg xo G O L) (hb:Below W.heap.size W W'):ScI w0 W' b1 b2 cs xg xo G O L:=by
 obtain ⟨h1,h2,h3,h4,h5,z1,z2,z3⟩:=h;exact ⟨h1.below hb,h2.below hb,h3.below hb,h4.below hb,h5.trans (hb.mono h5.size),z1,z2,Nat.le_trans z3 hb.size⟩
theorem ScI.new {w0 W W':World} {b1 b2:Nat} {cs:List Value} {xg xo:Value} {G O:List (List Ce)} {L:List (Value×List Int)} (h:ScI w0 W b1 b2 cs xg xo G O L) (hb:Below W.heap.size W W') {u:Value} {xs:List Int} (ho:Yi W' W.heap.size u xs):ScI w0 W' b1 b2 cs xg xo G O ((u,xs)::L):=by
 obtain ⟨h1,h2,h3,h4,h5,z1,z2,z3⟩:=h;exact ⟨h1.below hb,h2.below hb,h3.below hb,h4.new hb (ho.low z3) (fun g e=>(ho.lt g e).1),h5.trans (hb.mono h5.size),z1,z2,Nat.le_trans z3 hb.size⟩
theorem ScI.stored {w0 W W':World} {b1 b2:Nat} {cs cs':List Value} {xg xo:Value} {G O:List (List Ce)} {L:List (Value×List Int)} (h:ScI w0 W b1 b2 cs xg xo G O L) (hg:W.grownBy W' (some w0.heap.size)) (hp:Xj W' w0.heap.size 35 cs'):ScI w0 W' b1 b2 cs' xg xo G O L:=by
 obtain ⟨h1,h2,h3,h4,h5,z1,z2,z3⟩:=h;exact ⟨hp,h2.grown hg (by omega),h3.grown hg (by omega),h4.kept hg (fun p hp=>.inr ((h4.1 p hp).not_block h1 (by decide))),h5.grown hg h5.size (fun g e=>by cases e;omega),z1,z2,Nat.le_trans z3 hg.size⟩
theorem XbL (t:Te) (v:Tv) (w:World) (h:SlT w t v) (hz:RtT t) (hf:t.fe.size<=281474976710656) :
  Calls Tryz.prog 47 #[.agg (Xg t v)] w fun e w'=>∃ B v' vg vo,e=.returned (.pointer (some ⟨B,0,none⟩))/\SB w' B (XcQ t.pa v'.pp v'.pt (.slice none 0 0) (.slice none 0 0) t v')/\Y2 w' (w.heap.size+1) t v' vg vo/\w.heap.size<B/\Below w.heap.size w w':=by
 obtain ⟨vg,vo,vti,vpp,vpt⟩:=v;obtain ⟨hg,ho,hti,hpp,hpt⟩:=h;simp only at hg ho hti hpp hpt;obtain ⟨⟨z1,z1'⟩,z2,⟨z3,z3'⟩,z4,z5,z6,z7⟩:=hz;have cG:=fun W hW=>Qd vg t.g W hW (by omega) (fun i hi=>by have:=z2 i hi;omega)
 have cO:=fun W hW=>Qd vo t.o W hW (by omega) (fun i hi=>by have:=z4 i hi;omega)
 have cT:=fun W hW=>Zc vti t.ti W hW (by omega)
 have cP:=fun W hW=>Zc vpp t.pa.params W hW (by omega)
 have cQ:=fun W hW=>Zc vpt t.pa.text W hW (by omega)
 have cF:=fun W=>Xey t.fe W hf
 obtain ⟨ga,gp,hq1⟩:=sGs hg;obtain ⟨oa,op,hq2⟩:=sGs ho;obtain ⟨tia,tip,hq3⟩:=hti.shp;obtain ⟨ppa,ppp,hq4⟩:=hpp.shp;obtain ⟨pta,ptp,hq5⟩:=hpt.shp;subst hq1;subst hq2;subst hq3;subst hq4;subst hq5;have kb:=Xd w (Obj.cells (Xg t ⟨.slice ga t.g.length gp,.slice oa t.o.length op,.slice tia t.ti.length tip,.slice ppa t.pa.params.length ppp,.slice pta t.pa.text.length ptp⟩) 35);have hB:=TB.new w (Xg t ⟨.slice ga t.g.length gp,.slice oa t.o.length op,.slice tia t.ti.length tip,.slice ppa t.pa.params.length ppp,.slice pta t.pa.text.length ptp⟩).toList;obtain ⟨w1,hw1⟩:∃ w1,w1=w.alloc (Obj.cells (Xg t ⟨.slice ga t.g.length gp,.slice oa t.o.length op,.slice tia t.ti.length tip,.slice ppa t.pa.params.length ppp,.slice pta t.pa.text.length ptp⟩) 35):=⟨_,rfl⟩;have zs1:w1.heap.size=w.heap.size+1:=by rw [hw1];simp
 have hB:TB w1 w.heap.size [.int .i64 t.gc,.slice ga t.g.length gp,.int .i64 t.oc,.slice oa t.o.length op,.int .i64 t.row,.int .i64 t.col,.int .i64 t.st.fore,.int .i64 t.st.back,.bool t.st.bold,.bool t.st.under,.bool t.st.turned,.int .i64 t.top,.int .i64 t.bot,.bool t.full,.bool t.wrap,.bool t.away,.bool t.hid,.int .i64 t.sr,.int .i64 t.sc,.int .i64 t.ss.fore,.int .i64 t.ss.back,.bool t.ss.bold,.bool t.ss.under,.bool t.ss.turned,.slice tia t.ti.length tip,.int .i64 t.pa.state,.slice ppa t.pa.params.length ppp,.int .i64 t.pa.mark,.slice pta t.pa.text.length ptp,.string t.fe]:=by rw [hw1];exact hB
 rw [<- hw1] at kb
 replace hw1:=(show Hid _ from hw1);clear z1 z1' z2 z3 z3' z4 z5 z6 z7 hf;go_enter Tryz.func47,Tryz.ntmps47;refine wp_seq_k (fun K hK=>?_);have hH:=(show Hid _ from hK);clear hK;go_wp2;refine hH.out _ _ ?_;rw [<- hw1.out]
 clear hH hw1;have c1:w1.cell? ⟨w.heap.size,1,none⟩=some (.slice ga t.g.length gp):=cAl hB 1;go_wp2_with fail;refine (cG _ (hg.below kb)).mono ?_;rintro e w2 ⟨vsg,rfl,hng,hb⟩;have og:YE w2 (w.heap.size+1) w2.heap.size (.slice (some ⟨w1.heap.size,0,none⟩) t.g.length t.g.length) t.g:=by rw [<- zs1];exact YE.of hng.g
 obtain ⟨xga,hxga⟩:∃ a,a=some (Addr.mk w1.heap.size 0 none):=⟨_,rfl⟩;rw [<- hxga] at og
 rw [<- hxga]
 replace hB:=hB.below hb;replace kb:=kb.trans (hb.mono kb.size);have s12:=hb.size;clear hng hb cG hxga c1;go_wp2_with (refine XD (by rfl) 24 _ _ (by rfl) Xgm hB (by rfl) (by rfl) (by rfl) (by rfl) (by rfl) ?_;intro W2 hgr hB1 hz1;have c3:W2.cell? ⟨w.heap.size,3,none⟩=some (.slice oa t.o.length op):=cAl hB1 3);have kb2:Below w.heap.size w W2:=kb.grown hgr kb.size (fun g e=>by cases e;exact Nat.le_refl _);replace hB:TB W2 w.heap.size [.int .i64 t.gc,.slice xga t.g.length t.g.length,.int .i64 t.oc,.slice oa t.o.length op,.int .i64 t.row,.int .i64 t.col,.int .i64 t.st.fore,.int .i64 t.st.back,.bool t.st.bold,.bool t.st.under,.bool t.st.turned,.int .i64 t.top,.int .i64 t.bot,.bool t.full,.bool t.wrap,.bool t.away,.bool t.hid,.int .i64 t.sr,.int .i64 t.sc,.int .i64 t.ss.fore,.int .i64 t.ss.back,.bool t.ss.bold,.bool t.ss.under,.bool t.ss.turned,.slice tia t.ti.length tip,.int .i64 t.pa.state,.slice ppa t.pa.params.length ppp,.int .i64 t.pa.mark,.slice pta t.pa.text.length ptp,.string t.fe]:=hB1;replace og:=og.grown hgr (by omega);clear hB1 hgr kb;refine (cO _ (ho.below kb2)).mono ?_;rintro e w3 ⟨vso,rfl,hno,hb⟩;have oo:YE w3 w2.heap.size w3.heap.size (.slice (some ⟨W2.heap.size,0,none⟩) t.o.length t.o.length) t.o:=by rw [<- hz1];exact YE.of hno.g
 obtain ⟨xoa,hxoa⟩:∃ a,a=some (Addr.mk W2.heap.size 0 none):=⟨_,rfl⟩;rw [<- hxoa] at oo
 rw [<- hxoa]
 have I:ScI w w3 w2.heap.size w3.heap.size [.int .i64 t.gc,.slice xga t.g.length t.g.length,.int .i64 t.oc,.slice oa t.o.length op,.int .i64 t.row,.int .i64 t.col,.int .i64 t.st.fore,.int .i64 t.st.back,.bool t.st.bold,.bool t.st.under,.bool t.st.turned,.int .i64 t.top,.int .i64 t.bot,.bool t.full,.bool t.wrap,.bool t.away,.bool t.hid,.int .i64 t.sr,.int .i64 t.sc,.int .i64 t.ss.fore,.int .i64 t.ss.back,.bool t.ss.bold,.bool t.ss.under,.bool t.ss.turned,.slice tia t.ti.length tip,.int .i64 t.pa.state,.slice ppa t.pa.params.length ppp,.int .i64 t.pa.mark,.slice pta t.pa.text.length ptp,.string t.fe] _ _ _ _ []:=⟨hB.below hb,og.below hb,oo,XS.nil _ _,kb2.trans (hb.mono kb2.size),by omega,by rw [<- hz1];exact hb.size,Nat.le_refl _⟩;generalize w3.heap.size=b2 at I;generalize w2.heap.size=b1 at *;clear hB og oo hno hb kb2 hz1 cO hxoa c3 s12 zs1;go_wp2_with (refine XD (by rfl) 24 _ _ (by rfl) Xgm I.b (by rfl) (by rfl) (by rfl) (by rfl) (by rfl) ?_;intro W3 hgr hp hz3;have I3:ScI w W3 b1 b2 [.int .i64 t.gc,.slice xga t.g.length t.g.length,.int .i64 t.oc,.slice xoa t.o.length t.o.length,.int .i64 t.row,.int .i64 t.col,.int .i64 t.st.fore,.int .i64 t.st.back,.bool t.st.bold,.bool t.st.under,.bool t.st.turned,.int .i64 t.top,.int .i64 t.bot,.bool t.full,.bool t.wrap,.bool t.away,.bool t.hid,.int .i64 t.sr,.int .i64 t.sc,.int .i64 t.ss.fore,.int .i64 t.ss.back,.bool t.ss.bold,.bool t.ss.under,.bool t.ss.turned,.slice tia t.ti.length tip,.int .i64 t.pa.state,.slice ppa t.pa.params.length ppp,.int .i64 t.pa.mark,.slice pta t.pa.text.length ptp,.string t.fe] _ _ _ _ _:=I.stored hgr hp;have c24:W3.cell? ⟨w.heap.size,24,none⟩=some (.slice tia t.ti.length tip):=cAl I3.b 24);clear I hgr hp hz3;refine (cT _ (hti.below (I3.k.mono (Nat.le_refl _)))).mono ?_;rintro e w4 ⟨u,rfl,hnt,hb⟩;obtain ⟨xta,xtn,xtp,hx⟩:=hnt.shape;subst hx;have I4:=I3.new hb hnt;clear I3 hnt hb cT c24;go_wp2_with (refine XD (by rfl) 29 _ _ (by rfl) QS I4.b (by rfl) (by rfl) (by rfl) (by rfl) (by rfl) ?_;intro W4 hgr hp hz4;have J4:ScI w W4 b1 b2 [.int .i64 t.gc,.slice xga t.g.length t.g.length,.int .i64 t.oc,.slice xoa t.o.length t.o.length,.int .i64 t.row,.int .i64 t.col,.int .i64 t.st.fore,.int .i64 t.st.back,.bool t.st.bold,.bool t.st.under,.bool t.st.turned,.int .i64 t.top,.int .i64 t.bot,.bool t.full,.bool t.wrap,.bool t.away,.bool t.hid,.int .i64 t.sr,.int .i64 t.sc,.int .i64 t.ss.fore,.int .i64 t.ss.back,.bool t.ss.bold,.bool t.ss.under,.bool t.ss.turned,.slice xta xtn xtp,.int .i64 t.pa.state,.slice ppa t.pa.params.length ppp,.int .i64 t.pa.mark,.slice pta t.pa.text.length ptp,.string t.fe] _ _ _ _ _:=I4.stored hgr hp;have c26:W4.cell? ⟨w.heap.size,26,none⟩=some (.slice ppa t.pa.params.length ppp):=cAl J4.b 26);clear I4 hgr hp hz4;refine (cP _ (hpp.below J4.k)).mono ?_;rintro e w5 ⟨u,rfl,hnt,hb⟩;obtain ⟨xpa,xpn,xpp,hx⟩:=hnt.shape;subst hx;have I5:=J4.new hb hnt;clear J4 hnt hb cP c26;go_wp2_with (refine XD (by rfl) 29 _ _ (by rfl) QS I5.b (by rfl) (by rfl) (by rfl) (by rfl) (by rfl) ?_;intro W5 hgr hp hz5;have J5:ScI w W5 b1 b2 [.int .i64 t.gc,.slice xga t.g.length t.g.length,.int .i64 t.oc,.slice xoa t.o.length t.o.length,.int .i64 t.row,.int .i64 t.col,.int .i64 t.st.fore,.int .i64 t.st.back,.bool t.st.bold,.bool t.st.under,.bool t.st.turned,.int .i64 t.top,.int .i64 t.bot,.bool t.full,.bool t.wrap,.bool t.away,.bool t.hid,.int .i64 t.sr,.int .i64 t.sc,.int .i64 t.ss.fore,.int .i64 t.ss.back,.bool t.ss.bold,.bool t.ss.under,.bool t.ss.turned,.slice xta xtn xtp,.int .i64 t.pa.state,.slice xpa xpn xpp,.int .i64 t.pa.mark,.slice pta t.pa.text.length ptp,.string t.fe] _ _ _ _ _:=I5.stored hgr hp;have c28:W5.cell? ⟨w.heap.size,28,none⟩=some (.slice pta t.pa.text.length ptp):=cAl J5.b 28)
 clear I5 hgr hp hz5;refine (cQ _ (hpt.below J5.k)).mono ?_;rintro e w6 ⟨u,rfl,hnt,hb⟩;obtain ⟨xqa,xqn,xqp,hx⟩:=hnt.shape;subst hx;have I6:=J5.new hb hnt;clear J5 hnt hb cQ c28;go_wp2_with (refine XD (by rfl) 29 _ _ (by rfl) QS I6.b (by rfl) (by rfl) (by rfl) (by rfl) (by rfl) ?_;intro W6 hgr hp hz6;have J6:ScI w W6 b1 b2 [.int .i64 t.gc,.slice xga t.g.length t.g.length,.int .i64 t.oc,.slice xoa t.o.length t.o.length,.int .i64 t.row,.int .i64 t.col,.int .i64 t.st.fore,.int .i64 t.st.back,.bool t.st.bold,.bool t.st.under,.bool t.st.turned,.int .i64 t.top,.int .i64 t.bot,.bool t.full,.bool t.wrap,.bool t.away,.bool t.hid,.int .i64 t.sr,.int .i64 t.sc,.int .i64 t.ss.fore,.int .i64 t.ss.back,.bool t.ss.bold,.bool t.ss.under,.bool t.ss.turned,.slice xta xtn xtp,.int .i64 t.pa.state,.slice xpa xpn xpp,.int .i64 t.pa.mark,.slice xqa xqn xqp,.string t.fe] _ _ _ _ _:=I6.stored hgr hp;have c29:W6.cell? ⟨w.heap.size,29,none⟩=some (.string t.fe):=cAl J6.b 29);clear I6 hgr hp hz6;refine (cF _).mono ?_;rintro e w7 ⟨rfl,hb⟩;have I7:=J6.below hb;clear J6 hb cF c29
 go_wp2_with (first
  | (refine XD (by rfl) 9 _ _ (by rfl) XhO I7.b (by rfl) (by rfl) (by rfl) (by rfl) (by rfl) ?_;intro W7 hgr hp hz7;have J7:ScI w W7 b1 b2 [.int .i64 t.gc,.slice xga t.g.length t.g.length,.int .i64 t.oc,.slice xoa t.o.length t.o.length,.int .i64 t.row,.int .i64 t.col,.int .i64 t.st.fore,.int .i64 t.st.back,.bool t.st.bold,.bool t.st.under,.bool t.st.turned,.int .i64 t.top,.int .i64 t.bot,.bool t.full,.bool t.wrap,.bool t.away,.bool t.hid,.int .i64 t.sr,.int .i64 t.sc,.int .i64 t.ss.fore,.int .i64 t.ss.back,.bool t.ss.bold,.bool t.ss.under,.bool t.ss.turned,.slice xta xtn xtp,.int .i64 t.pa.state,.slice xpa xpn xpp,.int .i64 t.pa.mark,.slice xqa xqn xqp,.string t.fe] _ _ _ _ _:=I7.stored hgr hp)
  | (refine XbE (by rfl) 31 _ (by rfl) [.int .i64 t.pa.state,.slice xpa xpn xpp,.int .i64 t.pa.mark,.slice xqa xqn xqp] Tryz.underlying31 rfl Xci J7.b (by rfl) (by rfl) ?_)
  | (refine KX (cs:=Xg t ⟨.slice xga t.g.length t.g.length,.slice xoa t.o.length t.o.length,.slice xta xtn xtp,.slice xpa xpn xpp,.slice xqa xqn xqp⟩) (by rfl) 35 _ (by rfl) Tryz.underlying35 rfl Xr J7.b (by rfl) ?_)
  | (refine XfQ (by rfl) 98 _ _ _ _ (by rfl) _ _ (XcQ t.pa (.slice xpa xpn xpp) (.slice xqa xqn xqp) (.slice none 0 0) (.slice none 0 0) t ⟨.slice xga t.g.length t.g.length,.slice xoa t.o.length t.o.length,.slice xta xtn xtp,.slice xpa xpn xpp,.slice xqa xqn xqp⟩).toArray (by rfl) (by rfl) (XfR t.pa (.slice xpa xpn xpp) (.slice xqa xqn xqp) (.slice none 0 0) (.slice none 0 0) t ⟨.slice xga t.g.length t.g.length,.slice xoa t.o.length t.o.length,.slice xta xtn xtp,.slice xpa xpn xpp,.slice xqa xqn xqp⟩) ?_))
 have hR:RgT W7 (w.heap.size+1) b1 b2 b2 t ⟨.slice xga t.g.length t.g.length,.slice xoa t.o.length t.o.length,.slice xta xtn xtp,.slice xpa xpn xpp,.slice xqa xqn xqp⟩:=⟨J7.g,J7.o,J7.l.perm (by exact (List.reverse_perm _).symm),J7.z.1,J7.z.2.1,Nat.le_refl _,J7.z.2.2⟩;obtain ⟨vg',vo',hO⟩:=hR.own;have hal:=Xd W7 (Obj.cells (XcQ t.pa (.slice xpa xpn xpp) (.slice xqa xqn xqp) (.slice none 0 0) (.slice none 0 0) t ⟨.slice xga t.g.length t.g.length,.slice xoa t.o.length t.o.length,.slice xta xtn xtp,.slice xpa xpn xpp,.slice xqa xqn xqp⟩).toArray 98);have hS:=Xj.new W7 98 (XcQ t.pa (.slice xpa xpn xpp) (.slice xqa xqn xqp) (.slice none 0 0) (.slice none 0 0) t ⟨.slice xga t.g.length t.g.length,.slice xoa t.o.length t.o.length,.slice xta xtn xtp,.slice xpa xpn xpp,.slice xqa xqn xqp⟩);rw [hz7] at hS
 have hlt:w.heap.size<w7.heap.size:=by rw [<- hz7];have:=J7.z;omega
 have kbz:=J7.k.trans (hal.mono J7.k.size);go_ret;exact ⟨w7.heap.size,⟨.slice xga t.g.length t.g.length,.slice xoa t.o.length t.o.length,.slice xta xtn xtp,.slice xpa xpn xpp,.slice xqa xqn xqp⟩,vg',vo',rfl,hS,hO.below hal,hlt,kbz⟩
theorem KN (B:Nat) (a:Option Addr) (n c:Nat) (w:World) (hc:w.cell? ⟨B,7,none⟩=some (.slice a n c)) (hn:n<=1000) :
  Calls Tryz.prog 82 #[.pointer (some ⟨B,0,none⟩)] w fun e w'=>e=.returned (.int .i64 ((n:Int)-1))/\w'=w:=by
 go_enter Tryz.func82,Tryz.ntmps82;go_wp2;go_ret;exact ⟨rfl,rfl⟩
theorem Yd (B:Nat) (c:Int) (w:World) (hc:w.cell? ⟨B,6,none⟩=some (.int .i64 c)) (hn:0<=c/\c<=1000) :
  Calls Tryz.prog 83 #[.pointer (some ⟨B,0,none⟩)] w fun e w'=>e=.returned (.int .i64 (c-1))/\w'=w:=by
 obtain ⟨h1,h2⟩:=hn;go_enter Tryz.func83,Tryz.ntmps83;go_wp2;go_ret;exact ⟨rfl,rfl⟩
theorem XcR (B:Nat) (p:Pa) (lv av:Value) (t:Te) (ga oa ta pa qa:Option Addr) (gn oN tn pn qn gc oc tc pc qc:Nat) (x y:Value) (w:World) (hB:SB w B (XcQ p (.slice pa pn pc) (.slice qa qn qc) lv av t ⟨.slice ga gn gc,.slice oa oN oc,.slice ta tn tc,x,y⟩)) :
  Calls Tryz.prog 50 #[.pointer (some ⟨B,0,none⟩)] w fun e w'=>e=.returned (.agg (Xg { t with pa:=p } ⟨.slice ga gn gc,.slice oa oN oc,.slice ta tn tc,.slice pa pn pc,.slice qa qn qc⟩)) /\
   SB w' B (XcQ p (.slice pa pn pc) (.slice qa qn qc) lv av { t with pa:=p } ⟨.slice ga gn gc,.slice oa oN oc,.slice ta tn tc,.slice pa pn pc,.slice qa qn qc⟩)/\w.grownBy w' (some B):=by
 have hR:=TB.new w [.int .i64 0,.slice none 0 0,.int .i64 0,.slice none 0 0,.int .i64 0,.int .i64 0,.int .i64 0,.int .i64 0,.bool false,.bool false,.bool false,.int .i64 0,.int .i64 0,.bool false,.bool false,.bool false,.bool false,.int .i64 0,.int .i64 0,.int .i64 0,.int .i64 0,.bool false,.bool false,.bool false,.slice none 0 0,.int .i64 0,.slice none 0 0,.int .i64 0,.slice none 0 0,.string ⟨#[]⟩];have hb0:=Xd w (Obj.cells #[.int .i64 0,.slice none 0 0,.int .i64 0,.slice none 0 0,.int .i64 0,.int .i64 0,.int .i64 0,.int .i64 0,.bool false,.bool false,.bool false,.int .i64 0,.int .i64 0,.bool false,.bool false,.bool false,.bool false,.int .i64 0,.int .i64 0,.int .i64 0,.int .i64 0,.bool false,.bool false,.bool false,.slice none 0 0,.int .i64 0,.slice none 0 0,.int .i64 0,.slice none 0 0,.string ⟨#[]⟩] 35);obtain ⟨w1,hw1⟩:∃ w1,w1=w.alloc (Obj.cells #[.int .i64 0,.slice none 0 0,.int .i64 0,.slice none 0 0,.int .i64 0,.int .i64 0,.int .i64 0,.int .i64 0,.bool false,.bool false,.bool false,.int .i64 0,.int .i64 0,.bool false,.bool false,.bool false,.bool false,.int .i64 0,.int .i64 0,.int .i64 0,.int .i64 0,.bool false,.bool false,.bool false,.slice none 0 0,.int .i64 0,.slice none 0 0,.int .i64 0,.slice none 0 0,.string ⟨#[]⟩] 35):=⟨_,rfl⟩;rw [<- hw1] at hb0 hR
 have hB1:SB w1 B _:=Xj.below hB hb0;have hlt:B<w.heap.size:=Xj.lt hB;replace hw1:=(show Hid _ from hw1);go_enter Tryz.func50,Tryz.ntmps50;refine wp_seq_k (fun K hK=>?_);have hH:=(show Hid _ from hK);clear hK;go_wp2;refine hH.out _ _ ?_;rw [<- hw1.out]
 clear hH hw1 hB
 go_wp2_with (first
  | (refine XbE (by rfl) 31 _ (by rfl) [.int .i64 p.state,.slice pa pn pc,.int .i64 p.mark,.slice qa qn qc] Tryz.underlying31 rfl Xci hB1 (by rfl) (by rfl) ?_)
  | (refine XD (by rfl) 31 _ _ (by rfl) Xci hB1 (by rfl) (by rfl) (by rfl) (by rfl) (by rfl) ?_;intro w2 hg2 hp hz2;have hB2:SB w2 B (XcQ p (.slice pa pn pc) (.slice qa qn qc) lv av { t with pa:=p } ⟨.slice ga gn gc,.slice oa oN oc,.slice ta tn tc,.slice pa pn pc,.slice qa qn qc⟩):=hp)
  | (refine XbE (by rfl) 35 _ (by rfl) (Xg { t with pa:=p } ⟨.slice ga gn gc,.slice oa oN oc,.slice ta tn tc,.slice pa pn pc,.slice qa qn qc⟩).toList Tryz.underlying35 rfl Xr hB2 (by rfl) (by rfl) ?_)
  | (refine Yh (cs:=Xg { t with pa:=p } ⟨.slice ga gn gc,.slice oa oN oc,.slice ta tn tc,.slice pa pn pc,.slice qa qn qc⟩) (by rfl) 35 _ _ (by rfl) Xr (by rfl) (by rfl) (hR.kept hg2 (by intro e;injection e with e;omega)) (by rfl) (by rfl) ?_;intro w3 hg3 hR3 hz3))
 have hB3:SB w3 B _:=Xj.kept hB2 hg3 (by intro e;injection e with e;omega)
 have hgz:w.grownBy w3 (some B):=by
  have h1:=hb0.block;refine ⟨hg3.os.trans (hg2.os.trans hb0.os),hg3.tape.trans (hg2.tape.trans hb0.tape),hg3.output.trans (hg2.output.trans hb0.output),by have:=hb0.size;omega,fun k hk hne=>?_⟩;have:=hb0.size;rw [hg3.block k (by omega) (by intro e;injection e with e;omega),hg2.block k (by omega) hne,hb0.block k hk]
 exact bodyPost_ret (v:=.agg (Xg { t with pa:=p } ⟨.slice ga gn gc,.slice oa oN oc,.slice ta tn tc,.slice pa pn pc,.slice qa qn qc⟩)) (results_cell_row Tryz.results50 _ _ _ _ _ _ _ rfl hR3 Tryz.underlying35 rfl Xr) rfl ⟨rfl,hB3,hgz⟩
theorem JP {l:List Ce} (h:XK l) (h1:1<=l.length) (h2:l.length<=60):Xu l=true:=(YN l).2 ⟨⟨h1,h2⟩,h⟩
theorem Ui {cols:Nat} {rows:List (List Ce)} (hc:1<=cols/\cols<=60) (hn:1<=rows.length/\rows.length<=30) (h:∀ i,i<rows.length->(Xb rows i).length=cols/\XK (Xb rows i)):Xy (cols:Int) rows=true:=by
 rw [YU]
 refine ⟨by omega,hn,fun i hi=>?_⟩;obtain ⟨h1,h2⟩:=h i hi;have h1':(rows.getD i []).length=cols:=h1;unfold KV;rw [Bool.and_eq_true,decide_eq_true_eq]
 exact ⟨by omega,JP h2 (by omega) (by omega)⟩
theorem YP {cols:Nat} {rows:List (List Ce)} (h:Xy (cols:Int) rows=true):(1<=cols/\cols<=60)/\(1<=rows.length/\rows.length<=30)/\∀ i,i<rows.length->(Xb rows i).length=cols/\XK (Xb rows i):=by
 obtain ⟨h1,h2,h3⟩:=(YU _ _).1 h;refine ⟨by omega,h2,fun i hi=>?_⟩;have h4:=h3 i hi;unfold KV at h4;rw [Bool.and_eq_true,decide_eq_true_eq] at h4
 have h5:((Xb rows i).length:Int)=cols:=h4.1;exact ⟨by omega,((YN _).1 h4.2).2⟩
theorem XgG {cols:Nat} {rows:List (List Ce)} (h:Xy (cols:Int) rows=true) (t b:Nat) (hb:b<rows.length) (m:Int) (s:St) (hs:s.ok=true):Xy (cols:Int) (Zo cols rows t b m s)=true:=by
 obtain ⟨h1,h2,h3⟩:=YP h;refine Ui h1 (by rw [Zl];exact h2) fun i hi=>?_
 rw [Zl] at hi
 rw [JM _ _ _ _ _ _ _ hi]
 split
 ·split
  ·exact h3 _ (by omega)
  ·exact ⟨KF _ _,KH _ _ hs⟩
 ·exact h3 i hi
theorem Xe8 (lo hi:Nat) (v:Value) (vs:List Value) (k:Nat) (rows:List (List Ce)) (w:World) (h:XF w lo hi v vs rows) (hk:k<=134217728) (hl:Xx rows rows.length<=1048576) (hn:rows.length<=1048576) :
  Calls Tryz.prog 164 #[v,.int .i64 k] w fun e w'=>e=.returned (.int .i64 ((k+7*Xx rows rows.length:Nat):Int))/\XF w' lo hi v vs (ZU k rows)/\GrP (RwS vs) w w':=by
 rcases h.shape with ⟨rfl,rfl⟩|⟨g,cap,rfl,hbg,hlg,hcap⟩
 ·go_enter Tryz.func164,Tryz.ntmps164
  go_wp2;refine wp_loop_rounds 1 ?_;rw [rounds_succ]
  go_wp2;go_ret;exact ⟨by simp [Xx],by simpa [ZU,Y0,Z3] using h,GrP.refl _ _⟩
 ·generalize hN:rows.length=n at *
  go_enter Tryz.func164,Tryz.ntmps164;go_wp2;go_loopw [1,5] (fun q i wr=>∃ (j:Nat),j<=n/\i=.int .i64 j/\q=.int .i64 ((k+7*Xx rows j:Nat):Int)/\XF wr lo hi (.slice (some ⟨g,0,none⟩) n cap) vs (Y0 k rows j)/\GrP (RwS vs) w wr) (fun _ i _=>n-(intOf i).toNat)
  case atStart=>exact ⟨0,Nat.zero_le _,rfl,rfl,by rw [XbG];exact h,GrP.refl _ _⟩
  case round =>
   clear h;obtain ⟨j,hj,rfl,rfl,ho,hgr⟩:=hrel;have hlen:(Y0 k rows j).length=n:=by rw [YQ];exact hN
   by_cases hlt:j<n
   ·have hji:(j:Int)<(n:Int):=by omega
    have hj0:(0:Int)<=(j:Int):=by omega
    have hcj:=ho.cell hlen j hlt;have hx:=Q6 k rows j j (by omega);rw [if_neg (Nat.lt_irrefl j)] at hx
    have hrow:=ho.2.2.1 j (by omega);rw [hx] at hrow
    have hs1:=U6 rows (show j<=n by omega);have hs2:=UJ rows hlt;have hm:=Xe9 lo (Xw vs j) (k+7*Xx rows j) (Xb rows j) wr hrow (by omega) (by omega);have hst:Hid (Y0 k rows (j+1)=(Y0 k rows j).set j (ZM (k+7*Xx rows j) (Xb rows j).length)):=XbF k rows j (by omega);have hsum:Hid ((k+7*Xx rows j)+7*(Xb rows j).length=k+7*Xx rows (j+1)):=by show _=_;rw [Xx];omega
    have hB:∀ g',(Xw vs j).ownBlock=some g'->RwS vs g':=fun g' e=>⟨j,by rw [ho.1];omega,e⟩
    rw [hsum.out] at hm
    have hfin:=fun W' (h1:Xl W' lo (Xw vs j) (ZM (k+7*Xx rows j) (Xb rows j).length)) (h2:wr.grownBy W' (Xw vs j).ownBlock)=>(show XF W' lo hi (.slice (some ⟨g,0,none⟩) n cap) vs (Y0 k rows (j+1)) from by rw [hst.out];exact ho.rowset (by omega) _ h1 h2)
    have hsh:∃ a n c,Xw vs j=Value.slice a n c:=by rcases hrow.shape with ⟨h,_⟩|⟨_,_,h,_⟩<;>exact ⟨_,_,_,h⟩
    clear hst hsum hrow hx ho hs1 hs2;generalize Xw vs j=r at *;obtain ⟨ra,rn,rc,rfl⟩:=hsh;go_wp2_with fail;refine hm.mono ?_;rintro e w2 ⟨rfl,ho2,hg2⟩;have kk:=hfin w2 ho2 hg2;have gg:=hgr.trans (GrP.of_grown hg2 hB);clear hfin ho2 hg2 hB hm hgr;go_wp2;go_roundw
    case rel=>exact ⟨j+1,by omega,by go_num,rfl,kk,gg⟩
    case measure=>simp [intOf];omega
   ·have hjn:j=n:=by omega
    have hji:¬ (j:Int)<(n:Int):=by omega
    subst hjn;go_wp2;go_ret;exact ⟨rfl,by unfold ZU;rw [hN];exact ho,hgr⟩
theorem Q2 (lo hi:Nat) (cols:Int) (v:Value) (vs:List Value) (k:Nat) (rows:List (List Ce)) (w:World) (h:XF w lo hi v vs rows) (hk:k<=134217728) (hl:Xx rows rows.length<=1048576) (hn:rows.length<=1048576) :
  Calls Tryz.prog 101 #[Yp cols v,.int .i64 k] w fun e w'=>e=.returned (.int .i64 ((k+7*Xx rows rows.length:Nat):Int))/\XF w' lo hi v vs (ZU k rows)/\GrP (RwS vs) w w':=by
 have hb0:=Xd w (Obj.cells #[.int .i64 cols,v] 26);have hv1:XF (w.alloc (Obj.cells #[.int .i64 cols,v] 26)) lo hi v vs rows:=h.below hb0;have hm:=Xe8 lo hi v vs k rows _ hv1 hk hl hn;have hG0:=GrN.new w cols v 26;obtain ⟨a,n,c,rfl⟩:∃ a n c,v=Value.slice a n c:=by rcases h.shape with ⟨h,_⟩|⟨_,_,h,_⟩<;>exact ⟨_,_,_,h⟩
 unfold Yp;obtain ⟨_,g0,g1⟩:=id hG0;clear h hv1;generalize k+7*Xx rows rows.length=q at *;go_enter Tryz.func101,Tryz.ntmps101;go_wp2_with fail;refine hm.mono ?_;rintro e w2 ⟨rfl,ho2,hg2⟩;go_wp2;go_ret;exact ⟨rfl,ho2,(GrP.of_below hb0).trans hg2⟩
theorem Q4 (p:Pa) (pv tv:Value) (k:Nat) (base:Nat) (R:List (Value×List Int)) (w:World) (h:XS w base ((pv,p.params)::(tv,p.text)::R)) (_hb:base<=w.heap.size) (hk:k<=134217728) (hpl:p.params.length<=1048576) (htl:p.text.length<=1048576) :
  Calls Tryz.prog 103 #[paV p pv tv,.int .i64 k] w fun e w'=>e=.returned (.int .i64 ((k+p.params.length+p.text.length:Nat):Int))/\XS w' base ((pv,Ya k p.params.length)::(tv,Ya ((k+p.params.length:Nat):Int) p.text.length)::R)/\GrV pv tv w w':=by
 obtain ⟨s,ps,m,ts⟩:=p;have hb0:=Xd w (Obj.cells #[.int .i64 s,pv,.int .i64 m,tv] 31);have hP:=PbB.new w s m pv tv;have h0:=h.below hb0;have m1:=K3 base pv k ps.length (ps.map (Value.int .i64)) _ h0.head ⟨by omega,by omega⟩ (by simp only at hpl;omega);have m2:=fun W (hW:Yi W base tv ts)=>K3 base tv ((k+ps.length:Nat):Int) ts.length (ts.map (Value.int .i64)) W hW ⟨by omega,by simp only at hpl;omega⟩ (by simp only at htl;omega)
 have n1:Hid ((k:Int)+(ps.length:Int)=((k+ps.length:Nat):Int)):=by show _=_;omega
 have n2:Hid (((k+ps.length:Nat):Int)+(ts.length:Int)=((k+ps.length+ts.length:Nat):Int)):=by show _=_;omega
 rw [n1.out] at m1
 unfold paV at *;simp only at *;obtain ⟨pa,pn,pc,hpv⟩:=h.head.shape;obtain ⟨ta,tn,tc,htv⟩:=h.tail.head.shape;simp only at hpv htv;subst hpv;subst htv;have hGr:GrV (.slice pa pn pc) (.slice ta tn tc) w (w.alloc (Obj.cells #[.int .i64 s,.slice pa pn pc,.int .i64 m,.slice ta tn tc] 31)):=GrV.of_below hb0;obtain ⟨c0,c1,c2,c3⟩:=hP.cells;have hs:∀ W,(w.alloc (Obj.cells #[.int .i64 s,.slice pa pn pc,.int .i64 m,.slice ta tn tc] 31)).grownBy W (Value.slice pa pn pc).ownBlock->PbB W w.heap.size s (.slice pa pn pc) m (.slice ta tn tc):=fun W hg=>hP.kept hg (h0.head.not_block hP (by decide))
 clear h;go_enter Tryz.func103,Tryz.ntmps103;go_wp2_with fail;refine m1.mono ?_;rintro e w3 ⟨rfl,ho3,hg3⟩;have hP3:=hs w3 hg3;have hL3:XS w3 base ((.slice pa pn pc,Ya k ps.length)::(.slice ta tn tc,ts)::R):=h0.grow hg3 (by unfold Yi;rw [YI];exact ho3) (fun g e=>.inl e);have hG3:=hGr.grown hg3 (fun g e=>.inl e);have m3:=m2 w3 hL3.tail.head;rw [n2.out] at m3
 clear m1 m2 hs hGr hP h0 hg3 ho3 c0 c1 c2 c3;obtain ⟨c0,c1,c2,c3⟩:=hP3.cells;go_wp2_with fail;refine m3.mono ?_;rintro e w4 ⟨rfl,ho4,hg4⟩
 have hL4:XS w4 base ((.slice pa pn pc,Ya k ps.length)::(.slice ta tn tc,Ya ((k+ps.length:Nat):Int) ts.length)::R) :=
  ((hL3.perm (List.Perm.swap _ _ _)).grow hg4 (show Yi w4 base _ _ from by unfold Yi;rw [YI];exact ho4) (fun g e=>.inl e)).perm (List.Perm.swap _ _ _)
 have hG4:=hG3.grown hg4 (fun g e=>.inr (.inl e));clear m3 hP3 hL3 hG3 hg4 ho4 c0 c1 c2 c3;go_wp2;go_ret;exact ⟨rfl,hL4,hG4⟩
def StT (vg vo:List Value) (v:Tv) (k:Nat):Prop:=RwS vg k\/RwS vo k\/v.ti.ownBlock=some k\/v.pp.ownBlock=some k\/v.pt.ownBlock=some k
theorem GrP.of_grv {u v:Value} {w w':World} (h:GrV u v w w'):GrP (fun k=>u.ownBlock=some k\/v.ownBlock=some k) w w' :=
 ⟨h.1,h.2.1,h.2.2.1,h.2.2.2.1,fun k hk ho=>h.2.2.2.2 k hk (fun e=>ho (.inl e)) (fun e=>ho (.inr e))⟩
theorem Q5 (t:Te) (v:Tv) (vg vo:List Value) (base:Nat) (w:World) (h:Y2 w base t v vg vo) (hbase:base<=w.heap.size) (hs1:Xx t.g t.g.length<=1048576) (hs2:Xx t.o t.o.length<=1048576) (hl1:t.g.length<=1048576) (hl2:t.o.length<=1048576) (hti:t.ti.length<=1048576) (hpp:t.pa.params.length<=1048576) (hpt:t.pa.text.length<=1048576) :
  Calls Tryz.prog 34 #[teV t v,.int .i64 1] w fun e w'=>e=.returned (.int .i64 ((1+mkN t:Nat):Int))/\Y2 w' base (mkT t) v vg vo/\GrP (StT vg vo v) w w':=by
 obtain ⟨xg,xo,vti,vpp,vpt⟩:=v;obtain ⟨hg,ho,hap,hL⟩:=h;simp only at hg ho hL hap;have cG:=fun B W (hW:XF W base B xg vg t.g)=>Q2 base B t.gc xg vg 1 t.g W hW (by decide) (by omega) (by omega)
 have cO:=fun B W (hW:XF W base B xo vo t.o)=>Q2 base B t.oc xo vo (1+7*Xx t.g t.g.length) t.o W hW (by omega) (by omega) (by omega)
 have cT:=fun W (hW:Yi W base vti t.ti)=>K3 base vti ((1+7*Xx t.g t.g.length+7*Xx t.o t.o.length:Nat):Int) t.ti.length _ W hW ⟨by omega,by omega⟩ (by omega)
 have cP:=fun W xs hW=>Q4 t.pa vpp vpt (1+7*Xx t.g t.g.length+7*Xx t.o t.o.length+t.ti.length) base [(vti,xs)] W hW
 obtain ⟨ga,gn,gp,hq1⟩:=Jc (SlG.of_own hg.g);obtain ⟨oa,on,op,hq2⟩:=Jc (SlG.of_own ho.g);obtain ⟨ta,tn,tp,hq3⟩:=hL.head.shape;obtain ⟨pa,pn,pp,hq4⟩:=hL.tail.head.shape;obtain ⟨qa,qn,qp,hq5⟩:=hL.tail.tail.head.shape;simp only at hq1 hq2 hq3 hq4 hq5;subst hq1;subst hq2;subst hq3;subst hq4;subst hq5;have hb0:=Xd w (Obj.cells (Xg t ⟨.slice ga gn gp,.slice oa on op,.slice ta tn tp,.slice pa pn pp,.slice qa qn qp⟩) 35);have hX:=TeB.new w 35 t ⟨.slice ga gn gp,.slice oa on op,.slice ta tn tp,.slice pa pn pp,.slice qa qn qp⟩;have hne:=fun (B:Nat) (W:World) (hW:TeB W B 35 t ⟨.slice ga gn gp,.slice oa on op,.slice ta tn tp,.slice pa pn pp,.slice qa qn qp⟩)=>hW
 obtain ⟨w1,hw1⟩:∃ w1,w1=w.alloc (Obj.cells (Xg t ⟨.slice ga gn gp,.slice oa on op,.slice ta tn tp,.slice pa pn pp,.slice qa qn qp⟩) 35):=⟨_,rfl⟩;rw [<- hw1] at hb0 hX
 replace hw1:=(show Hid _ from hw1);unfold teV Yp paV at *;have e1:Hid (1+7*Xx t.g t.g.length+7*Xx t.o t.o.length+t.ti.length+t.pa.params.length+t.pa.text.length=1+mkN t):=by show _=_;unfold mkN;omega
 have e2:Hid (((1+7*Xx t.g t.g.length+7*Xx t.o t.o.length:Nat):Int)+(t.ti.length:Int)=((1+7*Xx t.g t.g.length+7*Xx t.o t.o.length+t.ti.length:Nat):Int)):=by show _=_;omega
 simp only [e2.out] at cT;replace hg:=hg.below hb0;replace ho:=ho.below hb0;replace hL:=hL.below hb0;have kb:GrP (StT vg vo ⟨.slice ga gn gp,.slice oa on op,.slice ta tn tp,.slice pa pn pp,.slice qa qn qp⟩) w w1:=GrP.of_below hb0;clear hne;go_enter Tryz.func34,Tryz.ntmps34;refine wp_seq_k (fun K hK=>?_);have hH:=(show Hid _ from hK);clear hK;go_wp2;refine hH.out _ _ ?_;rw [<- hw1.out]
 clear hH hw1;obtain ⟨c0,c1,c2,c3,c4,c5,c6,c7,c8,c9,c10,c11,c12,c13,c14,c15,c16,c17,c18,c19,c20,c21,c22,c23,c24,c25,c26,c27,c28,c29⟩:=hX.cells;go_wp2_with fail;refine (cG _ _ hg).mono ?_;rintro e w2 ⟨rfl,hg2,hgr⟩;have nX:¬ RwS vg w.heap.size:=fun c=>YA hg hX (by decide) (by decide) (.inr c)
 replace ho:=ho.grp hgr (fun k hk c=>hap k (.inr c) hk);replace hL:=hL.grp hgr (fun p hp k e c=>YZ hg (hL.1 p hp) k e (.inr c));replace hX:TeB w2 _ _ t _:=Xj.grp hX hgr nX;replace kb:=kb.trans (hgr.mono (fun k _ c=>.inl c));clear c0 c1 c2 c3 c4 c5 c6 c7 c8 c9 c10 c11 c12 c13 c14 c15 c16 c17 c18 c19 c20 c21 c22 c23 c24 c25 c26 c27 c28 c29;clear hgr cG hg nX;obtain ⟨c0,c1,c2,c3,c4,c5,c6,c7,c8,c9,c10,c11,c12,c13,c14,c15,c16,c17,c18,c19,c20,c21,c22,c23,c24,c25,c26,c27,c28,c29⟩:=hX.cells;go_wp2_with fail;refine (cO _ _ ho).mono ?_;rintro e w3 ⟨rfl,ho2,hgr⟩;have nX:¬ RwS vo w.heap.size:=fun c=>YA ho hX (by decide) (by decide) (.inr c)
 replace hg2:=hg2.grp hgr (fun k hk c=>hap k hk (.inr c));replace hL:=hL.grp hgr (fun p hp k e c=>YZ ho (hL.1 p hp) k e (.inr c));replace hX:TeB w3 _ _ t _:=Xj.grp hX hgr nX;replace kb:=kb.trans (hgr.mono (fun k _ c=>.inr (.inl c)));clear c0 c1 c2 c3 c4 c5 c6 c7 c8 c9 c10 c11 c12 c13 c14 c15 c16 c17 c18 c19 c20 c21 c22 c23 c24 c25 c26 c27 c28 c29;clear hgr cO ho nX;obtain ⟨c0,c1,c2,c3,c4,c5,c6,c7,c8,c9,c10,c11,c12,c13,c14,c15,c16,c17,c18,c19,c20,c21,c22,c23,c24,c25,c26,c27,c28,c29⟩:=hX.cells;go_wp2_with fail;refine (cT _ hL.head).mono ?_;rintro e w4 ⟨rfl,hti4,hgr⟩;have hL4:XS w4 base _:=hL.grow hgr (show Yi w4 base (.slice ta tn tp) (Ya ((1+7*Xx t.g t.g.length+7*Xx t.o t.o.length:Nat):Int) t.ti.length) from by unfold Yi;rw [YI];exact hti4) (fun g e=>.inl e);have hgp:GrP (fun k=>Value.ownBlock (.slice ta tn tp)=some k) w3 w4:=GrP.of_grown hgr (fun g e=>e);replace hX:TeB w4 _ _ t _:=hX.kept hgr (hL.head.not_block hX (by decide));replace kb:=kb.trans (hgp.mono (fun k _ c=>.inr (.inr (.inl c))));replace hg2:=hg2.grp hgp (fun k hk c=>YZ hg2 hL.head k c hk);replace ho2:=ho2.grp hgp (fun k hk c=>YZ ho2 hL.head k c hk);clear c0 c1 c2 c3 c4 c5 c6 c7 c8 c9 c10 c11 c12 c13 c14 c15 c16 c17 c18 c19 c20 c21 c22 c23 c24 c25 c26 c27 c28 c29;clear hgr hgp cT hL hti4;obtain ⟨c0,c1,c2,c3,c4,c5,c6,c7,c8,c9,c10,c11,c12,c13,c14,c15,c16,c17,c18,c19,c20,c21,c22,c23,c24,c25,c26,c27,c28,c29⟩:=hX.cells;have hP:=cP w4 _ (hL4.perm (by exact (List.perm_append_comm (l₁:=[_]) (l₂:=[_,_])))) (by have:=kb.size;omega) (by omega) (by omega) (by omega);rw [e1.out] at hP
 go_wp2_with fail;refine hP.mono ?_;rintro e w5 ⟨rfl,hL5,hgv⟩;have hgp:=GrP.of_grv hgv;replace hg2:=hg2.grp hgp (fun k hk c=>c.elim (fun c=>YZ hg2 hL4.tail.head k c hk) (fun c=>YZ hg2 hL4.tail.tail.head k c hk));replace ho2:=ho2.grp hgp (fun k hk c=>c.elim (fun c=>YZ ho2 hL4.tail.head k c hk) (fun c=>YZ ho2 hL4.tail.tail.head k c hk));have ks:=kb.size;have ks5:=hgp.size;replace kb:=kb.trans (hgp.mono (fun k _ c=>c.elim (fun c=>.inr (.inr (.inr (.inl c)))) (fun c=>.inr (.inr (.inr (.inr c))))));have hfin:Y2 w5 base (mkT t) ⟨.slice ga gn gp,.slice oa on op,.slice ta tn tp,.slice pa pn pp,.slice qa qn qp⟩ vg vo:=⟨hg2.up (by have:=hb0.size;omega),ho2.up (by have:=hb0.size;omega),hap,hL5.perm (by exact (List.perm_append_comm (l₁:=[_,_]) (l₂:=[_])))⟩;clear c0 c1 c2 c3 c4 c5 c6 c7 c8 c9 c10 c11 c12 c13 c14 c15 c16 c17 c18 c19 c20 c21 c22 c23 c24 c25 c26 c27 c28 c29;clear hgv hgp hL4 hL5 hP hg2 ho2 hX ks ks5;go_wp2;go_ret;exact ⟨rfl,hfin,kb⟩
theorem StT.not {w:World} {base:Nat} {t:Te} {v:Tv} {vg vo:List Value} (h:Y2 w base t v vg vo) {B:Nat} {cs:Array Value} {T:TypeId} (hB:w.heap[B]?=some (.cells cs T (0,0))) (h1:T≠146) (h2:T≠2):¬ StT vg vo v B:=fun c=>by
 rcases c with c|c|c|c|c
 ·obtain ⟨cs',hc⟩:=c.blk h.1;exact Xa9 hB hc h1
 ·obtain ⟨cs',hc⟩:=c.blk h.2.1;exact Xa9 hB hc h1
 ·exact (h.2.2.2.head.not_block hB h2) c
 ·exact (h.2.2.2.tail.head.not_block hB h2) c
 ·exact (h.2.2.2.tail.tail.head.not_block hB h2) c
theorem StT.bd {w:World} {base:Nat} {t:Te} {v:Tv} {vg vo:List Value} (h:Y2 w base t v vg vo) {k:Nat} (c:StT vg vo v k):base<=k/\k<w.heap.size:=by
 rcases c with c|c|c|c|c
 ·exact c.bd h.1
 ·exact c.bd h.2.1
 ·exact h.2.2.2.head.lt k c
 ·exact h.2.2.2.tail.head.lt k c
 ·exact h.2.2.2.tail.tail.head.lt k c
theorem Y2.grp {S:Nat->Prop} {w w':World} {base:Nat} {t:Te} {v:Tv} {vg vo:List Value} (h:Y2 w base t v vg vo) (hg:GrP S w w') (hS:∀ k,S k->k<base):Y2 w' base t v vg vo :=
 ⟨(h.1.grp hg (fun k hk c=>by have:=GrS.bd h.1 hk;have:=hS k c;omega)).up hg.size,(h.2.1.grp hg (fun k hk c=>by have:=GrS.bd h.2.1 hk;have:=hS k c;omega)).up hg.size,h.2.2.1,
  h.2.2.2.grp hg (fun p hp g e c=>by have:=(h.2.2.2.1 p hp).lt g e;have:=hS g c;omega)⟩
