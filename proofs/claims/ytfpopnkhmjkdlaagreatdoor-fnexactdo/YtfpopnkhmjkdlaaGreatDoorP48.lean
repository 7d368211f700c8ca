import Derived.Test.YtfpopnkhmjkdlaaGreatDoorP44
import Derived.Test.YtfpopnkhmjkdlaaGreatDoorP45
import Derived.Test.YtfpopnkhmjkdlaaGreatDoorP46
import Derived.Test.YtfpopnkhmjkdlaaGreatDoorP47
set_option maxRecDepth 20000
set_option maxHeartbeats 16000000
set_option linter.unusedVariables false
namespace Go.Proofs.YtfpopnkhmjkdlaaGreatDoor
open Go.ChangeShapes Go.WideShapes Go.ChangeAt Go.RowKit
theorem Xcr (cn N base B:Nat) (t:Te) (v:Tv) (vg vo:List Value) (w:World) (h:Scr w 35 base B [] t v vg vo) (hbase:base<=w.heap.size) (rk:RtK t cn N) (r:Int) :
  Calls Tryz.prog 141 #[.pointer (some ⟨B,0,none⟩),.int .i64 r] w fun e w'=>e=.returned (.tuple #[])/\∃ v' vg' vo',Res w w' 35 base B [] v vg vo (XJ t r) v' vg' vo':=by
 have hwb:=XG r;have hwd:=sWa r w;have c0:w.cell? ⟨B,0,none⟩=some (.int .i64 t.gc):=h.cell 0
 by_cases hz:wdV r=0
 ·have hV:XJ t r=t:=by unfold XJ;rw [if_pos (.inl hz)]
  rw [hV]
  rw [hz] at hwd
  have hr:=h.res;replace hr:=(show Hid _ from hr);clear hV h rk hbase hwb hz;go_enter Tryz.func141,Tryz.ntmps141;go_wp2_with fail;refine hwd.mono ?_;rintro e wk ⟨rfl,hk⟩;replace hk:=hk.symm;subst hk;go_wp2;exact bodyPost_ret (results_none rfl _ _ _) rfl ⟨rfl,_,_,_,hr.out⟩
 by_cases hg:t.gc<wdV r
 ·have hV:XJ t r=t:=by unfold XJ;rw [if_pos (.inr hg)]
  rw [hV]
  obtain ⟨wd,hwde⟩:∃ wd,Hid (wdV r=wd):=⟨_,rfl⟩;rw [hwde.out] at hwd hz hg
  have q0:(wd==0)=false:=by simp;omega
  have hr:=h.res;replace hr:=(show Hid _ from hr);clear hV h rk hbase hwb;go_enter Tryz.func141,Tryz.ntmps141;go_wp2_with fail;refine hwd.mono ?_;rintro e wk ⟨rfl,hk⟩;replace hk:=hk.symm;subst hk;go_wp2;exact bodyPost_ret (results_none rfl _ _ _) rfl ⟨rfl,_,_,_,hr.out⟩
 clear hwd c0;have hw1:1<=wdV r:=by omega
 have hw2:wdV r<=t.gc:=by omega
 cases hf:t.full with
 | true =>
  cases hwr:t.wrap with
  | true =>
   by_cases he:t.gc<=0+wdV r
   ·exact Xdu cn N base B t v vg vo w h hbase rk r hw1 hw2 hf hwr he
   ·exact Xdt cn N base B t v vg vo w h hbase rk r hw1 hw2 hf hwr he
  | false =>
   by_cases hov:t.gc<t.col+wdV r
   ·exact Xdy cn N base B t v vg vo w h hbase rk r hw1 hw2 hf hwr hov
   ·by_cases he:t.gc<=t.col+wdV r
    ·exact Xcq cn N base B t v vg vo w h hbase rk r hw1 hw2 hf hwr hov he
    ·exact Xcp cn N base B t v vg vo w h hbase rk r hw1 hw2 hf hwr hov he
 | false =>
  by_cases hov:t.gc<t.col+wdV r
  ·cases hwr:t.wrap with
   | true =>
    by_cases he:t.gc<=0+wdV r
    ·exact Xdw cn N base B t v vg vo w h hbase rk r hw1 hw2 hf hwr hov he
    ·exact Xdv cn N base B t v vg vo w h hbase rk r hw1 hw2 hf hwr hov he
   | false=>exact Xdx cn N base B t v vg vo w h hbase rk r hw1 hw2 hf hwr hov
  ·by_cases he:t.gc<=t.col+wdV r
   ·exact Xco cn N base B t v vg vo w h hbase rk r hw1 hw2 hf hov he
   ·exact Xcn cn N base B t v vg vo w h hbase rk r hw1 hw2 hf hov he
theorem XhQ (cn N base B:Nat) (pv x:Value) (ps:List Int) (r m:Int) (t:Te) (v:Tv) (vg vo:List Value) (w:World) (h:Scr w 35 base B [] t v vg vo) (hbase:base<=w.heap.size) (rk:RtK t cn N) (hp:SlN w pv ps) (hl:ps.length<=1000) (hap:ApF w B v vg vo pv) (hb:∀ y∈ps,0<=y/\y<=9999) (hxs:∃ a n c,x=.slice a n c) :
  Calls Tryz.prog 62 #[.pointer (some ⟨B,0,none⟩),.agg (acA 1 r pv m x)] w fun e w'=>e=.returned (.tuple #[])/\∃ v' vg' vo',Res w w' 35 base B [] v vg vo (XJ t r) v' vg' vo':=by
 obtain ⟨xa,xn,xc,rfl⟩:=hxs;obtain ⟨W,hW⟩:∃ W,Hid (W=w.alloc (Obj.cells #[.int .i64 1,.int .i64 r,pv,.int .i64 m,.slice xa xn xc] 37)):=⟨_,rfl⟩;have hb0:Below w.heap.size w W:=by rw [hW.out];exact Xd _ _
 have hof:=Res.of_below h hb0;have hbw:=Nat.le_trans hbase hb0.size;have hpW:=hp.below hb0;have haW:=hap.mono hb0.size;have rt:=rk.w;have hcl:=Xcr cn N base B t v vg vo W hof.s hbw rk r;obtain ⟨pa,pn,pc,rfl⟩:∃ a n c,pv=.slice a n c:=by obtain ⟨a,c,e⟩:=hp.shp;exact ⟨a,_,c,e⟩
 replace hof:=(show Hid _ from hof);clear h hbase rk hp hap hbw hpW haW rt hb0 hb;unfold acA;go_enter Tryz.func62,Tryz.ntmps62;go_wp2_with fail;rw [<- hW.out]
 refine hcl.mono ?_;rintro e w2 ⟨rfl,v2,g2,o2,hR⟩;have hF:=(show Hid _ from hof.out.trans hR);clear hcl hR hof;go_wp2;refine be ?_;exact ⟨rfl,_,_,_,hF.out⟩
theorem XhR (cn N base B:Nat) (pv x:Value) (ps:List Int) (r m:Int) (t:Te) (v:Tv) (vg vo:List Value) (w:World) (h:Scr w 35 base B [] t v vg vo) (hbase:base<=w.heap.size) (rk:RtK t cn N) (hp:SlN w pv ps) (hl:ps.length<=1000) (hap:ApF w B v vg vo pv) (hb:∀ y∈ps,0<=y/\y<=9999) (hxs:∃ a n c,x=.slice a n c) :
  Calls Tryz.prog 62 #[.pointer (some ⟨B,0,none⟩),.agg (acA 2 r pv m x)] w fun e w'=>e=.returned (.tuple #[])/\∃ v' vg' vo',Res w w' 35 base B [] v vg vo (XL t r) v' vg' vo':=by
 obtain ⟨xa,xn,xc,rfl⟩:=hxs;obtain ⟨W,hW⟩:∃ W,Hid (W=w.alloc (Obj.cells #[.int .i64 2,.int .i64 r,pv,.int .i64 m,.slice xa xn xc] 37)):=⟨_,rfl⟩;have hb0:Below w.heap.size w W:=by rw [hW.out];exact Xd _ _
 have hof:=Res.of_below h hb0;have hbw:=Nat.le_trans hbase hb0.size;have hpW:=hp.below hb0;have haW:=hap.mono hb0.size;have rt:=rk.w;have hcl:=XaE cn N base B t v vg vo W hof.s hbw rt r;obtain ⟨pa,pn,pc,rfl⟩:∃ a n c,pv=.slice a n c:=by obtain ⟨a,c,e⟩:=hp.shp;exact ⟨a,_,c,e⟩
 replace hof:=(show Hid _ from hof);clear h hbase rk hp hap hbw hpW haW rt hb0 hb;unfold acA;go_enter Tryz.func62,Tryz.ntmps62;go_wp2_with fail;rw [<- hW.out]
 refine hcl.mono ?_;rintro e w2 ⟨rfl,v2,g2,o2,hR⟩;have hF:=(show Hid _ from hof.out.trans hR);clear hcl hR hof;go_wp2;refine be ?_;exact ⟨rfl,_,_,_,hF.out⟩
theorem XhS (cn N base B:Nat) (pv x:Value) (ps:List Int) (r m:Int) (t:Te) (v:Tv) (vg vo:List Value) (w:World) (h:Scr w 35 base B [] t v vg vo) (hbase:base<=w.heap.size) (rk:RtK t cn N) (hp:SlN w pv ps) (hl:ps.length<=1000) (hap:ApF w B v vg vo pv) (hb:∀ y∈ps,0<=y/\y<=9999) (hxs:∃ a n c,x=.slice a n c) :
  Calls Tryz.prog 62 #[.pointer (some ⟨B,0,none⟩),.agg (acA 3 r pv m x)] w fun e w'=>e=.returned (.tuple #[])/\∃ v' vg' vo',Res w w' 35 base B [] v vg vo (X2 t r) v' vg' vo':=by
 obtain ⟨xa,xn,xc,rfl⟩:=hxs;obtain ⟨W,hW⟩:∃ W,Hid (W=w.alloc (Obj.cells #[.int .i64 3,.int .i64 r,pv,.int .i64 m,.slice xa xn xc] 37)):=⟨_,rfl⟩;have hb0:Below w.heap.size w W:=by rw [hW.out];exact Xd _ _
 have hof:=Res.of_below h hb0;have hbw:=Nat.le_trans hbase hb0.size;have hpW:=hp.below hb0;have haW:=hap.mono hb0.size;have rt:=rk.w;have hcl:=XbC cn N base B t v vg vo W hof.s hbw rt r;obtain ⟨pa,pn,pc,rfl⟩:∃ a n c,pv=.slice a n c:=by obtain ⟨a,c,e⟩:=hp.shp;exact ⟨a,_,c,e⟩
 replace hof:=(show Hid _ from hof);clear h hbase rk hp hap hbw hpW haW rt hb0 hb;unfold acA;go_enter Tryz.func62,Tryz.ntmps62;go_wp2_with fail;rw [<- hW.out]
 refine hcl.mono ?_;rintro e w2 ⟨rfl,v2,g2,o2,hR⟩;have hF:=(show Hid _ from hof.out.trans hR);clear hcl hR hof;go_wp2;refine be ?_;exact ⟨rfl,_,_,_,hF.out⟩
theorem Xhh (cn N base B:Nat) (pv x:Value) (ps:List Int) (r m:Int) (t:Te) (v:Tv) (vg vo:List Value) (w:World) (h:Scr w 35 base B [] t v vg vo) (hbase:base<=w.heap.size) (rk:RtK t cn N) (hp:SlN w pv ps) (hl:ps.length<=1000) (hap:ApF w B v vg vo pv) (hb:∀ y∈ps,0<=y/\y<=9999) (hxs:∃ a n c,x=.slice a n c) (hm:m=0) :
  Calls Tryz.prog 62 #[.pointer (some ⟨B,0,none⟩),.agg (acA 4 r pv m x)] w fun e w'=>e=.returned (.tuple #[])/\∃ v' vg' vo',Res w w' 35 base B [] v vg vo (Xi t r ps) v' vg' vo':=by
 obtain ⟨xa,xn,xc,rfl⟩:=hxs;obtain ⟨W,hW⟩:∃ W,Hid (W=w.alloc (Obj.cells #[.int .i64 4,.int .i64 r,pv,.int .i64 m,.slice xa xn xc] 37)):=⟨_,rfl⟩;have hb0:Below w.heap.size w W:=by rw [hW.out];exact Xd _ _
 have hof:=Res.of_below h hb0;have hbw:=Nat.le_trans hbase hb0.size;have hpW:=hp.below hb0;have haW:=hap.mono hb0.size;have rt:=rk.w;have hcl:=XdD cn N base B pv ps t v vg vo W hof.s hbw rt hpW hl haW hb r;obtain ⟨pa,pn,pc,rfl⟩:∃ a n c,pv=.slice a n c:=by obtain ⟨a,c,e⟩:=hp.shp;exact ⟨a,_,c,e⟩
 replace hof:=(show Hid _ from hof);clear h hbase rk hp hap hbw hpW haW rt hb0 hb;subst hm;unfold acA;go_enter Tryz.func62,Tryz.ntmps62;go_wp2_with fail;rw [<- hW.out]
 refine hcl.mono ?_;rintro e w2 ⟨rfl,v2,g2,o2,hR⟩;have hF:=(show Hid _ from hof.out.trans hR);clear hcl hR hof;go_wp2;refine be ?_;exact ⟨rfl,_,_,_,hF.out⟩
theorem Xhe (cn N base B:Nat) (pv x:Value) (ps:List Int) (r m:Int) (t:Te) (v:Tv) (vg vo:List Value) (w:World) (h:Scr w 35 base B [] t v vg vo) (hbase:base<=w.heap.size) (rk:RtK t cn N) (hp:SlN w pv ps) (hl:ps.length<=1000) (hap:ApF w B v vg vo pv) (hb:∀ y∈ps,0<=y/\y<=9999) (hxs:∃ a n c,x=.slice a n c) (hm:¬ m=0) (hr:r=104) :
  Calls Tryz.prog 62 #[.pointer (some ⟨B,0,none⟩),.agg (acA 4 r pv m x)] w fun e w'=>e=.returned (.tuple #[])/\∃ v' vg' vo',Res w w' 35 base B [] v vg vo (ps.foldl (XA true) t) v' vg' vo':=by
 obtain ⟨xa,xn,xc,rfl⟩:=hxs;obtain ⟨W,hW⟩:∃ W,Hid (W=w.alloc (Obj.cells #[.int .i64 4,.int .i64 r,pv,.int .i64 m,.slice xa xn xc] 37)):=⟨_,rfl⟩;have hb0:Below w.heap.size w W:=by rw [hW.out];exact Xd _ _
 have hof:=Res.of_below h hb0;have hbw:=Nat.le_trans hbase hb0.size;have hpW:=hp.below hb0;have haW:=hap.mono hb0.size;have rt:=rk.w;have hcl:=QZ cn N base B pv ps true t v vg vo W hof.s hbw rk hpW hl haW;obtain ⟨pa,pn,pc,rfl⟩:∃ a n c,pv=.slice a n c:=by obtain ⟨a,c,e⟩:=hp.shp;exact ⟨a,_,c,e⟩
 replace hof:=(show Hid _ from hof);clear h hbase rk hp hap hbw hpW haW rt hb0 hb;subst hr;have qm:(m==0)=false:=by simp [hm]
 unfold acA;go_enter Tryz.func62,Tryz.ntmps62;go_wp2_with fail;rw [<- hW.out]
 refine hcl.mono ?_;rintro e w2 ⟨rfl,v2,g2,o2,hR⟩;have hF:=(show Hid _ from hof.out.trans hR);clear hcl hR hof;go_wp2;refine be ?_;exact ⟨rfl,_,_,_,hF.out⟩
theorem Xhf (cn N base B:Nat) (pv x:Value) (ps:List Int) (r m:Int) (t:Te) (v:Tv) (vg vo:List Value) (w:World) (h:Scr w 35 base B [] t v vg vo) (hbase:base<=w.heap.size) (rk:RtK t cn N) (hp:SlN w pv ps) (hl:ps.length<=1000) (hap:ApF w B v vg vo pv) (hb:∀ y∈ps,0<=y/\y<=9999) (hxs:∃ a n c,x=.slice a n c) (hm:¬ m=0) (hr:r=108) :
  Calls Tryz.prog 62 #[.pointer (some ⟨B,0,none⟩),.agg (acA 4 r pv m x)] w fun e w'=>e=.returned (.tuple #[])/\∃ v' vg' vo',Res w w' 35 base B [] v vg vo (ps.foldl (XA false) t) v' vg' vo':=by
 obtain ⟨xa,xn,xc,rfl⟩:=hxs;obtain ⟨W,hW⟩:∃ W,Hid (W=w.alloc (Obj.cells #[.int .i64 4,.int .i64 r,pv,.int .i64 m,.slice xa xn xc] 37)):=⟨_,rfl⟩;have hb0:Below w.heap.size w W:=by rw [hW.out];exact Xd _ _
 have hof:=Res.of_below h hb0;have hbw:=Nat.le_trans hbase hb0.size;have hpW:=hp.below hb0;have haW:=hap.mono hb0.size;have rt:=rk.w;have hcl:=QZ cn N base B pv ps false t v vg vo W hof.s hbw rk hpW hl haW;obtain ⟨pa,pn,pc,rfl⟩:∃ a n c,pv=.slice a n c:=by obtain ⟨a,c,e⟩:=hp.shp;exact ⟨a,_,c,e⟩
 replace hof:=(show Hid _ from hof);clear h hbase rk hp hap hbw hpW haW rt hb0 hb;subst hr;have qm:(m==0)=false:=by simp [hm]
 unfold acA;go_enter Tryz.func62,Tryz.ntmps62;go_wp2_with fail;rw [<- hW.out]
 refine hcl.mono ?_;rintro e w2 ⟨rfl,v2,g2,o2,hR⟩;have hF:=(show Hid _ from hof.out.trans hR);clear hcl hR hof;go_wp2;refine be ?_;exact ⟨rfl,_,_,_,hF.out⟩
theorem Xhg (cn N base B:Nat) (pv x:Value) (ps:List Int) (r m:Int) (t:Te) (v:Tv) (vg vo:List Value) (w:World) (h:Scr w 35 base B [] t v vg vo) (hbase:base<=w.heap.size) (rk:RtK t cn N) (hp:SlN w pv ps) (hl:ps.length<=1000) (hap:ApF w B v vg vo pv) (hb:∀ y∈ps,0<=y/\y<=9999) (hxs:∃ a n c,x=.slice a n c) (hm:¬ m=0) (h1:¬ r=104) (h2:¬ r=108) :
  Calls Tryz.prog 62 #[.pointer (some ⟨B,0,none⟩),.agg (acA 4 r pv m x)] w fun e w'=>e=.returned (.tuple #[])/\∃ v' vg' vo',Res w w' 35 base B [] v vg vo t v' vg' vo':=by
 obtain ⟨xa,xn,xc,rfl⟩:=hxs;obtain ⟨W,hW⟩:∃ W,Hid (W=w.alloc (Obj.cells #[.int .i64 4,.int .i64 r,pv,.int .i64 m,.slice xa xn xc] 37)):=⟨_,rfl⟩;have hb0:Below w.heap.size w W:=by rw [hW.out];exact Xd _ _
 have hof:=Res.of_below h hb0;have hbw:=Nat.le_trans hbase hb0.size;have hpW:=hp.below hb0;have haW:=hap.mono hb0.size;have rt:=rk.w;obtain ⟨pa,pn,pc,rfl⟩:∃ a n c,pv=.slice a n c:=by obtain ⟨a,c,e⟩:=hp.shp;exact ⟨a,_,c,e⟩
 replace hof:=(show Hid _ from hof);clear h hbase rk hp hap hbw hpW haW rt hb0 hb;have qm:(m==0)=false:=by simp [hm]
 have q1:(r==104)=false:=by simp [h1]
 have q2:(r==108)=false:=by simp [h2]
 unfold acA;go_enter Tryz.func62,Tryz.ntmps62;go_wp2;rw [<- hW.out]
 refine be ?_;exact ⟨rfl,_,_,_,hof.out⟩
theorem XeO (cn N base B:Nat) (pv x:Value) (ps:List Int) (r m:Int) (t:Te) (v:Tv) (vg vo:List Value) (w:World) (h:Scr w 35 base B [] t v vg vo) (hbase:base<=w.heap.size) (rk:RtK t cn N) (hp:SlN w pv ps) (hl:ps.length<=1000) (hap:ApF w B v vg vo pv) (hb:∀ y∈ps,0<=y/\y<=9999) (hxs:∃ a n c,x=.slice a n c) (k:Int) (n1:¬ k=1) (n2:¬ k=2) (n3:¬ k=3) (n4:¬ k=4) (n5:¬ k=5) :
  Calls Tryz.prog 62 #[.pointer (some ⟨B,0,none⟩),.agg (acA k r pv m x)] w fun e w'=>e=.returned (.tuple #[])/\∃ v' vg' vo',Res w w' 35 base B [] v vg vo t v' vg' vo':=by
 obtain ⟨xa,xn,xc,rfl⟩:=hxs;obtain ⟨W,hW⟩:∃ W,Hid (W=w.alloc (Obj.cells #[.int .i64 k,.int .i64 r,pv,.int .i64 m,.slice xa xn xc] 37)):=⟨_,rfl⟩;have hb0:Below w.heap.size w W:=by rw [hW.out];exact Xd _ _
 have hof:=Res.of_below h hb0;have hbw:=Nat.le_trans hbase hb0.size;have hpW:=hp.below hb0;have haW:=hap.mono hb0.size;have rt:=rk.w;obtain ⟨pa,pn,pc,rfl⟩:∃ a n c,pv=.slice a n c:=by obtain ⟨a,c,e⟩:=hp.shp;exact ⟨a,_,c,e⟩
 replace hof:=(show Hid _ from hof);clear h hbase rk hp hap hbw hpW haW rt hb0 hb;have q1:(k==1)=false:=by simp [n1]
 have q2:(k==2)=false:=by simp [n2]
 have q3:(k==3)=false:=by simp [n3]
 have q4:(k==4)=false:=by simp [n4]
 have q5:(k==5)=false:=by simp [n5]
 unfold acA;go_enter Tryz.func62,Tryz.ntmps62;go_wp2;rw [<- hW.out]
 refine be ?_;exact ⟨rfl,_,_,_,hof.out⟩
theorem Xgx (cn N base B:Nat) (pv x:Value) (ps:List Int) (r m:Int) (t:Te) (v:Tv) (vg vo:List Value) (w:World) (h:Scr w 35 base B [] t v vg vo) (hbase:base<=w.heap.size) (rk:RtK t cn N) (hp:SlN w pv ps) (hl:ps.length<=1000) (hap:ApF w B v vg vo pv) (hb:∀ y∈ps,0<=y/\y<=9999) (xs:List Int) (hx:SlN w x xs) (hxl:xs.length<=1000) (k:Int) :
  Calls Tryz.prog 62 #[.pointer (some ⟨B,0,none⟩),.agg (acA k r pv m x)] w fun e w'=>e=.returned (.tuple #[])/\∃ v' vg' vo',Res w w' 35 base B [] v vg vo (doT t ⟨k,r,ps,m,xs⟩) v' vg' vo':=by
 have hxs:∃ a n c,x=.slice a n c:=by obtain ⟨a,c,e⟩:=hx.shp;exact ⟨a,_,c,e⟩
 by_cases n1:k=1
 ·subst n1;exact XhQ cn N base B pv x ps r m t v vg vo w h hbase rk hp hl hap hb hxs
 by_cases n2:k=2
 ·subst n2;exact XhR cn N base B pv x ps r m t v vg vo w h hbase rk hp hl hap hb hxs
 by_cases n3:k=3
 ·subst n3;exact XhS cn N base B pv x ps r m t v vg vo w h hbase rk hp hl hap hb hxs
 by_cases n4:k=4
 ·subst n4
  by_cases hm:m=0
  ·have hV:doT t ⟨4,r,ps,m,xs⟩=Xi t r ps:=by simp [doT,hm]
   rw [hV];exact Xhh cn N base B pv x ps r m t v vg vo w h hbase rk hp hl hap hb hxs hm
  ·by_cases h1:r=104
   ·have hV:doT t ⟨4,r,ps,m,xs⟩=ps.foldl (XA true) t:=by simp [doT,hm,h1]
    rw [hV];exact Xhe cn N base B pv x ps r m t v vg vo w h hbase rk hp hl hap hb hxs hm h1
   ·by_cases h2:r=108
    ·have hV:doT t ⟨4,r,ps,m,xs⟩=ps.foldl (XA false) t:=by simp [doT,hm,h2]
     rw [hV];exact Xhf cn N base B pv x ps r m t v vg vo w h hbase rk hp hl hap hb hxs hm h2
    ·have hV:doT t ⟨4,r,ps,m,xs⟩=t:=by simp [doT,hm,h1,h2]
     rw [hV];exact Xhg cn N base B pv x ps r m t v vg vo w h hbase rk hp hl hap hb hxs hm h1 h2
 by_cases n5:k=5
 ·subst n5;exact XhT cn N base B pv x ps r m t v vg vo w h hbase rk hp hl hap hb xs hx hxl
 have hV:doT t ⟨k,r,ps,m,xs⟩=t:=by simp [doT,n1,n2,n3,n4,n5]
 rw [hV];exact XeO cn N base B pv x ps r m t v vg vo w h hbase rk hp hl hap hb hxs k n1 n2 n3 n4 n5
theorem XdY (t:Te) (v:Tv) (a:Ac) (pv x:Value) (w:World) (h:SlT w t v) (hz:SzT 1048576 t) (hp:SlN w pv a.params) (hx:SlN w x a.text) (hl:a.params.length<=1048576) (ht:a.text.length<=1048576) (hpb:∀ g,pv.ownBlock=some g->g<w.heap.size) :
  Calls Tryz.prog 17 #[.agg (Xg t v),.agg (acA a.kind a.rune pv a.mark x)] w fun e w'=>∃ v' vg vo,e=.returned (.agg (Xg (doR t a) v'))/\Y2 w' w.heap.size (doR t a) v' vg vo/\Below w.heap.size w w':=by
 obtain ⟨Rt,eR⟩:∃ R,Hid (doR t a=R):=⟨_,rfl⟩;rw [eR.out]
 obtain ⟨w3,hw3⟩:∃ w3,w3=((w.alloc (Obj.cells (Xg t v) 35)).alloc (Obj.cells (acA a.kind a.rune pv a.mark x) 37)).alloc (Obj.cells #[.int .i64 0,.slice none 0 0,.int .i64 0,.slice none 0 0,.int .i64 0,.int .i64 0,.int .i64 0,.int .i64 0,.bool false,.bool false,.bool false,.int .i64 0,.int .i64 0,.bool false,.bool false,.bool false,.bool false,.int .i64 0,.int .i64 0,.int .i64 0,.int .i64 0,.bool false,.bool false,.bool false,.slice none 0 0,.int .i64 0,.slice none 0 0,.int .i64 0,.slice none 0 0,.string ⟨#[]⟩] 35):=⟨_,rfl⟩;have b1:=Xd w (Obj.cells (Xg t v) 35);have b2:=Xd (w.alloc (Obj.cells (Xg t v) 35)) (Obj.cells (acA a.kind a.rune pv a.mark x) 37);have b3:=Xd ((w.alloc (Obj.cells (Xg t v) 35)).alloc (Obj.cells (acA a.kind a.rune pv a.mark x) 37)) (Obj.cells #[.int .i64 0,.slice none 0 0,.int .i64 0,.slice none 0 0,.int .i64 0,.int .i64 0,.int .i64 0,.int .i64 0,.bool false,.bool false,.bool false,.int .i64 0,.int .i64 0,.bool false,.bool false,.bool false,.bool false,.int .i64 0,.int .i64 0,.int .i64 0,.int .i64 0,.bool false,.bool false,.bool false,.slice none 0 0,.int .i64 0,.slice none 0 0,.int .i64 0,.slice none 0 0,.string ⟨#[]⟩] 35);have hX:=((TeB.new w 35 t v).below b2).below b3;have hA:=Xj.below (Xj.new (w.alloc (Obj.cells (Xg t v) 35)) 37 (acA a.kind a.rune pv a.mark x).toList) b3;have hR:=TB.new ((w.alloc (Obj.cells (Xg t v) 35)).alloc (Obj.cells (acA a.kind a.rune pv a.mark x) 37)) [.int .i64 0,.slice none 0 0,.int .i64 0,.slice none 0 0,.int .i64 0,.int .i64 0,.int .i64 0,.int .i64 0,.bool false,.bool false,.bool false,.int .i64 0,.int .i64 0,.bool false,.bool false,.bool false,.bool false,.int .i64 0,.int .i64 0,.int .i64 0,.int .i64 0,.bool false,.bool false,.bool false,.slice none 0 0,.int .i64 0,.slice none 0 0,.int .i64 0,.slice none 0 0,.string ⟨#[]⟩];have z1:(w.alloc (Obj.cells (Xg t v) 35)).heap.size=w.heap.size+1:=by simp
 have z2:((w.alloc (Obj.cells (Xg t v) 35)).alloc (Obj.cells (acA a.kind a.rune pv a.mark x) 37)).heap.size=w.heap.size+2:=by simp
 have kb:=(b1.trans (b2.mono b1.size)).trans (b3.mono (b1.trans (b2.mono b1.size)).size);rw [z1] at hA
 rw [z2] at hR
 rw [<- hw3] at kb
 replace hX:TeB w3 w.heap.size 35 t v:=by rw [hw3];exact hX
 replace hA:Xj w3 (w.heap.size+1) 37 [.int .i64 a.kind,.int .i64 a.rune,pv,.int .i64 a.mark,x]:=by rw [hw3];exact hA
 replace hR:TB w3 (w.heap.size+2) [.int .i64 0,.slice none 0 0,.int .i64 0,.slice none 0 0,.int .i64 0,.int .i64 0,.int .i64 0,.int .i64 0,.bool false,.bool false,.bool false,.int .i64 0,.int .i64 0,.bool false,.bool false,.bool false,.bool false,.int .i64 0,.int .i64 0,.int .i64 0,.int .i64 0,.bool false,.bool false,.bool false,.slice none 0 0,.int .i64 0,.slice none 0 0,.int .i64 0,.slice none 0 0,.string ⟨#[]⟩]:=by rw [hw3];exact hR
 replace hw3:=(show Hid _ from hw3);have hT:=Xai t v w3 (h.below kb) hz;obtain ⟨bT,eT⟩:∃ b,Hid (Xk t=b):=⟨_,rfl⟩;rw [eT.out] at hT
 unfold teV at hT;unfold acA at hw3 ⊢
 clear b1 b2 b3 z1 z2;go_enter Tryz.func17,Tryz.ntmps17;refine wp_seq_k (fun K hK=>?_);have hH:=(show Hid _ from hK);clear hK;go_wp2;refine hH.out _ _ ?_;rw [<- hw3.out]
 clear hH hw3;go_wp2_with (refine Yk hX (by rfl) _ (by rfl) (by rfl) ?_);refine hT.mono ?_;rintro e w4 ⟨rfl,hb⟩;clear hT;replace kb:=kb.trans (hb.mono kb.size);replace hX:=hX.below hb;replace hA:=hA.below hb;replace hR:=Xj.below hR hb;clear hb
 cases bT
 case false =>
  obtain rfl:Rt=teZ:=by rw [<- eR.out];unfold doR;rw [if_neg (by rw [eT.out];simp)]
  clear hX hA hp hx;go_wp2_with (refine Yh (cs:=(Xg teZ (tvN (.slice none 0 0) (.slice none 0 0)))) (by rfl) 35 _ _ (by rfl) Xr (by rfl) (by rfl) hR (by rfl) (by rfl) ?_;intro w5 hg hR5 hz5);have hO:=RgT.own (show RgT w5 w.heap.size w.heap.size w.heap.size w.heap.size teZ (tvN (.slice none 0 0) (.slice none 0 0)) from ⟨Ks w5 _ (by have:=kb.size;omega),Ks w5 _ (by have:=kb.size;omega),(XS.nil _ _).nilc.nilc.nilc,Nat.le_refl _,Nat.le_refl _,Nat.le_refl _,by have:=kb.size;omega⟩);obtain ⟨vg,vo,hO⟩:=hO;exact bodyPost_ret (v:=.agg (Xg teZ (tvN (.slice none 0 0) (.slice none 0 0)))) (results_cell_row Tryz.results17 _ _ _ _ _ _ _ rfl hR5 Tryz.underlying35 rfl Xr) rfl ⟨_,vg,vo,rfl,hO,kb.grown hg kb.size (fun g e=>by cases e;omega)⟩
 have hok:=eT.out;have rk:=XdT hok;obtain ⟨gc0,_,_,_,_,_,hRt⟩:=Jo hok;have hsc:=Xdk t v w4 (h.below kb) hRt;go_wp2_with (refine Yk hX (by rfl) _ (by rfl) (by rfl) ?_);refine hsc.mono ?_;rintro e w5 ⟨v5,rfl,hO5,hb⟩;have hz4:w.heap.size+3<=w4.heap.size:=by have:=Xj.lt hR;omega
 have kb4:=kb;replace kb:=kb.trans (hb.mono kb.size);replace hA:=hA.below hb;replace hR:=Xj.below hR hb;have hb5:=hb.size;have hone5:=hO5.sl.one;obtain ⟨b1,b2,b3,hOr⟩:=hO5;obtain ⟨vg5,vo5,hO5⟩:=RgT.own hOr;clear hX hsc hb hOr;go_wp2_with (refine Yh (cs:=Xg t v5) (by rfl) 35 _ _ (by rfl) Xr (by rfl) hone5 (heap_alloc_new w5 _) (by rfl) (by rfl) ?_;intro W5 hg5 hSB hz5;refine Classical.byContradiction (fun hcon=>?_);have hcon:=(show Hid _ from hcon));have bA5:=Xd w5 (Obj.cells #[.int .i64 0,.slice none 0 0,.int .i64 0,.slice none 0 0,.int .i64 0,.int .i64 0,.int .i64 0,.int .i64 0,.bool false,.bool false,.bool false,.int .i64 0,.int .i64 0,.bool false,.bool false,.bool false,.bool false,.int .i64 0,.int .i64 0,.int .i64 0,.int .i64 0,.bool false,.bool false,.bool false,.slice none 0 0,.int .i64 0,.slice none 0 0,.int .i64 0,.slice none 0 0,.string ⟨#[]⟩] 35);have hO5:=(hO5.below bA5).grown hg5 (heap_alloc_new w5 _) (by decide) (by decide) (by decide);have hS5:=(show Hid (Scr W5 35 w4.heap.size w5.heap.size [] t v5 vg5 vo5) from ⟨hSB,hO5,by decide,by decide,by decide,hb5⟩);have kb5:=(kb.trans (bA5.mono kb.size)).grown hg5 (Nat.le_trans kb.size bA5.size) (fun g e=>by cases e;exact kb.size);have hA5:=Xj.kept (hA.below bA5) hg5 (fun e=>by have:=Option.some.inj e;have:=hz4;omega);have hR5:=Xj.kept (Xj.below hR bA5) hg5 (fun e=>by have:=Option.some.inj e;have:=hz4;omega);have d0:W5.cell? ⟨w.heap.size+1,0,none⟩=some (.int .i64 a.kind):=cAl hA5 0;have d1:W5.cell? ⟨w.heap.size+1,1,none⟩=some (.int .i64 a.rune):=cAl hA5 1;have d2:W5.cell? ⟨w.heap.size+1,2,none⟩=some pv:=cAl hA5 2;have d3:W5.cell? ⟨w.heap.size+1,3,none⟩=some (.int .i64 a.mark):=cAl hA5 3;have d4:W5.cell? ⟨w.heap.size+1,4,none⟩=some x:=cAl hA5 4;clear hO5 bA5 hg5 hSB hone5 hz5 kb hA hR;refine hcon.out ?_;clear hcon;go_wp2_with fail;have hScr:=hS5.out;have hao:=QX a.kind a.rune a.mark pv x a.params a.text W5 (hp.below kb5) (hx.below kb5) hl ht;obtain ⟨bA,eA⟩:∃ b,Hid (Jw a=b):=⟨_,rfl⟩;rw [show Jw ⟨a.kind,a.rune,a.params,a.mark,a.text⟩=bA from eA.out] at hao
 unfold acA at hao;refine hao.mono ?_;rintro e w6 ⟨rfl,hb⟩;clear d0 d1 d2 d3 d4 hao hS5;have kb:=kb5.trans (hb.mono kb5.size);have hA:=Xj.below hA5 hb;have hR:=Xj.below hR5 hb;replace hScr:=hScr.below hb;have hlt:=hScr.lt;have hbs6:w4.heap.size<=w6.heap.size:=by omega
 clear hb kb5 hA5 hR5
 cases bA
 case false =>
  obtain rfl:t=Rt:=by
   symm
   rw [<- eR.out];unfold doR;rw [if_pos hok,if_neg (by rw [eA.out];simp)]
  have hTB:=show TeB w6 w5.heap.size 35 t v5 from hScr.b
  have hone:=hScr.o.sl.one;have hO7:=hScr.o;clear hScr eA hp hx hA;go_wp2_with (first|refine Yk hTB (by rfl) _ (by rfl) (by rfl) ?_|(refine Yh (cs:=Xg t v5) (by rfl) 35 _ _ (by rfl) Xr (by rfl) hone hR (by rfl) (by rfl) ?_;intro w9 hg9 hR9 hz9));have hO9:=(hO7.grown hg9 hR (by decide) (by decide) (by decide)).low (show w.heap.size<=w4.heap.size by have:=kb4.size;omega);exact bodyPost_ret (v:=.agg (Xg t _)) (results_cell_row Tryz.results17 _ _ _ _ _ _ _ rfl hR9 Tryz.underlying35 rfl Xr) rfl ⟨_,_,_,rfl,hO9,kb.grown hg9 kb.size (fun g e=>by cases e;omega)⟩
 have hac:=eA.out;obtain rfl:Rt=doT t a:=by rw [<- eR.out];unfold doR;rw [if_pos hok,if_pos hac]
 have hap:ApF w6 w5.heap.size v5 vg5 vo5 pv:=fun g e=>⟨by have:=hpb g e;have:=kb4.size;omega,fun c=>by have:=hScr.ftb c;have:=hpb g e;have:=kb4.size;omega⟩
 unfold Jw at hac;simp only [Bool.and_eq_true,decide_eq_true_eq] at hac;obtain ⟨a1,a2,a3,⟨a4,a5⟩,a6⟩:=hac;have hq:=JO a6;have hdo:=Xgx t.gc.toNat t.g.length w4.heap.size w5.heap.size pv x a.params a.rune a.mark t v5 vg5 vo5 w6 hScr hbs6 rk (hp.below kb) (by omega) hap hq a.text (hx.below kb) (by omega) a.kind;have d0:w6.cell? ⟨w.heap.size+1,0,none⟩=some (.int .i64 a.kind):=cAl hA 0;have d1:w6.cell? ⟨w.heap.size+1,1,none⟩=some (.int .i64 a.rune):=cAl hA 1;have d2:w6.cell? ⟨w.heap.size+1,2,none⟩=some pv:=cAl hA 2;have d3:w6.cell? ⟨w.heap.size+1,3,none⟩=some (.int .i64 a.mark):=cAl hA 3;have d4:w6.cell? ⟨w.heap.size+1,4,none⟩=some x:=cAl hA 4;obtain ⟨T2,hT2⟩:∃ T2,doT t a=T2:=⟨_,rfl⟩;rw [show doT t ⟨a.kind,a.rune,a.params,a.mark,a.text⟩=T2 from hT2] at hdo
 unfold acA at hdo;go_wp2_with fail;refine hdo.mono ?_;rintro e w7 ⟨rfl,v7,vg7,vo7,hr7⟩;have hS7:=hr7.s;have hR7:TB w7 (w.heap.size+2) _:=Xj.grp hR hr7.g (fun c=>by have:=hScr.ftb c;omega);have kb7:=kb.trans ((hScr.bel hbs6 hr7).mono (by have:=kb4.size;omega));have hTB:=show TeB w7 w5.heap.size 35 T2 v7 from hS7.b
 have hone:=hS7.o.sl.one;have hO7:=hS7.o;clear hScr eA hp hx hA hr7 hdo hap hR kb d0 d1 d2 d3 d4 hS7 a1 a2 a3 a4 a5 a6 hq;go_wp2_with (first|refine Yk hTB (by rfl) _ (by rfl) (by rfl) ?_|(refine Yh (cs:=Xg T2 v7) (by rfl) 35 _ _ (by rfl) Xr (by rfl) hone hR7 (by rfl) (by rfl) ?_;intro w9 hg9 hR9 hz9));have hO9:=(hO7.grown hg9 hR7 (by decide) (by decide) (by decide)).low (show w.heap.size<=w4.heap.size by have:=kb4.size;omega);subst hT2;exact bodyPost_ret (v:=.agg (Xg (doT t a) _)) (results_cell_row Tryz.results17 _ _ _ _ _ _ _ rfl hR9 Tryz.underlying35 rfl Xr) rfl ⟨_,_,_,rfl,hO9,kb7.grown hg9 kb7.size (fun g e=>by cases e;omega)⟩
