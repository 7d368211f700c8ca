import Derived.Test.YtfpopnkhmjkdlaaGreatDoorP34
import Derived.Test.YtfpopnkhmjkdlaaGreatDoorP35
import Derived.Test.YtfpopnkhmjkdlaaGreatDoorP36
import Derived.Test.YtfpopnkhmjkdlaaGreatDoorP37
import Derived.Test.YtfpopnkhmjkdlaaGreatDoorP38
set_option maxRecDepth 20000
set_option maxHeartbeats 16000000
namespace Go.Proofs.YtfpopnkhmjkdlaaGreatDoor
open Go.ChangeShapes Go.WideShapes Go.ChangeAt Go.RowKit
theorem XdE (cn N base B:Nat) (x0 x1 x2 x3 x4 x5 pv x:Value) (k r m:Int) (t:Te) (v:Tv) (vg vo:List Value) (w:World) (hSp:Xo w) (hSb:0<base) (h:Scr w 98 base B [x0,x1,x2,x3,x4,x5] t v vg vo) (hbase:base<=w.heap.size) (rk:RtK t cn N) :
  Calls Tryz.prog 122 #[.pointer (some ⟨B,0,none⟩),.agg (acA k r pv m x)] w fun e w'=>e=.returned (.tuple #[])/\∃ v' vg' vo',Res w w' 98 base B [x0,x1,x2,x3,x4,x5] v vg vo (XJ t r) v' vg' vo':=by
 have hwb:=XG r
 by_cases h1:1<=wdV r
 ·by_cases h2:wdV r<=t.gc
  ·rw [Xfk rk r h1 h2]
   by_cases hw:t.wrap=true
   ·by_cases hf:t.full=true
    ·rw [if_pos ⟨hw,.inl hf⟩]
     exact Xgz cn N base B x0 x1 x2 x3 x4 x5 pv x k r m t v vg vo w hSp hSb h hbase rk hw.symm hf.symm h1 h2
    ·by_cases hg:t.gc<t.col+wdV r
     ·rw [if_pos ⟨hw,.inr hg⟩]
      exact XgA cn N base B x0 x1 x2 x3 x4 x5 pv x k r m t v vg vo w hSp hSb h hbase rk hw.symm (show false=t.full by simpa using hf) hg h1 h2
     ·rw [if_neg (fun e=>e.2.elim hf hg)]
      exact XgB cn N base B x0 x1 x2 x3 x4 x5 pv x k r m t v vg vo w hSp hSb h hbase rk hw.symm (show false=t.full by simpa using hf) hg h1 h2
   ·rw [if_neg (fun e=>hw e.1)]
    exact Xgy cn N base B x0 x1 x2 x3 x4 x5 pv x k r m t v vg vo w hSp hSb h hbase rk (show false=t.wrap by simpa using hw) h1 h2
  ·have hV:XJ t r=t:=by unfold XJ;rw [if_pos (by omega)]
   rw [hV]
   obtain ⟨W,hW⟩:∃ W,W=w.alloc (Obj.cells #[.int .i64 k,.int .i64 r,pv,.int .i64 m,x] 37):=⟨_,rfl⟩;have hb0:Below w.heap.size w W:=by rw [hW];exact Xd _ _
   have hA:Xj W w.heap.size 37 [.int .i64 k,.int .i64 r,pv,.int .i64 m,x]:=by rw [hW];exact heap_alloc_new w _
   have hapA:ApF W B v vg vo (.slice (some ⟨w.heap.size,0,none⟩) 0 0):=fun g e=>by
    obtain rfl:w.heap.size=g:=by simpa [Value.ownBlock] using e
    refine ⟨hA.lt,fun c=>?_⟩;rcases c with c|c|c
    ·have:=h.lt;omega
    ·have:=(GrS.bd h.o.1 c).2;omega
    ·have:=(GrS.bd h.o.2.1 c).2;omega
   have hof:=Res.of_below h hb0;have hbase0:base<=W.heap.size:=Nat.le_trans hbase hb0.size;have hA1:W.cell? ⟨w.heap.size,1,none⟩=some (.int .i64 r):=cAl hA 1;have hSp0:=hSp.below hb0 hSp.lt;have hwd:=Yr r W hSp0;replace hW:=(show Hid _ from hW);obtain ⟨c,hc⟩:∃ c,Hid (wdV r=c):=⟨_,rfl⟩;rw [hc.out] at hwd
   have hgc:=rk.w.gc;have hcc:=rk.w.c;have hcol:=rk.w.col;unfold acA;have q0:(c==0)=false:=by have:=hc.out;simp;omega
   have q1:decide ((cn:Int)<c)=true:=decide_eq_true (by have:=hc.out;omega);clear hV;go_enter Tryz.func122,Tryz.ntmps122;refine wp_seq_k (fun K hK=>?_);have hH:=(show Hid _ from hK);clear hK;go_wp2;refine hH.out _ _ ?_;rw [<- hW.out]
   clear hH hW;generalize w.heap.size=A at *;go_wp2_with fail;refine hwd.mono ?_;rintro e W0 ⟨rfl,hbw⟩;clear hwd hA1;replace hA:=hA.below hbw;replace hapA:=hapA.mono hbw.size;replace hof:=hof.below hbw;replace hbase0:=Nat.le_trans hbase0 hbw.size;replace hSp0:=hSp0.below hbw hSp0.lt;have hR:=(show Hid _ from hof);have d6:W0.cell? ⟨B,6,none⟩=some (.int .i64 t.gc):=hof.s.cell 6;clear hof hA hapA;go_wp2;exact bodyPost_ret (v:=.tuple #[]) (results_none rfl _ _ _) rfl ⟨rfl,_,_,_,hR.out⟩
 ·have hV:XJ t r=t:=by unfold XJ;rw [if_pos (by omega)]
  rw [hV]
  obtain ⟨W,hW⟩:∃ W,W=w.alloc (Obj.cells #[.int .i64 k,.int .i64 r,pv,.int .i64 m,x] 37):=⟨_,rfl⟩;have hb0:Below w.heap.size w W:=by rw [hW];exact Xd _ _
  have hA:Xj W w.heap.size 37 [.int .i64 k,.int .i64 r,pv,.int .i64 m,x]:=by rw [hW];exact heap_alloc_new w _
  have hapA:ApF W B v vg vo (.slice (some ⟨w.heap.size,0,none⟩) 0 0):=fun g e=>by
   obtain rfl:w.heap.size=g:=by simpa [Value.ownBlock] using e
   refine ⟨hA.lt,fun c=>?_⟩;rcases c with c|c|c
   ·have:=h.lt;omega
   ·have:=(GrS.bd h.o.1 c).2;omega
   ·have:=(GrS.bd h.o.2.1 c).2;omega
  have hof:=Res.of_below h hb0;have hbase0:base<=W.heap.size:=Nat.le_trans hbase hb0.size;have hA1:W.cell? ⟨w.heap.size,1,none⟩=some (.int .i64 r):=cAl hA 1;have hSp0:=hSp.below hb0 hSp.lt;have hwd:=Yr r W hSp0;replace hW:=(show Hid _ from hW);obtain ⟨c,hc⟩:∃ c,Hid (wdV r=c):=⟨_,rfl⟩;rw [hc.out] at hwd
  have hgc:=rk.w.gc;have hcc:=rk.w.c;have hcol:=rk.w.col;unfold acA;obtain rfl:c=0:=by have:=hc.out;omega
  clear hV;go_enter Tryz.func122,Tryz.ntmps122;refine wp_seq_k (fun K hK=>?_);have hH:=(show Hid _ from hK);clear hK;go_wp2;refine hH.out _ _ ?_;rw [<- hW.out]
  clear hH hW;generalize w.heap.size=A at *;go_wp2_with fail;refine hwd.mono ?_;rintro e W0 ⟨rfl,hbw⟩;clear hwd hA1;replace hA:=hA.below hbw;replace hapA:=hapA.mono hbw.size;replace hof:=hof.below hbw;replace hbase0:=Nat.le_trans hbase0 hbw.size;replace hSp0:=hSp0.below hbw hSp0.lt;have hR:=(show Hid _ from hof);clear hof hA hapA;go_wp2;exact bodyPost_ret (v:=.tuple #[]) (results_none rfl _ _ _) rfl ⟨rfl,_,_,_,hR.out⟩
theorem Qh (cn N base B:Nat) (t:Te) (v:Tv) (vg vo:List Value) (w:World) (h:Scr w 35 base B [] t v vg vo) (hbase:base<=w.heap.size) (rt:RtW t cn N) (how:Int) (b:Bool) :
  Calls Tryz.prog 214 #[.pointer (some ⟨B,0,none⟩),.int .i64 how,.bool b] w fun e w'=>e=.returned (.tuple #[])/\∃ v' vg' vo',Res w w' 35 base B [] v vg vo (if b=true then ZJ t how else Zf t how) v' vg' vo':=by
 by_cases h0:how=0
 ·subst h0;cases b
  ·exact Xdl cn N base B t v vg vo w h hbase rt
  ·exact Xdm cn N base B t v vg vo w h hbase rt
 by_cases h1:how=1
 ·subst h1;cases b
  ·exact Xdn cn N base B t v vg vo w h hbase rt
  ·exact Xdo cn N base B t v vg vo w h hbase rt
 by_cases h2:how=2
 ·subst h2;cases b
  ·exact Xdp cn N base B t v vg vo w h hbase rt
  ·exact Xdq cn N base B t v vg vo w h hbase rt
 cases b
 ·exact Xdr cn N base B t v vg vo w h hbase rt how h0 h1 h2
 ·exact Xds cn N base B t v vg vo w h hbase rt how h0 h1 h2
