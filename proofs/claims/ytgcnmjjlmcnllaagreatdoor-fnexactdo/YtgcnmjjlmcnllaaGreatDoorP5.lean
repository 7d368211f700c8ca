/- Parts of the proof. -/
import Derived.Test.YtgcnmjjlmcnllaaGreatDoorP1
import Derived.Test.YtgcnmjjlmcnllaaGreatDoorP2
import Derived.Test.YtgcnmjjlmcnllaaGreatDoorP4
import Derived.Deep.RegionWith
import Derived.Laws.CopyOwn
import Derived.OwnWalk
namespace Go.Proofs.YtgcnmjjlmcnllaaGreatDoor
set_option maxRecDepth 20000
set_option maxHeartbeats 16000000
open Go.ChangeShapes Go.WideShapes Go.ChangeAt Go.RowKit
structure Te where
 gc:Int
 g:List (List Ce)
 oc:Int
 o:List (List Ce)
 row:Int
 col:Int
 st:St
 top:Int
 bot:Int
 full:Bool
 wrap:Bool
 away:Bool
 hid:Bool
 sr:Int
 sc:Int
 ss:St
 ti:List Int
 pa:Pa
 fe:ByteArray
structure Tv where
 g:Value
 o:Value
 ti:Value
 pp:Value
 pt:Value
def cellB (gc:Int) (n:Nat) (r c:Int):Bool:=decide (0<=r/\r<=(n:Int)-1) && decide (0<=c/\c<=gc-1)
def termOkB (t:Te):Bool :=
 (gridOkB t.gc t.g && (gridOkB t.oc t.o && (decide (t.gc=t.oc) && decide (t.g.length=t.o.length)))) && ((cellB t.gc t.g.length t.row t.col && cellB t.gc t.g.length t.sr t.sc) &&
  (decide (0<=t.top/\t.top<=t.bot/\t.bot<=(t.g.length:Int)-1/\¬ (t.top=t.bot/\0<(t.g.length:Int)-1)) && (decide (t.full=true->t.col=t.gc-1) && ((t.st.ok && t.ss.ok) && ((decide (t.ti.length<=40) && runesB t.ti) && (okV t.pa && feedOk t.fe))))))
def teCs (t:Te) (v:Tv):Array Value:=#[.int .i64 t.gc,v.g,.int .i64 t.oc,v.o,.int .i64 t.row,.int .i64 t.col,.int .i64 t.st.fore,.int .i64 t.st.back,.bool t.st.bold,.bool t.st.under,.bool t.st.turned,.int .i64 t.top,.int .i64 t.bot,.bool t.full,.bool t.wrap,.bool t.away,.bool t.hid,.int .i64 t.sr,.int .i64 t.sc,.int .i64 t.ss.fore,.int .i64 t.ss.back,.bool t.ss.bold,.bool t.ss.under,.bool t.ss.turned,v.ti,.int .i64 t.pa.state,v.pp,.int .i64 t.pa.mark,v.pt,.string t.fe]
def teV (t:Te) (v:Tv):Value:=.agg (teCs t v)
def TeB (w:World) (B:Nat) (T:TypeId) (t:Te) (v:Tv):Prop:=w.heap[B]?=some (.cells (teCs t v) T (0,0))
theorem TeB.lt {w:World} {B:Nat} {T:TypeId} {t:Te} {v:Tv} (h:TeB w B T t v):B<w.heap.size:=(Array.getElem?_eq_some_iff.1 h).1
theorem TeB.kept {w w':World} {B:Nat} {T:TypeId} {t:Te} {v:Tv} {row:Option Nat} (h:TeB w B T t v) (hg:w.grownBy w' row) (hne:row≠some B):TeB w' B T t v:=by
 unfold TeB;rw [hg.block B h.lt (Ne.symm hne)]
 exact h
theorem TeB.below {w w':World} {B:Nat} {T:TypeId} {t:Te} {v:Tv} (h:TeB w B T t v) (hb:Below w.heap.size w w'):TeB w' B T t v:=h.kept (gbl hb none) (by simp)
theorem TeB.new (w:World) (T:TypeId) (t:Te) (v:Tv):TeB (w.alloc (.cells (teCs t v) T)) w.heap.size T t v:=heap_alloc_new w _
theorem TeB.cells {w:World} {B:Nat} {T:TypeId} {t:Te} {v:Tv} (h:TeB w B T t v) :
  w.cell? ⟨B,0,none⟩=some (.int .i64 t.gc)/\w.cell? ⟨B,1,none⟩=some (v.g)/\w.cell? ⟨B,2,none⟩=some (.int .i64 t.oc)/\w.cell? ⟨B,3,none⟩=some (v.o)/\w.cell? ⟨B,4,none⟩=some (.int .i64 t.row)/\w.cell? ⟨B,5,none⟩=some (.int .i64 t.col)/\w.cell? ⟨B,6,none⟩=some (.int .i64 t.st.fore)/\w.cell? ⟨B,7,none⟩=some (.int .i64 t.st.back)/\w.cell? ⟨B,8,none⟩=some (.bool t.st.bold)/\w.cell? ⟨B,9,none⟩=some (.bool t.st.under)/\w.cell? ⟨B,10,none⟩=some (.bool t.st.turned)/\w.cell? ⟨B,11,none⟩=some (.int .i64 t.top)/\w.cell? ⟨B,12,none⟩=some (.int .i64 t.bot)/\w.cell? ⟨B,13,none⟩=some (.bool t.full)/\w.cell? ⟨B,14,none⟩=some (.bool t.wrap)/\w.cell? ⟨B,15,none⟩=some (.bool t.away)/\w.cell? ⟨B,16,none⟩=some (.bool t.hid)/\w.cell? ⟨B,17,none⟩=some (.int .i64 t.sr)/\w.cell? ⟨B,18,none⟩=some (.int .i64 t.sc)/\w.cell? ⟨B,19,none⟩=some (.int .i64 t.ss.fore)/\w.cell? ⟨B,20,none⟩=some (.int .i64 t.ss.back)/\w.cell? ⟨B,21,none⟩=some (.bool t.ss.bold)/\w.cell? ⟨B,22,none⟩=some (.bool t.ss.under)/\w.cell? ⟨B,23,none⟩=some (.bool t.ss.turned)/\w.cell? ⟨B,24,none⟩=some (v.ti)/\w.cell? ⟨B,25,none⟩=some (.int .i64 t.pa.state)/\w.cell? ⟨B,26,none⟩=some (v.pp)/\w.cell? ⟨B,27,none⟩=some (.int .i64 t.pa.mark)/\w.cell? ⟨B,28,none⟩=some (v.pt)/\w.cell? ⟨B,29,none⟩=some (.string t.fe):=by
 refine ⟨?_,?_,?_,?_,?_,?_,?_,?_,?_,?_,?_,?_,?_,?_,?_,?_,?_,?_,?_,?_,?_,?_,?_,?_,?_,?_,?_,?_,?_,?_⟩<;>(rw [cell_of_row w B _ _ _ (0,0) h];rfl)
def SlT (w:World) (t:Te) (v:Tv):Prop:=SlG w v.g t.g/\SlG w v.o t.o/\SlN w v.ti t.ti/\SlN w v.pp t.pa.params/\SlN w v.pt t.pa.text
theorem SlT.below {w w':World} {t:Te} {v:Tv} (h:SlT w t v) (hb:Below w.heap.size w w'):SlT w' t v:=⟨h.1.below hb,h.2.1.below hb,h.2.2.1.below hb,h.2.2.2.1.below hb,h.2.2.2.2.below hb⟩
def SzT (n:Nat) (t:Te):Prop:=t.g.length<=n/\(∀ i,i<t.g.length->(rowX t.g i).length<=n)/\t.o.length<=n/\(∀ i,i<t.o.length->(rowX t.o i).length<=n)/\t.ti.length<=n/\t.pa.params.length<=n/\t.pa.text.length<=n
theorem sGs {w:World} {v:Value} {rows:List (List Ce)} (h:SlG w v rows):∃ a c,v=.slice a rows.length c:=by
 obtain ⟨a,c,vs,rfl,_⟩:=h;exact ⟨a,c,rfl⟩
theorem info_te:(Tryz.prog.info? 35).map (·.size)=some 30:=by kernel_rfl
theorem load_te {w:World} {ops:Array Oper} {rest:List Oper} {o:Oper} {a:Act} {Q:Exit->Act->World->Prop} {B:Nat} {t:Te} {v:Tv} (hb:TeB w B 35 t v) (hgd:Region.wanted o (yielded ops a.tmps)=true) (x:Operand)
  (ho:o.op=.load 35 x) (hx:a.eval x=.pointer (some ⟨B,0,none⟩))
  (h:wpList Tryz.prog ops Q rest (a.put o.dst (.agg (teCs t v))) w):wpList Tryz.prog ops Q (o::rest) a w :=
 load_T (cs:=teCs t v) hgd 35 x ho Tryz.underlying35 rfl info_te hb hx h
theorem eqStyle_same (s:St) (w:World) :
  Calls Tryz.prog 97 #[stV s,stV s] w fun e w'=>e=.returned (.bool true)/\Below w.heap.size w w':=by
 obtain ⟨f,b,bo,un,tu⟩:=s;unfold stV;simp only;go_enter Tryz.func97,Tryz.ntmps97;go_wp2;go_ret;exact ⟨rfl,((Below.refl _ _).alloc (Nat.le_refl _) _).alloc (by simp) _⟩
def CeF (w:World) (B:Nat) (c:Ce):Prop :=
 B<w.heap.size/\(w.cell? ⟨B,0,none⟩=some (.int .i64 c.rune)/\w.cell? ⟨B,1,none⟩=some (.int .i64 c.st.fore)/\w.cell? ⟨B,2,none⟩=some (.int .i64 c.st.back)/\w.cell? ⟨B,3,none⟩=some (.bool c.st.bold)/\w.cell? ⟨B,4,none⟩=some (.bool c.st.under)/\w.cell? ⟨B,5,none⟩=some (.bool c.st.turned)/\w.cell? ⟨B,6,none⟩=some (.int .i64 c.part)) /\
  (w.frozen? ⟨B,0,none⟩=false/\w.frozen? ⟨B,1,none⟩=false/\w.frozen? ⟨B,2,none⟩=false/\w.frozen? ⟨B,3,none⟩=false/\w.frozen? ⟨B,4,none⟩=false/\w.frozen? ⟨B,5,none⟩=false/\w.frozen? ⟨B,6,none⟩=false)
theorem CeF.new (w:World) (c:Ce) (t:TypeId):CeF (w.alloc (.cells #[.int .i64 c.rune,.int .i64 c.st.fore,.int .i64 c.st.back,.bool c.st.bold,.bool c.st.under,.bool c.st.turned,.int .i64 c.part] t)) w.heap.size c :=
 ⟨by simp,⟨by simp [go_sem],by simp [go_sem],by simp [go_sem],by simp [go_sem],by simp [go_sem],by simp [go_sem],by simp [go_sem]⟩,⟨by simp [go_sem],by simp [go_sem],by simp [go_sem],by simp [go_sem],by simp [go_sem],by simp [go_sem],by simp [go_sem]⟩⟩
theorem CeF.grown {w w':World} {B:Nat} {c:Ce} {row:Option Nat} (h:CeF w B c) (hg:w.grownBy w' row) (hr:row≠some B):CeF w' B c:=by
 have hb:=hg.block B h.1 (Ne.symm hr);have hc:∀ k,w'.cell? ⟨B,k,none⟩=w.cell? ⟨B,k,none⟩:=fun k=>World.cell?_of_block (w:=w) hb
 have hz:∀ k,w'.frozen? ⟨B,k,none⟩=w.frozen? ⟨B,k,none⟩:=fun k=>World.frozen?_of_block (w:=w) hb
 refine ⟨Nat.lt_of_lt_of_le h.1 hg.size,?_,?_⟩
 ·rw [hc,hc,hc,hc,hc,hc,hc];exact h.2.1
 ·rw [hz,hz,hz,hz,hz,hz,hz];exact h.2.2
theorem CeF.below {w w':World} {B:Nat} {c:Ce} (h:CeF w B c) (hb:Below w.heap.size w w'):CeF w' B c:=h.grown (gbl hb none) (by simp)
def BS (a w:World):Prop:=Below a.heap.size a w/\a.heap.size<=w.heap.size
theorem BS.out {a w:World} (h:BS a w):Below a.heap.size a w:=h.1
theorem BS.set {a w:World} (h:BS a w) (g k:Nat) (u:Value) (hg:a.heap.size<=g):BS a (w.setCell ⟨g,k,none⟩ u) :=
 ⟨h.1.grown (sCc w g k u) h.2 (fun k hk=>by cases hk;exact hg),by simpa using h.2⟩
theorem eqCell_same (c:Ce) (w:World) :
  Calls Tryz.prog 249 #[ceV c,ceV c] w fun e w'=>e=.returned (.bool true)/\Below w.heap.size w w':=by
 have heq:=fun W=>eqStyle_same c.st W
 have b1:=bal' w (Obj.cells #[.int .i64 c.rune,.int .i64 c.st.fore,.int .i64 c.st.back,.bool c.st.bold,.bool c.st.under,.bool c.st.turned,.int .i64 c.part] 146);have b2:=b1.trans ((bal' _ (Obj.cells #[.int .i64 c.rune,.int .i64 c.st.fore,.int .i64 c.st.back,.bool c.st.bold,.bool c.st.under,.bool c.st.turned,.int .i64 c.part] 146)).mono b1.size);have s2:=(CeF.new w c 146).below (bal' _ (Obj.cells #[.int .i64 c.rune,.int .i64 c.st.fore,.int .i64 c.st.back,.bool c.st.bold,.bool c.st.under,.bool c.st.turned,.int .i64 c.part] 146));have r2:=CeF.new (w.alloc (Obj.cells #[.int .i64 c.rune,.int .i64 c.st.fore,.int .i64 c.st.back,.bool c.st.bold,.bool c.st.under,.bool c.st.turned,.int .i64 c.part] 146)) c 146;have z1:(w.alloc (Obj.cells #[.int .i64 c.rune,.int .i64 c.st.fore,.int .i64 c.st.back,.bool c.st.bold,.bool c.st.under,.bool c.st.turned,.int .i64 c.part] 146)).heap.size=w.heap.size+1:=by simp
 rw [z1] at r2
 unfold ceV stV at *;go_enter Tryz.func249,Tryz.ntmps249;go_wp2_with fail;refine (heq _).mono ?_;rintro e w1 ⟨rfl,hb1⟩;have s3:=s2.below hb1;have r3:=r2.below hb1;have b3:=b2.trans (hb1.mono b2.size);clear s2 r2 b1 b2 hb1 z1 heq;obtain ⟨_,⟨c0,c1,c2,c3,c4,c5,c6⟩,_⟩:=s3;obtain ⟨_,⟨d0,d1,d2,d3,d4,d5,d6⟩,_⟩:=r3;go_wp2;go_ret;exact ⟨rfl,b3⟩
theorem toStyle_any (s:St) (w:World) :
  Calls Tryz.prog 92 #[stV s] w fun e w'=>e=.returned (stV s)/\Below w.heap.size w w':=by
 obtain ⟨f,b,bo,un,tu⟩:=s;unfold stV;simp only;go_enter Tryz.func92,Tryz.ntmps92;go_wp2;refine bodyPost_ret (v:=.agg #[.int .i64 f,.int .i64 b,.bool bo,.bool un,.bool tu]) (by simp [results,Tryz.results92,go_sem]) rfl ⟨rfl,?_⟩;exact (((Below.refl _ _).alloc (Nat.le_refl _) _).alloc (by simp) _).alloc (by simp;omega) _
theorem szC_any (v:Value) (xs:List Ce) (left:Nat) (w:World) (hv:SlC w v xs) (hl:xs.length<=maxLen) (hf:left<=4611686018427387904) :
  Calls Tryz.prog 223 #[v,.int .i64 left] w fun e w'=>e=.returned (.int .i64 (if left<xs.length then -1 else ((left-xs.length:Nat):Int)))/\w'=w:=by
 unfold maxLen at hl;obtain ⟨a,c,rfl,_⟩:=hv;generalize xs.length=n at *
 by_cases h:left<n
 ·have h2:(left:Int)-(n:Int)<0:=by omega
  rw [if_pos h]
  go_enter Tryz.func223,Tryz.ntmps223;go_wp2;go_ret;exact ⟨rfl,rfl⟩
 ·have h2:¬ (left:Int)-(n:Int)<0:=by omega
  have h3:Hid (((left-n:Nat):Int)=(left:Int)-(n:Int)):=by show _=_;omega
  rw [if_neg h]
  go_enter Tryz.func223,Tryz.ntmps223;go_wp2;go_ret;exact ⟨by rw [h3.out];rfl,rfl⟩
theorem toCell_any (c:Ce) (w:World) :
  Calls Tryz.prog 248 #[ceV c] w fun e w'=>e=.returned (ceV c)/\Below w.heap.size w w':=by
 have hto:=fun W=>toStyle_any c.st W
 have b1:=bal' w (Obj.cells #[.int .i64 c.rune,.int .i64 c.st.fore,.int .i64 c.st.back,.bool c.st.bold,.bool c.st.under,.bool c.st.turned,.int .i64 c.part] 222);have b2:=b1.trans ((bal' _ (Obj.cells #[.int .i64 0,.int .i64 0,.int .i64 0,.bool false,.bool false,.bool false,.int .i64 0] 146)).mono b1.size);have b3:=b2.trans ((bal' _ (Obj.cells #[.int .i64 c.rune,.int .i64 0,.int .i64 0,.bool false,.bool false,.bool false,.int .i64 0] 146)).mono b2.size);have s3:=((CeF.new w c 222).below (bal' _ (Obj.cells #[.int .i64 0,.int .i64 0,.int .i64 0,.bool false,.bool false,.bool false,.int .i64 0] 146))).below (bal' _ (Obj.cells #[.int .i64 c.rune,.int .i64 0,.int .i64 0,.bool false,.bool false,.bool false,.int .i64 0] 146));have r3:=(CeF.new (w.alloc (Obj.cells #[.int .i64 c.rune,.int .i64 c.st.fore,.int .i64 c.st.back,.bool c.st.bold,.bool c.st.under,.bool c.st.turned,.int .i64 c.part] 222)) Ce.zero 146).below (bal' _ (Obj.cells #[.int .i64 c.rune,.int .i64 0,.int .i64 0,.bool false,.bool false,.bool false,.int .i64 0] 146));have o3:=CeF.new ((w.alloc (Obj.cells #[.int .i64 c.rune,.int .i64 c.st.fore,.int .i64 c.st.back,.bool c.st.bold,.bool c.st.under,.bool c.st.turned,.int .i64 c.part] 222)).alloc (Obj.cells #[.int .i64 0,.int .i64 0,.int .i64 0,.bool false,.bool false,.bool false,.int .i64 0] 146)) ⟨c.rune,St.zero,0⟩ 146;have z1:(w.alloc (Obj.cells #[.int .i64 c.rune,.int .i64 c.st.fore,.int .i64 c.st.back,.bool c.st.bold,.bool c.st.under,.bool c.st.turned,.int .i64 c.part] 222)).heap.size=w.heap.size+1:=by simp
 have z2:((w.alloc (Obj.cells #[.int .i64 c.rune,.int .i64 c.st.fore,.int .i64 c.st.back,.bool c.st.bold,.bool c.st.under,.bool c.st.turned,.int .i64 c.part] 222)).alloc (Obj.cells #[.int .i64 0,.int .i64 0,.int .i64 0,.bool false,.bool false,.bool false,.int .i64 0] 146)).heap.size=w.heap.size+1+1:=by simp
 rw [z1] at r3
 rw [z2] at o3
 simp only [Ce.zero,St.zero] at r3 o3;unfold ceV stV at *;go_enter Tryz.func248,Tryz.ntmps248;go_wp2_with fail;refine (hto _).mono ?_;rintro e w1 ⟨rfl,hb1⟩;have s4:=s3.below hb1;have r4:=r3.below hb1;have o4:=o3.below hb1;have b4:=b3.trans (hb1.mono b3.size);clear s3 r3 o3 b1 b2 b3 hb1 z1 z2 hto;obtain ⟨_,⟨c0,c1,c2,c3,c4,c5,c6⟩,_⟩:=s4;obtain ⟨_,⟨d0,d1,d2,d3,d4,d5,d6⟩,⟨x0,x1,x2,x3,x4,x5,x6⟩⟩:=r4;obtain ⟨_,⟨e0,e1,e2,e3,e4,e5,e6⟩,⟨y0,y1,y2,y3,y4,y5,y6⟩⟩:=o4;go_wp2;refine bodyPost_ret (v:=.agg #[.int .i64 c.rune,.int .i64 c.st.fore,.int .i64 c.st.back,.bool c.st.bold,.bool c.st.under,.bool c.st.turned,.int .i64 c.part]) (by simp [results,Tryz.results248,go_sem,setCell_ne', *]) rfl ⟨rfl,?_⟩;clear c0 c1 c2 c3 c4 c5 c6 d0 d1 d2 d3 d4 d5 d6 e0 e1 e2 e3 e4 e5 e6 x0 x1 x2 x3 x4 x5 x6 y0 y1 y2 y3 y4 y5 y6;have bs:BS w w1:=⟨b4,b4.size⟩;refine BS.out ?_
 repeat (first|with_reducible exact bs|with_reducible refine BS.set ?_ _ _ _ (by omega))
theorem eqC_same (va vb:Value) (xs:List Ce) (w:World) (ha:SlC w va xs) (hb:SlC w vb xs) (hl:xs.length<=1073741824) :
  Calls Tryz.prog 225 #[va,vb] w fun e w'=>e=.returned (.bool true)/\Below w.heap.size w w':=by
 have heq:=fun c W=>eqCell_same c W
 obtain ⟨a,c,rfl,hc1,hn1,hr1⟩:=ha;obtain ⟨a',c',rfl,hc2,hn2,hr2⟩:=hb;rcases hr1 with h|⟨b,off,rfl,hbb,hs1⟩
 ·subst h
  go_enter Tryz.func225,Tryz.ntmps225;go_wp2;refine wp_loop_rounds 1 ?_;rw [rounds_succ]
  go_wp2;go_ret;exact ⟨rfl,Below.refl _ _⟩
 ·rcases hr2 with h|⟨b',off',rfl,hbb',hs2⟩
  ·subst h
   go_enter Tryz.func225,Tryz.ntmps225;go_wp2;refine wp_loop_rounds 1 ?_;rw [rounds_succ]
   go_wp2;go_ret;exact ⟨rfl,Below.refl _ _⟩
  ·unfold ceV at heq
   go_enter Tryz.func225,Tryz.ntmps225;go_wp2;go_loopw [5] (fun i wr=>∃ j:Nat,i=.int .i64 j/\j<=xs.length/\Below w.heap.size w wr) (fun i _=>xs.length-(intOf i).toNat)
   case atStart=>exact ⟨0,rfl,Nat.zero_le _,Below.refl _ _⟩
   case round =>
    obtain ⟨j,rfl,hj,kb⟩:=hrel
    by_cases hlt:j<xs.length
    ·have hji:(j:Int)<(xs.length:Int):=by omega
     have hj0:(0:Int)<=(j:Int):=by omega
     have kd:Below w.heap.size w wr.drew:=kb.trans ((bdr _).mono kb.size);have hat1:=(hs1 j hlt).below kd hbb;have hat2:=(hs2 j hlt).below kd hbb';obtain ⟨c0,c1,c2,c3,c4,c5,c6⟩:=hat1;obtain ⟨d0,d1,d2,d3,d4,d5,d6⟩:=hat2;clear hs1 hs2 ;go_wp2;go_region_with (go_at_call 249;refine (heq (atC xs j) _).mono ?_;rintro e w1 ⟨rfl,hb1⟩)
     all_goals
      have kb1:=kd.trans (hb1.mono kd.size);clear c0 c1 c2 c3 c4 c5 c6 d0 d1 d2 d3 d4 d5 d6 kd kb hb1 heq;go_wp2;go_roundw
      case rel=>exact ⟨j+1,by go_num,by omega,kb1⟩
      case measure=>simp [intOf];omega
    ·have hji:¬ (j:Int)<(xs.length:Int):=by omega
     go_wp2;go_ret;exact ⟨rfl,kb⟩
theorem SlC.at {w:World} {a:Option Addr} {n c:Nat} {xs:List Ce} (h:SlC w (.slice a n c) xs) (j:Nat) (hj:j<xs.length):∃ b off,a=some ⟨b,off,none⟩/\b<w.heap.size/\CeAt w b (off+j*7) (atC xs j):=by
 obtain ⟨a',c',e,_,_,hr⟩:=h;simp only [Value.slice.injEq] at e;obtain ⟨rfl,rfl,rfl⟩:=e;rcases hr with h|⟨b,off,ha,hb,hi⟩
 ·rw [h] at hj;simp at hj
 ·exact ⟨b,off,ha,hb,hi j hj⟩
end Go.Proofs.YtgcnmjjlmcnllaaGreatDoor
namespace Go.Proofs.YtgcnmjjlmcnllaaGreatDoor
set_option maxRecDepth 20000
set_option maxHeartbeats 16000000
theorem atC_ge {l:List Ce} {i:Nat} (h:l.length<=i):atC l i=Ce.zero:=by simp [atC,List.getD,List.getElem?_eq_none h]
theorem alone_iff (l:List Ce) (i:Nat):aloneB l i=true ↔ ((atC l i).part=1/\(atC l (i+1)).part≠2)\/((atC l i).part=2/\(i=0\/(atC l (i-1)).part≠1)):=by
 unfold aloneB
 by_cases h:i+1=l.length
 ·rw [atC_ge (l:=l) (i:=i+1) (by omega)]
  simp [Ce.zero,h]
 ·simp [h]
theorem mendV_all (l:List Ce) (i:Nat):atC (mendV l) i=mendC l i:=by
 by_cases h:i<l.length
 ·exact mendV_at l i h
 ·rw [atC_ge (by rw [mendV_len];omega),mendC,atC_ge (by omega)]
  have:¬ aloneB l i=true:=by rw [alone_iff,atC_ge (l:=l) (i:=i) (by omega)];simp [Ce.zero]
  rw [if_neg this]
def c1 (c:Ce):Prop:=c.st.ok=true/\((c.part=0/\wdV c.rune=1)\/(c.part=1/\wdV c.rune=2)\/(c.part=2/\c.rune=0))
def Right (l:List Ce):Prop :=
 (∀ i,i<l.length->c1 (atC l i))/\(∀ i,(atC l i).part=1->(atC l (i+1)).part=2/\(atC l (i+1)).st=(atC l i).st)/\(∀ i,(atC l i).part=2->0<i/\(atC l (i-1)).part=1)
def Semi (l:List Ce):Prop :=
 (∀ i,i<l.length->c1 (atC l i))/\(∀ i,(atC l i).part=1->(atC l (i+1)).part=2->(atC l (i+1)).st=(atC l i).st)
theorem Right.semi {l:List Ce} (h:Right l):Semi l:=⟨h.1,fun i h1 _=>(h.2.1 i h1).2⟩
theorem part_lt {l:List Ce} {i:Nat} (h:(atC l i).part≠0):i<l.length:=by
 rcases Nat.lt_or_ge i l.length with h1|h1
 ·exact h1
 ·rw [atC_ge h1] at h;exact absurd rfl h
theorem right_iff (l:List Ce):rowOkB l=true ↔ (1<=l.length/\l.length<=60)/\Right l:=by
 rw [rowOkB_iff]
 constructor
 ·rintro ⟨hl,h⟩
  refine ⟨hl,?_,?_,?_⟩
  ·intro i hi
   have:=h i hi;unfold cellOkB at this;rw [Bool.and_eq_true] at this
   refine ⟨this.1,?_⟩;have h2:=this.2
   by_cases h0:(atC l i).part=0
   ·rw [if_pos h0] at h2;exact .inl ⟨h0,by simpa using h2⟩
   ·rw [if_neg h0] at h2
    by_cases h1:(atC l i).part=1
    ·rw [if_pos h1] at h2;simp at h2;exact .inr (.inl ⟨h1,h2.1⟩)
    ·rw [if_neg h1] at h2
     by_cases h3:(atC l i).part=2
     ·rw [if_pos h3] at h2;simp at h2;exact .inr (.inr ⟨h3,h2.1⟩)
     ·rw [if_neg h3] at h2;cases h2
  ·intro i h1
   have hi:i<l.length:=part_lt (by rw [h1];decide);have:=h i hi;unfold cellOkB at this;rw [Bool.and_eq_true,if_neg (by rw [h1];decide),if_pos h1] at this
   have h2:=this.2;simp at h2;exact ⟨h2.2.2.1,h2.2.2.2⟩
  ·intro i h1
   have hi:i<l.length:=part_lt (by rw [h1];decide);have:=h i hi;unfold cellOkB at this;rw [Bool.and_eq_true,if_neg (by rw [h1];decide),if_neg (by rw [h1];decide),if_pos h1] at this
   have h2:=this.2;simp at h2;exact h2.2
 ·rintro ⟨hl,h1,h2,h3⟩
  refine ⟨hl,fun i hi=>?_⟩;have hc:=h1 i hi;unfold cellOkB;rw [hc.1,Bool.true_and]
  rcases hc.2 with ⟨e,ew⟩|⟨e,ew⟩|⟨e,ew⟩
  ·rw [if_pos e,ew];rfl
  ·have:=h2 i e
   have hlt:i+1<l.length:=part_lt (by rw [this.1];decide);rw [if_neg (by rw [e];decide),if_pos e,ew]
   simp [hlt,this.1,this.2]
  ·have:=h3 i e
   rw [if_neg (by rw [e];decide),if_neg (by rw [e];decide),if_pos e,ew]
   simp [this.1,this.2]
theorem c1_blank {s:St} (h:s.ok=true):c1 (blankC s):=⟨h,.inl ⟨rfl,by show wdV 32=1;decide⟩⟩
theorem Semi.mend {l:List Ce} (h:Semi l):Right (mendV l):=by
 have hp:∀ i,(atC (mendV l) i).part≠0->aloneB l i=false/\atC (mendV l) i=atC l i:=by
  intro i hi;rw [mendV_all,mendC] at hi ⊢
  by_cases ha:aloneB l i=true
  ·rw [if_pos ha] at hi;exact absurd rfl hi
  ·rw [if_neg ha];exact ⟨by simpa using ha,rfl⟩
 refine ⟨fun i hi=>?_,fun i h1=>?_,fun i h2=>?_⟩
 ·rw [mendV_len] at hi
  rw [mendV_all,mendC]
  split
  ·exact c1_blank (h.1 i hi).1
  ·exact h.1 i hi
 ·obtain ⟨ha,e⟩:=hp i (by rw [h1];decide)
  rw [e] at h1
  have hn:(atC l (i+1)).part=2:=by
   apply Classical.byContradiction
   intro hc;have:=(alone_iff l i).2 (.inl ⟨h1,hc⟩);rw [ha] at this;cases this
  have hb:aloneB l (i+1)=false:=by
   apply Classical.byContradiction
   intro hc;rcases (alone_iff l (i+1)).1 (by simpa using hc) with ⟨q,_⟩|⟨_,q⟩
   ·rw [hn] at q;exact absurd q (by decide)
   ·rcases q with q|q
    ·omega
    ·rw [Nat.add_sub_cancel] at q;exact q h1
  have e2:atC (mendV l) (i+1)=atC l (i+1):=by rw [mendV_all,mendC,if_neg (by rw [hb];decide)]
  rw [e2,e]
  exact ⟨hn,h.2 i h1 hn⟩
 ·obtain ⟨ha,e⟩:=hp i (by rw [h2];decide)
  rw [e] at h2
  have hn:¬ (i=0\/(atC l (i-1)).part≠1):=by
   intro hc;have:=(alone_iff l i).2 (.inr ⟨h2,hc⟩);rw [ha] at this;cases this
  have h0:0<i:=by omega
  have h1:(atC l (i-1)).part=1:=by
   apply Classical.byContradiction
   intro hc;exact hn (.inr hc)
  have hb:aloneB l (i-1)=false:=by
   apply Classical.byContradiction
   intro hc;rcases (alone_iff l (i-1)).1 (by simpa using hc) with ⟨_,q⟩|⟨q,_⟩
   ·have:i-1+1=i:=by omega
    rw [this] at q;exact q h2
   ·rw [h1] at q;exact absurd q (by decide)
  have e2:atC (mendV l) (i-1)=atC l (i-1):=by rw [mendV_all,mendC,if_neg (by rw [hb];decide)]
  rw [e2];exact ⟨h0,h1⟩
theorem fill_at (l:List Ce) (a b:Nat) (s:St) (i:Nat) (hb:b<=l.length):atC (fillUp l a b s) i=if a<=i/\i<b then blankC s else atC l i:=by
 by_cases h:i<l.length
 ·exact fillUp_at l a b s i h
 ·rw [atC_ge (by rw [fillUp_len];omega),if_neg (by omega),atC_ge (by omega)]
theorem Semi.fill {l:List Ce} (h:Semi l) (a b:Nat) (s:St) (hs:s.ok=true) (hb:b<=l.length):Semi (fillUp l a b s):=by
 refine ⟨fun i hi=>?_,fun i h1 h2=>?_⟩
 ·rw [fillUp_len] at hi
  rw [fill_at l a b s i hb]
  split
  ·exact c1_blank hs
  ·exact h.1 i hi
 ·rw [fill_at l a b s _ hb] at h1 h2 ⊢
  rw [fill_at l a b s _ hb]
  split at h1
  ·exact absurd h1 (by simp [blankC])
  ·split at h2
   ·exact absurd h2 (by simp [blankC])
   ·rename_i q1 q2
    rw [if_neg q2,if_neg q1]
    exact h.2 i h1 h2
theorem clearL_right {l:List Ce} (h:Right l) (a b:Nat) (s:St) (hs:s.ok=true) (hb:b<=l.length):Right (clearL l a b s):=(h.semi.fill a b s hs hb).mend
theorem Semi.take {l:List Ce} (h:Semi l) (n:Nat):Semi (l.take n):=by
 have e:∀ i,atC (l.take n) i=if i<n then atC l i else Ce.zero:=fun i=>by
  by_cases hi:i<n
  ·rw [if_pos hi,atC_take l n i hi]
  ·rw [if_neg hi,atC_ge (by rw [List.length_take];omega)]
 refine ⟨fun i hi=>?_,fun i h1 h2=>?_⟩
 ·rw [List.length_take] at hi
  rw [e,if_pos (by omega)]
  exact h.1 i (by omega)
 ·rw [e] at h1 h2 ⊢
  rw [e]
  split at h1
  ·split at h2
   ·rename_i q1 q2
    rw [if_pos q2,if_pos q1]
    exact h.2 i h1 h2
   ·exact absurd h2 (by decide)
  ·exact absurd h1 (by decide)
theorem Semi.drop {l:List Ce} (h:Semi l) (n:Nat):Semi (l.drop n):=by
 refine ⟨fun i hi=>?_,fun i h1 h2=>?_⟩
 ·rw [List.length_drop] at hi
  rw [atC_drop];exact h.1 (n+i) (by omega)
 ·rw [atC_drop] at h1 h2 ⊢
  rw [atC_drop]
  have:=h.2 (n+i) h1 (by rw [Nat.add_assoc];exact h2)
  rwa [Nat.add_assoc] at this
theorem app_at (l m:List Ce) (i:Nat):atC (l++m) i=if i<l.length then atC l i else atC m (i-l.length):=by
 by_cases h:i<l.length
 ·rw [if_pos h,atC_append_left l m i h]
 ·rw [if_neg h]
  have:=atC_append_right l m (i-l.length)
  rwa [show l.length+(i-l.length)=i by omega] at this
theorem Right.append {l m:List Ce} (h:Right l) (k:Right m):Right (l++m):=by
 refine ⟨fun i hi=>?_,fun i h1=>?_,fun i h2=>?_⟩
 ·rw [List.length_append] at hi
  rw [app_at]
  split
  ·rename_i q;exact h.1 i q
  ·exact k.1 _ (by omega)
 ·rw [app_at] at h1
  split at h1
  ·have:=h.2.1 i h1
   have hlt:i+1<l.length:=part_lt (by rw [this.1];decide)
   rename_i q
   rw [app_at,app_at,if_pos hlt,if_pos q];exact this
  ·rename_i q
   have:=k.2.1 _ h1;rw [app_at,app_at,if_neg (by omega),if_neg q]
   rwa [show i+1-l.length=i-l.length+1 by omega]
 ·rw [app_at] at h2
  split at h2
  ·rename_i q
   have:=h.2.2 i h2;rw [app_at,if_pos (by omega)];exact this
  ·rename_i q
   have:=k.2.2 _ h2;rw [app_at,if_neg (by omega)]
   refine ⟨by omega,?_⟩;rw [show i-1-l.length=i-l.length-1 by omega];exact this.2
theorem rowL_at (n:Nat) (s:St) (i:Nat) (h:i<n):atC (rowL n s) i=blankC s:=by
 rw [atC_lt (by simp [rowL];exact h)];simp [rowL]
theorem rowL_right (n:Nat) (s:St) (hs:s.ok=true):Right (rowL n s):=by
 have e:∀ i,(atC (rowL n s) i).part=0:=fun i=>by
  by_cases h:i<n
  ·rw [rowL_at n s i h];rfl
  ·rw [atC_ge (by simp [rowL];omega)];rfl
 refine ⟨fun i hi=>?_,fun i h1=>?_,fun i h1=>?_⟩
 ·rw [rowL_at n s i (by simpa [rowL] using hi)];exact c1_blank hs
 ·rw [e] at h1;exact absurd h1 (by decide)
 ·rw [e] at h1;exact absurd h1 (by decide)
theorem rowL_len (n:Nat) (s:St):(rowL n s).length=n:=by simp [rowL]
def pushV (xs:List Ce) (p n:Nat) (s:St):List Ce:=if n=0 then xs else mendV ((mendV (xs.take p)++rowL n s++mendV (xs.drop p)).take xs.length)
def pullV (xs:List Ce) (p n:Nat) (s:St):List Ce:=if min n (xs.length-p)=0 then xs else mendV (xs.take p)++mendV (xs.drop (p+min n (xs.length-p)))++rowL (min n (xs.length-p)) s
theorem three_right {l:List Ce} (h:Right l) (p m:Nat) (s:St) (hs:s.ok=true):Right (mendV (l.take p)++rowL m s++mendV (l.drop p)) :=
 ((h.semi.take p).mend.append (rowL_right m s hs)).append (h.semi.drop p).mend
theorem pushV_right {l:List Ce} (h:Right l) (p n:Nat) (s:St) (hs:s.ok=true):Right (pushV l p n s):=by
 unfold pushV;split
 ·exact h
 ·exact ((three_right h p n s hs).semi.take _).mend
theorem pushV_len (l:List Ce) (p n:Nat) (s:St):(pushV l p n s).length=l.length:=by
 unfold pushV;split
 ·rfl
 ·rw [mendV_len,List.length_take,List.length_append,List.length_append,mendV_len,mendV_len,rowL_len,List.length_take,List.length_drop];omega
theorem pullV_right {l:List Ce} (h:Right l) (p n:Nat) (s:St) (hs:s.ok=true):Right (pullV l p n s):=by
 unfold pullV;split
 ·exact h
 ·exact ((h.semi.take p).mend.append (h.semi.drop _).mend).append (rowL_right _ s hs)
theorem pullV_len (l:List Ce) (p n:Nat) (s:St) (hp:p<=l.length):(pullV l p n s).length=l.length:=by
 unfold pullV;split
 ·rfl
 ·rw [List.length_append,List.length_append,mendV_len,mendV_len,rowL_len,List.length_take,List.length_drop];omega
open Go.ChangeShapes Go.WideShapes Go.ChangeAt Go.RowKit
theorem made_zero (n:Nat):(madeCells (ceV Ce.zero).cells (n*7)).toList=(List.replicate n Ce.zero).flatMap ceL:=by
 apply List.ext_getElem?
 intro i
 by_cases hi:i<n*7
 ·have h1:i / 7<n:=by omega
  have h2:i % 7<7:=Nat.mod_lt _ (by decide);have e:i=i / 7*7+i % 7:=by omega
  have hr:((List.replicate n Ce.zero).flatMap ceL)[i]?=(ceL Ce.zero)[i % 7]?:=by
   conv=>lhs;rw [e]
   rw [flat_get _ (i / 7) (i % 7) (by simpa using h1) h2]
   simp [atC,h1]
  rw [hr]
  simp only [madeCells,Array.toList_map,List.getElem?_map,Array.toList_range];rw [List.getElem?_range hi]
  generalize he:i % 7=k at *;have hz:(ceV Ce.zero).cells.size=7:=rfl;simp only [Option.map_some,hz,he]
  match k,h2 with
  | 0,_=>rfl
  | 1,_=>rfl
  | 2,_=>rfl
  | 3,_=>rfl
  | 4,_=>rfl
  | 5,_=>rfl
  | 6,_=>rfl
 ·rw [List.getElem?_eq_none (by simp [size_madeCells];omega),List.getElem?_eq_none (by rw [flat_len];simp;omega)]
theorem make_oc {w:World} {ops:Array Oper} {rest:List Oper} {o:Oper} {ac:Act} {Q:Exit->Act->World->Prop} (hgd:o.guard=none) (x y:Operand)
  (ho:o.op=Op.makeSlice 120 x y) (n:Nat) (hx:ac.eval x=.int .i64 (n:Int)) (hy:ac.eval y=.int .i64 (n:Int)) (hn:n<=1073741824)
  (h:∀ w',OwnC w' w.heap.size (.slice (some ⟨w.heap.size,0,none⟩) n n) (List.replicate n Ce.zero)->Below w.heap.size w w'->wpList Tryz.prog ops Q rest (ac.put o.dst (.slice (some ⟨w.heap.size,0,none⟩) n n)) w') :
  wpList Tryz.prog ops Q (o::rest) ac w:=by
 obtain ⟨i0,hi,hz0,hz1,hz2⟩:=info_parts info_cell;refine wpList_make_full _ hgd x y 120 ho w.heap.size 146 i0 (ceV Ce.zero) 7 Tryz.underlying120 hi hz0 hz1 .i64 .i64 (n:Int) (n:Int) n hx hy rfl rfl (by rw [hz2];omega) (by unfold maxLen;omega) (Nat.le_refl _) (fun w' ho' hg=>?_);refine h w' ?_ ((Below.refl _ _).grown hg (Nat.le_refl _) (fun k hk=>by cases hk));rw [made_zero] at ho'
 unfold OwnC;rw [List.length_replicate]
 exact ho'
theorem ownC_none (w:World) (base:Nat):OwnC w base (.slice none 0 0) []:=⟨rfl,.inl ⟨rfl,rfl⟩⟩
theorem toCS_copy (v:Value) (xs:List Ce) (w:World) (hv:SlC w v xs) (hl:xs.length<=1073741824) :
  Calls Tryz.prog 224 #[v] w fun e w'=>∃ u,e=.returned u/\OwnC w' w.heap.size u xs/\Below w.heap.size w w':=by
 have hto:=fun c W=>toCell_any c W
 unfold ceV at hto;obtain ⟨a,c,rfl,hc0⟩:=id hv;clear hc0;go_enter Tryz.func224,Tryz.ntmps224;go_wp2_with (refine make_oc rfl _ _ rfl xs.length rfl rfl hl ?_;intro w1 ho1 hb1);go_wp2;go_loopw [4] (fun i wr=>∃ (j:Nat) (ys:List Ce),i=.int .i64 j/\j<=xs.length/\ys.length=xs.length/\(∀ t,t<j->atC ys t=atC xs t)/\OC w.heap.size (.slice (some ⟨w.heap.size,0,none⟩) xs.length xs.length) ys w wr) (fun i _=>xs.length-(intOf i).toNat)
 case atStart=>exact ⟨0,_,rfl,Nat.zero_le _,List.length_replicate,(fun t h=>absurd h (Nat.not_lt_zero t)),ho1,hb1,hb1.size,Nat.le_refl _⟩
 case round =>
  clear ho1 hb1;obtain ⟨j,ys,rfl,hj,hyl,hys,k⟩:=hrel
  by_cases hlt:j<xs.length
  ·have hji:(j:Int)<(xs.length:Int):=by omega
   have hj0:(0:Int)<=(j:Int):=by omega
   obtain ⟨b,off,rfl,hbb,hat⟩:=(hv.below k.2.1).at j hlt;obtain ⟨c0,c1,c2,c3,c4,c5,c6⟩:=hat;go_wp2_with fail;refine (hto (atC xs j) _).mono ?_;rintro e w2 ⟨rfl,hb2⟩;have k2:=k.below hb2;have hp:=k2.1.put hyl j hlt (atC xs j);have kk:OC w.heap.size (.slice (some ⟨w.heap.size,0,none⟩) xs.length xs.length) (ys.set j (atC xs j)) w (putCe w2 w.heap.size (j*7) (atC xs j)):=k2.own hp.1 hp.2
   have hys2:∀ t,t<j+1->atC (ys.set j (atC xs j)) t=atC xs t:=by
    intro t ht;rw [atC_set]
    by_cases e:t=j
    ·subst e;rw [if_pos ⟨rfl,by omega⟩]
    ·rw [if_neg (fun h=>e h.1)];exact hys t (by omega)
   have hyl2:(ys.set j (atC xs j)).length=xs.length:=by simpa using hyl
   have hat:=k2.1.at hyl j hlt;have f0:=k2.1.frozen hyl (j*7);have f1:=k2.1.frozen hyl (j*7+1);have f2:=k2.1.frozen hyl (j*7+2);have f3:=k2.1.frozen hyl (j*7+3);have f4:=k2.1.frozen hyl (j*7+4);have f5:=k2.1.frozen hyl (j*7+5);have f6:=k2.1.frozen hyl (j*7+6);clear hp k hb2 hto hys c0 c1 c2 c3 c4 c5 c6 k2 hv hyl;generalize ys.set j (atC xs j)=ys2 at *;obtain ⟨c0,c1,c2,c3,c4,c5,c6⟩:=hat;simp only [putCe] at kk;go_wp2;go_roundw
   case rel=>exact ⟨j+1,ys2,by go_num,by omega,hyl2,hys2,kk⟩
   case measure=>simp [intOf];omega
  ·have hjn:j=xs.length:=by omega
   have hji:¬ (j:Int)<(xs.length:Int):=by omega
   have hye:ys=xs:=ext_atC _ _ hyl (fun i hi=>hys i (by omega));subst hye;clear hys hyl hv hto;go_wp2;go_ret;exact ⟨_,rfl,k.1,k.2.1⟩
theorem rowV_set {vs:List Value} {i:Nat} (hi:i<vs.length) (r:Value) (k:Nat):rowV (vs.set i r) k=if k=i then r else rowV vs k:=by
 unfold rowV
 by_cases e:k=i
 ·subst e;rw [if_pos rfl];simp [List.getD,hi]
 ·rw [if_neg e];simp [List.getD,Ne.symm e]
theorem rowX_set {rows:List (List Ce)} {i:Nat} (hi:i<rows.length) (x:List Ce) (k:Nat):rowX (rows.set i x) k=if k=i then x else rowX rows k:=by
 unfold rowX
 by_cases e:k=i
 ·subst e;rw [if_pos rfl];simp [List.getD,hi]
 ·rw [if_neg e];simp [List.getD,Ne.symm e]
theorem OwnG.set {w:World} {base B g n cap:Nat} {rows:List (List Ce)} (h:OwnG w base B (.slice (some ⟨g,0,none⟩) n cap) rows) (hn:rows.length=n) (i:Nat) (hi:i<n) (r:Value) (xs:List Ce) (hr:OwnC w base r xs) (hB:∀ q,r.ownBlock=some q->B<=q) :
  OwnG (w.setCell ⟨g,i,none⟩ r) base (w.setCell ⟨g,i,none⟩ r).heap.size (.slice (some ⟨g,0,none⟩) n cap) (rows.set i xs)/\w.grownBy (w.setCell ⟨g,i,none⟩ r) (some g):=by
 subst hn;obtain ⟨vs,hvl,hown,hrs,hlt,hd⟩:=h;have h0:=World.ownsRow.stored hown i r;have hap:∀ {u:Value} {ys:List Ce},OwnC w base u ys->OwnC (w.setCell ⟨g,i,none⟩ r) base u ys:=fun hu=>hu.kept h0.2 (outer_apart hown hu)
 have hs2:=h0.2.size;refine ⟨⟨vs.set i r,by simp [hvl],by rw [List.length_set];exact h0.1,fun k hk=>?_,fun k hk q e=>?_,fun a b hab hb q e=>?_⟩,h0.2⟩
 ·rw [List.length_set] at hk
  rw [rowV_set (by omega),rowX_set hi]
  by_cases e:k=i
  ·rw [if_pos e,if_pos e];exact hap hr
  ·rw [if_neg e,if_neg e];exact hap (hrs k hk)
 ·rw [List.length_set] at hk
  rw [rowV_set (by omega)] at e
  by_cases c:k=i
  ·rw [if_pos c] at e;have:=(hr.lt q e).2;omega
  ·rw [if_neg c] at e;have:=((hrs k hk).lt q e).2;omega
 ·rw [List.length_set] at hb
  rw [rowV_set (by omega)] at e
  rw [rowV_set (by omega)]
  by_cases c:a=i
  ·rw [if_pos c] at e
   rw [if_neg (by omega)]
   intro e2;have:=hlt b hb q e2;have:=hB q e;omega
  ·rw [if_neg c] at e
   by_cases c2:b=i
   ·rw [if_pos c2]
    intro e2;have:=hlt a (by omega) q e;have:=hB q e2;omega
   ·rw [if_neg c2];exact hd a b hab hb q e
theorem made_none (n:Nat):(madeCells (Value.slice none 0 0).cells (n*1)).toList=List.replicate n (Value.slice none 0 0):=by
 apply List.ext_getElem?
 intro i
 by_cases hi:i<n
 ·simp [madeCells,Value.cells,hi,Nat.mod_one]
 ·simp [madeCells,Value.cells,hi]
theorem make_og {w:World} {ops:Array Oper} {rest:List Oper} {o:Oper} {ac:Act} {Q:Exit->Act->World->Prop} (hgd:o.guard=none) (x y:Operand)
  (ho:o.op=Op.makeSlice 24 x y) (n:Nat) (hx:ac.eval x=.int .i64 (n:Int)) (hy:ac.eval y=.int .i64 (n:Int)) (hn:n<=1073741824)
  (h:∀ w',OwnG w' w.heap.size w'.heap.size (.slice (some ⟨w.heap.size,0,none⟩) n n) (List.replicate n [])->Below w.heap.size w w'->wpList Tryz.prog ops Q rest (ac.put o.dst (.slice (some ⟨w.heap.size,0,none⟩) n n)) w') :
  wpList Tryz.prog ops Q (o::rest) ac w:=by
 obtain ⟨i0,hi,hz0,hz1,hz2⟩:=info_parts info_row;refine wpList_make_full _ hgd x y 24 ho w.heap.size 120 i0 (.slice none 0 0) 1 under_rows hi hz0 hz1 .i64 .i64 (n:Int) (n:Int) n hx hy rfl rfl (by rw [hz2];omega) (by unfold maxLen;omega) (Nat.le_refl _) (fun w' ho' hg=>?_);rw [made_none] at ho'
 have hv:∀ i,rowV (List.replicate n (Value.slice none 0 0)) i=.slice none 0 0:=fun i=>by
  unfold rowV;by_cases hi:i<n<;>simp [List.getD,hi]
 have hr:∀ i,rowX (List.replicate n ([]:List Ce)) i=[]:=fun i=>by
  unfold rowX;by_cases hi:i<n<;>simp [List.getD,hi]
 have hG:OwnG w' w.heap.size w'.heap.size (.slice (some ⟨w.heap.size,0,none⟩) n n) (List.replicate n []) :=
  ⟨List.replicate n (.slice none 0 0),by simp,by rw [List.length_replicate];exact ho',fun i _=>by rw [hv,hr];exact ownC_none _ _,(fun i _ g e=>by rw [hv] at e;cases e),(fun i j _ _ g e=>by rw [hv] at e;cases e)⟩
 exact h w' hG ((Below.refl _ _).grown hg (Nat.le_refl _) (fun k hk=>by cases hk))
theorem toCSS_copy (v:Value) (rows:List (List Ce)) (w:World) (hv:SlG w v rows) (hl:rows.length<=1073741824) (hx:∀ i,i<rows.length->(rowX rows i).length<=1073741824) :
  Calls Tryz.prog 162 #[v] w fun e w'=>∃ u,e=.returned u/\OwnG w' w.heap.size w'.heap.size u rows/\Below w.heap.size w w':=by
 obtain ⟨a,c,vs,rfl,hcp,_,hr,hs⟩:=id hv;go_enter Tryz.func162,Tryz.ntmps162;go_wp2_with (refine make_og rfl _ _ rfl rows.length rfl rfl hl ?_;intro w1 ho1 hb1);go_wp2;go_loopw [4] (fun i wr=>∃ (j:Nat) (R:List (List Ce)),i=.int .i64 j/\j<=rows.length/\R.length=rows.length/\(∀ t,t<j->rowX R t=rowX rows t)/\OwnG wr w.heap.size wr.heap.size (.slice (some ⟨w.heap.size,0,none⟩) rows.length rows.length) R/\Below w.heap.size w wr) (fun i _=>rows.length-(intOf i).toNat)
 case atStart=>exact ⟨0,_,rfl,Nat.zero_le _,List.length_replicate,(fun t h=>absurd h (Nat.not_lt_zero t)),ho1,hb1⟩
 case round =>
  clear ho1 hb1;obtain ⟨j,R,rfl,hj,hRl,hR,k,kb⟩:=hrel
  by_cases hlt:j<rows.length
  ·have hji:(j:Int)<(rows.length:Int):=by omega
   have hj0:(0:Int)<=(j:Int):=by omega
   rcases hr with h|⟨b,off,rfl,hbb,hrc⟩
   ·rw [h] at hlt;simp at hlt
   have hsj:=(hs j hlt).below kb;have hcj:=(kb.cell (p:=⟨b,off+j,none⟩) hbb).trans (hrc j hlt);obtain ⟨aj,cj,ev,_⟩:=id hsj;rw [ev] at hcj hsj
   have hto:=toCS_copy _ _ wr hsj (hx j hlt);clear hs hrc ev hsj hv;go_wp2_with fail;refine hto.mono ?_;rintro e w2 ⟨r,rfl,hor,hb2⟩;have hk2:=(k.below hb2).set hRl j hlt r _ (hor.low kb.size) (fun q e=>(hor.lt q e).1)
   have hw0:∃ cur,w2.cell? ⟨w.heap.size,j,none⟩=some cur:=by
    obtain ⟨vs2,hvl2,hown2,_⟩:=k.below hb2;rw [hRl] at hown2
    exact ⟨_,by rw [World.ownsRow.cellAt hown2 j (by omega),rowV_get (by omega)]⟩
   have hfz:w2.frozen? ⟨w.heap.size,j,none⟩=false:=by
    obtain ⟨vs2,hvl2,hown2,_⟩:=k.below hb2;rw [hRl] at hown2
    exact World.ownsRow.frozenAt hown2 j
   have kb3:=(kb.trans (hb2.mono kb.size)).grown hk2.2 (by have:=kb.size;have:=hb2.size;omega) (fun g e=>by cases e;exact Nat.le_refl _)
   have hR2:∀ t,t<j+1->rowX (R.set j (rowX rows j)) t=rowX rows t:=fun t ht=>by
    rw [rowX_set (by omega)]
    by_cases e:t=j
    ·rw [if_pos e,e]
    ·rw [if_neg e];exact hR t (by omega)
   have hRl2:(R.set j (rowX rows j)).length=rows.length:=by simpa using hRl
   have kk:=hk2.1;obtain ⟨cur,hcur⟩:=hw0;obtain ⟨ra,rn,rc,rfl⟩:∃ a n c,r=Value.slice a n c:=by rcases hor.shape with ⟨h,_⟩|⟨_,_,h,_⟩<;>exact ⟨_,_,_,h⟩
   clear k kb hor hb2 hto hk2 hR hRl hcj;generalize R.set j (rowX rows j)=R2 at *;go_wp2;go_roundw
   case rel=>exact ⟨j+1,R2,by go_num,by omega,hRl2,hR2,kk,kb3⟩
   case measure=>simp [intOf];omega
  ·have hjn:j=rows.length:=by omega
   have hji:¬ (j:Int)<(rows.length:Int):=by omega
   have hye:R=rows:=by
    apply List.ext_getElem hRl
    intro i h1 h2;rw [<- rowX_lt h1,<- rowX_lt h2]
    exact hR i (by omega)
   subst hye;clear hs hr hR hv;go_wp2;go_ret;exact ⟨_,rfl,k,kb⟩
end Go.Proofs.YtgcnmjjlmcnllaaGreatDoor
