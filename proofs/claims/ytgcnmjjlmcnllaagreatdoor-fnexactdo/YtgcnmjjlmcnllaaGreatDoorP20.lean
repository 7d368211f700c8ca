/- Parts of the proof. -/
import Derived.Test.YtgcnmjjlmcnllaaGreatDoorP1
import Derived.Test.YtgcnmjjlmcnllaaGreatDoorP11
import Derived.Test.YtgcnmjjlmcnllaaGreatDoorP14
import Derived.Test.YtgcnmjjlmcnllaaGreatDoorP16
import Derived.Test.YtgcnmjjlmcnllaaGreatDoorP18
import Derived.Test.YtgcnmjjlmcnllaaGreatDoorP19
namespace Go.Proofs.YtgcnmjjlmcnllaaGreatDoor
set_option maxRecDepth 20000
set_option maxHeartbeats 16000000
open Go.ChangeShapes Go.WideShapes Go.ChangeAt Go.RowKit
theorem l7Erase_xt (cn N base B:Nat) (t:Te) (v:Tv) (vg vo:List Value) (w:World) (h:Scr w 35 base B [] t v vg vo) (hbase:base<=w.heap.size) (rt:RtW t cn N) (how:Int) (h0:how≠0) (h1:how≠1) (h2:how≠2) :
  Calls Tryz.prog 214 #[.pointer (some ⟨B,0,none⟩),.int .i64 how,.bool true] w fun e w'=>e=.returned (.tuple #[])/\∃ v' vg' vo',Res w w' 35 base B [] v vg vo (if true=true then Go.Proofs.YtgcnmjjlmcnllaaGreatDoor.eraseAll t how else Go.Proofs.YtgcnmjjlmcnllaaGreatDoor.eraseRow t how) v' vg' vo':=by
 have hrow:=rt.row;have hcol:=rt.col;have hcc:=rt.c;have hn1:=rt.n1;have c0:w.cell? ⟨B,0,none⟩=some (.int .i64 (cn:Int)):=by rw [<- rt.gc];exact h.cell 0
 have c4:w.cell? ⟨B,4,none⟩=some (.int .i64 t.row):=h.cell 4;have c5:w.cell? ⟨B,5,none⟩=some (.int .i64 t.col):=h.cell 5
 have hin:∀ (j:Nat) (wr:World) (v':Tv) (vg' vo':List Value),Res w wr 35 base B [] v vg vo { t with g:=eaG t how cn j } v' vg' vo'->wr.cell? ⟨B,4,none⟩=some (.int .i64 t.row)/\∃ a c,wr.cell? ⟨B,1,none⟩=some (.slice a N c):=fun j wr v' vg' vo' hr=>by
  refine ⟨hr.s.cell 4,?_⟩;obtain ⟨a,c,e⟩:=sGs (SlG.of_own hr.s.o.1.g);have en:(eaG t how cn j).length=N:=by rw [eaG_len];exact rt.n
  refine ⟨a,c,?_⟩;rw [hr.s.cell 1]
  show some v'.g=_
  rw [e]
  show some (Value.slice a (eaG t how cn j).length c)=_
  rw [en]
 have q0:(how==0)=false:=by simp [h0]
 have q1:(how==1)=false:=by simp [h1]
 have q2:(how==2)=false:=by simp [h2]
 have hR:=h.res;have hE:t=Go.Proofs.YtgcnmjjlmcnllaaGreatDoor.eraseRow t how:=by unfold Go.Proofs.YtgcnmjjlmcnllaaGreatDoor.eraseRow;rw [if_neg h0,if_neg h1,if_neg h2]
 rw [show Res w w 35 base B [] v vg vo t v vg vo=Res w w 35 base B [] v vg vo (Go.Proofs.YtgcnmjjlmcnllaaGreatDoor.eraseRow t how) v vg vo by rw [<- hE]] at hR
 clear hE;have hK:=(show Hid (Res w _ 35 base B [] v vg vo { t with g:=eaG t how cn 0 } _ _ _) from by rw [eaG_zero];exact hR);clear hR;go_enter Tryz.func214,Tryz.ntmps214;go_wp2;clear c0 c4 c5;go_loopw [7] (fun i wr=>∃ (j:Nat) (v':Tv) (vg' vo':List Value),i=.int .i64 j/\j<=N/\Hid (true=false->j=0)/\Hid (Res w wr 35 base B [] v vg vo { t with g:=eaG t how cn j } v' vg' vo')) (fun i _=>N-(intOf i).toNat)
 case atStart=>exact ⟨0,_,_,_,rfl,Nat.zero_le _,(fun _=>rfl),hK⟩
 case round =>
  clear hK;obtain ⟨j,v',vg',vo',rfl,hj,hz,hK⟩:=hrel;obtain ⟨c4,la,lc,hlc⟩:=hin j wr v' vg' vo' hK.out;have hla:=l7Last_any B la N lc wr hlc (by omega);have hj0:(0:Int)<=(j:Int):=by omega
  by_cases hlt:j<N
  ·have hle:(j:Int)<=(N:Int)-1:=by omega
   have hbj:base<=wr.heap.size:=Nat.le_trans hbase hK.out.g.size;rw [<- eaG_skip t how cn j (fun e=>by unfold eaP at e;omega)] at hK
   clear hin hz hbj rt hbase h hlc;go_wp2_with fail;refine hla.mono ?_;rintro e wk ⟨rfl,hw⟩;subst hw;clear hla;go_wp2;go_roundw
   case rel=>exact ⟨j+1,_,_,_,by go_num,by omega,(fun e=>by simp at e),hK⟩
   case measure=>simp [intOf];omega
  ·have hle:¬ (j:Int)<=(N:Int)-1:=by omega
   obtain rfl:j=N:=by omega
   rw [eaG_end rt how] at hK
   clear hin hz;go_wp2_with fail;refine hla.mono ?_;rintro e wk ⟨rfl,hw⟩;subst hw;clear hla hlc c4;go_wp2;refine be ?_;exact ⟨rfl,_,_,_,hK.out⟩
theorem l7Erase_any (cn N base B:Nat) (t:Te) (v:Tv) (vg vo:List Value) (w:World) (h:Scr w 35 base B [] t v vg vo) (hbase:base<=w.heap.size) (rt:RtW t cn N) (how:Int) (b:Bool) :
  Calls Tryz.prog 214 #[.pointer (some ⟨B,0,none⟩),.int .i64 how,.bool b] w fun e w'=>e=.returned (.tuple #[])/\∃ v' vg' vo',Res w w' 35 base B [] v vg vo (if b=true then Go.Proofs.YtgcnmjjlmcnllaaGreatDoor.eraseAll t how else Go.Proofs.YtgcnmjjlmcnllaaGreatDoor.eraseRow t how) v' vg' vo':=by
 by_cases h0:how=0
 ·subst h0;cases b
  ·exact l7Erase_0f cn N base B t v vg vo w h hbase rt
  ·exact l7Erase_0t cn N base B t v vg vo w h hbase rt
 by_cases h1:how=1
 ·subst h1;cases b
  ·exact l7Erase_1f cn N base B t v vg vo w h hbase rt
  ·exact l7Erase_1t cn N base B t v vg vo w h hbase rt
 by_cases h2:how=2
 ·subst h2;cases b
  ·exact l7Erase_2f cn N base B t v vg vo w h hbase rt
  ·exact l7Erase_2t cn N base B t v vg vo w h hbase rt
 cases b
 ·exact l7Erase_xf cn N base B t v vg vo w h hbase rt how h0 h1 h2
 ·exact l7Erase_xt cn N base B t v vg vo w h hbase rt how h0 h1 h2
def PrC (B g N cap i a:Nat) (s:St) (W:World):Prop:=W.cell? ⟨B,1,none⟩=some (.slice (some ⟨g,0,none⟩) N cap)/\W.cell? ⟨B,4,none⟩=some (.int .i64 (i:Int))/\W.cell? ⟨B,5,none⟩=some (.int .i64 (a:Int))/\W.cell? ⟨B,6,none⟩=some (.int .i64 s.fore)/\W.cell? ⟨B,7,none⟩=some (.int .i64 s.back)/\W.cell? ⟨B,8,none⟩=some (.bool s.bold)/\W.cell? ⟨B,9,none⟩=some (.bool s.under)/\W.cell? ⟨B,10,none⟩=some (.bool s.turned)
theorem print_facts (cn N base B:Nat) (u:Te) (v:Tv) (vg vo:List Value) (w:World) (h:Scr w 35 base B [] u v vg vo) (hbase:base<=w.heap.size) (rt:RtW u cn N) (r:Int) (hw1:1<=wdV r) (hq:u.col+wdV r<=cn) :
  ∃ (g cap i a:Nat) (ra:Option Addr) (rn rc:Nat) (R:List Ce),u.row=(i:Int)/\u.col=(a:Int)/\i<N/\R=writeL (rowX u.g u.row.toNat) u.col.toNat r u.st /\
   (∀ W,Below w.heap.size w W->PrC B g N cap i a u.st W) /\
   (∀ W,Below w.heap.size w W->W.cell? ⟨g,i,none⟩=some (.slice ra rn rc)) /\
   (∀ W,Below w.heap.size w W->W.frozen? ⟨g,i,none⟩=false) /\
   (∀ W,Below w.heap.size w W->Calls Tryz.prog 208 #[.slice ra rn rc,.int .i64 (a:Int),.int .i64 r,.agg #[.int .i64 u.st.fore,.int .i64 u.st.back,.bool u.st.bold,.bool u.st.under,.bool u.st.turned]] W fun e w'=>∃ x,e=.returned x/\OwnC w' W.heap.size x R/\Below W.heap.size W w') /\
   (∀ W x,Below w.heap.size w W->OwnC W w.heap.size x R->Res w (W.setCell ⟨g,i,none⟩ x) 35 base B [] v vg vo (rowT u u.row R) v (vg.set i x) vo) /\
   (∀ W x,Below w.heap.size w W->PrC B g N cap i a u.st (W.setCell ⟨g,i,none⟩ x)):=by
 obtain ⟨r1,r2⟩:=rt.row;obtain ⟨q1,q2⟩:=rt.col;have hn2:=rt.n1;have hcc:=rt.c;have hN:=rt.n;have hlt:=h.lt;obtain ⟨i,hie⟩:∃ i:Nat,u.row=(i:Int):=⟨u.row.toNat,by omega⟩;obtain ⟨a,hae⟩:∃ a:Nat,u.col=(a:Int):=⟨u.col.toNat,by omega⟩;have hi:i<N:=by omega
 rcases h.o.1.shape with ⟨_,hs⟩|⟨g,cap,hvg,hbg,hlg,hcap⟩
 ·rw [hs] at hN;simp at hN;omega
 rw [hN] at hvg hcap
 have ho:=h.o.1;have hro:=ho.2.2.1 i (by omega);rw [hvg] at ho
 have hci:=ho.cell hN i hi;obtain ⟨ra,rn,rc,hre⟩:=hro.isSl;rw [hre] at hci hro
 have hgx:=rt.gx i hi;have hsl:SlC w (.slice ra rn rc) (rowX u.g i):=SlC.of_own hro;have e1:u.row.toNat=i:=by rw [hie];rfl
 have e2:u.col.toNat=a:=by rw [hae];rfl
 have cf:∀ W,Below w.heap.size w W->PrC B g N cap i a u.st W:=fun W hb=>by
  have k:=h.below hb;refine ⟨by rw [k.cell 1];show some v.g=_;rw [hvg],by rw [k.cell 4,<- hie];rfl,by rw [k.cell 5,<- hae];rfl,k.cell 6,k.cell 7,k.cell 8,k.cell 9,k.cell 10⟩
 refine ⟨g,cap,i,a,ra,rn,rc,writeL (rowX u.g i) a r u.st,hie,hae,hi,by rw [e1,e2],cf,fun W hb=>(hb.cell (p:=⟨g,i,none⟩) hlg).trans hci,fun W hb=>(ho.below hb).frozen hN i,fun W hb=>?_,fun W x hb hx=>?_,fun W x hb=>?_⟩
 ·exact l4Written_any (.slice ra rn rc) (rowX u.g i) a r u.st W (hsl.below hb) hw1 (by omega) (by omega)
 ·have:=h.row hbase hb hvg hN i hi x _ hx
  unfold rowT;rw [e1]
  exact this
 ·have hne:g≠B:=fun e=>grS_not h.o.1 h.b h.n1 h.n2 (.inl (by rw [hvg,<- e];rfl))
  have hk:∀ k,(W.setCell ⟨g,i,none⟩ x).cell? ⟨B,k,none⟩=W.cell? ⟨B,k,none⟩:=fun k=>World.cell?_of_block (w:=W) (a:=⟨B,k,none⟩) ((sCc W g i x).block B (Nat.lt_of_lt_of_le hlt hb.size) (fun e=>hne (Option.some.inj e).symm))
  unfold PrC;simp only [hk];exact cf W hb
theorem drwP (w:World) (n:Nat):Below w.heap.size w (w.drewN n):=⟨rfl,rfl,rfl,Nat.le_refl _,fun _ _=>rfl⟩
theorem print_end (base B:Nat) (u:Te) (v0 v1:Tv) (vg0 vo0 vg1 vo1:List Value) (w0 W:World) (R:List Ce) (g r:Int) (h:Res w0 W 35 base B [] v0 vg0 vo0 (rowT u u.row R) v1 vg1 vo1) (hR:R=writeL (rowX u.g u.row.toNat) u.col.toNat r u.st) (he:g<=u.col+wdV r) (q:Nat) :
  Res w0 ((((W.setCell ⟨B,5,none⟩ (.int .i64 (u.col+wdV r))).drewN q).setCell ⟨B,5,none⟩ (.int .i64 (g-1))).setCell ⟨B,13,none⟩ (.bool true)) 35 base B [] v0 vg0 vo0 (p3T u g r) v1 vg1 vo1:=by
 have hV:p3T u g r={ Go.Proofs.YtgcnmjjlmcnllaaGreatDoor.rowT u u.row R with col:=g-1,full:=true }:=by unfold p3T;rw [if_pos he,hR]
 rw [hV]
 have k1:=h.s.put (sCg B [.int .i64 (u.col+wdV r)] 5 W) { Go.Proofs.YtgcnmjjlmcnllaaGreatDoor.rowT u u.row R with col:=u.col+wdV r } (sCh B 35 [.int .i64 (u.col+wdV r)] 5 W _ h.s.b) rfl rfl rfl rfl rfl;have k2:=k1.below (drwP _ q);have k3:=k2.s.put (sCg B [.int .i64 (g-1)] 5 _) { Go.Proofs.YtgcnmjjlmcnllaaGreatDoor.rowT u u.row R with col:=g-1 } (sCh B 35 [.int .i64 (g-1)] 5 _ _ k2.s.b) rfl rfl rfl rfl rfl;have k4:=k3.s.put (sCg B [.bool true] 13 _) { Go.Proofs.YtgcnmjjlmcnllaaGreatDoor.rowT u u.row R with col:=g-1,full:=true } (sCh B 35 [.bool true] 13 _ _ k3.s.b) rfl rfl rfl rfl rfl;exact ((h.trans k2).trans k3).trans k4
theorem print_on (base B:Nat) (u:Te) (v0 v1:Tv) (vg0 vo0 vg1 vo1:List Value) (w0 W:World) (R:List Ce) (g r:Int) (h:Res w0 W 35 base B [] v0 vg0 vo0 (rowT u u.row R) v1 vg1 vo1) (hR:R=writeL (rowX u.g u.row.toNat) u.col.toNat r u.st) (he:¬ g<=u.col+wdV r) (q:Nat) :
  Res w0 ((W.setCell ⟨B,5,none⟩ (.int .i64 (u.col+wdV r))).drewN q) 35 base B [] v0 vg0 vo0 (p3T u g r) v1 vg1 vo1:=by
 have hV:p3T u g r={ Go.Proofs.YtgcnmjjlmcnllaaGreatDoor.rowT u u.row R with col:=u.col+wdV r }:=by unfold p3T;rw [if_neg he,hR]
 rw [hV]
 have k1:=h.s.put (sCg B [.int .i64 (u.col+wdV r)] 5 W) { Go.Proofs.YtgcnmjjlmcnllaaGreatDoor.rowT u u.row R with col:=u.col+wdV r } (sCh B 35 [.int .i64 (u.col+wdV r)] 5 W _ h.s.b) rfl rfl rfl rfl rfl;exact h.trans (k1.below (drwP _ q))
theorem l7Print_A0 (cn N base B:Nat) (t:Te) (v:Tv) (vg vo:List Value) (w:World) (h:Scr w 35 base B [] t v vg vo) (hbase:base<=w.heap.size) (rk:RtK t cn N) (r:Int) (hw1:1<=wdV r) (hw2:wdV r<=t.gc) (hf:t.full=true) (hwr:t.wrap=true) (hend:¬ t.gc<=0+wdV r) :
  Calls Tryz.prog 141 #[.pointer (some ⟨B,0,none⟩),.int .i64 r] w fun e w'=>e=.returned (.tuple #[])/\∃ v' vg' vo',Res w w' 35 base B [] v vg vo (printT t r) v' vg' vo':=by
 have rt:=rk.w;have hcc:=rt.c;have hgc:=rt.gc;have hcol:=rt.col;have hwb:=widthV_bd r;have hwd:=sWa r w;obtain ⟨u,hu⟩:∃ u,Hid (u=lineT { t with full:=false,col:=0 }):=⟨_,rfl⟩
 have hV:printT t r=p3T u t.gc r:=by
  have e1:p1T t=(lineT { t with full:=false,col:=0 }):=by unfold p1T;rw [if_pos ⟨hf,hwr⟩]
  have e2:p2T (lineT { t with full:=false,col:=0 }) t.gc r=lineT { t with full:=false,col:=0 }:=by unfold p2T;rw [if_neg (by rw [lineT_col { t with full:=false } 0];show ¬ t.gc<0+wdV r;omega)]
  rw [printT_eq t r hw1 hw2,hu.out,e1,e2]
 have rku:RtK u cn N:=by rw [hu.out];exact ((rk.nofull.colp 0 (by omega) rfl).line)
 have hug:u.gc=t.gc:=by rw [hu.out];exact lineT_gc _
 have huc:u.col=0:=by rw [hu.out,lineT_col { t with full:=false } 0]
 rw [hV]
 clear hV;have c13:w.cell? ⟨B,13,none⟩=some (.bool t.full):=h.cell 13;have c0:w.cell? ⟨B,0,none⟩=some (.int .i64 t.gc):=h.cell 0;have z13:w.frozen? ⟨B,13,none⟩=false:=h.frozen 13;have h1:Res w (w.setCell ⟨B,13,none⟩ (.bool false)) 35 base B [] v vg vo { t with full:=false } v vg vo:=h.put (sCg B [.bool false] 13 w) _ (sCh B 35 [.bool false] 13 w _ h.b) rfl rfl rfl rfl rfl;have hb1:=Nat.le_trans hbase h1.g.size;obtain ⟨W1,hW1⟩:∃ W1,Hid (W1=w.setCell ⟨B,13,none⟩ (.bool false)):=⟨_,rfl⟩;rw [<- hW1.out] at h1 hb1
 have f14w:w.cell? ⟨B,14,none⟩=some (.bool t.wrap):=h.cell 14;have f14:W1.cell? ⟨B,14,none⟩=some (.bool t.wrap):=h1.s.cell 14;have f5:W1.cell? ⟨B,5,none⟩=some (.int .i64 t.col):=h1.s.cell 5;have f0:W1.cell? ⟨B,0,none⟩=some (.int .i64 t.gc):=h1.s.cell 0;have z5:W1.frozen? ⟨B,5,none⟩=false:=h1.s.frozen 5;have f5w:w.cell? ⟨B,5,none⟩=some (.int .i64 t.col):=h.cell 5;have z5w:w.frozen? ⟨B,5,none⟩=false:=h.frozen 5;rw [hf] at c13
 rw [hwr] at f14 f14w
 obtain ⟨wd,hwde⟩:∃ wd,Hid (wdV r=wd):=⟨_,rfl⟩;have hwdo:=hwde.out;rw [hwdo] at hwd hw1 hw2 hwb hend
 try rw [hwdo] at huc
 have q0:(wd==0)=false:=by simp;omega
 have q1:¬ t.gc<wd:=by omega
 obtain ⟨sx,hsx⟩:∃ sx,Hid (t.col+wd=sx):=⟨_,rfl⟩;have esx:IntKind.i64.wrap (t.col+wd)=sx:=by rw [<- hsx.out];simp [IntKind.wrap,IntKind.bits,IntKind.signed];omega
 have hov2:¬ t.gc<wd:=by omega
 have hqu:u.col+wdV r<=cn:=by rw [hwdo,huc];omega
 obtain ⟨sy,hsy⟩:∃ sy,Hid (u.col+wd=sy):=⟨_,rfl⟩;have hend2:¬ t.gc<=sy:=by rw [<- hsy.out,huc];exact hend
 have hw1r:1<=wdV r:=by rw [hwdo];exact hw1
 clear hwb;obtain ⟨W2,hW2⟩:∃ W2,Hid (W2=W1.setCell ⟨B,5,none⟩ (.int .i64 0)):=⟨_,rfl⟩;have h2:=h1.trans (h1.s.put (sCg B [.int .i64 0] 5 W1) { t with full:=false,col:=0 } (sCh B 35 [.int .i64 0] 5 W1 _ h1.s.b) rfl rfl rfl rfl rfl);have hW2o:Res w W2 35 base B [] v vg vo { t with full:=false,col:=0 } v vg vo:=by rw [hW2.out];exact h2
 clear h2;have hli:=l7Line_any cn N base B { t with full:=false,col:=0 } v vg vo W2 hW2o.s (Nat.le_trans hbase hW2o.g.size) (rk.nofull.colp 0 (by omega) rfl).w;have hbw:=hbase;have ewd:IntKind.i64.wrap wd=wd:=by simp [IntKind.wrap,IntKind.bits,IntKind.signed];omega
 replace hW2o:=(show Hid _ from hW2o);replace rku:=(show Hid _ from rku);replace hbw:=(show Hid _ from hbw);clear h1 hb1;clear h rt rk hbase hcc hcol hgc;go_enter Tryz.func141,Tryz.ntmps141;go_wp2_with fail;refine hwd.mono ?_;rintro e wk ⟨rfl,hk⟩;replace hk:=hk.symm;subst hk;clear hwd;go_wp2_with fail;rw [<- hW1.out,<- hW2.out]
 refine hli.mono ?_;rintro e w3 ⟨rfl,v3,vg3,vo3,hR3⟩;have hZ0:=hW2o.out.trans hR3;have g5:w3.cell? ⟨B,5,none⟩=some (.int .i64 0):=by rw [hR3.s.cell 5];show some (Value.int .i64 (lineT { t with full:=false,col:=0 }).col)=_;rw [lineT_col { t with full:=false } 0]
 have g0:w3.cell? ⟨B,0,none⟩=some (.int .i64 t.gc):=by rw [hR3.s.cell 0];show some (Value.int .i64 (lineT { t with full:=false,col:=0 }).gc)=_;rw [lineT_gc]
 replace hZ0:=(show Hid _ from hZ0);clear hli hR3;go_wp2;go_quiet (fail);go_wp2;have hZ:=hZ0.out.below (drwP w3 nq);have hbz:base<=(w3.drewN nq).heap.size:=Nat.le_trans hbw.out (Nat.le_trans hZ0.out.g.size (drwP w3 nq).size);obtain ⟨Wz,hWz⟩:∃ Wz,Hid (Wz=w3.drewN nq):=⟨_,rfl⟩;rw [<- hWz.out] at hZ hbz
 have hd:Below Wz.heap.size Wz (w3.drewN (nq+1)):=by rw [hWz.out];exact ⟨rfl,rfl,rfl,Nat.le_refl _,fun _ _=>rfl⟩
 clear g5 g0 hZ0;obtain ⟨g,cap,i,a,ra,rn,rc,R,hie,hae,hiN,hRe,cf,ci,zi,hcd,hfr,hsc⟩:=print_facts cn N base B u _ _ _ Wz (by rw [hu.out];exact hZ.s) hbz rku.out.w r hw1r hqu;unfold PrC at cf hsc;replace hZ:=(show Hid _ from hZ);replace hRe:=(show Hid _ from hRe);replace hie:=(show Hid _ from hie);have esy:IntKind.i64.wrap ((a:Int)+wd)=sy:=by rw [<- hae,hsy.out];have h9:=hsy.out;have h8:=rku.out.w.col;have h7:=rku.out.w.c;simp [IntKind.wrap,IntKind.bits,IntKind.signed];omega
 have egc:IntKind.i64.wrap (t.gc-1)=t.gc-1:=by have h8:=rku.out.w.gc;have h7:=rku.out.w.c;simp [IntKind.wrap,IntKind.bits,IntKind.signed];omega
 replace hae:=(show Hid _ from hae);have i0:(0:Int)<=(i:Int):=by omega
 have i1:(i:Int)<(N:Int):=by omega
 have di:=ci _ hd;clear rku hqu;refine wp_region_noPanic ?_;refine wp_region_held_drew (S:=(fun W=>W.cell? ⟨B,1,none⟩=some (.slice (some ⟨g,0,none⟩) N cap)/\W.cell? ⟨B,4,none⟩=some (.int .i64 (i:Int))/\W.cell? ⟨B,5,none⟩=some (.int .i64 (a:Int))/\W.cell? ⟨B,6,none⟩=some (.int .i64 u.st.fore)/\W.cell? ⟨B,7,none⟩=some (.int .i64 u.st.back)/\W.cell? ⟨B,8,none⟩=some (.bool u.st.bold)/\W.cell? ⟨B,9,none⟩=some (.bool u.st.under)/\W.cell? ⟨B,10,none⟩=some (.bool u.st.turned))) (by kernel_rfl) (cf _ hd) (fun Hh=>?_);refine' wpAnyH_take (i:=0) (v:=_) rfl (by kernel_rfl) (by kernel_rfl) (by kernel_rfl) (fun _ _ _ h=>h) (Or.inl ⟨by rfl,?hy1001⟩) Hh ?hr1001
 case hy1001=>(intro w hSw;(try dsimp only at hSw);go_simp;(try with_reducible rfl))
 simp only [Act.put,ZA,ZB,ZC,ZD,ZE];refine' wpAnyH_take (i:=1) (v:=_) rfl (by kernel_rfl) (by kernel_rfl) (by kernel_rfl) (fun _ _ _ h=>h) (Or.inl ⟨by rfl,?hy1002⟩) Hh ?hr1002
 case hy1002=>(intro w hSw;(try dsimp only at hSw);go_simp;(try with_reducible rfl))
 simp only [Act.put,ZA,ZB,ZC,ZD,ZE,ZF];refine' wpAnyH_take (i:=2) (v:=_) rfl (by kernel_rfl) (by kernel_rfl) (by kernel_rfl) (fun _ _ _ h=>h) (Or.inl ⟨by rfl,?hy1003⟩) Hh ?hr1003
 case hy1003=>(intro w hSw;(try dsimp only at hSw);go_simp;(try with_reducible rfl))
 simp only [Act.put,ZA,ZB,ZC,ZD,ZE,ZF];refine' wpAnyH_take (i:=3) (v:=_) rfl (by kernel_rfl) (by kernel_rfl) (by kernel_rfl) (fun _ _ _ h=>h) (Or.inl ⟨by rfl,?hy1004⟩) Hh ?hr1004
 case hy1004=>(intro w hSw;(try dsimp only at hSw);go_simp;(try with_reducible rfl))
 simp only [Act.put,ZA,ZB,ZC,ZD,ZE,ZF];refine' wpAnyH_take (i:=4) (v:=_) rfl (by kernel_rfl) (by kernel_rfl) (by kernel_rfl) (fun _ _ _ h=>h) (Or.inl ⟨by rfl,?hy1005⟩) Hh ?hr1005
 case hy1005=>(intro w hSw;(try dsimp only at hSw);go_simp;(try with_reducible rfl))
 simp only [Act.put,ZA,ZB,ZC,ZD,ZE,ZF];refine' wpAnyH_take (i:=5) (v:=_) rfl (by kernel_rfl) (by kernel_rfl) (by kernel_rfl) (fun _ _ _ h=>h) (Or.inl ⟨by rfl,?hy1006⟩) Hh ?hr1006
 case hy1006=>(intro w hSw;(try dsimp only at hSw);go_simp;(try with_reducible rfl))
 simp only [Act.put,ZA,ZB,ZC,ZD,ZE,ZF];refine' wpAnyH_take (i:=6) (v:=_) rfl (by kernel_rfl) (by kernel_rfl) (by kernel_rfl) (fun _ _ _ h=>h) (Or.inl ⟨by rfl,?hy1007⟩) Hh ?hr1007
 case hy1007=>(intro w hSw;(try dsimp only at hSw);go_simp;(try with_reducible rfl))
 simp only [Act.put,ZA,ZB,ZC,ZD,ZE,ZF];refine' wpAnyH_take (i:=7) (v:=_) rfl (by kernel_rfl) (by kernel_rfl) (by kernel_rfl) (fun _ _ _ h=>h) (Or.inl ⟨by rfl,?hy1008⟩) Hh ?hr1008
 case hy1008=>(intro w hSw;(try dsimp only at hSw);go_simp;(try with_reducible rfl))
 simp only [Act.put,ZA,ZB,ZC,ZD,ZE,ZF];refine' wpAnyH_take (i:=8) (v:=_) rfl (by kernel_rfl) (by kernel_rfl) (by kernel_rfl) (fun _ _ _ h=>h) (Or.inl ⟨by rfl,?hy1009⟩) Hh ?hr1009
 case hy1009=>(intro w hSw;(try dsimp only at hSw);go_simp;(try with_reducible rfl))
 simp only [Act.put,ZA,ZB,ZC,ZD,ZE,ZF];refine' wpAnyH_take (i:=9) (v:=_) rfl (by kernel_rfl) (by kernel_rfl) (by kernel_rfl) (fun _ _ _ h=>h) (Or.inl ⟨by rfl,?hy1010⟩) Hh ?hr1010
 case hy1010=>(intro w hSw;(try dsimp only at hSw);go_simp;(try with_reducible rfl))
 simp only [Act.put,ZA,ZB,ZC,ZD,ZE,ZF];refine' wpAnyH_take (i:=10) (v:=_) rfl (by kernel_rfl) (by kernel_rfl) (by kernel_rfl) (fun _ _ _ h=>h) (Or.inl ⟨by rfl,?hy1011⟩) Hh ?hr1011
 case hy1011=>(intro w hSw;(try dsimp only at hSw);go_simp;(try with_reducible rfl))
 simp only [Act.put,ZA,ZB,ZC,ZD,ZE,ZF];refine' wpAnyH_take (i:=11) (v:=_) rfl (by kernel_rfl) (by kernel_rfl) (by kernel_rfl) (fun _ _ _ h=>h) (Or.inl ⟨by rfl,?hy1012⟩) Hh ?hr1012
 case hy1012=>(intro w hSw;(try dsimp only at hSw);go_simp;(try with_reducible rfl))
 simp only [Act.put,ZA,ZB,ZC,ZD,ZE,ZF];refine' wpAnyH_take (i:=12) (v:=_) rfl (by kernel_rfl) (by kernel_rfl) (by kernel_rfl) (fun _ _ _ h=>h) (Or.inl ⟨by rfl,?hy1013⟩) Hh ?hr1013
 case hy1013=>(intro w hSw;(try dsimp only at hSw);go_simp;(try with_reducible rfl))
 simp only [Act.put,ZA,ZB,ZC,ZD,ZE,ZF];refine' wpAnyH_take (i:=13) (v:=_) rfl (by kernel_rfl) (by kernel_rfl) (by kernel_rfl) (fun _ _ _ h=>h) (Or.inl ⟨by rfl,?hy1014⟩) Hh ?hr1014
 case hy1014=>(intro w hSw;(try dsimp only at hSw);go_simp;(try with_reducible rfl))
 simp only [Act.put,ZA,ZB,ZC,ZD,ZE,ZF];refine' wpAnyH_take (i:=14) (v:=_) rfl (by kernel_rfl) (by kernel_rfl) (by kernel_rfl) (fun _ _ _ h=>h) (Or.inl ⟨by rfl,?hy1015⟩) Hh ?hr1015
 case hy1015=>(intro w hSw;(try dsimp only at hSw);go_simp;(try with_reducible rfl))
 simp only [Act.put,ZA,ZB,ZC,ZD,ZE,ZF];refine' wpAnyH_take (i:=15) (v:=_) rfl (by kernel_rfl) (by kernel_rfl) (by kernel_rfl) (fun _ _ _ h=>h) (Or.inl ⟨by rfl,?hy1016⟩) Hh ?hr1016
 case hy1016=>(intro w hSw;(try dsimp only at hSw);go_simp;(try with_reducible rfl))
 simp only [Act.put,ZA,ZB,ZC,ZD,ZE,ZF];refine' wpAnyH_take (i:=16) (v:=_) rfl (by kernel_rfl) (by kernel_rfl) (by kernel_rfl) (fun _ _ _ h=>h) (Or.inl ⟨by rfl,?hy1017⟩) Hh ?hr1017
 case hy1017=>(intro w hSw;(try dsimp only at hSw);go_simp;(try with_reducible rfl))
 simp only [Act.put,ZA,ZB,ZC,ZD,ZE,ZF];refine' wpAnyH_take (i:=17) (v:=_) rfl (by kernel_rfl) (by kernel_rfl) (by kernel_rfl) (fun _ _ _ h=>h) (Or.inl ⟨by rfl,?hy1018⟩) Hh ?hr1018
 case hy1018=>(intro w hSw;(try dsimp only at hSw);go_simp;(try with_reducible rfl))
 simp only [Act.put,ZA,ZB,ZC,ZD,ZE,ZF];refine' wpAnyH_take (i:=18) (v:=_) rfl (by kernel_rfl) (by kernel_rfl) (by kernel_rfl) (fun _ _ _ h=>h) (Or.inl ⟨by rfl,?hy1019⟩) Hh ?hr1019
 case hy1019=>(intro w hSw;(try dsimp only at hSw);go_simp;(try with_reducible rfl))
 simp only [Act.put,ZA,ZB,ZC,ZD,ZE,ZF];refine' wpAnyH_take (i:=20) (v:=_) rfl (by kernel_rfl) (by kernel_rfl) (by kernel_rfl) (fun _ _ _ h=>h) (Or.inl ⟨by rfl,?hy1020⟩) Hh ?hr1020
 case hy1020=>(intro w hSw;(try dsimp only at hSw);go_simp;(try with_reducible rfl))
 simp only [Act.put,ZA,ZB,ZC,ZD,ZE,ZF];refine' wpAnyH_take (i:=21) (v:=_) rfl (by kernel_rfl) (by kernel_rfl) (by kernel_rfl) (fun _ _ _ h=>h) (Or.inl ⟨by rfl,?hy1021⟩) Hh ?hr1021
 case hy1021=>(intro w hSw;(try dsimp only at hSw);go_simp;(try with_reducible rfl))
 simp only [Act.put,ZA,ZB,ZC,ZD,ZE,ZF];refine' wpAnyH_take (i:=22) (v:=_) rfl (by kernel_rfl) (by kernel_rfl) (by kernel_rfl) (fun _ _ _ h=>h) (Or.inl ⟨by rfl,?hy1022⟩) Hh ?hr1022
 case hy1022=>(intro w hSw;(try dsimp only at hSw);go_simp;(try with_reducible rfl))
 simp only [Act.put,ZA,ZB,ZC,ZD,ZE,ZF];refine' wpAnyH_take (i:=23) (v:=_) rfl (by kernel_rfl) (by kernel_rfl) (by kernel_rfl) (fun _ _ _ h=>h) (Or.inl ⟨by rfl,?hy1023⟩) Hh ?hr1023
 case hy1023=>(intro w hSw;(try dsimp only at hSw);go_simp;(try with_reducible rfl))
 simp only [Act.put,ZA,ZB,ZC,ZD,ZE,ZF];refine' wpAnyH_take (i:=24) (v:=_) rfl (by kernel_rfl) (by kernel_rfl) (by kernel_rfl) (fun _ _ _ h=>h) (Or.inl ⟨by rfl,?hy1024⟩) Hh ?hr1024
 case hy1024=>(intro w hSw;(try dsimp only at hSw);go_simp;(try with_reducible rfl))
 simp only [Act.put,ZA,ZB,ZC,ZD,ZE,ZF];refine' wpAnyH_take (i:=25) (v:=_) rfl (by kernel_rfl) (by kernel_rfl) (by kernel_rfl) (fun _ _ _ h=>h) (Or.inl ⟨by rfl,?hy1025⟩) Hh ?hr1025
 case hy1025=>(intro w hSw;(try dsimp only at hSw);go_simp;(try with_reducible rfl))
 simp only [Act.put,ZA,ZB,ZC,ZD,ZE,ZF];refine' wpAnyH_take (i:=26) (v:=_) rfl (by kernel_rfl) (by kernel_rfl) (by kernel_rfl) (fun _ _ _ h=>h) (Or.inl ⟨by rfl,?hy1026⟩) Hh ?hr1026
 case hy1026=>(intro w hSw;(try dsimp only at hSw);go_simp;(try with_reducible rfl))
 simp only [Act.put,ZA,ZB,ZC,ZD,ZE,ZF];refine' wpAnyH_take (i:=27) (v:=_) rfl (by kernel_rfl) (by kernel_rfl) (by kernel_rfl) (fun _ _ _ h=>h) (Or.inl ⟨by rfl,?hy1027⟩) Hh ?hr1027
 case hy1027=>(intro w hSw;(try dsimp only at hSw);go_simp;(try with_reducible rfl))
 simp only [Act.put,ZA,ZB,ZC,ZD,ZE,ZF];refine' wpAnyH_take (i:=28) (v:=_) rfl (by kernel_rfl) (by kernel_rfl) (by kernel_rfl) (fun _ _ _ h=>h) (Or.inl ⟨by rfl,?hy1028⟩) Hh ?hr1028
 case hy1028=>(intro w hSw;(try dsimp only at hSw);go_simp;(try with_reducible rfl))
 refine rdo 19 fun K hK=>?_
 go_simp;refine hK.out _ _ (Hh) (fun Hh=>?_);clear hK K;refine rdo 29 fun K hK=>?_
 go_simp;refine (hcd _ hd).mono ?_;rintro e w2 ⟨x,rfl,hx,hb⟩;have hx2:=hx.low hd.size;replace hd:=hd.trans (hb.mono hd.size);obtain ⟨ua,un,uc,hue⟩:=hx2.isSl;subst hue;have di:=ci _ hd;have zj:=zi _ hd;go_wp2_with fail;refine hK.out _ _ (cf _ hd) (fun Hh=>?_);clear hK K
 (try simp only [Act.put,ZA,ZB,ZC,ZD,ZE,ZF])
 refine' wpAnyH_take (i:=30) (v:=_) rfl (by kernel_rfl) (by kernel_rfl) (by kernel_rfl) (fun _ _ _ h=>h) (Or.inl ⟨by rfl,?hy1029⟩) Hh ?hr1029
 case hy1029=>(intro w hSw;(try dsimp only at hSw);go_simp;(try with_reducible rfl))
 refine rdo 31 fun K hK=>?_
 go_simp;refine hK.out _ _ (hsc _ _ hd) (fun Hh=>?_);clear hK K
 (try simp only [Act.put,ZA,ZB,ZC,ZD,ZE,ZF])
 refine dn ?_;have hRow:=hZ.out.trans (hfr _ _ hd hx2);clear hfr hcd cf hsc ci zi di zj hd hx hx2 hb Hh hZ;generalize w2.setCell ⟨g,i,none⟩ (.slice ua un uc)=Wq at *;have y5:Wq.cell? ⟨B,5,none⟩=some (.int .i64 (a:Int)):=by rw [<- hae.out];exact hRow.s.cell 5
 have y0:Wq.cell? ⟨B,0,none⟩=some (.int .i64 t.gc):=by rw [<- hug];exact hRow.s.cell 0
 have x5:Wq.frozen? ⟨B,5,none⟩=false:=hRow.s.frozen 5;have x13:Wq.frozen? ⟨B,13,none⟩=false:=hRow.s.frozen 13;have y13:∃ bb,Wq.cell? ⟨B,13,none⟩=some (.bool bb):=⟨_,hRow.s.cell 13⟩;obtain ⟨bb,y13⟩:=y13;have hfin:=fun q=>print_on base B u v _ vg vo _ _ w Wq R t.gc r hRow hRe.out (by rw [hwdo,hsy.out];omega) q
 rw [hwdo,hsy.out] at hfin
 replace hfin:=(show Hid _ from hfin);clear hRow hug hwdo huc;go_wp2;go_quiet (fail);go_wp2;refine be ?_;exact ⟨rfl,_,_,_,hfin.out _⟩
end Go.Proofs.YtgcnmjjlmcnllaaGreatDoor
