/- Parts of the proof. -/
import Derived.Test.YtgcnmjjlmcnllaaGreatDoorP1
import Derived.Test.YtgcnmjjlmcnllaaGreatDoorP18
namespace Go.Proofs.YtgcnmjjlmcnllaaGreatDoor
set_option maxRecDepth 20000
set_option maxHeartbeats 16000000
open Go.ChangeShapes Go.WideShapes Go.ChangeAt Go.RowKit
theorem l7Erase_0f (cn N base B:Nat) (t:Te) (v:Tv) (vg vo:List Value) (w:World) (h:Scr w 35 base B [] t v vg vo) (hbase:base<=w.heap.size) (rt:RtW t cn N) :
  Calls Tryz.prog 214 #[.pointer (some ⟨B,0,none⟩),.int .i64 0,.bool false] w fun e w'=>e=.returned (.tuple #[])/\∃ v' vg' vo',Res w w' 35 base B [] v vg vo (if false=true then Go.Proofs.YtgcnmjjlmcnllaaGreatDoor.eraseAll t 0 else Go.Proofs.YtgcnmjjlmcnllaaGreatDoor.eraseRow t 0) v' vg' vo':=by
 have hrow:=rt.row;have hcol:=rt.col;have hcc:=rt.c;have hn1:=rt.n1;have c0:w.cell? ⟨B,0,none⟩=some (.int .i64 (cn:Int)):=by rw [<- rt.gc];exact h.cell 0
 have c4:w.cell? ⟨B,4,none⟩=some (.int .i64 t.row):=h.cell 4;have c5:w.cell? ⟨B,5,none⟩=some (.int .i64 t.col):=h.cell 5
 have hin:∀ (j:Nat) (wr:World) (v':Tv) (vg' vo':List Value),Res w wr 35 base B [] v vg vo { t with g:=eaG t 0 cn j } v' vg' vo'->wr.cell? ⟨B,4,none⟩=some (.int .i64 t.row)/\∃ a c,wr.cell? ⟨B,1,none⟩=some (.slice a N c):=fun j wr v' vg' vo' hr=>by
  refine ⟨hr.s.cell 4,?_⟩;obtain ⟨a,c,e⟩:=sGs (SlG.of_own hr.s.o.1.g);have en:(eaG t 0 cn j).length=N:=by rw [eaG_len];exact rt.n
  refine ⟨a,c,?_⟩;rw [hr.s.cell 1]
  show some v'.g=_
  rw [e]
  show some (Value.slice a (eaG t 0 cn j).length c)=_
  rw [en]
 have hE:clearT t t.row t.col (cn:Int)=Go.Proofs.YtgcnmjjlmcnllaaGreatDoor.eraseRow t 0:=by rw [<- rt.gc];rfl
 have hd:=bdr w;have hcl:=l7Clear_any cn N base B t v vg vo w.drew (h.below hd) (Nat.le_trans hbase hd.size) rt t.row t.col (cn:Int) (by omega) (by omega);rw [hE] at hcl
 have cf:∀ W,Below w.heap.size w W->W.cell? ⟨B,4,none⟩=some (.int .i64 t.row)/\W.cell? ⟨B,5,none⟩=some (.int .i64 t.col):=fun W hb=>⟨(h.below hb).cell 4,(h.below hb).cell 5⟩
 have cg:∀ W v1 vg1 vo1,Res w.drew W 35 base B [] v vg vo (Go.Proofs.YtgcnmjjlmcnllaaGreatDoor.eraseRow t 0) v1 vg1 vo1->W.cell? ⟨B,4,none⟩=some (.int .i64 t.row)/\W.cell? ⟨B,5,none⟩=some (.int .i64 t.col):=fun W v1 vg1 vo1 r=>by
  rw [<- hE] at r
  exact ⟨r.s.cell 4,r.s.cell 5⟩
 clear hE;go_enter Tryz.func214,Tryz.ntmps214;go_wp2;clear c0 c4 c5;refine wp_region_noPanic ?_;refine wp_region_held_drew (S:=(fun W=>W.cell? ⟨B,4,none⟩=some (.int .i64 t.row)/\W.cell? ⟨B,5,none⟩=some (.int .i64 t.col))) (by kernel_rfl) (cf _ hd) (fun Hh=>?_);refine' wpAnyH_take (i:=0) (v:=_) rfl (by kernel_rfl) (by kernel_rfl) (by kernel_rfl) (fun _ _ _ h=>h) (Or.inl ⟨by rfl,?hy1001⟩) Hh ?hr1001
 case hy1001=>(intro w hSw;(try dsimp only at hSw);go_simp;(try with_reducible rfl))
 simp only [Act.put,ZA,ZB,ZC,ZD,ZE];refine' wpAnyH_take (i:=1) (v:=_) rfl (by kernel_rfl) (by kernel_rfl) (by kernel_rfl) (fun _ _ _ h=>h) (Or.inl ⟨by rfl,?hy1002⟩) Hh ?hr1002
 case hy1002=>(intro w hSw;(try dsimp only at hSw);go_simp;(try with_reducible rfl))
 simp only [Act.put,ZA,ZB,ZC,ZD,ZE,ZF];refine' wpAnyH_take (i:=2) (v:=_) rfl (by kernel_rfl) (by kernel_rfl) (by kernel_rfl) (fun _ _ _ h=>h) (Or.inl ⟨by rfl,?hy1003⟩) Hh ?hr1003
 case hy1003=>(intro w hSw;(try dsimp only at hSw);go_simp;(try with_reducible rfl))
 simp only [Act.put,ZA,ZB,ZC,ZD,ZE,ZF];refine' wpAnyH_take (i:=3) (v:=_) rfl (by kernel_rfl) (by kernel_rfl) (by kernel_rfl) (fun _ _ _ h=>h) (Or.inl ⟨by rfl,?hy1004⟩) Hh ?hr1004
 case hy1004=>(intro w hSw;(try dsimp only at hSw);go_simp;(try with_reducible rfl))
 simp only [Act.put,ZA,ZB,ZC,ZD,ZE,ZF];refine' wpAnyH_take (i:=4) (v:=_) rfl (by kernel_rfl) (by kernel_rfl) (by kernel_rfl) (fun _ _ _ h=>h) (Or.inl ⟨by rfl,?hy1005⟩) Hh ?hr1005
 case hy1005=>(intro w hSw;(try dsimp only at hSw);go_simp;(try with_reducible rfl))
 simp only [Act.put,ZA,ZB,ZC,ZD,ZE,ZF];refine' wpAnyH_take (i:=5) (v:=_) rfl (by kernel_rfl) (by kernel_rfl) (by kernel_rfl) (fun _ _ _ h=>h) (Or.inl ⟨by rfl,?hy1006⟩) Hh ?hr1006
 case hy1006=>(intro w hSw;(try dsimp only at hSw);go_simp;(try with_reducible rfl))
 simp only [Act.put,ZA,ZB,ZC,ZD,ZE,ZF];refine' wpAnyH_take (i:=6) (v:=_) rfl (by kernel_rfl) (by kernel_rfl) (by kernel_rfl) (fun _ _ _ h=>h) (Or.inl ⟨by rfl,?hy1007⟩) Hh ?hr1007
 case hy1007=>(intro w hSw;(try dsimp only at hSw);go_simp;(try with_reducible rfl))
 simp only [Act.put,ZA,ZB,ZC,ZD,ZE,ZF];refine' wpAnyH_take (i:=7) (v:=_) rfl (by kernel_rfl) (by kernel_rfl) (by kernel_rfl) (fun _ _ _ h=>h) (Or.inl ⟨by rfl,?hy1008⟩) Hh ?hr1008
 case hy1008=>(intro w hSw;(try dsimp only at hSw);go_simp;(try with_reducible rfl))
 simp only [Act.put,ZA,ZB,ZC,ZD,ZE,ZF];refine' wpAnyH_take (i:=8) (v:=_) rfl (by kernel_rfl) (by kernel_rfl) (by kernel_rfl) (fun _ _ _ h=>h) (Or.inl ⟨by rfl,?hy1009⟩) Hh ?hr1009
 case hy1009=>(intro w hSw;(try dsimp only at hSw);go_simp;(try with_reducible rfl))
 simp only [Act.put,ZA,ZB,ZC,ZD,ZE,ZF];refine' wpAnyH_take (i:=9) (v:=_) rfl (by kernel_rfl) (by kernel_rfl) (by kernel_rfl) (fun _ _ _ h=>h) (Or.inl ⟨by rfl,?hy1010⟩) Hh ?hr1010
 case hy1010=>(intro w hSw;(try dsimp only at hSw);go_simp;(try with_reducible rfl))
 refine rd 10 fun K hK=>?_
 go_simp;refine hcl.mono ?_;rintro e w1 ⟨rfl,v1,vg1,vo1,hR⟩;go_wp2_with fail;refine hK.out _ _ (cg _ _ _ _ hR) (fun Hh=>?_);clear hK K
 (try simp only [Act.put,ZA,ZB,ZC,ZD,ZE,ZF])
 refine dn ?_;replace hR:=(Res.of_below h hd).trans hR;clear hcl cf cg hd Hh;have hK:=(show Hid (Res w _ 35 base B [] v vg vo { t with g:=eaG t 0 cn 0 } _ _ _) from by rw [eaG_zero];exact hR);clear hR;go_wp2;go_loopw [7] (fun i wr=>∃ (j:Nat) (v':Tv) (vg' vo':List Value),i=.int .i64 j/\j<=N/\Hid (false=false->j=0)/\Hid (Res w wr 35 base B [] v vg vo { t with g:=eaG t 0 cn j } v' vg' vo')) (fun i _=>N-(intOf i).toNat)
 case atStart=>exact ⟨0,_,_,_,rfl,Nat.zero_le _,(fun _=>rfl),hK⟩
 case round =>
  clear hK;obtain ⟨j,v',vg',vo',rfl,hj,hz,hK⟩:=hrel;obtain ⟨c4,la,lc,hlc⟩:=hin j wr v' vg' vo' hK.out;have hla:=l7Last_any B la N lc wr hlc (by omega);have hj0:(0:Int)<=(j:Int):=by omega
  obtain rfl:j=0:=hz.out rfl;clear hin hz
  by_cases hle:(0:Int)<=(N:Int)-1
  ·rw [eaG_zero] at hK
   go_wp2_with fail;refine hla.mono ?_;rintro e wk ⟨rfl,hw⟩;subst hw;clear hla hlc c4;go_wp2;refine be ?_;exact ⟨rfl,_,_,_,hK.out⟩
  ·omega
theorem l7Erase_0t (cn N base B:Nat) (t:Te) (v:Tv) (vg vo:List Value) (w:World) (h:Scr w 35 base B [] t v vg vo) (hbase:base<=w.heap.size) (rt:RtW t cn N) :
  Calls Tryz.prog 214 #[.pointer (some ⟨B,0,none⟩),.int .i64 0,.bool true] w fun e w'=>e=.returned (.tuple #[])/\∃ v' vg' vo',Res w w' 35 base B [] v vg vo (if true=true then Go.Proofs.YtgcnmjjlmcnllaaGreatDoor.eraseAll t 0 else Go.Proofs.YtgcnmjjlmcnllaaGreatDoor.eraseRow t 0) v' vg' vo':=by
 have hrow:=rt.row;have hcol:=rt.col;have hcc:=rt.c;have hn1:=rt.n1;have c0:w.cell? ⟨B,0,none⟩=some (.int .i64 (cn:Int)):=by rw [<- rt.gc];exact h.cell 0
 have c4:w.cell? ⟨B,4,none⟩=some (.int .i64 t.row):=h.cell 4;have c5:w.cell? ⟨B,5,none⟩=some (.int .i64 t.col):=h.cell 5
 have hin:∀ (j:Nat) (wr:World) (v':Tv) (vg' vo':List Value),Res w wr 35 base B [] v vg vo { t with g:=eaG t 0 cn j } v' vg' vo'->wr.cell? ⟨B,4,none⟩=some (.int .i64 t.row)/\∃ a c,wr.cell? ⟨B,1,none⟩=some (.slice a N c):=fun j wr v' vg' vo' hr=>by
  refine ⟨hr.s.cell 4,?_⟩;obtain ⟨a,c,e⟩:=sGs (SlG.of_own hr.s.o.1.g);have en:(eaG t 0 cn j).length=N:=by rw [eaG_len];exact rt.n
  refine ⟨a,c,?_⟩;rw [hr.s.cell 1]
  show some v'.g=_
  rw [e]
  show some (Value.slice a (eaG t 0 cn j).length c)=_
  rw [en]
 have hE:clearT t t.row t.col (cn:Int)=Go.Proofs.YtgcnmjjlmcnllaaGreatDoor.eraseRow t 0:=by rw [<- rt.gc];rfl
 have hd:=bdr w;have hcl:=l7Clear_any cn N base B t v vg vo w.drew (h.below hd) (Nat.le_trans hbase hd.size) rt t.row t.col (cn:Int) (by omega) (by omega);rw [hE] at hcl
 have cf:∀ W,Below w.heap.size w W->W.cell? ⟨B,4,none⟩=some (.int .i64 t.row)/\W.cell? ⟨B,5,none⟩=some (.int .i64 t.col):=fun W hb=>⟨(h.below hb).cell 4,(h.below hb).cell 5⟩
 have cg:∀ W v1 vg1 vo1,Res w.drew W 35 base B [] v vg vo (Go.Proofs.YtgcnmjjlmcnllaaGreatDoor.eraseRow t 0) v1 vg1 vo1->W.cell? ⟨B,4,none⟩=some (.int .i64 t.row)/\W.cell? ⟨B,5,none⟩=some (.int .i64 t.col):=fun W v1 vg1 vo1 r=>by
  rw [<- hE] at r
  exact ⟨r.s.cell 4,r.s.cell 5⟩
 clear hE;go_enter Tryz.func214,Tryz.ntmps214;go_wp2;clear c0 c4 c5;refine wp_region_noPanic ?_;refine wp_region_held_drew (S:=(fun W=>W.cell? ⟨B,4,none⟩=some (.int .i64 t.row)/\W.cell? ⟨B,5,none⟩=some (.int .i64 t.col))) (by kernel_rfl) (cf _ hd) (fun Hh=>?_);refine' wpAnyH_take (i:=0) (v:=_) rfl (by kernel_rfl) (by kernel_rfl) (by kernel_rfl) (fun _ _ _ h=>h) (Or.inl ⟨by rfl,?hy1011⟩) Hh ?hr1011
 case hy1011=>(intro w hSw;(try dsimp only at hSw);go_simp;(try with_reducible rfl))
 simp only [Act.put,ZA,ZB,ZC,ZD,ZE];refine' wpAnyH_take (i:=1) (v:=_) rfl (by kernel_rfl) (by kernel_rfl) (by kernel_rfl) (fun _ _ _ h=>h) (Or.inl ⟨by rfl,?hy1012⟩) Hh ?hr1012
 case hy1012=>(intro w hSw;(try dsimp only at hSw);go_simp;(try with_reducible rfl))
 simp only [Act.put,ZA,ZB,ZC,ZD,ZE,ZF];refine' wpAnyH_take (i:=2) (v:=_) rfl (by kernel_rfl) (by kernel_rfl) (by kernel_rfl) (fun _ _ _ h=>h) (Or.inl ⟨by rfl,?hy1013⟩) Hh ?hr1013
 case hy1013=>(intro w hSw;(try dsimp only at hSw);go_simp;(try with_reducible rfl))
 simp only [Act.put,ZA,ZB,ZC,ZD,ZE,ZF];refine' wpAnyH_take (i:=3) (v:=_) rfl (by kernel_rfl) (by kernel_rfl) (by kernel_rfl) (fun _ _ _ h=>h) (Or.inl ⟨by rfl,?hy1014⟩) Hh ?hr1014
 case hy1014=>(intro w hSw;(try dsimp only at hSw);go_simp;(try with_reducible rfl))
 simp only [Act.put,ZA,ZB,ZC,ZD,ZE,ZF];refine' wpAnyH_take (i:=4) (v:=_) rfl (by kernel_rfl) (by kernel_rfl) (by kernel_rfl) (fun _ _ _ h=>h) (Or.inl ⟨by rfl,?hy1015⟩) Hh ?hr1015
 case hy1015=>(intro w hSw;(try dsimp only at hSw);go_simp;(try with_reducible rfl))
 simp only [Act.put,ZA,ZB,ZC,ZD,ZE,ZF];refine' wpAnyH_take (i:=5) (v:=_) rfl (by kernel_rfl) (by kernel_rfl) (by kernel_rfl) (fun _ _ _ h=>h) (Or.inl ⟨by rfl,?hy1016⟩) Hh ?hr1016
 case hy1016=>(intro w hSw;(try dsimp only at hSw);go_simp;(try with_reducible rfl))
 simp only [Act.put,ZA,ZB,ZC,ZD,ZE,ZF];refine' wpAnyH_take (i:=6) (v:=_) rfl (by kernel_rfl) (by kernel_rfl) (by kernel_rfl) (fun _ _ _ h=>h) (Or.inl ⟨by rfl,?hy1017⟩) Hh ?hr1017
 case hy1017=>(intro w hSw;(try dsimp only at hSw);go_simp;(try with_reducible rfl))
 simp only [Act.put,ZA,ZB,ZC,ZD,ZE,ZF];refine' wpAnyH_take (i:=7) (v:=_) rfl (by kernel_rfl) (by kernel_rfl) (by kernel_rfl) (fun _ _ _ h=>h) (Or.inl ⟨by rfl,?hy1018⟩) Hh ?hr1018
 case hy1018=>(intro w hSw;(try dsimp only at hSw);go_simp;(try with_reducible rfl))
 simp only [Act.put,ZA,ZB,ZC,ZD,ZE,ZF];refine' wpAnyH_take (i:=8) (v:=_) rfl (by kernel_rfl) (by kernel_rfl) (by kernel_rfl) (fun _ _ _ h=>h) (Or.inl ⟨by rfl,?hy1019⟩) Hh ?hr1019
 case hy1019=>(intro w hSw;(try dsimp only at hSw);go_simp;(try with_reducible rfl))
 simp only [Act.put,ZA,ZB,ZC,ZD,ZE,ZF];refine' wpAnyH_take (i:=9) (v:=_) rfl (by kernel_rfl) (by kernel_rfl) (by kernel_rfl) (fun _ _ _ h=>h) (Or.inl ⟨by rfl,?hy1020⟩) Hh ?hr1020
 case hy1020=>(intro w hSw;(try dsimp only at hSw);go_simp;(try with_reducible rfl))
 refine rd 10 fun K hK=>?_
 go_simp;refine hcl.mono ?_;rintro e w1 ⟨rfl,v1,vg1,vo1,hR⟩;go_wp2_with fail;refine hK.out _ _ (cg _ _ _ _ hR) (fun Hh=>?_);clear hK K
 (try simp only [Act.put,ZA,ZB,ZC,ZD,ZE,ZF])
 refine dn ?_;replace hR:=(Res.of_below h hd).trans hR;clear hcl cf cg hd Hh;have hK:=(show Hid (Res w _ 35 base B [] v vg vo { t with g:=eaG t 0 cn 0 } _ _ _) from by rw [eaG_zero];exact hR);clear hR;go_wp2;go_loopw [7] (fun i wr=>∃ (j:Nat) (v':Tv) (vg' vo':List Value),i=.int .i64 j/\j<=N/\Hid (true=false->j=0)/\Hid (Res w wr 35 base B [] v vg vo { t with g:=eaG t 0 cn j } v' vg' vo')) (fun i _=>N-(intOf i).toNat)
 case atStart=>exact ⟨0,_,_,_,rfl,Nat.zero_le _,(fun _=>rfl),hK⟩
 case round =>
  clear hK;obtain ⟨j,v',vg',vo',rfl,hj,hz,hK⟩:=hrel;obtain ⟨c4,la,lc,hlc⟩:=hin j wr v' vg' vo' hK.out;have hla:=l7Last_any B la N lc wr hlc (by omega);have hj0:(0:Int)<=(j:Int):=by omega
  by_cases hlt:j<N
  ·have hle:(j:Int)<=(N:Int)-1:=by omega
   have hbj:base<=wr.heap.size:=Nat.le_trans hbase hK.out.g.size
   by_cases hc:t.row<(j:Int)
   ·have hcl:=l7Clear_any cn N base B { t with g:=eaG t 0 cn j } v' vg' vo' wr hK.out.s hbj (rt.ea 0 j) (j:Int) 0 (cn:Int) (by omega) (by omega)
    rw [eaG_step t 0 cn j (by rw [rt.n];exact hlt) (.inr (.inl ⟨rfl,hc⟩))] at hcl
    have hnx:=fun W v2 g2 o2 (r:Res wr W 35 base B [] v' vg' vo' { t with g:=eaG t 0 cn (j+1) } v2 g2 o2)=>(show Hid (Res w W 35 base B [] v vg vo { t with g:=eaG t 0 cn (j+1) } v2 g2 o2) from hK.out.trans r)
    clear hK hin hz hbj rt hbase h hlc;go_wp2_with fail;refine hla.mono ?_;rintro e wk ⟨rfl,hw⟩;subst hw;clear hla;go_wp2_with fail;refine hcl.mono ?_;rintro e w2 ⟨rfl,v2,g2,o2,hR⟩;have hF:=hnx _ _ _ _ hR;clear hcl hnx hR c4;go_wp2;go_roundw
    case rel=>exact ⟨j+1,v2,g2,o2,by go_num,by omega,(fun e=>by simp at e),hF⟩
    case measure=>simp [intOf];omega
   ·rw [<- eaG_skip t 0 cn j (fun e=>by unfold eaP at e;omega)] at hK
    clear hin hz hbj rt hbase h hlc;go_wp2_with fail;refine hla.mono ?_;rintro e wk ⟨rfl,hw⟩;subst hw;clear hla;go_wp2;go_roundw
    case rel=>exact ⟨j+1,_,_,_,by go_num,by omega,(fun e=>by simp at e),hK⟩
    case measure=>simp [intOf];omega
  ·have hle:¬ (j:Int)<=(N:Int)-1:=by omega
   obtain rfl:j=N:=by omega
   rw [eaG_end rt 0] at hK
   clear hin hz;go_wp2_with fail;refine hla.mono ?_;rintro e wk ⟨rfl,hw⟩;subst hw;clear hla hlc c4;go_wp2;refine be ?_;exact ⟨rfl,_,_,_,hK.out⟩
theorem l7Erase_1f (cn N base B:Nat) (t:Te) (v:Tv) (vg vo:List Value) (w:World) (h:Scr w 35 base B [] t v vg vo) (hbase:base<=w.heap.size) (rt:RtW t cn N) :
  Calls Tryz.prog 214 #[.pointer (some ⟨B,0,none⟩),.int .i64 1,.bool false] w fun e w'=>e=.returned (.tuple #[])/\∃ v' vg' vo',Res w w' 35 base B [] v vg vo (if false=true then Go.Proofs.YtgcnmjjlmcnllaaGreatDoor.eraseAll t 1 else Go.Proofs.YtgcnmjjlmcnllaaGreatDoor.eraseRow t 1) v' vg' vo':=by
 have hrow:=rt.row;have hcol:=rt.col;have hcc:=rt.c;have hn1:=rt.n1;have c0:w.cell? ⟨B,0,none⟩=some (.int .i64 (cn:Int)):=by rw [<- rt.gc];exact h.cell 0
 have c4:w.cell? ⟨B,4,none⟩=some (.int .i64 t.row):=h.cell 4;have c5:w.cell? ⟨B,5,none⟩=some (.int .i64 t.col):=h.cell 5
 have hin:∀ (j:Nat) (wr:World) (v':Tv) (vg' vo':List Value),Res w wr 35 base B [] v vg vo { t with g:=eaG t 1 cn j } v' vg' vo'->wr.cell? ⟨B,4,none⟩=some (.int .i64 t.row)/\∃ a c,wr.cell? ⟨B,1,none⟩=some (.slice a N c):=fun j wr v' vg' vo' hr=>by
  refine ⟨hr.s.cell 4,?_⟩;obtain ⟨a,c,e⟩:=sGs (SlG.of_own hr.s.o.1.g);have en:(eaG t 1 cn j).length=N:=by rw [eaG_len];exact rt.n
  refine ⟨a,c,?_⟩;rw [hr.s.cell 1]
  show some v'.g=_
  rw [e]
  show some (Value.slice a (eaG t 1 cn j).length c)=_
  rw [en]
 have hE:clearT t t.row 0 (t.col+1)=Go.Proofs.YtgcnmjjlmcnllaaGreatDoor.eraseRow t 1:=by rfl
 have hw:IntKind.i64.wrap (t.col+1)=t.col+1:=by simp [IntKind.wrap,IntKind.bits,IntKind.signed];omega
 have hd:=bdr w;have hcl:=l7Clear_any cn N base B t v vg vo w.drew (h.below hd) (Nat.le_trans hbase hd.size) rt t.row 0 (t.col+1) (by omega) (by omega);rw [hE] at hcl
 have cf:∀ W,Below w.heap.size w W->W.cell? ⟨B,4,none⟩=some (.int .i64 t.row)/\W.cell? ⟨B,5,none⟩=some (.int .i64 t.col):=fun W hb=>⟨(h.below hb).cell 4,(h.below hb).cell 5⟩
 have cg:∀ W v1 vg1 vo1,Res w.drew W 35 base B [] v vg vo (Go.Proofs.YtgcnmjjlmcnllaaGreatDoor.eraseRow t 1) v1 vg1 vo1->W.cell? ⟨B,4,none⟩=some (.int .i64 t.row)/\W.cell? ⟨B,5,none⟩=some (.int .i64 t.col):=fun W v1 vg1 vo1 r=>by
  rw [<- hE] at r
  exact ⟨r.s.cell 4,r.s.cell 5⟩
 clear hE;go_enter Tryz.func214,Tryz.ntmps214;go_wp2;clear c0 c4 c5;refine wp_region_noPanic ?_;refine wp_region_held_drew (S:=(fun W=>W.cell? ⟨B,4,none⟩=some (.int .i64 t.row)/\W.cell? ⟨B,5,none⟩=some (.int .i64 t.col))) (by kernel_rfl) (cf _ hd) (fun Hh=>?_);refine' wpAnyH_take (i:=0) (v:=_) rfl (by kernel_rfl) (by kernel_rfl) (by kernel_rfl) (fun _ _ _ h=>h) (Or.inl ⟨by rfl,?hy1021⟩) Hh ?hr1021
 case hy1021=>(intro w hSw;(try dsimp only at hSw);go_simp;(try with_reducible rfl))
 simp only [Act.put,ZA,ZB,ZC,ZD,ZE];refine' wpAnyH_take (i:=1) (v:=_) rfl (by kernel_rfl) (by kernel_rfl) (by kernel_rfl) (fun _ _ _ h=>h) (Or.inl ⟨by rfl,?hy1022⟩) Hh ?hr1022
 case hy1022=>(intro w hSw;(try dsimp only at hSw);go_simp;(try with_reducible rfl))
 simp only [Act.put,ZA,ZB,ZC,ZD,ZE,ZF];refine' wpAnyH_take (i:=2) (v:=_) rfl (by kernel_rfl) (by kernel_rfl) (by kernel_rfl) (fun _ _ _ h=>h) (Or.inl ⟨by rfl,?hy1023⟩) Hh ?hr1023
 case hy1023=>(intro w hSw;(try dsimp only at hSw);go_simp;(try with_reducible rfl))
 simp only [Act.put,ZA,ZB,ZC,ZD,ZE,ZF];refine' wpAnyH_take (i:=3) (v:=_) rfl (by kernel_rfl) (by kernel_rfl) (by kernel_rfl) (fun _ _ _ h=>h) (Or.inl ⟨by rfl,?hy1024⟩) Hh ?hr1024
 case hy1024=>(intro w hSw;(try dsimp only at hSw);go_simp;(try with_reducible rfl))
 simp only [Act.put,ZA,ZB,ZC,ZD,ZE,ZF];refine' wpAnyH_take (i:=4) (v:=_) rfl (by kernel_rfl) (by kernel_rfl) (by kernel_rfl) (fun _ _ _ h=>h) (Or.inl ⟨by rfl,?hy1025⟩) Hh ?hr1025
 case hy1025=>(intro w hSw;(try dsimp only at hSw);go_simp;(try with_reducible rfl))
 simp only [Act.put,ZA,ZB,ZC,ZD,ZE,ZF];refine' wpAnyH_take (i:=5) (v:=_) rfl (by kernel_rfl) (by kernel_rfl) (by kernel_rfl) (fun _ _ _ h=>h) (Or.inl ⟨by rfl,?hy1026⟩) Hh ?hr1026
 case hy1026=>(intro w hSw;(try dsimp only at hSw);go_simp;(try with_reducible rfl))
 simp only [Act.put,ZA,ZB,ZC,ZD,ZE,ZF];refine' wpAnyH_take (i:=6) (v:=_) rfl (by kernel_rfl) (by kernel_rfl) (by kernel_rfl) (fun _ _ _ h=>h) (Or.inl ⟨by rfl,?hy1027⟩) Hh ?hr1027
 case hy1027=>(intro w hSw;(try dsimp only at hSw);go_simp;(try with_reducible rfl))
 simp only [Act.put,ZA,ZB,ZC,ZD,ZE,ZF];refine' wpAnyH_take (i:=7) (v:=_) rfl (by kernel_rfl) (by kernel_rfl) (by kernel_rfl) (fun _ _ _ h=>h) (Or.inl ⟨by rfl,?hy1028⟩) Hh ?hr1028
 case hy1028=>(intro w hSw;(try dsimp only at hSw);go_simp;(try with_reducible rfl))
 simp only [Act.put,ZA,ZB,ZC,ZD,ZE,ZF];refine' wpAnyH_take (i:=8) (v:=_) rfl (by kernel_rfl) (by kernel_rfl) (by kernel_rfl) (fun _ _ _ h=>h) (Or.inl ⟨by rfl,?hy1029⟩) Hh ?hr1029
 case hy1029=>(intro w hSw;(try dsimp only at hSw);go_simp;(try with_reducible rfl))
 simp only [Act.put,ZA,ZB,ZC,ZD,ZE,ZF];refine' wpAnyH_take (i:=9) (v:=_) rfl (by kernel_rfl) (by kernel_rfl) (by kernel_rfl) (fun _ _ _ h=>h) (Or.inl ⟨by rfl,?hy1030⟩) Hh ?hr1030
 case hy1030=>(intro w hSw;(try dsimp only at hSw);go_simp;(try with_reducible rfl))
 refine rd 10 fun K hK=>?_
 go_simp;refine hcl.mono ?_;rintro e w1 ⟨rfl,v1,vg1,vo1,hR⟩;go_wp2_with fail;refine hK.out _ _ (cg _ _ _ _ hR) (fun Hh=>?_);clear hK K
 (try simp only [Act.put,ZA,ZB,ZC,ZD,ZE,ZF])
 refine dn ?_;replace hR:=(Res.of_below h hd).trans hR;clear hcl cf cg hd Hh;have hK:=(show Hid (Res w _ 35 base B [] v vg vo { t with g:=eaG t 1 cn 0 } _ _ _) from by rw [eaG_zero];exact hR);clear hR;go_wp2;go_loopw [7] (fun i wr=>∃ (j:Nat) (v':Tv) (vg' vo':List Value),i=.int .i64 j/\j<=N/\Hid (false=false->j=0)/\Hid (Res w wr 35 base B [] v vg vo { t with g:=eaG t 1 cn j } v' vg' vo')) (fun i _=>N-(intOf i).toNat)
 case atStart=>exact ⟨0,_,_,_,rfl,Nat.zero_le _,(fun _=>rfl),hK⟩
 case round =>
  clear hK;obtain ⟨j,v',vg',vo',rfl,hj,hz,hK⟩:=hrel;obtain ⟨c4,la,lc,hlc⟩:=hin j wr v' vg' vo' hK.out;have hla:=l7Last_any B la N lc wr hlc (by omega);have hj0:(0:Int)<=(j:Int):=by omega
  obtain rfl:j=0:=hz.out rfl;clear hin hz
  by_cases hle:(0:Int)<=(N:Int)-1
  ·rw [eaG_zero] at hK
   go_wp2_with fail;refine hla.mono ?_;rintro e wk ⟨rfl,hw⟩;subst hw;clear hla hlc c4;go_wp2;refine be ?_;exact ⟨rfl,_,_,_,hK.out⟩
  ·omega
theorem l7Erase_1t (cn N base B:Nat) (t:Te) (v:Tv) (vg vo:List Value) (w:World) (h:Scr w 35 base B [] t v vg vo) (hbase:base<=w.heap.size) (rt:RtW t cn N) :
  Calls Tryz.prog 214 #[.pointer (some ⟨B,0,none⟩),.int .i64 1,.bool true] w fun e w'=>e=.returned (.tuple #[])/\∃ v' vg' vo',Res w w' 35 base B [] v vg vo (if true=true then Go.Proofs.YtgcnmjjlmcnllaaGreatDoor.eraseAll t 1 else Go.Proofs.YtgcnmjjlmcnllaaGreatDoor.eraseRow t 1) v' vg' vo':=by
 have hrow:=rt.row;have hcol:=rt.col;have hcc:=rt.c;have hn1:=rt.n1;have c0:w.cell? ⟨B,0,none⟩=some (.int .i64 (cn:Int)):=by rw [<- rt.gc];exact h.cell 0
 have c4:w.cell? ⟨B,4,none⟩=some (.int .i64 t.row):=h.cell 4;have c5:w.cell? ⟨B,5,none⟩=some (.int .i64 t.col):=h.cell 5
 have hin:∀ (j:Nat) (wr:World) (v':Tv) (vg' vo':List Value),Res w wr 35 base B [] v vg vo { t with g:=eaG t 1 cn j } v' vg' vo'->wr.cell? ⟨B,4,none⟩=some (.int .i64 t.row)/\∃ a c,wr.cell? ⟨B,1,none⟩=some (.slice a N c):=fun j wr v' vg' vo' hr=>by
  refine ⟨hr.s.cell 4,?_⟩;obtain ⟨a,c,e⟩:=sGs (SlG.of_own hr.s.o.1.g);have en:(eaG t 1 cn j).length=N:=by rw [eaG_len];exact rt.n
  refine ⟨a,c,?_⟩;rw [hr.s.cell 1]
  show some v'.g=_
  rw [e]
  show some (Value.slice a (eaG t 1 cn j).length c)=_
  rw [en]
 have hE:clearT t t.row 0 (t.col+1)=Go.Proofs.YtgcnmjjlmcnllaaGreatDoor.eraseRow t 1:=by rfl
 have hw:IntKind.i64.wrap (t.col+1)=t.col+1:=by simp [IntKind.wrap,IntKind.bits,IntKind.signed];omega
 have hd:=bdr w;have hcl:=l7Clear_any cn N base B t v vg vo w.drew (h.below hd) (Nat.le_trans hbase hd.size) rt t.row 0 (t.col+1) (by omega) (by omega);rw [hE] at hcl
 have cf:∀ W,Below w.heap.size w W->W.cell? ⟨B,4,none⟩=some (.int .i64 t.row)/\W.cell? ⟨B,5,none⟩=some (.int .i64 t.col):=fun W hb=>⟨(h.below hb).cell 4,(h.below hb).cell 5⟩
 have cg:∀ W v1 vg1 vo1,Res w.drew W 35 base B [] v vg vo (Go.Proofs.YtgcnmjjlmcnllaaGreatDoor.eraseRow t 1) v1 vg1 vo1->W.cell? ⟨B,4,none⟩=some (.int .i64 t.row)/\W.cell? ⟨B,5,none⟩=some (.int .i64 t.col):=fun W v1 vg1 vo1 r=>by
  rw [<- hE] at r
  exact ⟨r.s.cell 4,r.s.cell 5⟩
 clear hE;go_enter Tryz.func214,Tryz.ntmps214;go_wp2;clear c0 c4 c5;refine wp_region_noPanic ?_;refine wp_region_held_drew (S:=(fun W=>W.cell? ⟨B,4,none⟩=some (.int .i64 t.row)/\W.cell? ⟨B,5,none⟩=some (.int .i64 t.col))) (by kernel_rfl) (cf _ hd) (fun Hh=>?_);refine' wpAnyH_take (i:=0) (v:=_) rfl (by kernel_rfl) (by kernel_rfl) (by kernel_rfl) (fun _ _ _ h=>h) (Or.inl ⟨by rfl,?hy1031⟩) Hh ?hr1031
 case hy1031=>(intro w hSw;(try dsimp only at hSw);go_simp;(try with_reducible rfl))
 simp only [Act.put,ZA,ZB,ZC,ZD,ZE];refine' wpAnyH_take (i:=1) (v:=_) rfl (by kernel_rfl) (by kernel_rfl) (by kernel_rfl) (fun _ _ _ h=>h) (Or.inl ⟨by rfl,?hy1032⟩) Hh ?hr1032
 case hy1032=>(intro w hSw;(try dsimp only at hSw);go_simp;(try with_reducible rfl))
 simp only [Act.put,ZA,ZB,ZC,ZD,ZE,ZF];refine' wpAnyH_take (i:=2) (v:=_) rfl (by kernel_rfl) (by kernel_rfl) (by kernel_rfl) (fun _ _ _ h=>h) (Or.inl ⟨by rfl,?hy1033⟩) Hh ?hr1033
 case hy1033=>(intro w hSw;(try dsimp only at hSw);go_simp;(try with_reducible rfl))
 simp only [Act.put,ZA,ZB,ZC,ZD,ZE,ZF];refine' wpAnyH_take (i:=3) (v:=_) rfl (by kernel_rfl) (by kernel_rfl) (by kernel_rfl) (fun _ _ _ h=>h) (Or.inl ⟨by rfl,?hy1034⟩) Hh ?hr1034
 case hy1034=>(intro w hSw;(try dsimp only at hSw);go_simp;(try with_reducible rfl))
 simp only [Act.put,ZA,ZB,ZC,ZD,ZE,ZF];refine' wpAnyH_take (i:=4) (v:=_) rfl (by kernel_rfl) (by kernel_rfl) (by kernel_rfl) (fun _ _ _ h=>h) (Or.inl ⟨by rfl,?hy1035⟩) Hh ?hr1035
 case hy1035=>(intro w hSw;(try dsimp only at hSw);go_simp;(try with_reducible rfl))
 simp only [Act.put,ZA,ZB,ZC,ZD,ZE,ZF];refine' wpAnyH_take (i:=5) (v:=_) rfl (by kernel_rfl) (by kernel_rfl) (by kernel_rfl) (fun _ _ _ h=>h) (Or.inl ⟨by rfl,?hy1036⟩) Hh ?hr1036
 case hy1036=>(intro w hSw;(try dsimp only at hSw);go_simp;(try with_reducible rfl))
 simp only [Act.put,ZA,ZB,ZC,ZD,ZE,ZF];refine' wpAnyH_take (i:=6) (v:=_) rfl (by kernel_rfl) (by kernel_rfl) (by kernel_rfl) (fun _ _ _ h=>h) (Or.inl ⟨by rfl,?hy1037⟩) Hh ?hr1037
 case hy1037=>(intro w hSw;(try dsimp only at hSw);go_simp;(try with_reducible rfl))
 simp only [Act.put,ZA,ZB,ZC,ZD,ZE,ZF];refine' wpAnyH_take (i:=7) (v:=_) rfl (by kernel_rfl) (by kernel_rfl) (by kernel_rfl) (fun _ _ _ h=>h) (Or.inl ⟨by rfl,?hy1038⟩) Hh ?hr1038
 case hy1038=>(intro w hSw;(try dsimp only at hSw);go_simp;(try with_reducible rfl))
 simp only [Act.put,ZA,ZB,ZC,ZD,ZE,ZF];refine' wpAnyH_take (i:=8) (v:=_) rfl (by kernel_rfl) (by kernel_rfl) (by kernel_rfl) (fun _ _ _ h=>h) (Or.inl ⟨by rfl,?hy1039⟩) Hh ?hr1039
 case hy1039=>(intro w hSw;(try dsimp only at hSw);go_simp;(try with_reducible rfl))
 simp only [Act.put,ZA,ZB,ZC,ZD,ZE,ZF];refine' wpAnyH_take (i:=9) (v:=_) rfl (by kernel_rfl) (by kernel_rfl) (by kernel_rfl) (fun _ _ _ h=>h) (Or.inl ⟨by rfl,?hy1040⟩) Hh ?hr1040
 case hy1040=>(intro w hSw;(try dsimp only at hSw);go_simp;(try with_reducible rfl))
 refine rd 10 fun K hK=>?_
 go_simp;refine hcl.mono ?_;rintro e w1 ⟨rfl,v1,vg1,vo1,hR⟩;go_wp2_with fail;refine hK.out _ _ (cg _ _ _ _ hR) (fun Hh=>?_);clear hK K
 (try simp only [Act.put,ZA,ZB,ZC,ZD,ZE,ZF])
 refine dn ?_;replace hR:=(Res.of_below h hd).trans hR;clear hcl cf cg hd Hh;have hK:=(show Hid (Res w _ 35 base B [] v vg vo { t with g:=eaG t 1 cn 0 } _ _ _) from by rw [eaG_zero];exact hR);clear hR;go_wp2;go_loopw [7] (fun i wr=>∃ (j:Nat) (v':Tv) (vg' vo':List Value),i=.int .i64 j/\j<=N/\Hid (true=false->j=0)/\Hid (Res w wr 35 base B [] v vg vo { t with g:=eaG t 1 cn j } v' vg' vo')) (fun i _=>N-(intOf i).toNat)
 case atStart=>exact ⟨0,_,_,_,rfl,Nat.zero_le _,(fun _=>rfl),hK⟩
 case round =>
  clear hK;obtain ⟨j,v',vg',vo',rfl,hj,hz,hK⟩:=hrel;obtain ⟨c4,la,lc,hlc⟩:=hin j wr v' vg' vo' hK.out;have hla:=l7Last_any B la N lc wr hlc (by omega);have hj0:(0:Int)<=(j:Int):=by omega
  by_cases hlt:j<N
  ·have hle:(j:Int)<=(N:Int)-1:=by omega
   have hbj:base<=wr.heap.size:=Nat.le_trans hbase hK.out.g.size
   by_cases hc:(j:Int)<t.row
   ·have hcl:=l7Clear_any cn N base B { t with g:=eaG t 1 cn j } v' vg' vo' wr hK.out.s hbj (rt.ea 1 j) (j:Int) 0 (cn:Int) (by omega) (by omega)
    rw [eaG_step t 1 cn j (by rw [rt.n];exact hlt) (.inr (.inr ⟨rfl,hc⟩))] at hcl
    have hnx:=fun W v2 g2 o2 (r:Res wr W 35 base B [] v' vg' vo' { t with g:=eaG t 1 cn (j+1) } v2 g2 o2)=>(show Hid (Res w W 35 base B [] v vg vo { t with g:=eaG t 1 cn (j+1) } v2 g2 o2) from hK.out.trans r)
    clear hK hin hz hbj rt hbase h hlc;go_wp2_with fail;refine hla.mono ?_;rintro e wk ⟨rfl,hw⟩;subst hw;clear hla;go_wp2_with fail;refine hcl.mono ?_;rintro e w2 ⟨rfl,v2,g2,o2,hR⟩;have hF:=hnx _ _ _ _ hR;clear hcl hnx hR c4;go_wp2;go_roundw
    case rel=>exact ⟨j+1,v2,g2,o2,by go_num,by omega,(fun e=>by simp at e),hF⟩
    case measure=>simp [intOf];omega
   ·rw [<- eaG_skip t 1 cn j (fun e=>by unfold eaP at e;omega)] at hK
    clear hin hz hbj rt hbase h hlc;go_wp2_with fail;refine hla.mono ?_;rintro e wk ⟨rfl,hw⟩;subst hw;clear hla;go_wp2;go_roundw
    case rel=>exact ⟨j+1,_,_,_,by go_num,by omega,(fun e=>by simp at e),hK⟩
    case measure=>simp [intOf];omega
  ·have hle:¬ (j:Int)<=(N:Int)-1:=by omega
   obtain rfl:j=N:=by omega
   rw [eaG_end rt 1] at hK
   clear hin hz;go_wp2_with fail;refine hla.mono ?_;rintro e wk ⟨rfl,hw⟩;subst hw;clear hla hlc c4;go_wp2;refine be ?_;exact ⟨rfl,_,_,_,hK.out⟩
theorem l7Erase_2f (cn N base B:Nat) (t:Te) (v:Tv) (vg vo:List Value) (w:World) (h:Scr w 35 base B [] t v vg vo) (hbase:base<=w.heap.size) (rt:RtW t cn N) :
  Calls Tryz.prog 214 #[.pointer (some ⟨B,0,none⟩),.int .i64 2,.bool false] w fun e w'=>e=.returned (.tuple #[])/\∃ v' vg' vo',Res w w' 35 base B [] v vg vo (if false=true then Go.Proofs.YtgcnmjjlmcnllaaGreatDoor.eraseAll t 2 else Go.Proofs.YtgcnmjjlmcnllaaGreatDoor.eraseRow t 2) v' vg' vo':=by
 have hrow:=rt.row;have hcol:=rt.col;have hcc:=rt.c;have hn1:=rt.n1;have c0:w.cell? ⟨B,0,none⟩=some (.int .i64 (cn:Int)):=by rw [<- rt.gc];exact h.cell 0
 have c4:w.cell? ⟨B,4,none⟩=some (.int .i64 t.row):=h.cell 4;have c5:w.cell? ⟨B,5,none⟩=some (.int .i64 t.col):=h.cell 5
 have hin:∀ (j:Nat) (wr:World) (v':Tv) (vg' vo':List Value),Res w wr 35 base B [] v vg vo { t with g:=eaG t 2 cn j } v' vg' vo'->wr.cell? ⟨B,4,none⟩=some (.int .i64 t.row)/\∃ a c,wr.cell? ⟨B,1,none⟩=some (.slice a N c):=fun j wr v' vg' vo' hr=>by
  refine ⟨hr.s.cell 4,?_⟩;obtain ⟨a,c,e⟩:=sGs (SlG.of_own hr.s.o.1.g);have en:(eaG t 2 cn j).length=N:=by rw [eaG_len];exact rt.n
  refine ⟨a,c,?_⟩;rw [hr.s.cell 1]
  show some v'.g=_
  rw [e]
  show some (Value.slice a (eaG t 2 cn j).length c)=_
  rw [en]
 have hE:clearT t t.row 0 (cn:Int)=Go.Proofs.YtgcnmjjlmcnllaaGreatDoor.eraseRow t 2:=by rw [<- rt.gc];rfl
 have hcl:=l7Clear_any cn N base B t v vg vo w h hbase rt t.row 0 (cn:Int) (by omega) (by omega);rw [hE] at hcl
 clear hE;go_enter Tryz.func214,Tryz.ntmps214;go_wp2_with fail;refine hcl.mono ?_;rintro e w1 ⟨rfl,v1,vg1,vo1,hR⟩;clear hcl c0 c4 c5;have hK:=(show Hid (Res w _ 35 base B [] v vg vo { t with g:=eaG t 2 cn 0 } _ _ _) from by rw [eaG_zero];exact hR);clear hR;go_wp2;go_loopw [7] (fun i wr=>∃ (j:Nat) (v':Tv) (vg' vo':List Value),i=.int .i64 j/\j<=N/\Hid (false=false->j=0)/\Hid (Res w wr 35 base B [] v vg vo { t with g:=eaG t 2 cn j } v' vg' vo')) (fun i _=>N-(intOf i).toNat)
 case atStart=>exact ⟨0,_,_,_,rfl,Nat.zero_le _,(fun _=>rfl),hK⟩
 case round =>
  clear hK;obtain ⟨j,v',vg',vo',rfl,hj,hz,hK⟩:=hrel;obtain ⟨c4,la,lc,hlc⟩:=hin j wr v' vg' vo' hK.out;have hla:=l7Last_any B la N lc wr hlc (by omega);have hj0:(0:Int)<=(j:Int):=by omega
  obtain rfl:j=0:=hz.out rfl;clear hin hz
  by_cases hle:(0:Int)<=(N:Int)-1
  ·rw [eaG_zero] at hK
   go_wp2_with fail;refine hla.mono ?_;rintro e wk ⟨rfl,hw⟩;subst hw;clear hla hlc c4;go_wp2;refine be ?_;exact ⟨rfl,_,_,_,hK.out⟩
  ·omega
theorem l7Erase_2t (cn N base B:Nat) (t:Te) (v:Tv) (vg vo:List Value) (w:World) (h:Scr w 35 base B [] t v vg vo) (hbase:base<=w.heap.size) (rt:RtW t cn N) :
  Calls Tryz.prog 214 #[.pointer (some ⟨B,0,none⟩),.int .i64 2,.bool true] w fun e w'=>e=.returned (.tuple #[])/\∃ v' vg' vo',Res w w' 35 base B [] v vg vo (if true=true then Go.Proofs.YtgcnmjjlmcnllaaGreatDoor.eraseAll t 2 else Go.Proofs.YtgcnmjjlmcnllaaGreatDoor.eraseRow t 2) v' vg' vo':=by
 have hrow:=rt.row;have hcol:=rt.col;have hcc:=rt.c;have hn1:=rt.n1;have c0:w.cell? ⟨B,0,none⟩=some (.int .i64 (cn:Int)):=by rw [<- rt.gc];exact h.cell 0
 have c4:w.cell? ⟨B,4,none⟩=some (.int .i64 t.row):=h.cell 4;have c5:w.cell? ⟨B,5,none⟩=some (.int .i64 t.col):=h.cell 5
 have hin:∀ (j:Nat) (wr:World) (v':Tv) (vg' vo':List Value),Res w wr 35 base B [] v vg vo { t with g:=eaG t 2 cn j } v' vg' vo'->wr.cell? ⟨B,4,none⟩=some (.int .i64 t.row)/\∃ a c,wr.cell? ⟨B,1,none⟩=some (.slice a N c):=fun j wr v' vg' vo' hr=>by
  refine ⟨hr.s.cell 4,?_⟩;obtain ⟨a,c,e⟩:=sGs (SlG.of_own hr.s.o.1.g);have en:(eaG t 2 cn j).length=N:=by rw [eaG_len];exact rt.n
  refine ⟨a,c,?_⟩;rw [hr.s.cell 1]
  show some v'.g=_
  rw [e]
  show some (Value.slice a (eaG t 2 cn j).length c)=_
  rw [en]
 have hE:clearT t t.row 0 (cn:Int)=Go.Proofs.YtgcnmjjlmcnllaaGreatDoor.eraseRow t 2:=by rw [<- rt.gc];rfl
 have hcl:=l7Clear_any cn N base B t v vg vo w h hbase rt t.row 0 (cn:Int) (by omega) (by omega);rw [hE] at hcl
 clear hE;go_enter Tryz.func214,Tryz.ntmps214;go_wp2_with fail;refine hcl.mono ?_;rintro e w1 ⟨rfl,v1,vg1,vo1,hR⟩;clear hcl c0 c4 c5;have hK:=(show Hid (Res w _ 35 base B [] v vg vo { t with g:=eaG t 2 cn 0 } _ _ _) from by rw [eaG_zero];exact hR);clear hR;go_wp2;go_loopw [7] (fun i wr=>∃ (j:Nat) (v':Tv) (vg' vo':List Value),i=.int .i64 j/\j<=N/\Hid (true=false->j=0)/\Hid (Res w wr 35 base B [] v vg vo { t with g:=eaG t 2 cn j } v' vg' vo')) (fun i _=>N-(intOf i).toNat)
 case atStart=>exact ⟨0,_,_,_,rfl,Nat.zero_le _,(fun _=>rfl),hK⟩
 case round =>
  clear hK;obtain ⟨j,v',vg',vo',rfl,hj,hz,hK⟩:=hrel;obtain ⟨c4,la,lc,hlc⟩:=hin j wr v' vg' vo' hK.out;have hla:=l7Last_any B la N lc wr hlc (by omega);have hj0:(0:Int)<=(j:Int):=by omega
  by_cases hlt:j<N
  ·have hle:(j:Int)<=(N:Int)-1:=by omega
   have hbj:base<=wr.heap.size:=Nat.le_trans hbase hK.out.g.size;have hcl:=l7Clear_any cn N base B { t with g:=eaG t 2 cn j } v' vg' vo' wr hK.out.s hbj (rt.ea 2 j) (j:Int) 0 (cn:Int) (by omega) (by omega);rw [eaG_step t 2 cn j (by rw [rt.n];exact hlt) (.inl rfl)] at hcl
   have hnx:=fun W v2 g2 o2 (r:Res wr W 35 base B [] v' vg' vo' { t with g:=eaG t 2 cn (j+1) } v2 g2 o2)=>(show Hid (Res w W 35 base B [] v vg vo { t with g:=eaG t 2 cn (j+1) } v2 g2 o2) from hK.out.trans r)
   clear hK hin hz hbj rt hbase h hlc;go_wp2_with fail;refine hla.mono ?_;rintro e wk ⟨rfl,hw⟩;subst hw;clear hla;go_wp2_with fail;refine hcl.mono ?_;rintro e w2 ⟨rfl,v2,g2,o2,hR⟩;have hF:=hnx _ _ _ _ hR;clear hcl hnx hR c4;go_wp2;go_roundw
   case rel=>exact ⟨j+1,v2,g2,o2,by go_num,by omega,(fun e=>by simp at e),hF⟩
   case measure=>simp [intOf];omega
  ·have hle:¬ (j:Int)<=(N:Int)-1:=by omega
   obtain rfl:j=N:=by omega
   rw [eaG_end rt 2] at hK
   clear hin hz;go_wp2_with fail;refine hla.mono ?_;rintro e wk ⟨rfl,hw⟩;subst hw;clear hla hlc c4;go_wp2;refine be ?_;exact ⟨rfl,_,_,_,hK.out⟩
theorem l7Erase_xf (cn N base B:Nat) (t:Te) (v:Tv) (vg vo:List Value) (w:World) (h:Scr w 35 base B [] t v vg vo) (_hbase:base<=w.heap.size) (rt:RtW t cn N) (how:Int) (h0:how≠0) (h1:how≠1) (h2:how≠2) :
  Calls Tryz.prog 214 #[.pointer (some ⟨B,0,none⟩),.int .i64 how,.bool false] w fun e w'=>e=.returned (.tuple #[])/\∃ v' vg' vo',Res w w' 35 base B [] v vg vo (if false=true then Go.Proofs.YtgcnmjjlmcnllaaGreatDoor.eraseAll t how else Go.Proofs.YtgcnmjjlmcnllaaGreatDoor.eraseRow t how) v' vg' vo':=by
 have hrow:=rt.row;have hcol:=rt.col;have hcc:=rt.c;have hn1:=rt.n1;have c0:w.cell? ⟨B,0,none⟩=some (.int .i64 (cn:Int)):=by rw [<- rt.gc];exact h.cell 0
 have c4:w.cell? ⟨B,4,none⟩=some (.int .i64 t.row):=h.cell 4;have c5:w.cell? ⟨B,5,none⟩=some (.int .i64 t.col):=h.cell 5
 have hin:∀ (j:Nat) (wr:World) (v':Tv) (vg' vo':List Value),Res w wr 35 base B [] v vg vo { t with g:=eaG t how cn j } v' vg' vo'->wr.cell? ⟨B,4,none⟩=some (.int .i64 t.row)/\∃ a c,wr.cell? ⟨B,1,none⟩=some (.slice a N c):=fun j wr v' vg' vo' hr=>by
  refine ⟨hr.s.cell 4,?_⟩;obtain ⟨a,c,e⟩:=sGs (SlG.of_own hr.s.o.1.g);have en:(eaG t how cn j).length=N:=by rw [eaG_len];exact rt.n
  refine ⟨a,c,?_⟩;rw [hr.s.cell 1]
  show some v'.g=_
  rw [e]
  show some (Value.slice a (eaG t how cn j).length c)=_
  rw [en]
 have q0:(how==0)=false:=by simp [h0]
 have q1:(how==1)=false:=by simp [h1]
 have q2:(how==2)=false:=by simp [h2]
 have hR:=h.res;have hE:t=Go.Proofs.YtgcnmjjlmcnllaaGreatDoor.eraseRow t how:=by unfold Go.Proofs.YtgcnmjjlmcnllaaGreatDoor.eraseRow;rw [if_neg h0,if_neg h1,if_neg h2]
 rw [show Res w w 35 base B [] v vg vo t v vg vo=Res w w 35 base B [] v vg vo (Go.Proofs.YtgcnmjjlmcnllaaGreatDoor.eraseRow t how) v vg vo by rw [<- hE]] at hR
 clear hE;have hK:=(show Hid (Res w _ 35 base B [] v vg vo { t with g:=eaG t how cn 0 } _ _ _) from by rw [eaG_zero];exact hR);clear hR;go_enter Tryz.func214,Tryz.ntmps214;go_wp2;clear c0 c4 c5;go_loopw [7] (fun i wr=>∃ (j:Nat) (v':Tv) (vg' vo':List Value),i=.int .i64 j/\j<=N/\Hid (false=false->j=0)/\Hid (Res w wr 35 base B [] v vg vo { t with g:=eaG t how cn j } v' vg' vo')) (fun i _=>N-(intOf i).toNat)
 case atStart=>exact ⟨0,_,_,_,rfl,Nat.zero_le _,(fun _=>rfl),hK⟩
 case round =>
  clear hK;obtain ⟨j,v',vg',vo',rfl,hj,hz,hK⟩:=hrel;obtain ⟨c4,la,lc,hlc⟩:=hin j wr v' vg' vo' hK.out;have hla:=l7Last_any B la N lc wr hlc (by omega);have hj0:(0:Int)<=(j:Int):=by omega
  obtain rfl:j=0:=hz.out rfl;clear hin hz
  by_cases hle:(0:Int)<=(N:Int)-1
  ·rw [eaG_zero] at hK
   go_wp2_with fail;refine hla.mono ?_;rintro e wk ⟨rfl,hw⟩;subst hw;clear hla hlc c4;go_wp2;refine be ?_;exact ⟨rfl,_,_,_,hK.out⟩
  ·omega
end Go.Proofs.YtgcnmjjlmcnllaaGreatDoor
