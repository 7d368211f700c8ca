/- Parts of the proof. -/
import Derived.Test.YtgcnmjjlmcnllaaGreatDoorP1
import Derived.Test.YtgcnmjjlmcnllaaGreatDoorP2
import Derived.Test.YtgcnmjjlmcnllaaGreatDoorP6
namespace Go.Proofs.YtgcnmjjlmcnllaaGreatDoor
set_option maxRecDepth 20000
set_option maxHeartbeats 16000000
open Go.ChangeShapes Go.WideShapes Go.ChangeAt Go.RowKit
theorem step_append_os {w:World} {ops:Array Oper} {o:Oper} {ac:Act} {K:Act->World->Prop} {Q:Exit->Act->World->Prop} {E:Prop} (hgd:o.guard=none) (s x:Operand)
  (ho:o.op=.call { callee:=.builtin .append,args:=#[s,x],argTypes:=#[120,120] })
  (base:Nat) (v:Value) (L:List Ce) (hs:ac.eval s=v) (k:OwnC w base v L) (hb:base<=w.heap.size) (u:Value) (xs:List Ce) (hu:SlC w u xs) (hne:xs≠[]) (hx:ac.eval x=u) (hl:L.length+xs.length<2000000)
  (h:∀ v' w',OwnC w' base v' (L++xs)->w.grownBy w' v.ownBlock->K (ac.put o.dst v') w') :
  if Region.wanted o (yielded ops ac.tmps)=true then Oper.wp Tryz.prog o ac w K Q else E:=by
 have hw:Region.wanted o (yielded ops ac.tmps)=true:=by simp [Region.wanted,hgd]
 rw [if_pos hw]
 obtain ⟨i0,hi,hz0,hz1,hz2⟩:=info_parts info_cell;obtain ⟨a,c,rfl,hc,hn,hr⟩:=hu;rcases hr with hr|⟨b,off,rfl,_,hi2⟩
 ·exact absurd hr hne
 ·refine wp_append_own _ s x _ ho base 146 i0 (ceV Ce.zero) 7 40 Tryz.underlying120 hi hz0 hz1 hz2 rfl (by decide) v L.length _ hs k ⟨b,off,none⟩ xs.length c (xs.flatMap ceL) hx (flat_len xs) ?_ (flat_one xs) (by unfold maxLen;omega) (by omega) hb (fun v' w' ho' hg' _=>?_)
  ·intro j u hj
   rw [Addr.add_mid]
   exact flat_cells hi2 j u hj
  ·refine h v' w' ?_ hg'
   unfold OwnC;rw [List.length_append,List.flatMap_append]
   exact ho'
theorem OwnG.kept2 {w w':World} {base B:Nat} {v:Value} {rows:List (List Ce)} {row:Option Nat} (h:OwnG w base B v rows) (hg:w.grownBy w' row) (hne:∀ g,row=some g->B<=g) (hu:∀ g,v.ownBlock=some g->g<B):OwnG w' base B v rows:=by
 obtain ⟨vs,hl,ho,hr,hB,hd⟩:=h;refine ⟨vs,hl,World.ownsRow.kept ho hg ?_,fun i hi=>(hr i hi).kept hg ?_,hB,hd⟩
 ·cases hv:v.ownBlock with
  | none=>exact .inl rfl
  | some q=>right;intro e;have:=hne q e.symm;have:=hu q hv;omega
 ·cases hv:(rowV vs i).ownBlock with
  | none=>exact .inl rfl
  | some q=>right;intro e;have:=hne q e.symm;have:=hB i hi q hv;omega
theorem NG.kept2 {M B:Nat} {cols:Int} {u:Value} {rows:List (List Ce)} {w0 W W':World} {row:Option Nat} (k:NG M B cols u rows w0 W) (hg:W.grownBy W' row) (hne:∀ g,row=some g->B<=g/\M+2<=g) (hu:∀ g,u.ownBlock=some g->g<B):NG M B cols u rows w0 W':=by
 have h3:=k.2.2.2.1;refine ⟨k.1.grown hg (fun e=>by have:=(hne _ e).2;omega),k.2.1.grown hg (fun e=>by have:=(hne _ e).2;omega),k.2.2.1.kept2 hg (fun g e=>(hne g e).1) hu,Nat.le_trans h3 hg.size,Nat.le_trans k.2.2.2.2.1 hg.size,?_⟩;exact k.2.2.2.2.2.grown hg (by omega) (fun g e=>by have:=(hne g e).2;omega)
theorem l5Copy_any (cols:Int) (v:Value) (rows:List (List Ce)) (w:World) (hv:SlG w v rows) (hl:rows.length<=1000) (h1:1<=rows.length) (hx:∀ i,i<rows.length->(rowX rows i).length<=1000) (hne:∀ i,i<rows.length->rowX rows i≠[]) :
  Calls Tryz.prog 139 #[gridV cols v] w fun e w'=>∃ u,e=.returned (gridV cols u)/\OwnG w' w.heap.size w'.heap.size u rows/\Below w.heap.size w w':=by
 obtain ⟨a,c,vs,rfl,hcp,_,hr,hs⟩:=id hv;rcases hr with h|⟨b,off,rfl,hbb,hrc⟩
 ·rw [h] at h1;simp at h1
 have hb0:=bal' w (Obj.cells #[.int .i64 cols,.slice (some ⟨b,off,none⟩) rows.length c] 26);have hG0:=GrN.new w cols (.slice (some ⟨b,off,none⟩) rows.length c) 26;have e0:(w.alloc (Obj.cells #[.int .i64 cols,.slice (some ⟨b,off,none⟩) rows.length c] 26)).heap.size=w.heap.size+1:=by simp
 have k0:NG (w.heap.size+1) (((w.alloc (Obj.cells #[.int .i64 cols,.slice (some ⟨b,off,none⟩) rows.length c] 26)).alloc (Obj.cells #[Value.int IntKind.i64 0,Value.slice none 0 0] 26)).alloc (Obj.cells #[Value.int IntKind.i64 cols,Value.slice none 0 0] 26)).heap.size cols (.slice none 0 0) [] (w.alloc (Obj.cells #[.int .i64 cols,.slice (some ⟨b,off,none⟩) rows.length c] 26)) (((w.alloc (Obj.cells #[.int .i64 cols,.slice (some ⟨b,off,none⟩) rows.length c] 26)).alloc (Obj.cells #[Value.int IntKind.i64 0,Value.slice none 0 0] 26)).alloc (Obj.cells #[Value.int IntKind.i64 cols,Value.slice none 0 0] 26)):=by
  generalize w.alloc (Obj.cells #[.int .i64 cols,.slice (some ⟨b,off,none⟩) rows.length c] 26)=w1 at *;have h1:=GrW.new w1 0 (.slice none 0 0) 26;have h2:=GrW.new (w1.alloc (Obj.cells #[Value.int IntKind.i64 0,Value.slice none 0 0] 26)) cols (.slice none 0 0) 26;have hb1:=bal' w1 (Obj.cells #[Value.int IntKind.i64 0,Value.slice none 0 0] 26);have e:(w1.alloc (Obj.cells #[Value.int IntKind.i64 0,Value.slice none 0 0] 26)).heap.size=w1.heap.size+1:=by simp
  rw [e] at h2
  rw [<- e0]
  exact ⟨h1.below (bal' _ _),h2,ownG_none _ _ _,by simp,Nat.le_refl _,hb1.trans ((bal' _ _).mono (by simp))⟩
 unfold gridV;go_enter Tryz.func139,Tryz.ntmps139;go_wp2;go_loopw [4] (fun i wr=>∃ j:Nat,i=.int .i64 j/\j<=rows.length/\∃ u,NG (w.heap.size+1) wr.heap.size cols u (rows.take j) (w.alloc (Obj.cells #[.int .i64 cols,.slice (some ⟨b,off,none⟩) rows.length c] 26)) wr) (fun i _=>rows.length-(intOf i).toNat)
 case atStart=>exact ⟨0,rfl,Nat.zero_le _,_,k0⟩
 case round =>
  clear k0;obtain ⟨j,rfl,hj,u,k⟩:=hrel;obtain ⟨ua,un,uc,rfl⟩:∃ a n c,u=Value.slice a n c:=by rcases k.2.2.1.shape with ⟨h,_⟩|⟨_,_,h,_⟩<;>exact ⟨_,_,_,h⟩
  have hsb:wr.cell? ⟨w.heap.size,1,none⟩=some (.slice (some ⟨b,off,none⟩) rows.length c):=(k.2.2.2.2.2.cell (p:=⟨w.heap.size,1,none⟩) (Nat.lt_succ_self _)).trans hG0.2.2
  by_cases hlt:j<rows.length
  ·have hji:(j:Int)<(rows.length:Int):=by omega
   have hj0:(0:Int)<=(j:Int):=by omega
   have hsn:Hid (rows.take (j+1)=rows.take j++[rowX rows j]):=by show _=_;rw [rowX_lt hlt,List.take_succ_eq_append_getElem hlt]
   have hlr:(rows.take j).length<2000000:=by rw [List.length_take];omega
   have hxj:=hx j hlt;obtain ⟨aj,cj,ev,hjc,_,_⟩:=id (hs j hlt)
   have hS:∀ W,Below (w.heap.size+1) (w.alloc (Obj.cells #[.int .i64 cols,.slice (some ⟨b,off,none⟩) rows.length c] 26)) W->(W.cell? ⟨w.heap.size,1,none⟩=some (.slice (some ⟨b,off,none⟩) rows.length c)/\W.cell? ⟨b,off+j,none⟩=some (.slice aj (rowX rows j).length cj)/\Below (w.heap.size+1) (w.alloc (Obj.cells #[.int .i64 cols,.slice (some ⟨b,off,none⟩) rows.length c] 26)) W) :=
    fun W hW=>⟨(hW.cell (p:=⟨w.heap.size,1,none⟩) (Nat.lt_succ_self _)).trans hG0.2.2,((hW.cell (p:=⟨b,off+j,none⟩) (show b<_ by omega)).trans (hb0.cell (p:=⟨b,off+j,none⟩) hbb)).trans (by rw [hrc j hlt,ev]),hW⟩
   have hsrc:∀ W,Below (w.heap.size+1) (w.alloc (Obj.cells #[.int .i64 cols,.slice (some ⟨b,off,none⟩) rows.length c] 26)) W->SlC W (.slice aj (rowX rows j).length cj) (rowX rows j):=fun W hW=>by
    have:=((hs j hlt).below hb0).below (by rw [e0];exact hW)
    rwa [ev] at this
   have hu:∀ g,(Value.slice ua un uc).ownBlock=some g->g<wr.heap.size:=fun g e=>(k.2.2.1.lt g e).2
   have hMB:w.heap.size+1+2<=wr.heap.size:=k.2.2.2.1;clear hs hrc ev hv hG0 hb0 e0;generalize hBB:wr.heap.size=B at k hu hMB;generalize rows.take j=R at *;obtain ⟨⟨_,⟨d0,d1⟩,⟨y0,y1⟩⟩,⟨_,⟨c0,c1⟩,⟨z0,z1⟩⟩,_⟩:=id k;go_wp2;refine wp_region_noPanic ?_;refine wp_region_held_drew (S:=(fun W=>W.cell? ⟨w.heap.size,1,none⟩=some (.slice (some ⟨b,off,none⟩) rows.length c)/\W.cell? ⟨b,off+j,none⟩=some (.slice aj (rowX rows j).length cj)/\Below (w.heap.size+1) (w.alloc (Obj.cells #[.int .i64 cols,.slice (some ⟨b,off,none⟩) rows.length c] 26)) W)) (by kernel_rfl) (hS _ k.drew.2.2.2.2.2) (fun Hh=>?_);refine' wpAnyH_take (i:=0) (v:=_) rfl (by kernel_rfl) (by kernel_rfl) (by kernel_rfl) (fun _ _ _ h=>h) (Or.inl ⟨by rfl,?hy7⟩) Hh ?hr7
   case hy7=>(intro w hSw;(try dsimp only at hSw);go_simp;(try with_reducible rfl))
   simp only [Act.put,ZA,ZB,ZC,ZD,ZE];refine' wpAnyH_take (i:=3) (v:=_) rfl (by kernel_rfl) (by kernel_rfl) (by kernel_rfl) (fun _ _ _ h=>h) (Or.inl ⟨by rfl,?hy8⟩) Hh ?hr8
   case hy8=>(intro w hSw;(try dsimp only at hSw);go_simp;(try with_reducible rfl))
   simp only [Act.put,ZA,ZB,ZC,ZD,ZE,ZF];refine' wpAnyH_take (i:=4) (v:=_) rfl (by kernel_rfl) (by kernel_rfl) (by kernel_rfl) (fun _ _ _ h=>h) (Or.inl ⟨by rfl,?hy9⟩) Hh ?hr9
   case hy9=>(intro w hSw;(try dsimp only at hSw);go_simp;(try with_reducible rfl))
   simp only [Act.put,ZA,ZB,ZC,ZD,ZE,ZF];refine' wpAnyH_take (i:=5) (v:=_) rfl (by kernel_rfl) (by kernel_rfl) (by kernel_rfl) (fun _ _ _ h=>h) (Or.inl ⟨by rfl,?hy10⟩) Hh ?hr10
   case hy10=>(intro w hSw;(try dsimp only at hSw);go_simp;(try with_reducible rfl))
   simp only [Act.put,ZA,ZB,ZC,ZD,ZE,ZF];refine' wpAnyH_take (i:=6) (v:=_) rfl (by kernel_rfl) (by kernel_rfl) (by kernel_rfl) (fun _ _ _ h=>h) (Or.inl ⟨by rfl,?hy11⟩) Hh ?hr11
   case hy11=>(intro w hSw;(try dsimp only at hSw);go_simp;(try with_reducible rfl))
   simp only [Act.put,ZA,ZB,ZC,ZD,ZE,ZF];refine' wpAnyH_take (i:=7) (v:=_) rfl (by kernel_rfl) (by kernel_rfl) (by kernel_rfl) (fun _ _ _ h=>h) (Or.inl ⟨by rfl,?hy12⟩) Hh ?hr12
   case hy12=>(intro w hSw;(try dsimp only at hSw);go_simp;(try with_reducible rfl))
   refine rd2 1 2 (fun K hK=>?_) fun K hK=>?_
   ·go_simp
    refine hK.out _ _ (by exact Hh) (fun Hh=>?_);clear hK K;refine rd 2 fun K hK=>?_
    go_simp;have kE:=(k.below (bal' wr (Obj.cells #[] 146))).drew;have hoE:=(ownC_nil wr B (by omega)).below (bdr _);rw [hBB] at hoE
    clear k;clear d0 d1 y0 y1 c0 c1 z0 z1;obtain ⟨⟨_,⟨d0,d1⟩,⟨y0,y1⟩⟩,⟨_,⟨c0,c1⟩,⟨z0,z1⟩⟩,_⟩:=id kE;refine hK.out _ _ (hS _ kE.2.2.2.2.2) (fun Hh=>?_);clear hK K;refine rd 8 fun K hK=>?_
    refine step_append_os (by rfl) _ _ (by rfl) B (.slice (some ⟨B,0,none⟩) 0 0) [] (by rfl) (by exact hoE) (by simp;omega) _ (rowX rows j) (hsrc _ Hh.2.2) (hne j hlt) (by rfl) (by simp;omega) ?_;intro r w2 ho2 hg2;have k2:=kE.kept2 hg2 (fun g e=>by simp [Value.ownBlock] at e;omega) hu;have hor2:OwnC w2 B r (rowX rows j):=by simpa using ho2
    clear kE ho2 hg2 hoE;clear d0 d1 y0 y1 c0 c1 z0 z1;obtain ⟨⟨_,⟨d0,d1⟩,⟨y0,y1⟩⟩,⟨_,⟨c0,c1⟩,⟨z0,z1⟩⟩,_⟩:=id k2;obtain ⟨ra,rn,rc,rfl⟩:∃ a n c,r=Value.slice a n c:=by rcases hor2.shape with ⟨h,_⟩|⟨_,_,h,_⟩<;>exact ⟨_,_,_,h⟩
    refine hK.out _ _ (hS _ k2.2.2.2.2.2) (fun Hh=>?_);clear hK K;refine rd 9 fun K hK=>?_
    go_simp;refine hK.out _ _ (hS _ (k2.below (bal' _ _)).2.2.2.2.2) (fun Hh=>?_);clear hK K;refine rd 10 fun K hK=>?_
    refine step_append_og (by rfl) _ _ (by rfl) (w.heap.size+1+2) B _ _ _ _ (by rfl) k2.2.2.1 (hor2.low hMB) (fun g e=>(hor2.lt g e).1) k2.2.2.2.1 hlr _ rfl (by rfl) ?_;intro v' w' ho' hg';have k4:=(k2.below (bal' _ _)).more ho' hg';clear k2 ho' hg' hor2;clear d0 d1 y0 y1 c0 c1 z0 z1;obtain ⟨⟨_,⟨d0,d1⟩,⟨y0,y1⟩⟩,⟨_,⟨c0,c1⟩,⟨z0,z1⟩⟩,_⟩:=id k4;obtain ⟨va,vn,vc,rfl⟩:∃ a n c,v'=Value.slice a n c:=by rcases k4.2.2.1.shape with ⟨h,_⟩|⟨_,_,h,_⟩<;>exact ⟨_,_,_,h⟩
    refine hK.out _ _ (hS _ k4.2.2.2.2.2) (fun Hh=>?_);clear hK K
    (try simp only [Act.put,ZA,ZB,ZC,ZD,ZE,ZF])
    refine' wpAnyH_take (i:=11) (v:=_) rfl (by kernel_rfl) (by kernel_rfl) (by kernel_rfl) (fun _ _ _ h=>h) (Or.inl ⟨by rfl,?hy13⟩) Hh ?hr13
    case hy13=>(intro w hSw;(try dsimp only at hSw);go_simp;(try with_reducible rfl))
    refine rd 12 fun K hK=>?_
    go_simp;have k5:=ng_put k4;simp only [putG] at k5;refine hK.out _ _ (hS _ k5.2.2.2.2.2) (fun Hh=>?_);clear hK K
    (try simp only [Act.put,ZA,ZB,ZC,ZD,ZE,ZF])
    refine dn ?_;clear k4 Hh d0 d1 y0 y1 c0 c1 z0 z1;go_wp2;go_roundw
    case rel=>exact ⟨j+1,by go_num,by omega,_,by rw [hsn.out];exact k5⟩
    case measure=>simp [intOf];omega
   ·go_simp
    have kE:=(k.below (bal' wr (Obj.cells #[] 146))).drew;have hoE:=(ownC_nil wr B (by omega)).below (bdr _);rw [hBB] at hoE
    clear k;clear d0 d1 y0 y1 c0 c1 z0 z1;obtain ⟨⟨_,⟨d0,d1⟩,⟨y0,y1⟩⟩,⟨_,⟨c0,c1⟩,⟨z0,z1⟩⟩,_⟩:=id kE;refine hK.out _ _ (hS _ kE.2.2.2.2.2) (fun Hh=>?_);clear hK K;refine rd2 1 8 (fun K hK=>?_) fun K hK=>?_
    ·go_simp
     refine hK.out _ _ (by exact Hh) (fun Hh=>?_);clear hK K;refine rd 8 fun K hK=>?_
     refine step_append_os (by rfl) _ _ (by rfl) B (.slice (some ⟨B,0,none⟩) 0 0) [] (by rfl) (by exact hoE) (by simp;omega) _ (rowX rows j) (hsrc _ Hh.2.2) (hne j hlt) (by rfl) (by simp;omega) ?_;intro r w2 ho2 hg2;have k2:=kE.kept2 hg2 (fun g e=>by simp [Value.ownBlock] at e;omega) hu;have hor2:OwnC w2 B r (rowX rows j):=by simpa using ho2
     clear kE ho2 hg2 hoE;clear d0 d1 y0 y1 c0 c1 z0 z1;obtain ⟨⟨_,⟨d0,d1⟩,⟨y0,y1⟩⟩,⟨_,⟨c0,c1⟩,⟨z0,z1⟩⟩,_⟩:=id k2;obtain ⟨ra,rn,rc,rfl⟩:∃ a n c,r=Value.slice a n c:=by rcases hor2.shape with ⟨h,_⟩|⟨_,_,h,_⟩<;>exact ⟨_,_,_,h⟩
     refine hK.out _ _ (hS _ k2.2.2.2.2.2) (fun Hh=>?_);clear hK K;refine rd 9 fun K hK=>?_
     go_simp;refine hK.out _ _ (hS _ (k2.below (bal' _ _)).2.2.2.2.2) (fun Hh=>?_);clear hK K;refine rd 10 fun K hK=>?_
     refine step_append_og (by rfl) _ _ (by rfl) (w.heap.size+1+2) B _ _ _ _ (by rfl) k2.2.2.1 (hor2.low hMB) (fun g e=>(hor2.lt g e).1) k2.2.2.2.1 hlr _ rfl (by rfl) ?_;intro v' w' ho' hg';have k4:=(k2.below (bal' _ _)).more ho' hg';clear k2 ho' hg' hor2;clear d0 d1 y0 y1 c0 c1 z0 z1;obtain ⟨⟨_,⟨d0,d1⟩,⟨y0,y1⟩⟩,⟨_,⟨c0,c1⟩,⟨z0,z1⟩⟩,_⟩:=id k4;obtain ⟨va,vn,vc,rfl⟩:∃ a n c,v'=Value.slice a n c:=by rcases k4.2.2.1.shape with ⟨h,_⟩|⟨_,_,h,_⟩<;>exact ⟨_,_,_,h⟩
     refine hK.out _ _ (hS _ k4.2.2.2.2.2) (fun Hh=>?_);clear hK K
     (try simp only [Act.put,ZA,ZB,ZC,ZD,ZE,ZF])
     refine' wpAnyH_take (i:=11) (v:=_) rfl (by kernel_rfl) (by kernel_rfl) (by kernel_rfl) (fun _ _ _ h=>h) (Or.inl ⟨by rfl,?hy14⟩) Hh ?hr14
     case hy14=>(intro w hSw;(try dsimp only at hSw);go_simp;(try with_reducible rfl))
     refine rd 12 fun K hK=>?_
     go_simp;have k5:=ng_put k4;simp only [putG] at k5;refine hK.out _ _ (hS _ k5.2.2.2.2.2) (fun Hh=>?_);clear hK K
     (try simp only [Act.put,ZA,ZB,ZC,ZD,ZE,ZF])
     refine dn ?_;clear k4 Hh d0 d1 y0 y1 c0 c1 z0 z1;go_wp2;go_roundw
     case rel=>exact ⟨j+1,by go_num,by omega,_,by rw [hsn.out];exact k5⟩
     case measure=>simp [intOf];omega
    ·refine step_append_os (by rfl) _ _ (by rfl) B (.slice (some ⟨B,0,none⟩) 0 0) [] (by rfl) (by exact hoE) (by simp;omega) _ (rowX rows j) (hsrc _ Hh.2.2) (hne j hlt) (by rfl) (by simp;omega) ?_
     intro r w2 ho2 hg2;have k2:=kE.kept2 hg2 (fun g e=>by simp [Value.ownBlock] at e;omega) hu;have hor2:OwnC w2 B r (rowX rows j):=by simpa using ho2
     clear kE ho2 hg2 hoE;clear d0 d1 y0 y1 c0 c1 z0 z1;obtain ⟨⟨_,⟨d0,d1⟩,⟨y0,y1⟩⟩,⟨_,⟨c0,c1⟩,⟨z0,z1⟩⟩,_⟩:=id k2;obtain ⟨ra,rn,rc,rfl⟩:∃ a n c,r=Value.slice a n c:=by rcases hor2.shape with ⟨h,_⟩|⟨_,_,h,_⟩<;>exact ⟨_,_,_,h⟩
     refine hK.out _ _ (hS _ k2.2.2.2.2.2) (fun Hh=>?_);clear hK K;refine rd2 1 9 (fun K hK=>?_) fun K hK=>?_
     ·go_simp
      refine hK.out _ _ (by exact Hh) (fun Hh=>?_);clear hK K;refine rd 9 fun K hK=>?_
      go_simp;refine hK.out _ _ (hS _ (k2.below (bal' _ _)).2.2.2.2.2) (fun Hh=>?_);clear hK K;refine rd 10 fun K hK=>?_
      refine step_append_og (by rfl) _ _ (by rfl) (w.heap.size+1+2) B _ _ _ _ (by rfl) k2.2.2.1 (hor2.low hMB) (fun g e=>(hor2.lt g e).1) k2.2.2.2.1 hlr _ rfl (by rfl) ?_;intro v' w' ho' hg';have k4:=(k2.below (bal' _ _)).more ho' hg';clear k2 ho' hg' hor2;clear d0 d1 y0 y1 c0 c1 z0 z1;obtain ⟨⟨_,⟨d0,d1⟩,⟨y0,y1⟩⟩,⟨_,⟨c0,c1⟩,⟨z0,z1⟩⟩,_⟩:=id k4;obtain ⟨va,vn,vc,rfl⟩:∃ a n c,v'=Value.slice a n c:=by rcases k4.2.2.1.shape with ⟨h,_⟩|⟨_,_,h,_⟩<;>exact ⟨_,_,_,h⟩
      refine hK.out _ _ (hS _ k4.2.2.2.2.2) (fun Hh=>?_);clear hK K
      (try simp only [Act.put,ZA,ZB,ZC,ZD,ZE,ZF])
      refine' wpAnyH_take (i:=11) (v:=_) rfl (by kernel_rfl) (by kernel_rfl) (by kernel_rfl) (fun _ _ _ h=>h) (Or.inl ⟨by rfl,?hy15⟩) Hh ?hr15
      case hy15=>(intro w hSw;(try dsimp only at hSw);go_simp;(try with_reducible rfl))
      refine rd 12 fun K hK=>?_
      go_simp;have k5:=ng_put k4;simp only [putG] at k5;refine hK.out _ _ (hS _ k5.2.2.2.2.2) (fun Hh=>?_);clear hK K
      (try simp only [Act.put,ZA,ZB,ZC,ZD,ZE,ZF])
      refine dn ?_;clear k4 Hh d0 d1 y0 y1 c0 c1 z0 z1;go_wp2;go_roundw
      case rel=>exact ⟨j+1,by go_num,by omega,_,by rw [hsn.out];exact k5⟩
      case measure=>simp [intOf];omega
     ·go_simp
      refine hK.out _ _ (hS _ (k2.below (bal' _ _)).2.2.2.2.2) (fun Hh=>?_);clear hK K;refine rd 1 fun K hK=>?_
      go_simp;refine hK.out _ _ (by exact Hh) (fun Hh=>?_);clear hK K;refine rd 10 fun K hK=>?_
      refine step_append_og (by rfl) _ _ (by rfl) (w.heap.size+1+2) B _ _ _ _ (by rfl) k2.2.2.1 (hor2.low hMB) (fun g e=>(hor2.lt g e).1) k2.2.2.2.1 hlr _ rfl (by rfl) ?_;intro v' w' ho' hg';have k4:=(k2.below (bal' _ _)).more ho' hg';clear k2 ho' hg' hor2;clear d0 d1 y0 y1 c0 c1 z0 z1;obtain ⟨⟨_,⟨d0,d1⟩,⟨y0,y1⟩⟩,⟨_,⟨c0,c1⟩,⟨z0,z1⟩⟩,_⟩:=id k4;obtain ⟨va,vn,vc,rfl⟩:∃ a n c,v'=Value.slice a n c:=by rcases k4.2.2.1.shape with ⟨h,_⟩|⟨_,_,h,_⟩<;>exact ⟨_,_,_,h⟩
      refine hK.out _ _ (hS _ k4.2.2.2.2.2) (fun Hh=>?_);clear hK K
      (try simp only [Act.put,ZA,ZB,ZC,ZD,ZE,ZF])
      refine' wpAnyH_take (i:=11) (v:=_) rfl (by kernel_rfl) (by kernel_rfl) (by kernel_rfl) (fun _ _ _ h=>h) (Or.inl ⟨by rfl,?hy16⟩) Hh ?hr16
      case hy16=>(intro w hSw;(try dsimp only at hSw);go_simp;(try with_reducible rfl))
      refine rd 12 fun K hK=>?_
      go_simp;have k5:=ng_put k4;simp only [putG] at k5;refine hK.out _ _ (hS _ k5.2.2.2.2.2) (fun Hh=>?_);clear hK K
      (try simp only [Act.put,ZA,ZB,ZC,ZD,ZE,ZF])
      refine dn ?_;clear k4 Hh d0 d1 y0 y1 c0 c1 z0 z1;go_wp2;go_roundw
      case rel=>exact ⟨j+1,by go_num,by omega,_,by rw [hsn.out];exact k5⟩
      case measure=>simp [intOf];omega
  ·have hjn:j=rows.length:=by omega
   have hji:¬ (j:Int)<(rows.length:Int):=by omega
   subst hjn;rw [List.take_length] at k
   obtain ⟨⟨_,⟨d0,d1⟩,⟨y0,y1⟩⟩,⟨_,⟨c0,c1⟩,⟨z0,z1⟩⟩,_⟩:=id k;have h3:=k.2.2.2.1;have kF:=(k.1.put2 cols (.slice ua un uc)).2.1;have hgF:=putG2_grown wr (w.heap.size+1) cols (.slice ua un uc);have hoF:=((k.2.2.1).kept hgF (fun g e=>by cases e;omega)).up hgF.size;have hbF:=(hb0.trans (k.2.2.2.2.2.mono (by omega))).grown hgF (by omega) (fun g e=>by cases e;omega);obtain ⟨f0,f1⟩:=kF;simp only [putG2] at f0 f1 hoF hbF;clear hgF hs hrc;go_wp2;exact bodyPost_ret (v:=.agg #[.int .i64 cols,.slice ua un uc]) (by simp [results,Tryz.results139,go_sem,f0,f1]) rfl ⟨_,rfl,hoF.low (by omega),hbF⟩
theorem moveR_len (cols:Nat) (rows:List (List Ce)) (a b:Nat) (n:Int) (s:St):(moveR cols rows a b n s).length=rows.length:=by simp [moveR]
theorem moveR_at (cols:Nat) (rows:List (List Ce)) (a b:Nat) (n:Int) (s:St) (i:Nat) (hi:i<rows.length):rowX (moveR cols rows a b n s) i=if a<=i/\i<=b then (if (a:Int)<=i+n/\(i:Int)+n<=b then rowX rows ((i:Int)+n).toNat else rowL cols s) else rowX rows i:=by
 rw [rowX_lt (by rw [moveR_len];exact hi)]
 simp only [moveR,List.getElem_map,List.getElem_range]
 rfl
def sigM (a b:Nat) (n:Int) (k:Nat):Option Nat:=if (a:Int)<=a+k+n/\(a:Int)+k+n<=b then some ((a:Int)+k+n).toNat else none
def sigW (a b:Nat) (n:Int) (i:Nat):Option Nat:=if a<=i/\i<=b then sigM a b n (i-a) else some i
theorem sigM_some {a b k p:Nat} {n:Int} (h:sigM a b n k=some p):(p:Int)=a+k+n/\a<=p/\p<=b:=by
 unfold sigM at h;split at h
 ·cases h;omega
 ·cases h
theorem sigW_inj {a b i j p:Nat} {n:Int} (hi:sigW a b n i=some p) (hj:sigW a b n j=some p):i=j:=by
 unfold sigW at hi hj;split at hi
 ·have h1:=sigM_some hi
  split at hj
  ·have h2:=sigM_some hj;omega
  ·cases hj;omega
 ·cases hi
  split at hj
  ·have h2:=sigM_some hj;omega
  ·cases hj;rfl
def mixV (vs us:List Value) (a j:Nat):List Value:=genV vs.length fun i=>if a<=i/\i<a+j then rowV us (i-a) else rowV vs i
theorem mixV_len (vs us:List Value) (a j:Nat):(mixV vs us a j).length=vs.length:=genV_len _ _
theorem mixV_at (vs us:List Value) (a j i:Nat) (h:i<vs.length):rowV (mixV vs us a j) i=if a<=i/\i<a+j then rowV us (i-a) else rowV vs i:=genV_at _ _ _ h
theorem mixV_zero (vs us:List Value) (a:Nat):mixV vs us a 0=vs:=ext_rowV _ _ (mixV_len _ _ _ _) fun i hi=>by
 rw [mixV_len] at hi
 rw [mixV_at _ _ _ _ _ hi,if_neg (by omega)]
theorem mixV_step (vs us:List Value) (a j:Nat) (h:a+j<vs.length):mixV vs us a (j+1)=(mixV vs us a j).set (a+j) (rowV us j):=ext_rowV _ _ (by rw [List.length_set,mixV_len,mixV_len]) fun i hi=>by
 rw [mixV_len] at hi
 rw [rowV_setV (by rw [mixV_len];exact h),mixV_at _ _ _ _ _ hi,mixV_at _ _ _ _ _ hi]
 by_cases e:i=a+j
 ·subst e
  rw [if_pos (by omega),if_pos rfl,show a+j-a=j by omega]
 ·rw [if_neg e]
  by_cases c:a<=i/\i<a+j
  ·rw [if_pos c,if_pos (by omega)]
  ·rw [if_neg c,if_neg (by omega)]
theorem mixed_move {w1 w':World} {base B M cols:Nat} {v:Value} {vs us:List Value} {rows:List (List Ce)} {a b:Nat} {n:Int} {s:St} (h:OwnV w1 base B v vs rows) (hG:Gat w1 M vs (rowL cols s) (sigM a b n) us) (hus:us.length=b+1-a) (hab:a<=b) (hb:b<rows.length) (hM:base<=M) (hBM:B<=M)
  (ho:w'.ownsRow base 120 1 v rows.length (mixV vs us a (b+1-a))) (hg:w1.grownBy w' v.ownBlock):OwnV w' base w'.heap.size v (mixV vs us a (b+1-a)) (moveR cols rows a b n s):=by
 have hvl:=h.1;have hown:=h.2.1;refine h.mixed (sigW a b n) _ _ (by rw [mixV_len,moveR_len,hvl]) (moveR_len _ _ _ _ _ _) ho (fun p hp=>(h.2.2.1 p hp).kept hg (outer_apart hown (h.2.2.1 p hp))) (fun i p hi e=>?_) (fun i j p hij _ e1 e2=>by have:=sigW_inj e1 e2;omega) (fun i hi e=>?_) (fun i j hij hj e1 e2=>?_)
 ·unfold sigW at e
  rw [mixV_at _ _ _ _ _ (by omega),moveR_at _ _ _ _ _ _ _ hi]
  split at e
  ·rename_i c
   have hs:=sigM_some e;refine ⟨by omega,?_,?_⟩
   ·rw [if_pos (by omega)];exact hG.1 (i-a) p (by omega) e
   ·rw [if_pos c,if_pos (by omega),show ((i:Int)+n).toNat=p by omega]
  ·rename_i c
   cases e
   exact ⟨hi,by rw [if_neg (by omega)],by rw [if_neg c]⟩
 ·unfold sigW at e
  rw [mixV_at _ _ _ _ _ (by omega),moveR_at _ _ _ _ _ _ _ hi]
  split at e
  ·rename_i c
   have hr:=hG.2.1 (i-a) (by omega) e
   have hn:¬ ((a:Int)<=i+n/\(i:Int)+n<=b):=by
    unfold sigM at e;split at e
    ·cases e
    ·omega
   rw [if_pos (by omega),if_pos c,if_neg hn]
   exact ⟨(hr.kept hg (outer_apart hown hr)).low hM,fun g e=>Nat.le_trans hBM (hr.lt g e).1⟩
  ·cases e
 ·unfold sigW at e1 e2
  split at e1
  ·split at e2
   ·rw [mixV_at _ _ _ _ _ (by omega),mixV_at _ _ _ _ _ (by omega),if_pos (by omega),if_pos (by omega)]
    exact hG.2.2 (i-a) (j-a) (by omega) (by omega) e1 e2
   ·cases e2
  ·cases e1
def MvK (M:Nat) (u:Value) (vs us:List Value) (X:List Ce) (σ:Nat->Option Nat) (s:St) (w0 W:World):Prop :=
 StAt W M s/\W.ownsRow (M+1) 120 1 u us.length us/\Gat W M vs X σ us/\Below M w0 W
theorem MvK.below {M:Nat} {u:Value} {vs us:List Value} {X:List Ce} {σ:Nat->Option Nat} {s:St} {w0 W W':World} (k:MvK M u vs us X σ s w0 W) (hb:Below W.heap.size W W'):MvK M u vs us X σ s w0 W' :=
 ⟨k.1.below hb,World.ownsRow.below k.2.1 hb,k.2.2.1.below hb,k.2.2.2.trans (hb.mono (by have:=k.1.1;omega))⟩
theorem MvK.more {M:Nat} {u v':Value} {vs us:List Value} {X:List Ce} {σ:Nat->Option Nat} {s:St} {w0 W W':World} {r:Value} (k:MvK M u vs us X σ s w0 W) (hG:Gat W M vs X σ (us++[r])) (ho:W'.ownsRow (M+1) 120 1 v' (us.length+1) (us++[r])) (hg:(W.alloc (.cells #[r] 120)).grownBy W' u.ownBlock):MvK M v' vs (us++[r]) X σ s w0 W':=by
 have hba:=bal' W (Obj.cells #[r] 120);have h1:=hba.size;have h2:=k.1.1;have h3:=fun g e=>(k.2.1.lt g e).1
 refine ⟨(k.1.below hba).grown hg (fun e=>by have:=h3 M e;omega),by rw [List.length_append];exact ho,(hG.below hba).kept (World.ownsRow.below k.2.1 hba) hg,?_⟩;exact (k.2.2.2.trans (hba.mono (by omega))).grown hg (by omega) (fun g e=>by have:=h3 g e;omega)
theorem ownsShape {w:World} {base n:Nat} {v:Value} {xs:List Value} (h:w.ownsRow base 120 1 v n xs):∃ a n c,v=Value.slice a n c:=by
 rcases h.2 with ⟨h1,_⟩|⟨g,cap,cur,hv,_⟩
 ·exact ⟨_,_,_,h1⟩
 ·exact ⟨_,_,_,hv⟩
theorem l4Mended_any (v:Value) (xs:List Ce) (w:World) (hv:SlC w v xs) (hl:xs.length<=1000000) :
  Calls Tryz.prog 159 #[v] w fun e w'=>∃ u,e=.returned u/\OwnC w' w.heap.size u (mendV xs)/\Below w.heap.size w w':=by
 have hbl:=fun s W=>l4Blank_any s W
 obtain ⟨a,c,rfl,hr⟩:=id hv;have k00:=ownC_nil w w.heap.size (Nat.le_refl _);have hv0:=hv.below (bal' w (Obj.cells #[] 146));go_enter Tryz.func159,Tryz.ntmps159;go_wp2_with (at_builtin;refine append_os rfl _ _ rfl w.heap.size _ [] rfl (by exact k00) (by simp) _ xs hv0 rfl (by simp;omega) ?_;intro u w1 ho1 hg1)
 have k1:OC w.heap.size u xs w w1:=by
  have k:OC w.heap.size (.slice (some ⟨w.heap.size,0,none⟩) 0 0) [] w (w.alloc (Obj.cells #[] 146)):=⟨k00,bal' _ _,by simp,Nat.le_refl _⟩;exact k.own (by simpa using ho1) hg1
 clear k00 hv0 ho1 hg1;rcases k1.1.shape with ⟨rfl,rfl⟩|⟨g,cap,rfl,hbg,hlg,hcap⟩
 ·clear hr
  go_wp2;refine wp_loop_rounds 1 ?_;rw [rounds_succ]
  go_wp2;go_ret;exact ⟨_,rfl,k1.1,k1.2.1⟩
 ·go_wp2
  go_loopw [4] (fun i wr=>∃ j:Nat,i=.int .i64 j/\j<=xs.length/\OC w.heap.size (.slice (some ⟨g,0,none⟩) xs.length cap) (mendUp xs j) w wr) (fun i _=>xs.length-(intOf i).toNat)
  case atStart=>exact ⟨0,rfl,Nat.zero_le _,by rw [mendUp_zero];exact k1⟩
  case round =>
   clear k1;obtain ⟨j,rfl,hj,k⟩:=hrel
   by_cases hlt:j<xs.length
   ·have hji:(j:Int)<(xs.length:Int):=by omega
    have hj0:(0:Int)<=(j:Int):=by omega
    have hat:=k.1.at (mendUp_len xs j) j hlt;rw [mendUp_at xs j j hlt,if_neg (Nat.lt_irrefl j)] at hat
    have hsz:(mendUp xs j).length=xs.length:=mendUp_len xs j
    have hsrc:∀ i,i<xs.length->∃ b off,a=some ⟨b,off,none⟩/\CeAt wr b (off+i*7) (atC xs i):=by
     intro i hi;rcases hr.2.2 with h|⟨b,off,ha,hlt,hc⟩
     ·rw [h] at hi;simp at hi
     ·exact ⟨b,off,ha,(hc i hi).below k.2.1 hlt⟩
    have hkeep:aloneB xs j=false->OC w.heap.size (.slice (some ⟨g,0,none⟩) xs.length cap) (mendUp xs (j+1)) w wr:=fun h=>by rw [mendUp_keep xs j hlt h];exact k
    have hstep:aloneB xs j=true->mendUp xs (j+1)=(mendUp xs j).set j (blankC (atC xs j).st):=fun h=>by rw [mendUp_step xs j hlt,mendC,if_pos h]
    have hal:aloneB xs j=(((atC xs j).part==1 && (decide (j+1=xs.length) || (atC xs (j+1)).part != 2)) || ((atC xs j).part==2 && (decide (j=0) || (atC xs (j-1)).part != 1))):=rfl
    have hnext:j+1<xs.length->CeAt wr g ((j+1)*7) (atC xs (j+1)):=fun h=>by
     have:=k.1.at (mendUp_len xs j) (j+1) h
     rwa [mendUp_at xs j (j+1) h,if_neg (by omega)] at this
    obtain ⟨p0,p1,p2,p3,p4,p5,p6⟩:=id hat
    by_cases e1:(atC xs j).part=1
    ·have b1:((atC xs j).part==1)=true:=by simp [e1]
     by_cases e2:j+1=xs.length
     ·have e2i:((j:Int)+1==(xs.length:Int))=true:=by simp;omega
      have ha:aloneB xs j=true:=by rw [hal];simp [e1,e2]
      have hst:=hstep ha;clear hkeep hstep hal ha hsrc hnext hv hr;obtain ⟨c0,c1,c2,c3,c4,c5,c6⟩:=id hat;have hb1:=hbl (atC xs j).st;unfold stV ceV blankC at hb1;simp only at hb1;go_wp2_with fail;refine (hb1 _).mono ?_;rintro e w2 ⟨rfl,hb2⟩;have k2:=k.below hb2;have hat2:=hat.below hb2 (by have:=k.1.lt g rfl;exact this.2);have hp:=k2.1.put hsz j hlt ⟨32,(atC xs j).st,0⟩;have kk:OC w.heap.size (.slice (some ⟨g,0,none⟩) xs.length cap) (mendUp xs (j+1)) w (putCe w2 g (j*7) ⟨32,(atC xs j).st,0⟩):=by rw [hst];exact k2.own hp.1 hp.2
      have f0:=k2.1.frozen hsz (j*7);have f1:=k2.1.frozen hsz (j*7+1);have f2:=k2.1.frozen hsz (j*7+2);have f3:=k2.1.frozen hsz (j*7+3);have f4:=k2.1.frozen hsz (j*7+4);have f5:=k2.1.frozen hsz (j*7+5);have f6:=k2.1.frozen hsz (j*7+6);clear hp hat k hb1 hb2 hbl hst c0 c1 c2 c3 c4 c5 c6;obtain ⟨c0,c1,c2,c3,c4,c5,c6⟩:=hat2;clear k2;simp only [putCe] at kk;go_wp2;go_roundw
      case rel=>exact ⟨j+1,by go_num,by omega,kk⟩
      case measure=>simp [intOf];omega
     ·have e2i:((j:Int)+1==(xs.length:Int))=false:=by simp;omega
      have hj1:j+1<xs.length:=by omega
      have hj1i:(j:Int)+1<(xs.length:Int):=by omega
      obtain ⟨q0,q1,q2,q3,q4,q5,q6⟩:=hnext hj1
      by_cases e3:(atC xs (j+1)).part=2
      ·have b3:((atC xs (j+1)).part != 2)=false:=by simp [e3]
       have b4:((atC xs j).part==2)=false:=by simp [e1]
       have ha:aloneB xs j=false:=by rw [hal];simp [e1,e2,e3]
       have kk:=hkeep ha;clear hkeep hstep hal ha hsrc hnext hbl k hv hr;go_wp2;go_roundw
       case rel=>exact ⟨j+1,by go_num,by omega,kk⟩
       case measure=>simp [intOf];omega
      ·have b3:((atC xs (j+1)).part != 2)=true:=by simp [e3]
       have ha:aloneB xs j=true:=by rw [hal];simp [e1,e3]
       have hst:=hstep ha;clear hkeep hstep hal ha hsrc hnext hv hr;obtain ⟨c0,c1,c2,c3,c4,c5,c6⟩:=id hat;have hb1:=hbl (atC xs j).st;unfold stV ceV blankC at hb1;simp only at hb1;go_wp2_with fail;refine (hb1 _).mono ?_;rintro e w2 ⟨rfl,hb2⟩;have k2:=k.below hb2;have hat2:=hat.below hb2 (by have:=k.1.lt g rfl;exact this.2);have hp:=k2.1.put hsz j hlt ⟨32,(atC xs j).st,0⟩;have kk:OC w.heap.size (.slice (some ⟨g,0,none⟩) xs.length cap) (mendUp xs (j+1)) w (putCe w2 g (j*7) ⟨32,(atC xs j).st,0⟩):=by rw [hst];exact k2.own hp.1 hp.2
       have f0:=k2.1.frozen hsz (j*7);have f1:=k2.1.frozen hsz (j*7+1);have f2:=k2.1.frozen hsz (j*7+2);have f3:=k2.1.frozen hsz (j*7+3);have f4:=k2.1.frozen hsz (j*7+4);have f5:=k2.1.frozen hsz (j*7+5);have f6:=k2.1.frozen hsz (j*7+6);clear hp hat k hb1 hb2 hbl hst c0 c1 c2 c3 c4 c5 c6;obtain ⟨c0,c1,c2,c3,c4,c5,c6⟩:=hat2;clear k2;simp only [putCe] at kk;go_wp2;go_roundw
       case rel=>exact ⟨j+1,by go_num,by omega,kk⟩
       case measure=>simp [intOf];omega
    ·have b1:((atC xs j).part==1)=false:=by simp [e1]
     by_cases e2:(atC xs j).part=2
     ·have b2:((atC xs j).part==2)=true:=by simp [e2]
      by_cases e3:j=0
      ·have e3i:((j:Int)==0)=true:=by simp [e3]
       have ha:aloneB xs j=true:=by rw [hal];rw [show decide (j=0)=true from decide_eq_true e3];simp [e2]
       clear e3;have hst:=hstep ha;clear hkeep hstep hal ha hsrc hnext hv hr;obtain ⟨c0,c1,c2,c3,c4,c5,c6⟩:=id hat;have hb1:=hbl (atC xs j).st;unfold stV ceV blankC at hb1;simp only at hb1;go_wp2_with fail;refine (hb1 _).mono ?_;rintro e w2 ⟨rfl,hb2⟩;have k2:=k.below hb2;have hat2:=hat.below hb2 (by have:=k.1.lt g rfl;exact this.2);have hp:=k2.1.put hsz j hlt ⟨32,(atC xs j).st,0⟩;have kk:OC w.heap.size (.slice (some ⟨g,0,none⟩) xs.length cap) (mendUp xs (j+1)) w (putCe w2 g (j*7) ⟨32,(atC xs j).st,0⟩):=by rw [hst];exact k2.own hp.1 hp.2
       have f0:=k2.1.frozen hsz (j*7);have f1:=k2.1.frozen hsz (j*7+1);have f2:=k2.1.frozen hsz (j*7+2);have f3:=k2.1.frozen hsz (j*7+3);have f4:=k2.1.frozen hsz (j*7+4);have f5:=k2.1.frozen hsz (j*7+5);have f6:=k2.1.frozen hsz (j*7+6);clear hp hat k hb1 hb2 hbl hst c0 c1 c2 c3 c4 c5 c6;obtain ⟨c0,c1,c2,c3,c4,c5,c6⟩:=hat2;clear k2;simp only [putCe] at kk;go_wp2;go_roundw
       case rel=>exact ⟨j+1,by go_num,by omega,kk⟩
       case measure=>simp [intOf];omega
      ·obtain ⟨m,rfl⟩:∃ m,j=m+1:=⟨j-1,by omega⟩
       obtain ⟨b,off,rfl,q0,q1,q2,q3,q4,q5,q6⟩:=hsrc m (by omega);have e3i:((m:Int)+1==0)=false:=by simp;omega
       have hmi:(m:Int)<(xs.length:Int):=by omega
       by_cases e4:(atC xs m).part=1
       ·have b4:((atC xs m).part != 1)=false:=by simp [e4]
        have ha:aloneB xs (m+1)=false:=by rw [hal];simp [e2,e4]
        have kk:=hkeep ha;clear hkeep hstep hal ha hsrc hnext hbl k hv hr;go_wp2;go_roundw
        case rel=>exact ⟨m+1+1,by go_num,by omega,kk⟩
        case measure=>simp [intOf];omega
       ·have b4:((atC xs m).part != 1)=true:=by simp [e4]
        have ha:aloneB xs (m+1)=true:=by rw [hal];simp [e2,e4]
        have hst:=hstep ha;clear hkeep hstep hal ha hsrc hnext hv hr;obtain ⟨c0,c1,c2,c3,c4,c5,c6⟩:=id hat;have hb1:=hbl (atC xs (m+1)).st;unfold stV ceV blankC at hb1;simp only at hb1;go_wp2_with fail;refine (hb1 _).mono ?_;rintro e w2 ⟨rfl,hb2⟩;have k2:=k.below hb2;have hat2:=hat.below hb2 (by have:=k.1.lt g rfl;exact this.2);have hp:=k2.1.put hsz (m+1) hlt ⟨32,(atC xs (m+1)).st,0⟩;have kk:OC w.heap.size (.slice (some ⟨g,0,none⟩) xs.length cap) (mendUp xs ((m+1)+1)) w (putCe w2 g ((m+1)*7) ⟨32,(atC xs (m+1)).st,0⟩):=by rw [hst];exact k2.own hp.1 hp.2
        have f0:=k2.1.frozen hsz ((m+1)*7);have f1:=k2.1.frozen hsz ((m+1)*7+1);have f2:=k2.1.frozen hsz ((m+1)*7+2);have f3:=k2.1.frozen hsz ((m+1)*7+3);have f4:=k2.1.frozen hsz ((m+1)*7+4);have f5:=k2.1.frozen hsz ((m+1)*7+5);have f6:=k2.1.frozen hsz ((m+1)*7+6);clear hp hat k hb1 hb2 hbl hst c0 c1 c2 c3 c4 c5 c6;obtain ⟨c0,c1,c2,c3,c4,c5,c6⟩:=hat2;clear k2;simp only [putCe] at kk;go_wp2;go_roundw
        case rel=>exact ⟨m+1+1,by go_num,by omega,kk⟩
        case measure=>simp [intOf];omega
     ·have b2:((atC xs j).part==2)=false:=by simp [e2]
      have ha:aloneB xs j=false:=by rw [hal];simp [e1,e2]
      have kk:=hkeep ha;clear hkeep hstep hal ha hsrc hnext hbl k hv hr;go_wp2;go_roundw
      case rel=>exact ⟨j+1,by go_num,by omega,kk⟩
      case measure=>simp [intOf];omega
   ·have hjn:j=xs.length:=by omega
    have hji:¬ (j:Int)<(xs.length:Int):=by omega
    subst hjn;clear hbl hv hr;go_wp2;go_ret;exact ⟨_,rfl,k.1,k.2.1⟩
end Go.Proofs.YtgcnmjjlmcnllaaGreatDoor
