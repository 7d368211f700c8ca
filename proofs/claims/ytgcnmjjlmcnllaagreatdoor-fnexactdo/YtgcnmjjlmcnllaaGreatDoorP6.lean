/- Parts of the proof. -/
import Derived.Test.YtgcnmjjlmcnllaaGreatDoorP1
import Derived.Test.YtgcnmjjlmcnllaaGreatDoorP2
import Derived.Test.YtgcnmjjlmcnllaaGreatDoorP3
import Derived.Test.YtgcnmjjlmcnllaaGreatDoorP5
namespace Go.Proofs.YtgcnmjjlmcnllaaGreatDoor
set_option maxRecDepth 20000
set_option maxHeartbeats 16000000
open Go.ChangeShapes Go.WideShapes Go.ChangeAt Go.RowKit
def NG (M B:Nat) (cols:Int) (u:Value) (rows:List (List Ce)) (w0 W:World):Prop :=
 GrW W M 0 (.slice none 0 0)/\GrW W (M+1) cols u/\OwnG W (M+2) B u rows/\M+2<=W.heap.size/\B<=W.heap.size/\Below M w0 W
theorem NG.below {M B:Nat} {cols:Int} {u:Value} {rows:List (List Ce)} {w0 W W':World} (k:NG M B cols u rows w0 W) (hb:Below W.heap.size W W'):NG M B cols u rows w0 W' :=
 ⟨k.1.below hb,k.2.1.below hb,k.2.2.1.below hb,Nat.le_trans k.2.2.2.1 hb.size,Nat.le_trans k.2.2.2.2.1 hb.size,k.2.2.2.2.2.trans (hb.mono (by have:=k.2.2.2.1;omega))⟩
theorem NG.drew {M B:Nat} {cols:Int} {u:Value} {rows:List (List Ce)} {w0 W:World} (k:NG M B cols u rows w0 W):NG M B cols u rows w0 W.drew:=k.below (bdr W)
theorem NG.more {M B:Nat} {cols:Int} {u v':Value} {rows rows':List (List Ce)} {w0 W W':World} (k:NG M B cols u rows w0 W) (ho:OwnG W' (M+2) W'.heap.size v' rows') (hg:W.grownBy W' u.ownBlock) :
  GrW W' M 0 (.slice none 0 0)/\GrW W' (M+1) cols u/\OwnG W' (M+2) W'.heap.size v' rows'/\M+2<=W'.heap.size/\W'.heap.size<=W'.heap.size/\Below M w0 W':=by
 have hne:∀ g,u.ownBlock=some g->M+2<=g:=fun g e=>(k.2.2.1.lt g e).1
 refine ⟨k.1.grown hg (fun e=>by have:=hne _ e;omega),k.2.1.grown hg (fun e=>by have:=hne _ e;omega),ho,Nat.le_trans k.2.2.2.1 hg.size,Nat.le_refl _,?_⟩;exact k.2.2.2.2.2.grown hg (by have:=k.2.2.2.1;omega) (fun g e=>by have:=hne g e;omega)
theorem ng_put {M:Nat} {cols:Int} {u:Value} {rows:List (List Ce)} {w0 W:World} {v':Value} (k:GrW W M 0 (.slice none 0 0)/\GrW W (M+1) cols u/\OwnG W (M+2) W.heap.size v' rows/\M+2<=W.heap.size/\W.heap.size<=W.heap.size/\Below M w0 W) :
  NG M (putG W (M+1) v').heap.size cols v' rows w0 (putG W (M+1) v'):=by
 have hg:=putG_grown W (M+1) v';refine ⟨k.1.grown hg (fun e=>by cases e),k.2.1.put v',((k.2.2.1).kept hg (fun g e=>by cases e;omega)).up hg.size,Nat.le_trans k.2.2.2.1 hg.size,Nat.le_refl _,?_⟩;exact k.2.2.2.2.2.grown hg (by have:=k.2.2.2.1;omega) (fun g e=>by cases e;omega)
theorem l5New_any (cols n:Nat) (w:World) (hc:cols<=1000) (hn:n<=1000) :
  Calls Tryz.prog 138 #[.int .i64 cols,.int .i64 n] w fun e w'=>∃ u,e=.returned (gridV cols u)/\OwnG w' w.heap.size w'.heap.size u (newR cols n)/\Below w.heap.size w w':=by
 have hrow:=fun W=>l4Row_any cols St.zero W hc
 unfold stV at hrow;simp only [St.zero] at hrow
 have k0:NG w.heap.size ((w.alloc (Obj.cells #[Value.int IntKind.i64 0,Value.slice none 0 0] 26)).alloc (Obj.cells #[Value.int IntKind.i64 cols,Value.slice none 0 0] 26)).heap.size cols (.slice none 0 0) [] w ((w.alloc (Obj.cells #[Value.int IntKind.i64 0,Value.slice none 0 0] 26)).alloc (Obj.cells #[Value.int IntKind.i64 cols,Value.slice none 0 0] 26)):=by
  have h1:=GrW.new w 0 (.slice none 0 0) 26;have h2:=GrW.new (w.alloc (Obj.cells #[Value.int IntKind.i64 0,Value.slice none 0 0] 26)) cols (.slice none 0 0) 26;have hb1:=bal' w (Obj.cells #[Value.int IntKind.i64 0,Value.slice none 0 0] 26);have e:(w.alloc (Obj.cells #[Value.int IntKind.i64 0,Value.slice none 0 0] 26)).heap.size=w.heap.size+1:=by simp
  rw [e] at h2
  exact ⟨h1.below (bal' _ _),h2,ownG_none _ _ _,by simp,Nat.le_refl _,hb1.trans ((bal' _ _).mono (by simp))⟩
 go_enter Tryz.func138,Tryz.ntmps138;go_wp2;go_loopw [6] (fun i wr=>∃ j:Nat,i=.int .i64 j/\j<=n/\∃ u,NG w.heap.size wr.heap.size cols u (newR cols j) w wr) (fun i _=>n-(intOf i).toNat)
 case atStart=>exact ⟨0,rfl,Nat.zero_le _,_,k0⟩
 case round =>
  clear k0;obtain ⟨j,rfl,hj,u,k⟩:=hrel
  by_cases hlt:j<n
  ·have hji:(j:Int)<(n:Int):=by omega
   have hsn:Hid (newR cols (j+1)=newR cols j++[rowL cols St.zero]):=newR_snoc cols j;have hlr:(newR cols j).length<2000000:=by simp [newR];omega
   generalize hBB:wr.heap.size=B at k;generalize newR cols j=rows at *;obtain ⟨⟨_,⟨d0,d1⟩,⟨y0,y1⟩⟩,⟨_,⟨c0,c1⟩,⟨z0,z1⟩⟩,_⟩:=id k;go_wp2;refine wp_region_noPanic ?_;refine wp_region_held_drew (S:=fun _=>True) (by kernel_rfl) trivial (fun Hh=>?_);refine' wpAnyH_take (i:=0) (v:=_) rfl (by kernel_rfl) (by kernel_rfl) (by kernel_rfl) (fun _ _ _ h=>h) (Or.inl ⟨by rfl,?hy1⟩) Hh ?hr1
   case hy1=>(intro w hSw;(try dsimp only at hSw);go_simp;(try with_reducible rfl))
   simp only [Act.put,ZA,ZB,ZC,ZD,ZE];refine' wpAnyH_take (i:=2) (v:=_) rfl (by kernel_rfl) (by kernel_rfl) (by kernel_rfl) (fun _ _ _ h=>h) (Or.inl ⟨by rfl,?hy2⟩) Hh ?hr2
   case hy2=>(intro w hSw;(try dsimp only at hSw);go_simp;(try with_reducible rfl))
   simp only [Act.put,ZA,ZB,ZC,ZD,ZE,ZF];refine' wpAnyH_take (i:=3) (v:=_) rfl (by kernel_rfl) (by kernel_rfl) (by kernel_rfl) (fun _ _ _ h=>h) (Or.inl ⟨by rfl,?hy3⟩) Hh ?hr3
   case hy3=>(intro w hSw;(try dsimp only at hSw);go_simp;(try with_reducible rfl))
   refine rd2 1 4 (fun K hK=>?_) fun K hK=>?_
   ·go_simp
    refine hK.out _ _ trivial (fun Hh=>?_);clear hK K;refine rd 4 fun K hK=>?_
    go_simp;refine (hrow _).mono ?_;rintro e w2 ⟨r,rfl,hor,hb2⟩;have k2:=k.drew.below hb2;have hB2:∀ g,r.ownBlock=some g->B<=g:=fun g e=>Nat.le_trans k.2.2.2.2.1 ((hor.lt g e).1)
    have hor2:=hor.low k.2.2.2.1;clear hor hb2 k hrow;obtain ⟨⟨_,⟨d0,d1⟩,⟨y0,y1⟩⟩,⟨_,⟨c0,c1⟩,⟨z0,z1⟩⟩,_⟩:=id k2;obtain ⟨ra,rn,rc,rfl⟩:∃ a n c,r=Value.slice a n c:=by rcases hor2.shape with ⟨h,_⟩|⟨_,_,h,_⟩<;>exact ⟨_,_,_,h⟩
    go_wp2_with fail;refine hK.out _ _ trivial (fun Hh=>?_);clear hK K;refine rd 5 fun K hK=>?_
    go_simp;refine hK.out _ _ trivial (fun Hh=>?_);clear hK K;refine rd 6 fun K hK=>?_
    refine step_append_og (by rfl) _ _ (by rfl) (w.heap.size+2) B _ _ _ _ (by rfl) k2.2.2.1 hor2 hB2 k2.2.2.2.1 hlr _ rfl (by rfl) ?_;intro v' w' ho' hg';have k4:=(k2.below (bal' _ _)).more ho' hg';clear k2 ho' hg' hor2 hB2 d0 d1 y0 y1 c0 c1 z0 z1;obtain ⟨⟨_,⟨d0,d1⟩,⟨y0,y1⟩⟩,⟨_,⟨c0,c1⟩,⟨z0,z1⟩⟩,_⟩:=id k4;obtain ⟨va,vn,vc,rfl⟩:∃ a n c,v'=Value.slice a n c:=by rcases k4.2.2.1.shape with ⟨h,_⟩|⟨_,_,h,_⟩<;>exact ⟨_,_,_,h⟩
    refine hK.out _ _ trivial (fun Hh=>?_);clear hK K
    (try simp only [Act.put,ZA,ZB,ZC,ZD,ZE,ZF])
    refine' wpAnyH_take (i:=7) (v:=_) rfl (by kernel_rfl) (by kernel_rfl) (by kernel_rfl) (fun _ _ _ h=>h) (Or.inl ⟨by rfl,?hy4⟩) Hh ?hr4
    case hy4=>(intro w hSw;(try dsimp only at hSw);go_simp;(try with_reducible rfl))
    refine rd 8 fun K hK=>?_
    go_simp;refine hK.out _ _ trivial (fun Hh=>?_);clear hK K
    (try simp only [Act.put,ZA,ZB,ZC,ZD,ZE,ZF])
    refine dn ?_;have k5:=ng_put k4;simp only [putG] at k5;clear k4 d0 d1 y0 y1 c0 c1 z0 z1;go_wp2;go_roundw
    case rel=>exact ⟨j+1,by go_num,by omega,_,by rw [hsn.out];exact k5⟩
    case measure=>simp [intOf];omega
   ·go_simp
    refine (hrow _).mono ?_;rintro e w2 ⟨r,rfl,hor,hb2⟩;have k2:=k.drew.below hb2;have hB2:∀ g,r.ownBlock=some g->B<=g:=fun g e=>Nat.le_trans k.2.2.2.2.1 ((hor.lt g e).1)
    have hor2:=hor.low k.2.2.2.1;clear hor hb2 k hrow;obtain ⟨⟨_,⟨d0,d1⟩,⟨y0,y1⟩⟩,⟨_,⟨c0,c1⟩,⟨z0,z1⟩⟩,_⟩:=id k2;obtain ⟨ra,rn,rc,rfl⟩:∃ a n c,r=Value.slice a n c:=by rcases hor2.shape with ⟨h,_⟩|⟨_,_,h,_⟩<;>exact ⟨_,_,_,h⟩
    go_wp2_with fail;refine hK.out _ _ trivial (fun Hh=>?_);clear hK K;refine rd2 1 5 (fun K hK=>?_) fun K hK=>?_
    ·go_simp
     refine hK.out _ _ trivial (fun Hh=>?_);clear hK K;refine rd 5 fun K hK=>?_
     go_simp;refine hK.out _ _ trivial (fun Hh=>?_);clear hK K;refine rd 6 fun K hK=>?_
     refine step_append_og (by rfl) _ _ (by rfl) (w.heap.size+2) B _ _ _ _ (by rfl) k2.2.2.1 hor2 hB2 k2.2.2.2.1 hlr _ rfl (by rfl) ?_;intro v' w' ho' hg';have k4:=(k2.below (bal' _ _)).more ho' hg';clear k2 ho' hg' hor2 hB2 d0 d1 y0 y1 c0 c1 z0 z1;obtain ⟨⟨_,⟨d0,d1⟩,⟨y0,y1⟩⟩,⟨_,⟨c0,c1⟩,⟨z0,z1⟩⟩,_⟩:=id k4;obtain ⟨va,vn,vc,rfl⟩:∃ a n c,v'=Value.slice a n c:=by rcases k4.2.2.1.shape with ⟨h,_⟩|⟨_,_,h,_⟩<;>exact ⟨_,_,_,h⟩
     refine hK.out _ _ trivial (fun Hh=>?_);clear hK K
     (try simp only [Act.put,ZA,ZB,ZC,ZD,ZE,ZF])
     refine' wpAnyH_take (i:=7) (v:=_) rfl (by kernel_rfl) (by kernel_rfl) (by kernel_rfl) (fun _ _ _ h=>h) (Or.inl ⟨by rfl,?hy5⟩) Hh ?hr5
     case hy5=>(intro w hSw;(try dsimp only at hSw);go_simp;(try with_reducible rfl))
     refine rd 8 fun K hK=>?_
     go_simp;refine hK.out _ _ trivial (fun Hh=>?_);clear hK K
     (try simp only [Act.put,ZA,ZB,ZC,ZD,ZE,ZF])
     refine dn ?_;have k5:=ng_put k4;simp only [putG] at k5;clear k4 d0 d1 y0 y1 c0 c1 z0 z1;go_wp2;go_roundw
     case rel=>exact ⟨j+1,by go_num,by omega,_,by rw [hsn.out];exact k5⟩
     case measure=>simp [intOf];omega
    ·go_simp
     refine hK.out _ _ trivial (fun Hh=>?_);clear hK K;refine rd 1 fun K hK=>?_
     go_simp;refine hK.out _ _ trivial (fun Hh=>?_);clear hK K;refine rd 6 fun K hK=>?_
     refine step_append_og (by rfl) _ _ (by rfl) (w.heap.size+2) B _ _ _ _ (by rfl) k2.2.2.1 hor2 hB2 k2.2.2.2.1 hlr _ rfl (by rfl) ?_;intro v' w' ho' hg';have k4:=(k2.below (bal' _ _)).more ho' hg';clear k2 ho' hg' hor2 hB2 d0 d1 y0 y1 c0 c1 z0 z1;obtain ⟨⟨_,⟨d0,d1⟩,⟨y0,y1⟩⟩,⟨_,⟨c0,c1⟩,⟨z0,z1⟩⟩,_⟩:=id k4;obtain ⟨va,vn,vc,rfl⟩:∃ a n c,v'=Value.slice a n c:=by rcases k4.2.2.1.shape with ⟨h,_⟩|⟨_,_,h,_⟩<;>exact ⟨_,_,_,h⟩
     refine hK.out _ _ trivial (fun Hh=>?_);clear hK K
     (try simp only [Act.put,ZA,ZB,ZC,ZD,ZE,ZF])
     refine' wpAnyH_take (i:=7) (v:=_) rfl (by kernel_rfl) (by kernel_rfl) (by kernel_rfl) (fun _ _ _ h=>h) (Or.inl ⟨by rfl,?hy6⟩) Hh ?hr6
     case hy6=>(intro w hSw;(try dsimp only at hSw);go_simp;(try with_reducible rfl))
     refine rd 8 fun K hK=>?_
     go_simp;refine hK.out _ _ trivial (fun Hh=>?_);clear hK K
     (try simp only [Act.put,ZA,ZB,ZC,ZD,ZE,ZF])
     refine dn ?_;have k5:=ng_put k4;simp only [putG] at k5;clear k4 d0 d1 y0 y1 c0 c1 z0 z1;go_wp2;go_roundw
     case rel=>exact ⟨j+1,by go_num,by omega,_,by rw [hsn.out];exact k5⟩
     case measure=>simp [intOf];omega
  ·have hjn:j=n:=by omega
   have hji:¬ (j:Int)<(n:Int):=by omega
   subst hjn;clear hrow;obtain ⟨⟨_,⟨d0,d1⟩,⟨y0,y1⟩⟩,⟨_,⟨c0,c1⟩,⟨z0,z1⟩⟩,_⟩:=id k;obtain ⟨ua,un,uc,rfl⟩:∃ a n c,u=Value.slice a n c:=by rcases k.2.2.1.shape with ⟨h,_⟩|⟨_,_,h,_⟩<;>exact ⟨_,_,_,h⟩
   have kF:=(k.1.put2 cols (.slice ua un uc)).2.1;have hgF:=putG2_grown wr w.heap.size cols (.slice ua un uc);have hoF:=((k.2.2.1).kept hgF (fun g e=>by cases e;omega)).up hgF.size;have hbF:=k.2.2.2.2.2.grown hgF (by omega) (fun g e=>by cases e;omega);obtain ⟨f0,f1⟩:=kF;simp only [putG2] at f0 f1 hoF hbF;clear hgF;go_wp2;exact bodyPost_ret (v:=.agg #[.int .i64 cols,.slice ua un uc]) (by simp [results,Tryz.results138,go_sem,f0,f1]) rfl ⟨_,rfl,hoF.low (by omega),hbF⟩
def newOk (cols n:Int):Prop:=(1<=cols/\cols<=60)/\(1<=n/\n<=30)
instance (cols n:Int):Decidable (newOk cols n):=by unfold newOk;exact inferInstance
theorem toGrid_copy (cols:Int) (v:Value) (rows:List (List Ce)) (w:World) (hv:SlG w v rows) (hl:rows.length<=1073741824) (hx:∀ i,i<rows.length->(rowX rows i).length<=1073741824) :
  Calls Tryz.prog 91 #[gridV cols v] w fun e w'=>∃ u,e=.returned (gridV cols u)/\OwnG w' w.heap.size w'.heap.size u rows/\Below w.heap.size w w':=by
 have hto:=fun W h=>toCSS_copy v rows W h hl hx
 have hG0:=GrN.new w cols v 60;have hb0:=bal' w (Obj.cells #[.int .i64 cols,v] 60);have e0:(w.alloc (Obj.cells #[.int .i64 cols,v] 60)).heap.size=w.heap.size+1:=by simp
 have hvv:=hv;obtain ⟨a,c,vs,rfl,_⟩:=id hv;have hv1:=hvv.below hb0;unfold gridV;generalize hw1:w.alloc (Obj.cells #[.int .i64 cols,.slice a rows.length c] 60)=w1 at *;have hR:=GrW.new w1 0 (.slice none 0 0) 26;have hb1:=bal' w1 (Obj.cells #[Value.int IntKind.i64 0,Value.slice none 0 0] 26);have e1:(w1.alloc (Obj.cells #[Value.int IntKind.i64 0,Value.slice none 0 0] 26)).heap.size=w.heap.size+2:=by simp;omega
 have hO:=GrW.new (w1.alloc (Obj.cells #[Value.int IntKind.i64 0,Value.slice none 0 0] 26)) cols (.slice none 0 0) 26;have hb2:=bal' (w1.alloc (Obj.cells #[Value.int IntKind.i64 0,Value.slice none 0 0] 26)) (Obj.cells #[Value.int IntKind.i64 cols,Value.slice none 0 0] 26);rw [e1] at hO
 rw [e0] at hR
 have hR2:=hR.below hb2;have hbb:=hb1.trans (hb2.mono hb1.size);have hv2:=hv1.below hbb;have e3:((w1.alloc (Obj.cells #[Value.int IntKind.i64 0,Value.slice none 0 0] 26)).alloc (Obj.cells #[Value.int IntKind.i64 cols,Value.slice none 0 0] 26)).heap.size=w.heap.size+3:=by simp;omega
 subst hw1;obtain ⟨_,g0,g1⟩:=id hG0;go_enter Tryz.func91,Tryz.ntmps91;go_wp2_with fail;refine (hto _ hv2).mono ?_;rintro e w4 ⟨u,rfl,hou,hb4⟩;have hR4:=hR2.below hb4;have hO4:=hO.below hb4;obtain ⟨ua,un,uc,rfl⟩:∃ a n c,u=Value.slice a n c:=by rcases hou.shape with ⟨h,_⟩|⟨_,_,h,_⟩<;>exact ⟨_,_,_,h⟩
 have hs4:=hb4.size;rw [e3] at hou hs4
 have hg5:=putG_grown w4 (w.heap.size+2) (.slice ua un uc);have hO5:=hO4.put (.slice ua un uc);have hR5:=hR4.grown hg5 (fun e=>by simp at e);have ho5:=(hou.kept hg5 (fun g e=>by cases e;omega)).up hg5.size;have hbase:=hb0.trans ((hbb.trans (hb4.mono hbb.size)).mono hb0.size);have hb5:=hbase.grown hg5 (by omega) (fun g e=>by cases e;omega);have hs5:=hg5.size;have hg6:=putG2_grown (putG w4 (w.heap.size+2) (.slice ua un uc)) (w.heap.size+1) cols (.slice ua un uc);have kF:=(hR5.put2 cols (.slice ua un uc)).2.1;have ho6:=(ho5.kept hg6 (fun g e=>by cases e;omega)).up hg6.size;have hb6:=hb5.grown hg6 (by omega) (fun g e=>by cases e;omega);clear hG0 hb0 e0 hR hb1 e1 hO hb2 hR2 hbb hv1 hv2 hvv hto e3 hbase hb4 hs4 hs5 hg5 hg6 hb5 ho5 hou g0 g1;obtain ⟨_,⟨d0,d1⟩,⟨y0,y1⟩⟩:=hR4;obtain ⟨_,⟨c0,c1⟩,⟨z0,z1⟩⟩:=hO4;obtain ⟨_,⟨p0,p1⟩,⟨q0,q1⟩⟩:=hO5;obtain ⟨_,⟨r0,r1⟩,⟨s0,s1⟩⟩:=hR5;obtain ⟨f0,f1⟩:=kF;simp only [putG,putG2] at f0 f1 ho6 hb6 p0 p1 q0 q1 r0 r1 s0 s1;go_wp2;exact bodyPost_ret (v:=.agg #[.int .i64 cols,.slice ua un uc]) (by simp [results,Tryz.results91,go_sem,f0,f1]) rfl ⟨_,rfl,ho6.low (by omega),hb6⟩
def leftG (rows:List (List Ce)) (left:Nat):Nat->Option Nat
 | 0=>if left<rows.length then none else some (left-rows.length)
 | j+1=>match leftG rows left j with
  | none=>none
  | some m=>if m<(rowX rows j).length then none else some (m-(rowX rows j).length)
def szG (rows:List (List Ce)) (left:Nat):Int:=match leftG rows left rows.length with|none=>-1|some m=>m
theorem leftG_none {rows:List (List Ce)} {left j:Nat} (h:leftG rows left j=none):∀ k,j<=k->leftG rows left k=none
 | 0,hk=>by
        have:j=0:=by omega
        subst this;exact h
 | k+1,hk=>by
  by_cases e:j=k+1
  ·subst e;exact h
  ·have:=leftG_none h k (by omega)
   rw [leftG,this]
theorem leftG_le {rows:List (List Ce)} {left:Nat}:∀ {j m:Nat},leftG rows left j=some m->m<=left/\rows.length<=left/\∀ i,i<j->(rowX rows i).length<=left
 | 0,m,h=>by
  rw [leftG] at h
  split at h
  ·cases h
  ·cases h;exact ⟨by omega,by omega,fun i hi=>absurd hi (Nat.not_lt_zero i)⟩
 | j+1,m,h=>by
  rw [leftG] at h
  split at h
  ·cases h
  ·rename_i q hq
   split at h
   ·cases h
   ·cases h
    obtain ⟨h1,h2,h3⟩:=leftG_le hq;refine ⟨by omega,h2,fun i hi=>?_⟩
    by_cases e:i=j
    ·subst e;omega
    ·exact h3 i (by omega)
theorem szCSS_any (v:Value) (rows:List (List Ce)) (left:Nat) (w:World) (hv:SlG w v rows) (hl:rows.length<=maxLen) (hx:∀ i,i<rows.length->(rowX rows i).length<=maxLen) (hf:left<=4611686018427387904) :
  Calls Tryz.prog 161 #[v,.int .i64 left] w fun e w'=>e=.returned (.int .i64 (szG rows left))/\w'=w:=by
 unfold maxLen at hl;obtain ⟨a,c,vs,rfl,hcp,_,hr,hs⟩:=id hv
 by_cases h:left<rows.length
 ·have h2:(left:Int)-(rows.length:Int)<0:=by omega
  have hz:Hid (szG rows left=-1):=by show _=_;unfold szG;rw [leftG_none (j:=0) (by rw [leftG,if_pos h]) _ (Nat.zero_le _)]
  clear hs hr;go_enter Tryz.func161,Tryz.ntmps161;go_wp2;go_ret;exact ⟨by rw [hz.out];rfl,rfl⟩
 ·have h2:¬ (left:Int)-(rows.length:Int)<0:=by omega
  have h3:Hid (leftG rows left 0=some (left-rows.length)):=by show _=_;rw [leftG,if_neg h]
  have h4:Hid ((left:Int)-(rows.length:Int)=((left-rows.length:Nat):Int)):=by show _=_;omega
  go_enter Tryz.func161,Tryz.ntmps161;go_wp2;go_loopw [1,5] (fun u i wr=>∃ j m:Nat,i=.int .i64 j/\u=.int .i64 m/\j<=rows.length/\Hid (leftG rows left j=some m)/\wr=w) (fun _ i _=>rows.length-(intOf i).toNat)
  case atStart=>exact ⟨0,left-rows.length,rfl,by rw [<- h4.out],Nat.zero_le _,h3,rfl⟩
  case round =>
   clear h3 h4 h2 h;obtain ⟨j,m,rfl,rfl,hj,hm,hw⟩:=hrel;subst hw
   by_cases hlt:j<rows.length
   ·have hji:(j:Int)<(rows.length:Int):=by omega
    have hj0:(0:Int)<=(j:Int):=by omega
    rcases hr with h|⟨b,off,rfl,hbb,hrc⟩
    ·rw [h] at hlt;simp at hlt
    have hsj:=hs j hlt;have hcj:=hrc j hlt;obtain ⟨aj,cj,ev,_⟩:=id hsj;rw [ev] at hcj hsj
    have hsz:=szC_any _ _ m wr hsj (hx j hlt) (by have:=(leftG_le hm.out).1;omega);clear hs hrc ev hsj hv
    by_cases h5:m<(rowX rows j).length
    ·have hz:Hid (szG rows left=-1):=by show _=_;unfold szG;rw [leftG_none (j:=j+1) (by rw [leftG,hm.out];simp [h5]) _ hlt]
     rw [if_pos h5] at hsz
     go_wp2_with fail;refine hsz.mono ?_;rintro e w2 ⟨rfl,hw2⟩;subst hw2;go_wp2;go_ret;exact ⟨by rw [hz.out];rfl,rfl⟩
    ·have hm2:Hid (leftG rows left (j+1)=some (m-(rowX rows j).length)):=by show _=_;rw [leftG,hm.out];simp [h5]
     have h6:¬ (((m-(rowX rows j).length:Nat):Int)<0):=by omega
     rw [if_neg h5] at hsz
     generalize m-(rowX rows j).length=m2 at *;go_wp2_with fail;refine hsz.mono ?_;rintro e w2 ⟨rfl,hw2⟩;subst hw2;go_wp2;go_roundw
     case rel=>exact ⟨j+1,m2,by go_num,rfl,by omega,hm2,trivial⟩
     case measure=>simp [intOf];omega
   ·have hjn:j=rows.length:=by omega
    have hji:¬ (j:Int)<(rows.length:Int):=by omega
    subst hjn;have hz:Hid (szG rows left=(m:Int)):=by show _=_;unfold szG;rw [hm.out]
    clear hs hr hv;go_wp2;go_ret;exact ⟨by rw [hz.out];rfl,rfl⟩
theorem szGrid_any (cols:Int) (v:Value) (rows:List (List Ce)) (left:Nat) (w:World) (hv:SlG w v rows) (hl:rows.length<=maxLen) (hx:∀ i,i<rows.length->(rowX rows i).length<=maxLen) (hf:left<=4611686018427387904) :
  Calls Tryz.prog 87 #[gridV cols v,.int .i64 left] w fun e w'=>e=.returned (.int .i64 (szG rows left))/\Below w.heap.size w w':=by
 have hb0:=bal' w (Obj.cells #[.int .i64 cols,v] 60);have hG0:=GrN.new w cols v 60;have hsz:=fun W h=>szCSS_any v rows left W h hl hx hf
 have hv1:=hv.below hb0;obtain ⟨a,c,vs,rfl,_⟩:=id hv;unfold gridV;obtain ⟨_,g0,g1⟩:=id hG0;go_enter Tryz.func87,Tryz.ntmps87;go_wp2_with fail;refine (hsz _ hv1).mono ?_;rintro e w2 ⟨rfl,hw⟩;subst hw
 by_cases h:szG rows left<0
 ·have hz:Hid (szG rows left=-1):=by
   show _=_
   unfold szG at *;split at h
   ·rfl
   ·omega
  go_wp2;go_ret;exact ⟨by rw [hz.out];rfl,hb0⟩
 ·go_wp2
  go_ret;exact ⟨rfl,hb0⟩
def mkC (q:Nat):Ce:=⟨(q:Int),⟨(q:Int)+1,(q:Int)+1+1,((q:Int)+1+1+1).tmod 3==0,((q:Int)+1+1+1+1).tmod 3==0,((q:Int)+1+1+1+1+1).tmod 3==0⟩,(q:Int)+1+1+1+1+1+1⟩
def marksC (k n:Nat):List Ce:=(List.range n).map fun i=>mkC (k+7*i)
theorem marksC_len (k n:Nat):(marksC k n).length=n:=by simp [marksC]
theorem marksC_at (k n i:Nat) (h:i<n):atC (marksC k n) i=mkC (k+7*i):=by
 rw [atC_lt (by rw [marksC_len];exact h)]
 simp [marksC]
theorem heldC_marks (v:Value) (k n:Nat) (w:World) (hv:SlC w v (marksC k n)) (hk:k<=1073741824) (hl:n<=1073741824) :
  Calls Tryz.prog 227 #[v,.int .i64 k] w fun e w'=>e=.returned (.int .i64 ((k+7*n:Nat):Int))/\w'=w:=by
 obtain ⟨a,c,rfl,hc0⟩:=id hv;rw [marksC_len] at hv ⊢
 clear hc0;go_enter Tryz.func227,Tryz.ntmps227;go_wp2;go_loop [1,5] (fun q i=>∃ j:Nat,j<=n/\i=.int .i64 j/\q=.int .i64 ((k+7*j:Nat):Int)) (fun _ i=>n-(intOf i).toNat)
 case atStart=>exact ⟨0,Nat.zero_le _,rfl,by simp⟩
 case round =>
  obtain ⟨j,hj,rfl,rfl⟩:=hrel
  by_cases hlt:j<n
  ·have hji:(j:Int)<(n:Int):=by omega
   have hj0:(0:Int)<=(j:Int):=by omega
   obtain ⟨b,off,rfl,hbb,hat⟩:=hv.at j (by rw [marksC_len];exact hlt);rw [marksC_at k n j hlt] at hat
   have hq:k+7*j<=8*1073741824:=by omega
   have hq7:Hid (((k+7*(j+1):Nat):Int)=((k+7*j:Nat):Int)+1+1+1+1+1+1+1):=by show _=_;omega
   generalize k+7*j=q at *;obtain ⟨c0,c1,c2,c3,c4,c5,c6⟩:=hat;simp only [mkC] at c0 c1 c2 c3 c4 c5 c6;clear hv;go_wp2;go_round
   case rel=>exact ⟨j+1,by omega,by go_num,by rw [hq7.out]⟩
   case measure=>simp [intOf];omega
  ·have hjn:j=n:=by omega
   subst hjn;go_wp2;go_ret;exact ⟨rfl,rfl⟩
theorem markC_own (base:Nat) (v:Value) (k:Nat) (xs:List Ce) (w:World) (hown:OwnC w base v xs) (hk:k<=1073741824) (hl:xs.length<=1073741824) :
  Calls Tryz.prog 226 #[v,.int .i64 k] w fun e w'=>e=.returned (.int .i64 ((k+7*xs.length:Nat):Int))/\OwnC w' base v (marksC k xs.length)/\w.grownBy w' v.ownBlock:=by
 rcases hown.shape with ⟨rfl,rfl⟩|⟨g,cap,rfl,hbg,hlg,hcap⟩
 ·go_enter Tryz.func226,Tryz.ntmps226
  go_wp2;refine wp_loop_rounds 1 ?_;rw [rounds_succ]
  go_wp2;go_ret;exact ⟨by simp,by simpa [marksC] using hown,World.grownBy.refl _ _⟩
 ·generalize hn:xs.length=n at *
  go_enter Tryz.func226,Tryz.ntmps226;go_wp2;go_loopw [1,5] (fun q i wr=>∃ (j:Nat) (ys:List Ce),j<=n/\i=.int .i64 j/\q=.int .i64 ((k+7*j:Nat):Int)/\ys.length=n/\(∀ t,t<j->atC ys t=mkC (k+7*t))/\OwnC wr base (.slice (some ⟨g,0,none⟩) n cap) ys/\w.grownBy wr (some g)) (fun _ i _=>n-(intOf i).toNat)
  case atStart=>exact ⟨0,xs,Nat.zero_le _,rfl,by simp,hn,(fun t h=>absurd h (Nat.not_lt_zero t)),hown,World.grownBy.refl _ _⟩
  case round =>
   obtain ⟨j,ys,hj,rfl,rfl,hyl,hys,ho,hgr⟩:=hrel
   by_cases hlt:j<n
   ·have hji:(j:Int)<(n:Int):=by omega
    have hj0:(0:Int)<=(j:Int):=by omega
    have hq:k+7*j<=8*1073741824:=by omega
    have hq7:Hid (((k+7*(j+1):Nat):Int)=((k+7*j:Nat):Int)+1+1+1+1+1+1+1):=by show _=_;omega
    have hp:=ho.put hyl j hlt (mkC (k+7*j))
    have hys2:∀ t,t<j+1->atC (ys.set j (mkC (k+7*j))) t=mkC (k+7*t):=by
     intro t ht;rw [atC_set]
     by_cases e:t=j
     ·subst e;rw [if_pos ⟨rfl,by omega⟩]
     ·rw [if_neg (fun h=>e h.1)];exact hys t (by omega)
    have hyl2:(ys.set j (mkC (k+7*j))).length=n:=by simpa using hyl
    obtain ⟨kk,kg⟩:=hp;have hgr2:=grown_tr hgr kg;have hat:=ho.at hyl j hlt;have f0:=ho.frozen hyl (j*7);have f1:=ho.frozen hyl (j*7+1);have f2:=ho.frozen hyl (j*7+2);have f3:=ho.frozen hyl (j*7+3);have f4:=ho.frozen hyl (j*7+4);have f5:=ho.frozen hyl (j*7+5);have f6:=ho.frozen hyl (j*7+6);clear hown ho hgr kg hys hyl hbg hlg;generalize ys.set j (mkC (k+7*j))=ys2 at *;generalize k+7*j=q at *;obtain ⟨c0,c1,c2,c3,c4,c5,c6⟩:=hat;simp only [putCe,mkC] at kk hgr2;go_wp2;go_roundw
    case rel=>exact ⟨j+1,ys2,by omega,by go_num,by rw [hq7.out],hyl2,hys2,kk,hgr2⟩
    case measure=>simp [intOf];omega
   ·have hjn:j=n:=by omega
    have hji:¬ (j:Int)<(n:Int):=by omega
    have hye:ys=marksC k n:=ext_atC _ _ (by rw [marksC_len];exact hyl) (fun i hi=>by rw [marksC_at k n i (by omega)];exact hys i (by omega));subst hjn;clear hys hyl hown;subst hye;go_wp2;go_ret;exact ⟨rfl,ho,hgr⟩
def sumG (rows:List (List Ce)):Nat->Nat
 | 0=>0
 | j+1=>sumG rows j+(rowX rows j).length
theorem sumG_mono (rows:List (List Ce)) {i j:Nat} (h:i<=j):sumG rows i<=sumG rows j:=by
 induction h with
 | refl=>exact Nat.le_refl _
 | step _ ih=>exact Nat.le_trans ih (Nat.le_add_right _ _)
theorem sumG_row (rows:List (List Ce)) {i j:Nat} (h:i<j):(rowX rows i).length<=sumG rows j:=by
 have:=sumG_mono rows (show i+1<=j from h);have e:sumG rows (i+1)=sumG rows i+(rowX rows i).length:=rfl;omega
def markUpG (k:Nat) (rows:List (List Ce)) (j:Nat):List (List Ce):=genR rows.length fun i=>if i<j then marksC (k+7*sumG rows i) (rowX rows i).length else rowX rows i
def marksG (k:Nat) (rows:List (List Ce)):List (List Ce):=markUpG k rows rows.length
theorem markUpG_len (k:Nat) (rows:List (List Ce)) (j:Nat):(markUpG k rows j).length=rows.length:=genR_len _ _
theorem markUpG_zero (k:Nat) (rows:List (List Ce)):markUpG k rows 0=rows:=ext_rowX _ _ (markUpG_len _ _ _) fun i hi=>by
 rw [markUpG_len] at hi
 unfold markUpG;rw [genR_at _ _ _ hi,if_neg (Nat.not_lt_zero i)]
theorem markUpG_step (k:Nat) (rows:List (List Ce)) (j:Nat) (hj:j<rows.length):markUpG k rows (j+1)=(markUpG k rows j).set j (marksC (k+7*sumG rows j) (rowX rows j).length):=ext_rowX _ _ (by rw [List.length_set,markUpG_len,markUpG_len]) fun i hi=>by
 rw [markUpG_len] at hi
 rw [rowX_set' (by rw [markUpG_len];exact hj)]
 unfold markUpG;rw [genR_at _ _ _ hi,genR_at _ _ _ hi]
 by_cases e:i=j
 ·rw [if_pos (by omega),if_pos e,e]
 ·rw [if_neg e]
  by_cases c:i<j
  ·rw [if_pos c,if_pos (by omega)]
  ·rw [if_neg c,if_neg (by omega)]
theorem markUpG_at (k:Nat) (rows:List (List Ce)) (j i:Nat) (hi:i<rows.length):rowX (markUpG k rows j) i=if i<j then marksC (k+7*sumG rows i) (rowX rows i).length else rowX rows i:=by
 unfold markUpG;rw [genR_at _ _ _ hi]
theorem marksG_at (k:Nat) (rows:List (List Ce)) (i:Nat) (hi:i<rows.length):rowX (marksG k rows) i=marksC (k+7*sumG rows i) (rowX rows i).length:=by
 unfold marksG;rw [markUpG_at _ _ _ _ hi,if_pos hi]
theorem heldCSS_marks (v:Value) (k:Nat) (rows:List (List Ce)) (w:World) (hv:SlG w v (marksG k rows)) (hk:k<=1048576) (hl:sumG rows rows.length<=1048576) (hn:rows.length<=1048576) :
  Calls Tryz.prog 165 #[v,.int .i64 k] w fun e w'=>e=.returned (.int .i64 ((k+7*sumG rows rows.length:Nat):Int))/\w'=w:=by
 obtain ⟨a,c,vs,rfl,hcp,_,hr,hs⟩:=hv;have hlen:(marksG k rows).length=rows.length:=markUpG_len _ _ _;rw [hlen] at hr hs hcp ⊢
 generalize hN:rows.length=n at *;go_enter Tryz.func165,Tryz.ntmps165;go_wp2;go_loop [1,5] (fun q i=>∃ j:Nat,j<=n/\i=.int .i64 j/\q=.int .i64 ((k+7*sumG rows j:Nat):Int)) (fun _ i=>n-(intOf i).toNat)
 case atStart=>exact ⟨0,Nat.zero_le _,rfl,rfl⟩
 case round =>
  obtain ⟨j,hj,rfl,rfl⟩:=hrel
  by_cases hlt:j<n
  ·have hji:(j:Int)<(n:Int):=by omega
   have hj0:(0:Int)<=(j:Int):=by omega
   rcases hr with h|⟨b,off,rfl,hbb,hrc⟩
   ·rw [h] at hlen;simp at hlen;omega
   have hsj:=hs j hlt;have hcj:=hrc j hlt;rw [marksG_at k rows j (by omega)] at hsj
   obtain ⟨aj,cj,ev,_⟩:=id hsj;rw [ev] at hcj hsj
   have hs1:=sumG_mono rows (show j<=n by omega);have hs2:=sumG_row rows hlt;have hm:=heldC_marks _ (k+7*sumG rows j) (rowX rows j).length w hsj (by omega) (by omega);have hsum:Hid ((k+7*sumG rows j)+7*(rowX rows j).length=k+7*sumG rows (j+1)):=by show _=_;rw [sumG];omega
   rw [hsum.out] at hm
   have hnn:¬ (((k+7*sumG rows (j+1):Nat):Int)<0):=by omega
   clear hs hrc ev hsj hs1 hs2 hsum hlen;rw [marksC_len] at hm hcj
   generalize (rowX rows j).length=m at *;go_wp2_with fail;refine hm.mono ?_;rintro e w2 ⟨rfl,hw⟩;subst hw;go_wp2;go_round
   case rel=>exact ⟨j+1,by omega,by go_num,rfl⟩
   case measure=>simp [intOf];omega
  ·have hjn:j=n:=by omega
   have hji:¬ (j:Int)<(n:Int):=by omega
   subst hjn;clear hs hr;go_wp2;go_ret;exact ⟨rfl,rfl⟩
theorem heldGrid_marks (cols:Int) (v:Value) (k:Nat) (rows:List (List Ce)) (w:World) (hv:SlG w v (marksG k rows)) (hk:k<=1048576) (hl:sumG rows rows.length<=1048576) (hn:rows.length<=1048576) :
  Calls Tryz.prog 104 #[gridV cols v,.int .i64 k] w fun e w'=>e=.returned (.int .i64 ((k+7*sumG rows rows.length:Nat):Int))/\Below w.heap.size w w':=by
 have hb0:=bal' w (Obj.cells #[.int .i64 cols,v] 26);have hG0:=GrN.new w cols v 26;have hm:=heldCSS_marks v k rows _ (hv.below hb0) hk hl hn;obtain ⟨a,c,vs,rfl,_⟩:=hv;unfold gridV;obtain ⟨_,g0,g1⟩:=id hG0;have hnn:¬ (((k+7*sumG rows rows.length:Nat):Int)<0):=by omega
 generalize k+7*sumG rows rows.length=q at *;go_enter Tryz.func104,Tryz.ntmps104;go_wp2_with fail;refine hm.mono ?_;rintro e w2 ⟨rfl,hw⟩;subst hw;go_wp2;go_ret;exact ⟨rfl,hb0⟩
theorem leftG_sum {rows:List (List Ce)} {left:Nat}:∀ {j m:Nat},leftG rows left j=some m->m+rows.length+sumG rows j=left
 | 0,m,h=>by
  rw [leftG] at h
  split at h
  ·cases h
  ·cases h;rw [sumG];omega
 | j+1,m,h=>by
  rw [leftG] at h
  split at h
  ·cases h
  ·rename_i q hq
   split at h
   ·cases h
   ·cases h
    have:=leftG_sum hq;rw [sumG];omega
theorem sumG_bd (rows:List (List Ce)) (m:Nat) (h:∀ i,i<rows.length->(rowX rows i).length<=m):∀ j,j<=rows.length->sumG rows j<=j*m
 | 0,_=>Nat.zero_le _
 | j+1,hj=>by
  have:=sumG_bd rows m h j (by omega);have:=h j (by omega);rw [sumG,Nat.add_mul];omega
theorem slShp {w:World} {v:Value} {rows:List (List Ce)} (h:SlG w v rows):∃ a n c,v=Value.slice a n c:=by
 obtain ⟨a,c,vs,rfl,_⟩:=h;exact ⟨_,_,_,rfl⟩
def PbB (w:World) (B:Nat) (s:Int) (pv:Value) (m:Int) (tv:Value):Prop:=w.heap[B]?=some (.cells #[.int .i64 s,pv,.int .i64 m,tv] 31 (0,0))
theorem PbB.lt {w:World} {B:Nat} {s m:Int} {pv tv:Value} (h:PbB w B s pv m tv):B<w.heap.size:=(Array.getElem?_eq_some_iff.1 h).1
theorem PbB.cells {w:World} {B:Nat} {s m:Int} {pv tv:Value} (h:PbB w B s pv m tv) :
  w.cell? ⟨B,0,none⟩=some (.int .i64 s)/\w.cell? ⟨B,1,none⟩=some pv/\w.cell? ⟨B,2,none⟩=some (.int .i64 m)/\w.cell? ⟨B,3,none⟩=some tv:=by
 refine ⟨?_,?_,?_,?_⟩<;>(rw [cell_of_row w B _ _ _ (0,0) h];rfl)
theorem PbB.frozen {w:World} {B:Nat} {s m:Int} {pv tv:Value} (h:PbB w B s pv m tv):w.frozen? ⟨B,0,none⟩=false/\w.frozen? ⟨B,1,none⟩=false/\w.frozen? ⟨B,2,none⟩=false/\w.frozen? ⟨B,3,none⟩=false :=
 ⟨frozen_of_row w B 0 _ _ h,frozen_of_row w B 1 _ _ h,frozen_of_row w B 2 _ _ h,frozen_of_row w B 3 _ _ h⟩
theorem PbB.set {w:World} {B:Nat} {s m:Int} {pv tv:Value} (h:PbB w B s pv m tv) (j:Nat) (u:Value):(w.setCell ⟨B,j,none⟩ u).heap[B]?=some (.cells ((#[.int .i64 s,pv,.int .i64 m,tv]:Array Value).setIfInBounds j u) 31 (0,0)):=heap_setCell_same w B j _ _ u h
theorem PbB.put {w:World} {B:Nat} {s m:Int} {pv tv:Value} (h:PbB w B s pv m tv) (s' m':Int) (pv' tv':Value):PbB (putP w B s' pv' m' tv') B s' pv' m' tv':=by
 have k0:PbB (w.setCell ⟨B,0,none⟩ (.int .i64 s')) B s' pv m tv:=h.set 0 _;have k1:PbB _ B s' pv' m tv:=k0.set 1 _;have k2:PbB _ B s' pv' m' tv:=k1.set 2 _;exact k2.set 3 _
theorem PbB.kept {w w':World} {B:Nat} {s m:Int} {pv tv:Value} {row:Option Nat} (h:PbB w B s pv m tv) (hg:w.grownBy w' row) (hne:row≠some B):PbB w' B s pv m tv:=by
 unfold PbB;rw [hg.block B h.lt (Ne.symm hne)]
 exact h
theorem PbB.below {w w':World} {B:Nat} {s m:Int} {pv tv:Value} (h:PbB w B s pv m tv) (hb:Below w.heap.size w w'):PbB w' B s pv m tv:=h.kept (gbl hb none) (by simp)
theorem PbB.new (w:World) (s m:Int) (pv tv:Value):PbB (w.alloc (.cells #[.int .i64 s,pv,.int .i64 m,tv] 31)) w.heap.size s pv m tv:=heap_alloc_new w _
theorem eqI_same (va vb:Value) (xs:List Int) (w:World) (ha:SlI w va xs) (hb:SlI w vb xs) (hl:xs.length<=1073741824) :
  Calls Tryz.prog 98 #[va,vb] w fun e w'=>e=.returned (.bool true)/\∃ n,w'=w.drewN n:=by
 by_cases h0:xs=[]
 ·subst h0
  obtain ⟨a,c,rfl,_⟩:=ha;obtain ⟨a',c',rfl,_⟩:=hb;go_enter Tryz.func98,Tryz.ntmps98;go_wp2;refine wp_loop_rounds 1 ?_;rw [rounds_succ]
  go_wp2;go_ret;exact ⟨rfl,0,rfl⟩
 ·obtain ⟨_,c,rfl,e|⟨b,off,rfl,_,hca⟩⟩:=ha
  ·exact absurd e h0
  ·obtain ⟨_,c',rfl,e|⟨b',off',rfl,_,hcb⟩⟩:=hb
   ·exact absurd e h0
   ·generalize hn:xs.length=n at *
    clear h0 hn;go_enter Tryz.func98,Tryz.ntmps98;go_wp2;go_loopw [5] (fun i wr=>∃ k:Nat,k<=n/\i=.int .i64 k/\∃ m,wr=w.drewN m) (fun i _=>n-(intOf i).toNat)
    case atStart=>exact ⟨0,Nat.zero_le _,rfl,0,rfl⟩
    case round =>
     obtain ⟨k,hk,rfl,m,rfl⟩:=hrel
     by_cases hlt:k<n
     ·have h1:w.cell? ⟨b,off+k,none⟩=some (.int .i64 (xs.getD k 0)):=hca k hlt
      have h2:w.cell? ⟨b',off'+k,none⟩=some (.int .i64 (xs.getD k 0)):=hcb k hlt;have hi:(k:Int)<(n:Int):=by omega
      generalize xs.getD k 0=x at *;clear hca hcb;go_wp2;go_quiet (fail);go_wp2;go_roundw
      case rel=>exact ⟨k+1,by omega,by go_num,m+nq,by simp⟩
      case measure=>simp [intOf];omega
     ·go_wp2
      go_ret;exact ⟨rfl,m,rfl⟩

theorem grown_trans {a b c:World} {row:Option Nat} (h:a.grownBy b row) (k:b.grownBy c row):a.grownBy c row :=
 ⟨k.os.trans h.os,k.tape.trans h.tape,k.output.trans h.output,Nat.le_trans h.size k.size,fun i hi hr=>(k.block i (Nat.lt_of_lt_of_le hi h.size) hr).trans (h.block i hi hr)⟩
def marksI (k:Int) (n:Nat):List Int:=(List.range n).map fun (i:Nat)=>k+(i:Int)
theorem marksI_len (k:Int) (n:Nat):(marksI k n).length=n:=by simp [marksI]
theorem marksI_at (k:Int) (n i:Nat) (h:i<n):(marksI k n).getD i 0=k+(i:Int):=by simp [marksI,h]

theorem heldI_marks (v:Value) (k:Int) (n:Nat) (w:World) (hv:SlI w v (marksI k n)) (hk:0<=k/\k<=1073741824) (hl:n<=1073741824) :
  Calls Tryz.prog 105 #[v,.int .i64 k] w fun e w'=>e=.returned (.int .i64 (k+n))/\w'=w:=by
 obtain ⟨a,c,rfl,e|⟨b,off,rfl,_,hc⟩⟩:=hv
 ·have h0:n=0:=by have:=marksI_len k n;rw [e] at this;simpa using this.symm
  subst h0;rw [marksI_len]
  go_enter Tryz.func105,Tryz.ntmps105;go_wp2;refine wp_loop_rounds 1 ?_;rw [rounds_succ]
  go_wp2;go_ret;exact ⟨by simp,rfl⟩
 ·rw [marksI_len] at hc ⊢
  have hc2:∀ i,i<n->w.cell? ⟨b,off+i,none⟩=some (.int .i64 (k+(i:Int))):=fun i hi=>by rw [hc i hi,marksI_at k n i hi]
  clear hc;go_enter Tryz.func105,Tryz.ntmps105;go_wp2;go_loop [1,5] (fun q i=>∃ j:Nat,j<=n/\i=.int .i64 j/\q=.int .i64 (k+(j:Int))) (fun _ i=>n-(intOf i).toNat)
  case atStart=>exact ⟨0,Nat.zero_le _,rfl,by simp⟩
  case round =>
   obtain ⟨j,hj,rfl,rfl⟩:=hrel
   by_cases hlt:j<n
   ·have h1:=hc2 j hlt
    clear hc2;go_wp2;go_round
    case rel=>exact ⟨j+1,by omega,by go_num,by go_num⟩
    case measure=>simp [intOf];omega
   ·have hjn:j=n:=by omega
    subst hjn;go_wp2;go_ret;exact ⟨rfl,rfl⟩

theorem marked_all (k:Int) (n:Nat) (ys:List Value) (hl:ys.length=n) (h:∀ i,i<n->ys[i]?=some (.int .i64 (k+(i:Int)))):ys=(marksI k n).map (Value.int .i64):=by
 apply List.ext_getElem?
 intro i
 by_cases hi:i<n
 ·rw [h i hi];simp [marksI,hi]
 ·rw [List.getElem?_eq_none (by omega),List.getElem?_eq_none (by simp [marksI];omega)]

theorem markI_own (base:Nat) (v:Value) (k:Int) (n:Nat) (xs:List Value) (w:World) (hown:w.ownsRow base 2 1 v n xs) (hk:0<=k/\k<=1073741824) (hl:n<=1073741824) :
  Calls Tryz.prog 102 #[v,.int .i64 k] w fun e w'=>e=.returned (.int .i64 (k+n))/\w'.ownsRow base 2 1 v n ((marksI k n).map (Value.int .i64))/\w.grownBy w' v.ownBlock:=by
 have hlen:=hown.1;rcases hown.2 with ⟨rfl,rfl⟩|⟨g,cap,cur,rfl,hb,hg,_⟩
 ·go_enter Tryz.func102,Tryz.ntmps102
  go_wp2;refine wp_loop_rounds 1 ?_;rw [rounds_succ]
  go_wp2;go_ret;exact ⟨by simp,World.ownsRow_nil _ _ _ _,World.grownBy.refl _ _⟩
 ·clear hg
  go_enter Tryz.func102,Tryz.ntmps102;go_wp2;go_loopw [1,5] (fun q i wr=>∃ (j:Nat) (ys:List Value),j<=n/\i=.int .i64 j/\q=.int .i64 (k+(j:Int))/\wr.ownsRow base 2 1 (.slice (some ⟨g,0,none⟩) n cap) n ys/\ys.length=n/\(∀ t,t<j->ys[t]?=some (.int .i64 (k+(t:Int))))/\w.grownBy wr (some g)) (fun _ i _=>n-(intOf i).toNat)
  case atStart=>exact ⟨0,xs,Nat.zero_le _,rfl,by simp,hown,by simpa using hlen,by simp,World.grownBy.refl _ _⟩
  case round =>
   obtain ⟨j,ys,hj,rfl,rfl,ho,hyl,hys,hgr⟩:=hrel
   by_cases hlt:j<n
   ·have h1:∃ u,wr.cell? ⟨g,j,none⟩=some u:=by
     rw [ho.cellAt j (by omega)];exact ⟨_,List.getElem?_eq_getElem (by omega)⟩
    obtain ⟨u,h1⟩:=h1;have h2:=ho.frozenAt j;have hst:=ho.stored j (.int .i64 (k+(j:Int)));obtain ⟨hst1,hst2⟩:=hst;clear ho;go_wp2;go_roundw
    case rel =>
     refine ⟨j+1,ys.set j (.int .i64 (k+(j:Int))),by omega,by go_num,by go_num,hst1,by simpa using hyl,?_,grown_trans hgr hst2⟩;intro t ht
     by_cases e:t=j
     ·subst e;simp [hyl,hlt]
     ·rw [List.getElem?_set_ne (by omega)];exact hys t (by omega)
    case measure=>simp [intOf];omega
   ·have hjn:j=n:=by omega
    subst hjn;go_wp2;go_ret;exact ⟨rfl,by rw [<- marked_all k j ys hyl hys];exact ho,hgr⟩

end Go.Proofs.YtgcnmjjlmcnllaaGreatDoor
