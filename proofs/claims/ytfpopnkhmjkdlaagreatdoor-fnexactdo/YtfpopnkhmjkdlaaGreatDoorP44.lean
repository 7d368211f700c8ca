import Derived.Test.YtfpopnkhmjkdlaaGreatDoorP43
set_option maxRecDepth 20000
set_option maxHeartbeats 16000000
namespace Go.Proofs.YtfpopnkhmjkdlaaGreatDoor
open Go.ChangeShapes Go.WideShapes Go.ChangeAt Go.RowKit
theorem QX (k r m:Int) (pv y:Value) (ps xs:List Int) (w:World) (hp:SlN w pv ps) (hy:SlN w y xs) (hpl:ps.length<=1048576) (ht:xs.length<=1048576) :
  Calls Tryz.prog 61 #[.agg (acA k r pv m y)] w fun e w'=>e=.returned (.bool (Jw ⟨k,r,ps,m,xs⟩))/\Below w.heap.size w w':=by
 obtain ⟨W,hW⟩:∃ W,W=w.alloc (Obj.cells #[.int .i64 k,.int .i64 r,pv,.int .i64 m,y] 37):=⟨_,rfl⟩;have hb0:Below w.heap.size w W:=by rw [hW];exact Xd _ _
 have hA:Xj W w.heap.size 37 [.int .i64 k,.int .i64 r,pv,.int .i64 m,y]:=by rw [hW];exact heap_alloc_new w _
 have a0:W.cell? ⟨w.heap.size,0,none⟩=some (.int .i64 k):=cAl hA 0;have a1:W.cell? ⟨w.heap.size,1,none⟩=some (.int .i64 r):=cAl hA 1;have a2:W.cell? ⟨w.heap.size,2,none⟩=some pv:=cAl hA 2;have a3:W.cell? ⟨w.heap.size,3,none⟩=some (.int .i64 m):=cAl hA 3;have a4:W.cell? ⟨w.heap.size,4,none⟩=some y:=cAl hA 4;have hRu:=Yb r W;have hR1:=Zh y xs 40 W (hy.below hb0).si (by omega) (by decide);obtain ⟨rv,hrv⟩:∃ rv,Hid (rv=Jw ⟨k,r,ps,m,xs⟩):=⟨_,rfl⟩;rw [<- hrv.out]
 have hval:Hid (rv=(Xh r && (decide (ps.length<=16) && (decide (m=0\/m=63) && ((decide (xs.length<=40) && XZ xs) && XX ps))))):=hrv.out;replace hW:=(show Hid _ from hW);obtain ⟨pa,pc,rfl,hpc⟩:=(hp.below hb0).si.cons;obtain ⟨ya,yc,rfl⟩:=hy.shp;obtain ⟨rt,hrt⟩:∃ rt,(decide (xs.length<=40) && XZ xs)=rt:=⟨_,rfl⟩;rw [hrt] at hval
 generalize Xh r=ru at *;clear hrv hp hy ht hA;unfold acA
 cases ru
 case false =>
  have hV:Hid (rv=false):=hval.out;clear hval hrt hpc;go_enter Tryz.func61,Tryz.ntmps61;refine wp_seq_k (fun K hK=>?_);have hH:=(show Hid _ from hK);clear hK;go_wp2;refine hH.out _ _ ?_;rw [<- hW.out]
  clear hH hW;go_wp2_with (first|(go_at_call 140;refine hRu.mono ?_;rintro e w' ⟨rfl,rfl⟩)|(go_at_call 75;refine hR1.mono ?_;rintro e w' ⟨rfl,rfl⟩));go_ret;exact ⟨by rw [hV.out];rfl,hb0⟩
 by_cases hl:ps.length<=16
 case neg =>
  have hV:Hid (rv=false):=by show _=_;rw [hval.out,decide_eq_false hl];rfl
  have hli:(16:Int)<(ps.length:Int):=by omega
  clear hval hrt hpc;go_enter Tryz.func61,Tryz.ntmps61;refine wp_seq_k (fun K hK=>?_);have hH:=(show Hid _ from hK);clear hK;go_wp2;refine hH.out _ _ ?_;rw [<- hW.out]
  clear hH hW;go_wp2_with (first|(go_at_call 140;refine hRu.mono ?_;rintro e w' ⟨rfl,rfl⟩)|(go_at_call 75;refine hR1.mono ?_;rintro e w' ⟨rfl,rfl⟩));go_ret;exact ⟨by rw [hV.out];rfl,hb0⟩
 have hli:¬ (16:Int)<(ps.length:Int):=by omega
 by_cases m0:m=0
 ·subst m0
  rw [hrt] at hR1
  cases rt
  case false =>
   have hV:Hid (rv=false):=by show _=_;rw [hval.out,decide_eq_true hl];simp
   clear hval hrt hpc hl;go_enter Tryz.func61,Tryz.ntmps61;refine wp_seq_k (fun K hK=>?_);have hH:=(show Hid _ from hK);clear hK;go_wp2;refine hH.out _ _ ?_;rw [<- hW.out]
   clear hH hW;go_wp2_with (first|(go_at_call 140;refine hRu.mono ?_;rintro e w' ⟨rfl,rfl⟩)|(go_at_call 75;refine hR1.mono ?_;rintro e w' ⟨rfl,rfl⟩));go_ret;exact ⟨by rw [hV.out];rfl,hb0⟩
  have hV0:Hid (rv=XX ps):=by show _=_;rw [hval.out,decide_eq_true hl];simp
  clear hval hrt hl;go_enter Tryz.func61,Tryz.ntmps61;refine wp_seq_k (fun K hK=>?_);have hH:=(show Hid _ from hK);clear hK;go_wp2;refine hH.out _ _ ?_;rw [<- hW.out]
  clear hH hW;go_wp2_with (first|(go_at_call 140;refine hRu.mono ?_;rintro e w' ⟨rfl,rfl⟩)|(go_at_call 75;refine hR1.mono ?_;rintro e w' ⟨rfl,rfl⟩));clear hRu hR1;go_loop [2,3] (fun _ i=>∃ j:Nat,i=.int .i64 j/\j<=ps.length/\Hid (∀ k,k<j->0<=ps.getD k 0/\ps.getD k 0<=9999)) (fun _ i=>ps.length-(intOf i).toNat)
  case atStart=>exact ⟨0,rfl,Nat.zero_le _,(fun k hk=>absurd hk (Nat.not_lt_zero k))⟩
  case round =>
   obtain ⟨j,rfl,hj,hall⟩:=hrel
   by_cases hlt:j<ps.length
   ·have hji:(j:Int)<(ps.length:Int):=by omega
    have hj0:(0:Int)<=(j:Int):=by omega
    obtain ⟨b,off,rfl,hcj⟩:=hpc j hlt;have hno:¬ (0<=ps.getD j 0/\ps.getD j 0<=9999)->Hid (XX ps=false):=fun h=>KD j hlt h
    have hstep:(0<=ps.getD j 0/\ps.getD j 0<=9999)->Hid (∀ k,k<j+1->0<=ps.getD k 0/\ps.getD k 0<=9999):=fun h=>(show ∀ k,k<j+1->0<=ps.getD k 0/\ps.getD k 0<=9999 from fun k hk=>by
     by_cases e:k=j
     ·rw [e];exact h
     ·exact hall.out k (by omega))
    have hin:=fun W=>XQ (ps.getD j 0) 0 9999 W
    clear hpc hall;generalize ps.getD j 0=x at *
    by_cases hx:0<=x/\x<=9999
    ·have hall2:=hstep hx
     rw [decide_eq_true hx] at hin
     clear hno hstep hx;go_wp2_with (go_at_call 73;refine (hin _).mono ?_;rintro e w' ⟨rfl,rfl⟩);go_round
     case rel=>exact ⟨j+1,by go_num,by omega,hall2⟩
     case measure=>simp [intOf];omega
    ·have hV:Hid (rv=false):=by show _=_;rw [hV0.out,(hno hx).out]
     rw [decide_eq_false hx] at hin
     clear hno hstep hx;go_wp2_with (go_at_call 73;refine (hin _).mono ?_;rintro e w' ⟨rfl,rfl⟩);go_ret;exact ⟨by rw [hV.out];rfl,hb0⟩
   ·have hjn:j=ps.length:=by omega
    have hji:¬ (j:Int)<(ps.length:Int):=by omega
    have hV:Hid (rv=true):=by show _=_;rw [hV0.out];exact Z6 (by rw [<- hjn];exact hall.out)
    clear hpc hall hjn;go_wp2;go_ret;exact ⟨by rw [hV.out];rfl,hb0⟩
 by_cases m63:m=63
 ·subst m63
  rw [hrt] at hR1
  cases rt
  case false =>
   have hV:Hid (rv=false):=by show _=_;rw [hval.out,decide_eq_true hl];simp
   clear hval hrt hpc hl;go_enter Tryz.func61,Tryz.ntmps61;refine wp_seq_k (fun K hK=>?_);have hH:=(show Hid _ from hK);clear hK;go_wp2;refine hH.out _ _ ?_;rw [<- hW.out]
   clear hH hW;go_wp2_with (first|(go_at_call 140;refine hRu.mono ?_;rintro e w' ⟨rfl,rfl⟩)|(go_at_call 75;refine hR1.mono ?_;rintro e w' ⟨rfl,rfl⟩));go_ret;exact ⟨by rw [hV.out];rfl,hb0⟩
  have hV0:Hid (rv=XX ps):=by show _=_;rw [hval.out,decide_eq_true hl];simp
  clear hval hrt hl;go_enter Tryz.func61,Tryz.ntmps61;refine wp_seq_k (fun K hK=>?_);have hH:=(show Hid _ from hK);clear hK;go_wp2;refine hH.out _ _ ?_;rw [<- hW.out]
  clear hH hW;go_wp2_with (first|(go_at_call 140;refine hRu.mono ?_;rintro e w' ⟨rfl,rfl⟩)|(go_at_call 75;refine hR1.mono ?_;rintro e w' ⟨rfl,rfl⟩));clear hRu hR1;go_loop [2,3] (fun _ i=>∃ j:Nat,i=.int .i64 j/\j<=ps.length/\Hid (∀ k,k<j->0<=ps.getD k 0/\ps.getD k 0<=9999)) (fun _ i=>ps.length-(intOf i).toNat)
  case atStart=>exact ⟨0,rfl,Nat.zero_le _,(fun k hk=>absurd hk (Nat.not_lt_zero k))⟩
  case round =>
   obtain ⟨j,rfl,hj,hall⟩:=hrel
   by_cases hlt:j<ps.length
   ·have hji:(j:Int)<(ps.length:Int):=by omega
    have hj0:(0:Int)<=(j:Int):=by omega
    obtain ⟨b,off,rfl,hcj⟩:=hpc j hlt;have hno:¬ (0<=ps.getD j 0/\ps.getD j 0<=9999)->Hid (XX ps=false):=fun h=>KD j hlt h
    have hstep:(0<=ps.getD j 0/\ps.getD j 0<=9999)->Hid (∀ k,k<j+1->0<=ps.getD k 0/\ps.getD k 0<=9999):=fun h=>(show ∀ k,k<j+1->0<=ps.getD k 0/\ps.getD k 0<=9999 from fun k hk=>by
     by_cases e:k=j
     ·rw [e];exact h
     ·exact hall.out k (by omega))
    have hin:=fun W=>XQ (ps.getD j 0) 0 9999 W
    clear hpc hall;generalize ps.getD j 0=x at *
    by_cases hx:0<=x/\x<=9999
    ·have hall2:=hstep hx
     rw [decide_eq_true hx] at hin
     clear hno hstep hx;go_wp2_with (go_at_call 73;refine (hin _).mono ?_;rintro e w' ⟨rfl,rfl⟩);go_round
     case rel=>exact ⟨j+1,by go_num,by omega,hall2⟩
     case measure=>simp [intOf];omega
    ·have hV:Hid (rv=false):=by show _=_;rw [hV0.out,(hno hx).out]
     rw [decide_eq_false hx] at hin
     clear hno hstep hx;go_wp2_with (go_at_call 73;refine (hin _).mono ?_;rintro e w' ⟨rfl,rfl⟩);go_ret;exact ⟨by rw [hV.out];rfl,hb0⟩
   ·have hjn:j=ps.length:=by omega
    have hji:¬ (j:Int)<(ps.length:Int):=by omega
    have hV:Hid (rv=true):=by show _=_;rw [hV0.out];exact Z6 (by rw [<- hjn];exact hall.out)
    clear hpc hall hjn;go_wp2;go_ret;exact ⟨by rw [hV.out];rfl,hb0⟩
 have hV:Hid (rv=false):=by show _=_;rw [hval.out,decide_eq_false (show ¬ (m=0\/m=63) by omega)];simp
 have q0:(m==0)=false:=by simp [m0]
 have q63:(m==63)=false:=by simp [m63]
 have q1:(m != 0)=true:=by simp [m0]
 have q2:(m != 63)=true:=by simp [m63]
 clear hval hrt hpc;go_enter Tryz.func61,Tryz.ntmps61;refine wp_seq_k (fun K hK=>?_);have hH:=(show Hid _ from hK);clear hK;go_wp2;refine hH.out _ _ ?_;rw [<- hW.out]
 clear hH hW;go_wp2_with (first|(go_at_call 140;refine hRu.mono ?_;rintro e w' ⟨rfl,rfl⟩)|(go_at_call 75;refine hR1.mono ?_;rintro e w' ⟨rfl,rfl⟩));go_ret;exact ⟨by rw [hV.out];rfl,hb0⟩
theorem Xdt (cn N base B:Nat) (t:Te) (v:Tv) (vg vo:List Value) (w:World) (h:Scr w 35 base B [] t v vg vo) (hbase:base<=w.heap.size) (rk:RtK t cn N) (r:Int) (hw1:1<=wdV r) (hw2:wdV r<=t.gc) (hf:t.full=true) (hwr:t.wrap=true) (hend:¬ t.gc<=0+wdV r) :
  Calls Tryz.prog 141 #[.pointer (some ⟨B,0,none⟩),.int .i64 r] w fun e w'=>e=.returned (.tuple #[])/\∃ v' vg' vo',Res w w' 35 base B [] v vg vo (XJ t r) v' vg' vo':=by
 have rt:=rk.w;have hcc:=rt.c;have hgc:=rt.gc;have hcol:=rt.col;have hwb:=XG r;have hwd:=sWa r w;obtain ⟨u,hu⟩:∃ u,Hid (u=Xm { t with full:=false,col:=0 }):=⟨_,rfl⟩
 have hV:XJ t r=p3T u t.gc r:=by
  have e1:p1T t=(Xm { t with full:=false,col:=0 }):=by unfold p1T;rw [if_pos ⟨hf,hwr⟩]
  have e2:p2T (Xm { t with full:=false,col:=0 }) t.gc r=Xm { t with full:=false,col:=0 }:=by unfold p2T;rw [if_neg (by rw [Za { t with full:=false } 0];show ¬ t.gc<0+wdV r;omega)]
  rw [YC t r hw1 hw2,hu.out,e1,e2]
 have rku:RtK u cn N:=by rw [hu.out];exact ((rk.nofull.colp 0 (by omega) rfl).line)
 have hug:u.gc=t.gc:=by rw [hu.out];exact Kz _
 have huc:u.col=0:=by rw [hu.out,Za { t with full:=false } 0]
 rw [hV]
 clear hV;have c13:w.cell? ⟨B,13,none⟩=some (.bool t.full):=h.cell 13;have c0:w.cell? ⟨B,0,none⟩=some (.int .i64 t.gc):=h.cell 0;have z13:w.frozen? ⟨B,13,none⟩=false:=h.frozen 13;have h1:Res w (w.setCell ⟨B,13,none⟩ (.bool false)) 35 base B [] v vg vo { t with full:=false } v vg vo:=h.put (sCg B [.bool false] 13 w) _ (sCh B 35 [.bool false] 13 w _ h.b) rfl rfl rfl rfl rfl;have hb1:=Nat.le_trans hbase h1.g.size;obtain ⟨W1,hW1⟩:∃ W1,Hid (W1=w.setCell ⟨B,13,none⟩ (.bool false)):=⟨_,rfl⟩;rw [<- hW1.out] at h1 hb1
 have f14w:w.cell? ⟨B,14,none⟩=some (.bool t.wrap):=h.cell 14;have f14:W1.cell? ⟨B,14,none⟩=some (.bool t.wrap):=h1.s.cell 14;have f5:W1.cell? ⟨B,5,none⟩=some (.int .i64 t.col):=h1.s.cell 5;have f0:W1.cell? ⟨B,0,none⟩=some (.int .i64 t.gc):=h1.s.cell 0;have z5:W1.frozen? ⟨B,5,none⟩=false:=h1.s.frozen 5;have f5w:w.cell? ⟨B,5,none⟩=some (.int .i64 t.col):=h.cell 5;have z5w:w.frozen? ⟨B,5,none⟩=false:=h.frozen 5;rw [hf] at c13
 rw [hwr] at f14 f14w
 obtain ⟨wd,hwde⟩:∃ wd,Hid (wdV r=wd):=⟨_,rfl⟩;have hwdo:=hwde.out;rw [hwdo] at hwd hw1 hw2 hwb hend
 try rw [hwdo] at huc
 have q0:(wd==0)=false:=by simp;omega
 have q1:¬ t.gc<wd:=by omega
 obtain ⟨sx,hsx⟩:∃ sx,Hid (t.col+wd=sx):=⟨_,rfl⟩;have esx:IntKind.i64.wrap (t.col+wd)=sx:=by rw [<- hsx.out];simp [IntKind.wrap,IntKind.bits,IntKind.signed];omega
 have hov2:¬ t.gc<wd:=by omega
 have hqu:u.col+wdV r<=cn:=by rw [hwdo,huc];omega
 obtain ⟨sy,hsy⟩:∃ sy,Hid (u.col+wd=sy):=⟨_,rfl⟩;have hend2:¬ t.gc<=sy:=by rw [<- hsy.out,huc];exact hend
 have hw1r:1<=wdV r:=by rw [hwdo];exact hw1
 clear hwb;obtain ⟨W2,hW2⟩:∃ W2,Hid (W2=W1.setCell ⟨B,5,none⟩ (.int .i64 0)):=⟨_,rfl⟩;have h2:=h1.trans (h1.s.put (sCg B [.int .i64 0] 5 W1) { t with full:=false,col:=0 } (sCh B 35 [.int .i64 0] 5 W1 _ h1.s.b) rfl rfl rfl rfl rfl);have hW2o:Res w W2 35 base B [] v vg vo { t with full:=false,col:=0 } v vg vo:=by rw [hW2.out];exact h2
 clear h2;have hli:=YY cn N base B { t with full:=false,col:=0 } v vg vo W2 hW2o.s (Nat.le_trans hbase hW2o.g.size) (rk.nofull.colp 0 (by omega) rfl).w;have hbw:=hbase;have ewd:IntKind.i64.wrap wd=wd:=by simp [IntKind.wrap,IntKind.bits,IntKind.signed];omega
 replace hW2o:=(show Hid _ from hW2o);replace rku:=(show Hid _ from rku);replace hbw:=(show Hid _ from hbw);clear h1 hb1;clear h rt rk hbase hcc hcol hgc;go_enter Tryz.func141,Tryz.ntmps141;go_wp2_with fail;refine hwd.mono ?_;rintro e wk ⟨rfl,hk⟩;replace hk:=hk.symm;subst hk;clear hwd;go_wp2_with fail;rw [<- hW1.out,<- hW2.out]
 refine hli.mono ?_;rintro e w3 ⟨rfl,v3,vg3,vo3,hR3⟩;have hZ0:=hW2o.out.trans hR3;have g5:w3.cell? ⟨B,5,none⟩=some (.int .i64 0):=by rw [hR3.s.cell 5];show some (Value.int .i64 (Xm { t with full:=false,col:=0 }).col)=_;rw [Za { t with full:=false } 0]
 have g0:w3.cell? ⟨B,0,none⟩=some (.int .i64 t.gc):=by rw [hR3.s.cell 0];show some (Value.int .i64 (Xm { t with full:=false,col:=0 }).gc)=_;rw [Kz]
 replace hZ0:=(show Hid _ from hZ0);clear hli hR3;go_wp2;go_quiet (fail);go_wp2;have hZ:=hZ0.out.below (Ut w3 nq);have hbz:base<=(w3.drewN nq).heap.size:=Nat.le_trans hbw.out (Nat.le_trans hZ0.out.g.size (Ut w3 nq).size);obtain ⟨Wz,hWz⟩:∃ Wz,Hid (Wz=w3.drewN nq):=⟨_,rfl⟩;rw [<- hWz.out] at hZ hbz
 have hd:Below Wz.heap.size Wz (w3.drewN (nq+1)):=by rw [hWz.out];exact ⟨rfl,rfl,rfl,Nat.le_refl _,fun _ _=>rfl⟩
 clear g5 g0 hZ0;obtain ⟨g,cap,i,a,ra,rn,rc,R,hie,hae,hiN,hRe,cf,ci,zi,hcd,hfr,hsc⟩:=Yt cn N base B u _ _ _ Wz (by rw [hu.out];exact hZ.s) hbz rku.out.w r hw1r hqu;unfold PrC at cf hsc;replace hZ:=(show Hid _ from hZ);replace hRe:=(show Hid _ from hRe);replace hie:=(show Hid _ from hie);have esy:IntKind.i64.wrap ((a:Int)+wd)=sy:=by rw [<- hae,hsy.out];have h9:=hsy.out;have h8:=rku.out.w.col;have h7:=rku.out.w.c;simp [IntKind.wrap,IntKind.bits,IntKind.signed];omega
 have egc:IntKind.i64.wrap (t.gc-1)=t.gc-1:=by have h8:=rku.out.w.gc;have h7:=rku.out.w.c;simp [IntKind.wrap,IntKind.bits,IntKind.signed];omega
 replace hae:=(show Hid _ from hae);have i0:(0:Int)<=(i:Int):=by omega
 have i1:(i:Int)<(N:Int):=by omega
 have di:=ci _ hd;clear rku hqu;refine wp_region_noPanic ?_;refine wp_region_held_drew (S:=(fun W=>W.cell? ⟨B,1,none⟩=some (.slice (some ⟨g,0,none⟩) N cap)/\W.cell? ⟨B,4,none⟩=some (.int .i64 (i:Int))/\W.cell? ⟨B,5,none⟩=some (.int .i64 (a:Int))/\W.cell? ⟨B,6,none⟩=some (.int .i64 u.st.fore)/\W.cell? ⟨B,7,none⟩=some (.int .i64 u.st.back)/\W.cell? ⟨B,8,none⟩=some (.bool u.st.bold)/\W.cell? ⟨B,9,none⟩=some (.bool u.st.under)/\W.cell? ⟨B,10,none⟩=some (.bool u.st.turned))) (by kernel_rfl) (cf _ hd) (fun Hh=>?_);refine tK 0 ?_;refine tK 1 ?_;refine tK 2 ?_;refine tK 3 ?_;refine tK 4 ?_;refine tK 5 ?_;refine tK 6 ?_;refine tK 7 ?_;refine tK 8 ?_;refine tK 9 ?_;refine tK 10 ?_;refine tK 11 ?_;refine tK 12 ?_;refine tK 13 ?_;refine tK 14 ?_;refine tK 15 ?_;refine tK 16 ?_;refine tK 17 ?_;refine tK 18 ?_;refine tK 20 ?_;refine tK 21 ?_;refine tK 22 ?_;refine tK 23 ?_;refine tK 24 ?_;refine tK 25 ?_;refine tK 26 ?_;refine tK 27 ?_;refine tk 28 ?_;refine rdo 19 fun K hK=>?_
 go_simp;refine hK.out _ _ (Hh) (fun Hh=>?_);clear hK K;refine rdo 29 fun K hK=>?_
 go_simp;refine (hcd _ hd).mono ?_;rintro e w2 ⟨x,rfl,hx,hb⟩;have hx2:=hx.low hd.size;replace hd:=hd.trans (hb.mono hd.size);obtain ⟨ua,un,uc,hue⟩:=hx2.isSl;subst hue;have di:=ci _ hd;have zj:=zi _ hd;go_wp2_with fail;refine hK.out _ _ (cf _ hd) (fun Hh=>?_);clear hK K;refine tk 30 ?_;refine rdo 31 fun K hK=>?_
 go_simp;refine hK.out _ _ (hsc _ _ hd) (fun Hh=>?_);clear hK K
 (try simp only [Act.put,ZA,ZB,ZC,ZD,ZE,ZF])
 refine dn ?_;have hRow:=hZ.out.trans (hfr _ _ hd hx2);clear hfr hcd cf hsc ci zi di zj hd hx hx2 hb Hh hZ;generalize w2.setCell ⟨g,i,none⟩ (.slice ua un uc)=Wq at *;have y5:Wq.cell? ⟨B,5,none⟩=some (.int .i64 (a:Int)):=by rw [<- hae.out];exact hRow.s.cell 5
 have y0:Wq.cell? ⟨B,0,none⟩=some (.int .i64 t.gc):=by rw [<- hug];exact hRow.s.cell 0
 have x5:Wq.frozen? ⟨B,5,none⟩=false:=hRow.s.frozen 5;have x13:Wq.frozen? ⟨B,13,none⟩=false:=hRow.s.frozen 13;have y13:∃ bb,Wq.cell? ⟨B,13,none⟩=some (.bool bb):=⟨_,hRow.s.cell 13⟩;obtain ⟨bb,y13⟩:=y13;have hfin:=fun q=>UE base B u v _ vg vo _ _ w Wq R t.gc r hRow hRe.out (by rw [hwdo,hsy.out];omega) q
 rw [hwdo,hsy.out] at hfin
 replace hfin:=(show Hid _ from hfin);clear hRow hug hwdo huc;go_wp2;go_quiet (fail);go_wp2;refine be ?_;exact ⟨rfl,_,_,_,hfin.out _⟩
theorem Xdu (cn N base B:Nat) (t:Te) (v:Tv) (vg vo:List Value) (w:World) (h:Scr w 35 base B [] t v vg vo) (hbase:base<=w.heap.size) (rk:RtK t cn N) (r:Int) (hw1:1<=wdV r) (hw2:wdV r<=t.gc) (hf:t.full=true) (hwr:t.wrap=true) (hend:t.gc<=0+wdV r) :
  Calls Tryz.prog 141 #[.pointer (some ⟨B,0,none⟩),.int .i64 r] w fun e w'=>e=.returned (.tuple #[])/\∃ v' vg' vo',Res w w' 35 base B [] v vg vo (XJ t r) v' vg' vo':=by
 have rt:=rk.w;have hcc:=rt.c;have hgc:=rt.gc;have hcol:=rt.col;have hwb:=XG r;have hwd:=sWa r w;obtain ⟨u,hu⟩:∃ u,Hid (u=Xm { t with full:=false,col:=0 }):=⟨_,rfl⟩
 have hV:XJ t r=p3T u t.gc r:=by
  have e1:p1T t=(Xm { t with full:=false,col:=0 }):=by unfold p1T;rw [if_pos ⟨hf,hwr⟩]
  have e2:p2T (Xm { t with full:=false,col:=0 }) t.gc r=Xm { t with full:=false,col:=0 }:=by unfold p2T;rw [if_neg (by rw [Za { t with full:=false } 0];show ¬ t.gc<0+wdV r;omega)]
  rw [YC t r hw1 hw2,hu.out,e1,e2]
 have rku:RtK u cn N:=by rw [hu.out];exact ((rk.nofull.colp 0 (by omega) rfl).line)
 have hug:u.gc=t.gc:=by rw [hu.out];exact Kz _
 have huc:u.col=0:=by rw [hu.out,Za { t with full:=false } 0]
 rw [hV]
 clear hV;have c13:w.cell? ⟨B,13,none⟩=some (.bool t.full):=h.cell 13;have c0:w.cell? ⟨B,0,none⟩=some (.int .i64 t.gc):=h.cell 0;have z13:w.frozen? ⟨B,13,none⟩=false:=h.frozen 13;have h1:Res w (w.setCell ⟨B,13,none⟩ (.bool false)) 35 base B [] v vg vo { t with full:=false } v vg vo:=h.put (sCg B [.bool false] 13 w) _ (sCh B 35 [.bool false] 13 w _ h.b) rfl rfl rfl rfl rfl;have hb1:=Nat.le_trans hbase h1.g.size;obtain ⟨W1,hW1⟩:∃ W1,Hid (W1=w.setCell ⟨B,13,none⟩ (.bool false)):=⟨_,rfl⟩;rw [<- hW1.out] at h1 hb1
 have f14w:w.cell? ⟨B,14,none⟩=some (.bool t.wrap):=h.cell 14;have f14:W1.cell? ⟨B,14,none⟩=some (.bool t.wrap):=h1.s.cell 14;have f5:W1.cell? ⟨B,5,none⟩=some (.int .i64 t.col):=h1.s.cell 5;have f0:W1.cell? ⟨B,0,none⟩=some (.int .i64 t.gc):=h1.s.cell 0;have z5:W1.frozen? ⟨B,5,none⟩=false:=h1.s.frozen 5;have f5w:w.cell? ⟨B,5,none⟩=some (.int .i64 t.col):=h.cell 5;have z5w:w.frozen? ⟨B,5,none⟩=false:=h.frozen 5;rw [hf] at c13
 rw [hwr] at f14 f14w
 obtain ⟨wd,hwde⟩:∃ wd,Hid (wdV r=wd):=⟨_,rfl⟩;have hwdo:=hwde.out;rw [hwdo] at hwd hw1 hw2 hwb hend
 try rw [hwdo] at huc
 have q0:(wd==0)=false:=by simp;omega
 have q1:¬ t.gc<wd:=by omega
 obtain ⟨sx,hsx⟩:∃ sx,Hid (t.col+wd=sx):=⟨_,rfl⟩;have esx:IntKind.i64.wrap (t.col+wd)=sx:=by rw [<- hsx.out];simp [IntKind.wrap,IntKind.bits,IntKind.signed];omega
 have hov2:¬ t.gc<wd:=by omega
 have hqu:u.col+wdV r<=cn:=by rw [hwdo,huc];omega
 obtain ⟨sy,hsy⟩:∃ sy,Hid (u.col+wd=sy):=⟨_,rfl⟩;have hend2:t.gc<=sy:=by rw [<- hsy.out,huc];exact hend
 have hw1r:1<=wdV r:=by rw [hwdo];exact hw1
 clear hwb;obtain ⟨W2,hW2⟩:∃ W2,Hid (W2=W1.setCell ⟨B,5,none⟩ (.int .i64 0)):=⟨_,rfl⟩;have h2:=h1.trans (h1.s.put (sCg B [.int .i64 0] 5 W1) { t with full:=false,col:=0 } (sCh B 35 [.int .i64 0] 5 W1 _ h1.s.b) rfl rfl rfl rfl rfl);have hW2o:Res w W2 35 base B [] v vg vo { t with full:=false,col:=0 } v vg vo:=by rw [hW2.out];exact h2
 clear h2;have hli:=YY cn N base B { t with full:=false,col:=0 } v vg vo W2 hW2o.s (Nat.le_trans hbase hW2o.g.size) (rk.nofull.colp 0 (by omega) rfl).w;have hbw:=hbase;have ewd:IntKind.i64.wrap wd=wd:=by simp [IntKind.wrap,IntKind.bits,IntKind.signed];omega
 replace hW2o:=(show Hid _ from hW2o);replace rku:=(show Hid _ from rku);replace hbw:=(show Hid _ from hbw);clear h1 hb1;clear h rt rk hbase hcc hcol hgc;go_enter Tryz.func141,Tryz.ntmps141;go_wp2_with fail;refine hwd.mono ?_;rintro e wk ⟨rfl,hk⟩;replace hk:=hk.symm;subst hk;clear hwd;go_wp2_with fail;rw [<- hW1.out,<- hW2.out]
 refine hli.mono ?_;rintro e w3 ⟨rfl,v3,vg3,vo3,hR3⟩;have hZ0:=hW2o.out.trans hR3;have g5:w3.cell? ⟨B,5,none⟩=some (.int .i64 0):=by rw [hR3.s.cell 5];show some (Value.int .i64 (Xm { t with full:=false,col:=0 }).col)=_;rw [Za { t with full:=false } 0]
 have g0:w3.cell? ⟨B,0,none⟩=some (.int .i64 t.gc):=by rw [hR3.s.cell 0];show some (Value.int .i64 (Xm { t with full:=false,col:=0 }).gc)=_;rw [Kz]
 replace hZ0:=(show Hid _ from hZ0);clear hli hR3;go_wp2;go_quiet (fail);go_wp2;have hZ:=hZ0.out.below (Ut w3 nq);have hbz:base<=(w3.drewN nq).heap.size:=Nat.le_trans hbw.out (Nat.le_trans hZ0.out.g.size (Ut w3 nq).size);obtain ⟨Wz,hWz⟩:∃ Wz,Hid (Wz=w3.drewN nq):=⟨_,rfl⟩;rw [<- hWz.out] at hZ hbz
 have hd:Below Wz.heap.size Wz (w3.drewN (nq+1)):=by rw [hWz.out];exact ⟨rfl,rfl,rfl,Nat.le_refl _,fun _ _=>rfl⟩
 clear g5 g0 hZ0;obtain ⟨g,cap,i,a,ra,rn,rc,R,hie,hae,hiN,hRe,cf,ci,zi,hcd,hfr,hsc⟩:=Yt cn N base B u _ _ _ Wz (by rw [hu.out];exact hZ.s) hbz rku.out.w r hw1r hqu;unfold PrC at cf hsc;replace hZ:=(show Hid _ from hZ);replace hRe:=(show Hid _ from hRe);replace hie:=(show Hid _ from hie);have esy:IntKind.i64.wrap ((a:Int)+wd)=sy:=by rw [<- hae,hsy.out];have h9:=hsy.out;have h8:=rku.out.w.col;have h7:=rku.out.w.c;simp [IntKind.wrap,IntKind.bits,IntKind.signed];omega
 have egc:IntKind.i64.wrap (t.gc-1)=t.gc-1:=by have h8:=rku.out.w.gc;have h7:=rku.out.w.c;simp [IntKind.wrap,IntKind.bits,IntKind.signed];omega
 replace hae:=(show Hid _ from hae);have i0:(0:Int)<=(i:Int):=by omega
 have i1:(i:Int)<(N:Int):=by omega
 have di:=ci _ hd;clear rku hqu;refine wp_region_noPanic ?_;refine wp_region_held_drew (S:=(fun W=>W.cell? ⟨B,1,none⟩=some (.slice (some ⟨g,0,none⟩) N cap)/\W.cell? ⟨B,4,none⟩=some (.int .i64 (i:Int))/\W.cell? ⟨B,5,none⟩=some (.int .i64 (a:Int))/\W.cell? ⟨B,6,none⟩=some (.int .i64 u.st.fore)/\W.cell? ⟨B,7,none⟩=some (.int .i64 u.st.back)/\W.cell? ⟨B,8,none⟩=some (.bool u.st.bold)/\W.cell? ⟨B,9,none⟩=some (.bool u.st.under)/\W.cell? ⟨B,10,none⟩=some (.bool u.st.turned))) (by kernel_rfl) (cf _ hd) (fun Hh=>?_);refine tK 0 ?_;refine tK 1 ?_;refine tK 2 ?_;refine tK 3 ?_;refine tK 4 ?_;refine tK 5 ?_;refine tK 6 ?_;refine tK 7 ?_;refine tK 8 ?_;refine tK 9 ?_;refine tK 10 ?_;refine tK 11 ?_;refine tK 12 ?_;refine tK 13 ?_;refine tK 14 ?_;refine tK 15 ?_;refine tK 16 ?_;refine tK 17 ?_;refine tK 18 ?_;refine tK 20 ?_;refine tK 21 ?_;refine tK 22 ?_;refine tK 23 ?_;refine tK 24 ?_;refine tK 25 ?_;refine tK 26 ?_;refine tK 27 ?_;refine tk 28 ?_;refine rdo 19 fun K hK=>?_
 go_simp;refine hK.out _ _ (Hh) (fun Hh=>?_);clear hK K;refine rdo 29 fun K hK=>?_
 go_simp;refine (hcd _ hd).mono ?_;rintro e w2 ⟨x,rfl,hx,hb⟩;have hx2:=hx.low hd.size;replace hd:=hd.trans (hb.mono hd.size);obtain ⟨ua,un,uc,hue⟩:=hx2.isSl;subst hue;have di:=ci _ hd;have zj:=zi _ hd;go_wp2_with fail;refine hK.out _ _ (cf _ hd) (fun Hh=>?_);clear hK K;refine tk 30 ?_;refine rdo 31 fun K hK=>?_
 go_simp;refine hK.out _ _ (hsc _ _ hd) (fun Hh=>?_);clear hK K
 (try simp only [Act.put,ZA,ZB,ZC,ZD,ZE,ZF])
 refine dn ?_;have hRow:=hZ.out.trans (hfr _ _ hd hx2);clear hfr hcd cf hsc ci zi di zj hd hx hx2 hb Hh hZ;generalize w2.setCell ⟨g,i,none⟩ (.slice ua un uc)=Wq at *;have y5:Wq.cell? ⟨B,5,none⟩=some (.int .i64 (a:Int)):=by rw [<- hae.out];exact hRow.s.cell 5
 have y0:Wq.cell? ⟨B,0,none⟩=some (.int .i64 t.gc):=by rw [<- hug];exact hRow.s.cell 0
 have x5:Wq.frozen? ⟨B,5,none⟩=false:=hRow.s.frozen 5;have x13:Wq.frozen? ⟨B,13,none⟩=false:=hRow.s.frozen 13;have y13:∃ bb,Wq.cell? ⟨B,13,none⟩=some (.bool bb):=⟨_,hRow.s.cell 13⟩;obtain ⟨bb,y13⟩:=y13;have hfin:=fun q=>Kt base B u v _ vg vo _ _ w Wq R t.gc r hRow hRe.out (by rw [hwdo,hsy.out];omega) q
 rw [hwdo,hsy.out] at hfin
 replace hfin:=(show Hid _ from hfin);clear hRow hug hwdo huc;go_wp2;go_quiet (fail);go_wp2;refine be ?_;exact ⟨rfl,_,_,_,hfin.out _⟩
theorem Xdx (cn N base B:Nat) (t:Te) (v:Tv) (vg vo:List Value) (w:World) (h:Scr w 35 base B [] t v vg vo) (hbase:base<=w.heap.size) (rk:RtK t cn N) (r:Int) (hw1:1<=wdV r) (hw2:wdV r<=t.gc) (hf:t.full=false) (hwr:t.wrap=false) (hov:t.gc<t.col+wdV r) :
  Calls Tryz.prog 141 #[.pointer (some ⟨B,0,none⟩),.int .i64 r] w fun e w'=>e=.returned (.tuple #[])/\∃ v' vg' vo',Res w w' 35 base B [] v vg vo (XJ t r) v' vg' vo':=by
 have rt:=rk.w;have hcc:=rt.c;have hgc:=rt.gc;have hcol:=rt.col;have hwb:=XG r;have hwd:=sWa r w;obtain ⟨u,hu⟩:∃ u,Hid (u=({ t with full:=false,col:=t.gc-wdV r }:Te)):=⟨_,rfl⟩
 have hV:XJ t r=p3T u t.gc r:=by
  have e1:p1T t=({ t with full:=false }:Te):=by unfold p1T;rw [if_neg (by simp [hf])]
  have e2:p2T ({ t with full:=false }:Te) t.gc r=({ t with full:=false,col:=t.gc-wdV r }:Te):=by unfold p2T;rw [if_pos hov,if_neg (by simp [hwr])]
  rw [YC t r hw1 hw2,hu.out,e1,e2]
 have rku:RtK u cn N:=by rw [hu.out];exact (rk.nofull.colp (t.gc-wdV r) (by omega) rfl)
 have hug:u.gc=t.gc:=by rw [hu.out]
 have huc:u.col=(t.gc-wdV r):=by rw [hu.out]
 rw [hV]
 clear hV;have c13:w.cell? ⟨B,13,none⟩=some (.bool t.full):=h.cell 13;have c0:w.cell? ⟨B,0,none⟩=some (.int .i64 t.gc):=h.cell 0;have z13:w.frozen? ⟨B,13,none⟩=false:=h.frozen 13;have h1:Res w (w.setCell ⟨B,13,none⟩ (.bool false)) 35 base B [] v vg vo { t with full:=false } v vg vo:=h.put (sCg B [.bool false] 13 w) _ (sCh B 35 [.bool false] 13 w _ h.b) rfl rfl rfl rfl rfl;have hb1:=Nat.le_trans hbase h1.g.size;obtain ⟨W1,hW1⟩:∃ W1,Hid (W1=w.setCell ⟨B,13,none⟩ (.bool false)):=⟨_,rfl⟩;rw [<- hW1.out] at h1 hb1
 have f14w:w.cell? ⟨B,14,none⟩=some (.bool t.wrap):=h.cell 14;have f14:W1.cell? ⟨B,14,none⟩=some (.bool t.wrap):=h1.s.cell 14;have f5:W1.cell? ⟨B,5,none⟩=some (.int .i64 t.col):=h1.s.cell 5;have f0:W1.cell? ⟨B,0,none⟩=some (.int .i64 t.gc):=h1.s.cell 0;have z5:W1.frozen? ⟨B,5,none⟩=false:=h1.s.frozen 5;have f5w:w.cell? ⟨B,5,none⟩=some (.int .i64 t.col):=h.cell 5;have z5w:w.frozen? ⟨B,5,none⟩=false:=h.frozen 5;rw [hf] at c13
 rw [hwr] at f14 f14w
 obtain ⟨wd,hwde⟩:∃ wd,Hid (wdV r=wd):=⟨_,rfl⟩;have hwdo:=hwde.out;rw [hwdo] at hwd hw1 hw2 hwb hov
 try rw [hwdo] at huc
 have q0:(wd==0)=false:=by simp;omega
 have q1:¬ t.gc<wd:=by omega
 obtain ⟨sx,hsx⟩:∃ sx,Hid (t.col+wd=sx):=⟨_,rfl⟩;have esx:IntKind.i64.wrap (t.col+wd)=sx:=by rw [<- hsx.out];simp [IntKind.wrap,IntKind.bits,IntKind.signed];omega
 have hov2:t.gc<sx:=by rw [<- hsx.out];exact hov
 have hqu:u.col+wdV r<=cn:=by rw [hwdo,huc];omega
 obtain ⟨sy,hsy⟩:∃ sy,Hid (u.col+wd=sy):=⟨_,rfl⟩;have hend2:t.gc<=sy:=by rw [<- hsy.out,huc];omega
 have hw1r:1<=wdV r:=by rw [hwdo];exact hw1
 clear hwb;obtain ⟨sc,hsc0⟩:∃ sc,Hid (t.gc-wd=sc):=⟨_,rfl⟩;have esc:IntKind.i64.wrap (t.gc-wd)=sc:=by rw [<- hsc0.out];simp [IntKind.wrap,IntKind.bits,IntKind.signed];omega
 have hu2:Hid (u=({ t with full:=false,col:=sc }:Te)):=by show _=_;rw [<- hsc0.out,<- hwdo];exact hu.out
 clear hu;have hu:=hu2;have hbw:=hbase;replace hbw:=(show Hid _ from hbw);clear hu2;replace h1:=(show Hid _ from h1);replace rku:=(show Hid _ from rku);replace hb1:=(show Hid _ from hb1);clear h rt rk hbase hcc hcol hgc;go_enter Tryz.func141,Tryz.ntmps141;go_wp2_with fail;refine hwd.mono ?_;rintro e wk ⟨rfl,hk⟩;replace hk:=hk.symm;subst hk;clear hwd;go_wp2;rw [<- hW1.out]
 go_quiet (fail);have h1d:=h1.out.below (Ut W1 nq);have hZ:Res w ((W1.drewN nq).setCell ⟨B,5,none⟩ (.int .i64 sc)) 35 base B [] v vg vo { t with full:=false,col:=sc } v vg vo:=h1d.trans (h1d.s.put (sCg B [.int .i64 sc] 5 _) { t with full:=false,col:=sc } (sCh B 35 [.int .i64 sc] 5 _ _ h1d.s.b) rfl rfl rfl rfl rfl);have hbz:base<=((W1.drewN nq).setCell ⟨B,5,none⟩ (.int .i64 sc)).heap.size:=Nat.le_trans hbw.out hZ.g.size;replace hZ:=(show Hid _ from hZ);replace hbz:=(show Hid _ from hbz);clear h1d;go_wp2;obtain ⟨Wz,hWz⟩:∃ Wz,Hid (Wz=(W1.drewN nq).setCell ⟨B,5,none⟩ (.int .i64 sc)):=⟨_,rfl⟩;replace hZ:=hZ.out;replace hbz:=hbz.out;rw [<- hWz.out] at hZ hbz
 rw [<- hWz.out]
 have hd:Below Wz.heap.size Wz Wz.drew:=⟨rfl,rfl,rfl,Nat.le_refl _,fun _ _=>rfl⟩;obtain ⟨g,cap,i,a,ra,rn,rc,R,hie,hae,hiN,hRe,cf,ci,zi,hcd,hfr,hsc⟩:=Yt cn N base B u _ _ _ Wz (by rw [hu.out];exact hZ.s) hbz rku.out.w r hw1r hqu;unfold PrC at cf hsc;replace hZ:=(show Hid _ from hZ);replace hRe:=(show Hid _ from hRe);replace hie:=(show Hid _ from hie);have esy:IntKind.i64.wrap ((a:Int)+wd)=sy:=by rw [<- hae,hsy.out];have h9:=hsy.out;have h8:=rku.out.w.col;have h7:=rku.out.w.c;simp [IntKind.wrap,IntKind.bits,IntKind.signed];omega
 have egc:IntKind.i64.wrap (t.gc-1)=t.gc-1:=by have h8:=rku.out.w.gc;have h7:=rku.out.w.c;simp [IntKind.wrap,IntKind.bits,IntKind.signed];omega
 replace hae:=(show Hid _ from hae);have i0:(0:Int)<=(i:Int):=by omega
 have i1:(i:Int)<(N:Int):=by omega
 have di:=ci _ hd;clear rku hqu;refine wp_region_noPanic ?_;refine wp_region_held_drew (S:=(fun W=>W.cell? ⟨B,1,none⟩=some (.slice (some ⟨g,0,none⟩) N cap)/\W.cell? ⟨B,4,none⟩=some (.int .i64 (i:Int))/\W.cell? ⟨B,5,none⟩=some (.int .i64 (a:Int))/\W.cell? ⟨B,6,none⟩=some (.int .i64 u.st.fore)/\W.cell? ⟨B,7,none⟩=some (.int .i64 u.st.back)/\W.cell? ⟨B,8,none⟩=some (.bool u.st.bold)/\W.cell? ⟨B,9,none⟩=some (.bool u.st.under)/\W.cell? ⟨B,10,none⟩=some (.bool u.st.turned))) (by kernel_rfl) (cf _ hd) (fun Hh=>?_);refine tK 0 ?_;refine tK 1 ?_;refine tK 2 ?_;refine tK 3 ?_;refine tK 4 ?_;refine tK 5 ?_;refine tK 6 ?_;refine tK 7 ?_;refine tK 8 ?_;refine tK 9 ?_;refine tK 10 ?_;refine tK 11 ?_;refine tK 12 ?_;refine tK 13 ?_;refine tK 14 ?_;refine tK 15 ?_;refine tK 16 ?_;refine tK 17 ?_;refine tK 18 ?_;refine tK 20 ?_;refine tK 21 ?_;refine tK 22 ?_;refine tK 23 ?_;refine tK 24 ?_;refine tK 25 ?_;refine tK 26 ?_;refine tK 27 ?_;refine tk 28 ?_;refine rdo 19 fun K hK=>?_
 go_simp;refine hK.out _ _ (Hh) (fun Hh=>?_);clear hK K;refine rdo 29 fun K hK=>?_
 go_simp;refine (hcd _ hd).mono ?_;rintro e w2 ⟨x,rfl,hx,hb⟩;have hx2:=hx.low hd.size;replace hd:=hd.trans (hb.mono hd.size);obtain ⟨ua,un,uc,hue⟩:=hx2.isSl;subst hue;have di:=ci _ hd;have zj:=zi _ hd;go_wp2_with fail;refine hK.out _ _ (cf _ hd) (fun Hh=>?_);clear hK K;refine tk 30 ?_;refine rdo 31 fun K hK=>?_
 go_simp;refine hK.out _ _ (hsc _ _ hd) (fun Hh=>?_);clear hK K
 (try simp only [Act.put,ZA,ZB,ZC,ZD,ZE,ZF])
 refine dn ?_;have hRow:=hZ.out.trans (hfr _ _ hd hx2);clear hfr hcd cf hsc ci zi di zj hd hx hx2 hb Hh hZ;generalize w2.setCell ⟨g,i,none⟩ (.slice ua un uc)=Wq at *;have y5:Wq.cell? ⟨B,5,none⟩=some (.int .i64 (a:Int)):=by rw [<- hae.out];exact hRow.s.cell 5
 have y0:Wq.cell? ⟨B,0,none⟩=some (.int .i64 t.gc):=by rw [<- hug];exact hRow.s.cell 0
 have x5:Wq.frozen? ⟨B,5,none⟩=false:=hRow.s.frozen 5;have x13:Wq.frozen? ⟨B,13,none⟩=false:=hRow.s.frozen 13;have y13:∃ bb,Wq.cell? ⟨B,13,none⟩=some (.bool bb):=⟨_,hRow.s.cell 13⟩;obtain ⟨bb,y13⟩:=y13;have hfin:=fun q=>Kt base B u v _ vg vo _ _ w Wq R t.gc r hRow hRe.out (by rw [hwdo,hsy.out];omega) q
 rw [hwdo,hsy.out] at hfin
 replace hfin:=(show Hid _ from hfin);clear hRow hug hwdo huc;go_wp2;go_quiet (fail);go_wp2;refine be ?_;exact ⟨rfl,_,_,_,hfin.out _⟩
