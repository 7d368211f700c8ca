/- Parts of the proof. -/
import Derived.Test.YtgcnmjjlmcnllaaGreatDoorP14
import Derived.Deep.RegionHeld3
import Derived.ChangeOld
import Derived.Below
import Derived.Deep.Slices
import Derived.LaidMore
import Derived.OpenVars
import Derived.ChangeVars
import Derived.Deep.Strs
import Derived.Stop.Joined
namespace Go.Proofs.YtgcnmjjlmcnllaaGreatDoor
set_option maxRecDepth 20000
set_option maxHeartbeats 16000000
open Go.ChangeShapes Go.WideShapes Go.ChangeAt Go.RowKit
theorem markCSS_p (lo hi:Nat) (v:Value) (vs:List Value) (k:Nat) (rows:List (List Ce)) (w:World) (h:OwnV w lo hi v vs rows) (hk:k<=134217728) (hl:sumG rows rows.length<=1048576) (hn:rows.length<=1048576) :
  Calls Tryz.prog 164 #[v,.int .i64 k] w fun e w'=>e=.returned (.int .i64 ((k+7*sumG rows rows.length:Nat):Int))/\OwnV w' lo hi v vs (marksG k rows)/\GrP (RwS vs) w w':=by
 rcases h.shape with ⟨rfl,rfl⟩|⟨g,cap,rfl,hbg,hlg,hcap⟩
 ·go_enter Tryz.func164,Tryz.ntmps164
  go_wp2;refine wp_loop_rounds 1 ?_;rw [rounds_succ]
  go_wp2;go_ret;exact ⟨by simp [sumG],by simpa [marksG,markUpG,genR] using h,GrP.refl _ _⟩
 ·generalize hN:rows.length=n at *
  go_enter Tryz.func164,Tryz.ntmps164;go_wp2;go_loopw [1,5] (fun q i wr=>∃ (j:Nat),j<=n/\i=.int .i64 j/\q=.int .i64 ((k+7*sumG rows j:Nat):Int)/\OwnV wr lo hi (.slice (some ⟨g,0,none⟩) n cap) vs (markUpG k rows j)/\GrP (RwS vs) w wr) (fun _ i _=>n-(intOf i).toNat)
  case atStart=>exact ⟨0,Nat.zero_le _,rfl,rfl,by rw [markUpG_zero];exact h,GrP.refl _ _⟩
  case round =>
   clear h;obtain ⟨j,hj,rfl,rfl,ho,hgr⟩:=hrel;have hlen:(markUpG k rows j).length=n:=by rw [markUpG_len];exact hN
   by_cases hlt:j<n
   ·have hji:(j:Int)<(n:Int):=by omega
    have hj0:(0:Int)<=(j:Int):=by omega
    have hcj:=ho.cell hlen j hlt;have hx:=markUpG_at k rows j j (by omega);rw [if_neg (Nat.lt_irrefl j)] at hx
    have hrow:=ho.2.2.1 j (by omega);rw [hx] at hrow
    have hs1:=sumG_mono rows (show j<=n by omega);have hs2:=sumG_row rows hlt;have hm:=markC_own lo (rowV vs j) (k+7*sumG rows j) (rowX rows j) wr hrow (by omega) (by omega);have hst:Hid (markUpG k rows (j+1)=(markUpG k rows j).set j (marksC (k+7*sumG rows j) (rowX rows j).length)):=markUpG_step k rows j (by omega);have hsum:Hid ((k+7*sumG rows j)+7*(rowX rows j).length=k+7*sumG rows (j+1)):=by show _=_;rw [sumG];omega
    have hB:∀ g',(rowV vs j).ownBlock=some g'->RwS vs g':=fun g' e=>⟨j,by rw [ho.1];omega,e⟩
    rw [hsum.out] at hm
    have hfin:=fun W' (h1:OwnC W' lo (rowV vs j) (marksC (k+7*sumG rows j) (rowX rows j).length)) (h2:wr.grownBy W' (rowV vs j).ownBlock)=>(show OwnV W' lo hi (.slice (some ⟨g,0,none⟩) n cap) vs (markUpG k rows (j+1)) from by rw [hst.out];exact ho.rowset (by omega) _ h1 h2)
    have hsh:∃ a n c,rowV vs j=Value.slice a n c:=by rcases hrow.shape with ⟨h,_⟩|⟨_,_,h,_⟩<;>exact ⟨_,_,_,h⟩
    clear hst hsum hrow hx ho hs1 hs2;generalize rowV vs j=r at *;obtain ⟨ra,rn,rc,rfl⟩:=hsh;go_wp2_with fail;refine hm.mono ?_;rintro e w2 ⟨rfl,ho2,hg2⟩;have kk:=hfin w2 ho2 hg2;have gg:=hgr.trans (GrP.of_grown hg2 hB);clear hfin ho2 hg2 hB hm hgr;go_wp2;go_roundw
    case rel=>exact ⟨j+1,by omega,by go_num,rfl,kk,gg⟩
    case measure=>simp [intOf];omega
   ·have hjn:j=n:=by omega
    have hji:¬ (j:Int)<(n:Int):=by omega
    subst hjn;go_wp2;go_ret;exact ⟨rfl,by unfold marksG;rw [hN];exact ho,hgr⟩
theorem markGrid_p (lo hi:Nat) (cols:Int) (v:Value) (vs:List Value) (k:Nat) (rows:List (List Ce)) (w:World) (h:OwnV w lo hi v vs rows) (hk:k<=134217728) (hl:sumG rows rows.length<=1048576) (hn:rows.length<=1048576) :
  Calls Tryz.prog 101 #[gridV cols v,.int .i64 k] w fun e w'=>e=.returned (.int .i64 ((k+7*sumG rows rows.length:Nat):Int))/\OwnV w' lo hi v vs (marksG k rows)/\GrP (RwS vs) w w':=by
 have hb0:=bal' w (Obj.cells #[.int .i64 cols,v] 26);have hv1:OwnV (w.alloc (Obj.cells #[.int .i64 cols,v] 26)) lo hi v vs rows:=h.below hb0;have hm:=markCSS_p lo hi v vs k rows _ hv1 hk hl hn;have hG0:=GrN.new w cols v 26;obtain ⟨a,n,c,rfl⟩:∃ a n c,v=Value.slice a n c:=by rcases h.shape with ⟨h,_⟩|⟨_,_,h,_⟩<;>exact ⟨_,_,_,h⟩
 unfold gridV;obtain ⟨_,g0,g1⟩:=id hG0;clear h hv1;generalize k+7*sumG rows rows.length=q at *;go_enter Tryz.func101,Tryz.ntmps101;go_wp2_with fail;refine hm.mono ?_;rintro e w2 ⟨rfl,ho2,hg2⟩;go_wp2;go_ret;exact ⟨rfl,ho2,(GrP.of_below hb0).trans hg2⟩
theorem markParser_big (p:Pa) (pv tv:Value) (k:Nat) (base:Nat) (R:List (Value×List Int)) (w:World) (h:LiOk w base ((pv,p.params)::(tv,p.text)::R)) (_hb:base<=w.heap.size) (hk:k<=134217728) (hpl:p.params.length<=1048576) (htl:p.text.length<=1048576) :
  Calls Tryz.prog 103 #[paV p pv tv,.int .i64 k] w fun e w'=>e=.returned (.int .i64 ((k+p.params.length+p.text.length:Nat):Int))/\LiOk w' base ((pv,marksI k p.params.length)::(tv,marksI ((k+p.params.length:Nat):Int) p.text.length)::R)/\GrV pv tv w w':=by
 obtain ⟨s,ps,m,ts⟩:=p;have hb0:=bal' w (Obj.cells #[.int .i64 s,pv,.int .i64 m,tv] 31);have hP:=PbB.new w s m pv tv;have h0:=h.below hb0;have m1:=markI_own base pv k ps.length (ps.map (Value.int .i64)) _ h0.head ⟨by omega,by omega⟩ (by simp only at hpl;omega);have m2:=fun W (hW:OwnI W base tv ts)=>markI_own base tv ((k+ps.length:Nat):Int) ts.length (ts.map (Value.int .i64)) W hW ⟨by omega,by simp only at hpl;omega⟩ (by simp only at htl;omega)
 have n1:Hid ((k:Int)+(ps.length:Int)=((k+ps.length:Nat):Int)):=by show _=_;omega
 have n2:Hid (((k+ps.length:Nat):Int)+(ts.length:Int)=((k+ps.length+ts.length:Nat):Int)):=by show _=_;omega
 rw [n1.out] at m1
 unfold paV at *;simp only at *;obtain ⟨pa,pn,pc,hpv⟩:=h.head.shape;obtain ⟨ta,tn,tc,htv⟩:=h.tail.head.shape;simp only at hpv htv;subst hpv;subst htv;have hGr:GrV (.slice pa pn pc) (.slice ta tn tc) w (w.alloc (Obj.cells #[.int .i64 s,.slice pa pn pc,.int .i64 m,.slice ta tn tc] 31)):=GrV.of_below hb0;obtain ⟨c0,c1,c2,c3⟩:=hP.cells;have hs:∀ W,(w.alloc (Obj.cells #[.int .i64 s,.slice pa pn pc,.int .i64 m,.slice ta tn tc] 31)).grownBy W (Value.slice pa pn pc).ownBlock->PbB W w.heap.size s (.slice pa pn pc) m (.slice ta tn tc):=fun W hg=>hP.kept hg (h0.head.not_block hP (by decide))
 clear h;go_enter Tryz.func103,Tryz.ntmps103;go_wp2_with fail;refine m1.mono ?_;rintro e w3 ⟨rfl,ho3,hg3⟩;have hP3:=hs w3 hg3;have hL3:LiOk w3 base ((.slice pa pn pc,marksI k ps.length)::(.slice ta tn tc,ts)::R):=h0.grow hg3 (by unfold OwnI;rw [marksI_len];exact ho3) (fun g e=>.inl e);have hG3:=hGr.grown hg3 (fun g e=>.inl e);have m3:=m2 w3 hL3.tail.head;rw [n2.out] at m3
 clear m1 m2 hs hGr hP h0 hg3 ho3 c0 c1 c2 c3;obtain ⟨c0,c1,c2,c3⟩:=hP3.cells;go_wp2_with fail;refine m3.mono ?_;rintro e w4 ⟨rfl,ho4,hg4⟩
 have hL4:LiOk w4 base ((.slice pa pn pc,marksI k ps.length)::(.slice ta tn tc,marksI ((k+ps.length:Nat):Int) ts.length)::R) :=
  ((hL3.perm (List.Perm.swap _ _ _)).grow hg4 (show OwnI w4 base _ _ from by unfold OwnI;rw [marksI_len];exact ho4) (fun g e=>.inl e)).perm (List.Perm.swap _ _ _)
 have hG4:=hG3.grown hg4 (fun g e=>.inr (.inl e));clear m3 hP3 hL3 hG3 hg4 ho4 c0 c1 c2 c3;go_wp2;go_ret;exact ⟨rfl,hL4,hG4⟩
def StT (vg vo:List Value) (v:Tv) (k:Nat):Prop:=RwS vg k\/RwS vo k\/v.ti.ownBlock=some k\/v.pp.ownBlock=some k\/v.pt.ownBlock=some k
theorem GrP.of_grv {u v:Value} {w w':World} (h:GrV u v w w'):GrP (fun k=>u.ownBlock=some k\/v.ownBlock=some k) w w' :=
 ⟨h.1,h.2.1,h.2.2.1,h.2.2.2.1,fun k hk ho=>h.2.2.2.2 k hk (fun e=>ho (.inl e)) (fun e=>ho (.inr e))⟩
theorem markTerm_s (t:Te) (v:Tv) (vg vo:List Value) (base:Nat) (w:World) (h:OwnS w base t v vg vo) (hbase:base<=w.heap.size) (hs1:sumG t.g t.g.length<=1048576) (hs2:sumG t.o t.o.length<=1048576) (hl1:t.g.length<=1048576) (hl2:t.o.length<=1048576) (hti:t.ti.length<=1048576) (hpp:t.pa.params.length<=1048576) (hpt:t.pa.text.length<=1048576) :
  Calls Tryz.prog 34 #[teV t v,.int .i64 1] w fun e w'=>e=.returned (.int .i64 ((1+mkN t:Nat):Int))/\OwnS w' base (mkT t) v vg vo/\GrP (StT vg vo v) w w':=by
 obtain ⟨xg,xo,vti,vpp,vpt⟩:=v;obtain ⟨hg,ho,hap,hL⟩:=h;simp only at hg ho hL hap;have cG:=fun B W (hW:OwnV W base B xg vg t.g)=>markGrid_p base B t.gc xg vg 1 t.g W hW (by decide) (by omega) (by omega)
 have cO:=fun B W (hW:OwnV W base B xo vo t.o)=>markGrid_p base B t.oc xo vo (1+7*sumG t.g t.g.length) t.o W hW (by omega) (by omega) (by omega)
 have cT:=fun W (hW:OwnI W base vti t.ti)=>markI_own base vti ((1+7*sumG t.g t.g.length+7*sumG t.o t.o.length:Nat):Int) t.ti.length _ W hW ⟨by omega,by omega⟩ (by omega)
 have cP:=fun W xs hW=>markParser_big t.pa vpp vpt (1+7*sumG t.g t.g.length+7*sumG t.o t.o.length+t.ti.length) base [(vti,xs)] W hW
 obtain ⟨ga,gn,gp,hq1⟩:=slShp (SlG.of_own hg.g);obtain ⟨oa,on,op,hq2⟩:=slShp (SlG.of_own ho.g);obtain ⟨ta,tn,tp,hq3⟩:=hL.head.shape;obtain ⟨pa,pn,pp,hq4⟩:=hL.tail.head.shape;obtain ⟨qa,qn,qp,hq5⟩:=hL.tail.tail.head.shape;simp only at hq1 hq2 hq3 hq4 hq5;subst hq1;subst hq2;subst hq3;subst hq4;subst hq5;have hb0:=bal' w (Obj.cells (teCs t ⟨.slice ga gn gp,.slice oa on op,.slice ta tn tp,.slice pa pn pp,.slice qa qn qp⟩) 35);have hX:=TeB.new w 35 t ⟨.slice ga gn gp,.slice oa on op,.slice ta tn tp,.slice pa pn pp,.slice qa qn qp⟩;have hne:=fun (B:Nat) (W:World) (hW:TeB W B 35 t ⟨.slice ga gn gp,.slice oa on op,.slice ta tn tp,.slice pa pn pp,.slice qa qn qp⟩)=>hW
 obtain ⟨w1,hw1⟩:∃ w1,w1=w.alloc (Obj.cells (teCs t ⟨.slice ga gn gp,.slice oa on op,.slice ta tn tp,.slice pa pn pp,.slice qa qn qp⟩) 35):=⟨_,rfl⟩;rw [<- hw1] at hb0 hX
 replace hw1:=(show Hid _ from hw1);unfold teV gridV paV at *;have e1:Hid (1+7*sumG t.g t.g.length+7*sumG t.o t.o.length+t.ti.length+t.pa.params.length+t.pa.text.length=1+mkN t):=by show _=_;unfold mkN;omega
 have e2:Hid (((1+7*sumG t.g t.g.length+7*sumG t.o t.o.length:Nat):Int)+(t.ti.length:Int)=((1+7*sumG t.g t.g.length+7*sumG t.o t.o.length+t.ti.length:Nat):Int)):=by show _=_;omega
 simp only [e2.out] at cT;replace hg:=hg.below hb0;replace ho:=ho.below hb0;replace hL:=hL.below hb0;have kb:GrP (StT vg vo ⟨.slice ga gn gp,.slice oa on op,.slice ta tn tp,.slice pa pn pp,.slice qa qn qp⟩) w w1:=GrP.of_below hb0;clear hne;go_enter Tryz.func34,Tryz.ntmps34;refine wp_seq_k (fun K hK=>?_);have hH:=(show Hid _ from hK);clear hK;go_wp2;refine hH.out _ _ ?_;rw [<- hw1.out]
 clear hH hw1;obtain ⟨c0,c1,c2,c3,c4,c5,c6,c7,c8,c9,c10,c11,c12,c13,c14,c15,c16,c17,c18,c19,c20,c21,c22,c23,c24,c25,c26,c27,c28,c29⟩:=hX.cells;go_wp2_with fail;refine (cG _ _ hg).mono ?_;rintro e w2 ⟨rfl,hg2,hgr⟩;have nX:¬ RwS vg w.heap.size:=fun c=>grS_not hg hX (by decide) (by decide) (.inr c)
 replace ho:=ho.grp hgr (fun k hk c=>hap k (.inr c) hk);replace hL:=hL.grp hgr (fun p hp k e c=>li_not_grS hg (hL.1 p hp) k e (.inr c));replace hX:TeB w2 _ _ t _:=BlkC.grp hX hgr nX;replace kb:=kb.trans (hgr.mono (fun k _ c=>.inl c));clear c0 c1 c2 c3 c4 c5 c6 c7 c8 c9 c10 c11 c12 c13 c14 c15 c16 c17 c18 c19 c20 c21 c22 c23 c24 c25 c26 c27 c28 c29;clear hgr cG hg nX;obtain ⟨c0,c1,c2,c3,c4,c5,c6,c7,c8,c9,c10,c11,c12,c13,c14,c15,c16,c17,c18,c19,c20,c21,c22,c23,c24,c25,c26,c27,c28,c29⟩:=hX.cells;go_wp2_with fail;refine (cO _ _ ho).mono ?_;rintro e w3 ⟨rfl,ho2,hgr⟩;have nX:¬ RwS vo w.heap.size:=fun c=>grS_not ho hX (by decide) (by decide) (.inr c)
 replace hg2:=hg2.grp hgr (fun k hk c=>hap k hk (.inr c));replace hL:=hL.grp hgr (fun p hp k e c=>li_not_grS ho (hL.1 p hp) k e (.inr c));replace hX:TeB w3 _ _ t _:=BlkC.grp hX hgr nX;replace kb:=kb.trans (hgr.mono (fun k _ c=>.inr (.inl c)));clear c0 c1 c2 c3 c4 c5 c6 c7 c8 c9 c10 c11 c12 c13 c14 c15 c16 c17 c18 c19 c20 c21 c22 c23 c24 c25 c26 c27 c28 c29;clear hgr cO ho nX;obtain ⟨c0,c1,c2,c3,c4,c5,c6,c7,c8,c9,c10,c11,c12,c13,c14,c15,c16,c17,c18,c19,c20,c21,c22,c23,c24,c25,c26,c27,c28,c29⟩:=hX.cells;go_wp2_with fail;refine (cT _ hL.head).mono ?_;rintro e w4 ⟨rfl,hti4,hgr⟩;have hL4:LiOk w4 base _:=hL.grow hgr (show OwnI w4 base (.slice ta tn tp) (marksI ((1+7*sumG t.g t.g.length+7*sumG t.o t.o.length:Nat):Int) t.ti.length) from by unfold OwnI;rw [marksI_len];exact hti4) (fun g e=>.inl e);have hgp:GrP (fun k=>Value.ownBlock (.slice ta tn tp)=some k) w3 w4:=GrP.of_grown hgr (fun g e=>e);replace hX:TeB w4 _ _ t _:=hX.kept hgr (hL.head.not_block hX (by decide));replace kb:=kb.trans (hgp.mono (fun k _ c=>.inr (.inr (.inl c))));replace hg2:=hg2.grp hgp (fun k hk c=>li_not_grS hg2 hL.head k c hk);replace ho2:=ho2.grp hgp (fun k hk c=>li_not_grS ho2 hL.head k c hk);clear c0 c1 c2 c3 c4 c5 c6 c7 c8 c9 c10 c11 c12 c13 c14 c15 c16 c17 c18 c19 c20 c21 c22 c23 c24 c25 c26 c27 c28 c29;clear hgr hgp cT hL hti4;obtain ⟨c0,c1,c2,c3,c4,c5,c6,c7,c8,c9,c10,c11,c12,c13,c14,c15,c16,c17,c18,c19,c20,c21,c22,c23,c24,c25,c26,c27,c28,c29⟩:=hX.cells;have hP:=cP w4 _ (hL4.perm (by exact (List.perm_append_comm (l₁:=[_]) (l₂:=[_,_])))) (by have:=kb.size;omega) (by omega) (by omega) (by omega);rw [e1.out] at hP
 go_wp2_with fail;refine hP.mono ?_;rintro e w5 ⟨rfl,hL5,hgv⟩;have hgp:=GrP.of_grv hgv;replace hg2:=hg2.grp hgp (fun k hk c=>c.elim (fun c=>li_not_grS hg2 hL4.tail.head k c hk) (fun c=>li_not_grS hg2 hL4.tail.tail.head k c hk));replace ho2:=ho2.grp hgp (fun k hk c=>c.elim (fun c=>li_not_grS ho2 hL4.tail.head k c hk) (fun c=>li_not_grS ho2 hL4.tail.tail.head k c hk));have ks:=kb.size;have ks5:=hgp.size;replace kb:=kb.trans (hgp.mono (fun k _ c=>c.elim (fun c=>.inr (.inr (.inr (.inl c)))) (fun c=>.inr (.inr (.inr (.inr c))))));have hfin:OwnS w5 base (mkT t) ⟨.slice ga gn gp,.slice oa on op,.slice ta tn tp,.slice pa pn pp,.slice qa qn qp⟩ vg vo:=⟨hg2.up (by have:=hb0.size;omega),ho2.up (by have:=hb0.size;omega),hap,hL5.perm (by exact (List.perm_append_comm (l₁:=[_,_]) (l₂:=[_])))⟩;clear c0 c1 c2 c3 c4 c5 c6 c7 c8 c9 c10 c11 c12 c13 c14 c15 c16 c17 c18 c19 c20 c21 c22 c23 c24 c25 c26 c27 c28 c29;clear hgv hgp hL4 hL5 hP hg2 ho2 hX ks ks5;go_wp2;go_ret;exact ⟨rfl,hfin,kb⟩
theorem StT.not {w:World} {base:Nat} {t:Te} {v:Tv} {vg vo:List Value} (h:OwnS w base t v vg vo) {B:Nat} {cs:Array Value} {T:TypeId} (hB:w.heap[B]?=some (.cells cs T (0,0))) (h1:T≠146) (h2:T≠2):¬ StT vg vo v B:=fun c=>by
 rcases c with c|c|c|c|c
 ·obtain ⟨cs',hc⟩:=c.blk h.1;exact blk_ne hB hc h1
 ·obtain ⟨cs',hc⟩:=c.blk h.2.1;exact blk_ne hB hc h1
 ·exact (h.2.2.2.head.not_block hB h2) c
 ·exact (h.2.2.2.tail.head.not_block hB h2) c
 ·exact (h.2.2.2.tail.tail.head.not_block hB h2) c
theorem StT.bd {w:World} {base:Nat} {t:Te} {v:Tv} {vg vo:List Value} (h:OwnS w base t v vg vo) {k:Nat} (c:StT vg vo v k):base<=k/\k<w.heap.size:=by
 rcases c with c|c|c|c|c
 ·exact c.bd h.1
 ·exact c.bd h.2.1
 ·exact h.2.2.2.head.lt k c
 ·exact h.2.2.2.tail.head.lt k c
 ·exact h.2.2.2.tail.tail.head.lt k c
theorem OwnS.grp {S:Nat->Prop} {w w':World} {base:Nat} {t:Te} {v:Tv} {vg vo:List Value} (h:OwnS w base t v vg vo) (hg:GrP S w w') (hS:∀ k,S k->k<base):OwnS w' base t v vg vo :=
 ⟨(h.1.grp hg (fun k hk c=>by have:=GrS.bd h.1 hk;have:=hS k c;omega)).up hg.size,(h.2.1.grp hg (fun k hk c=>by have:=GrS.bd h.2.1 hk;have:=hS k c;omega)).up hg.size,h.2.2.1,
  h.2.2.2.grp hg (fun p hp g e c=>by have:=(h.2.2.2.1 p hp).lt g e;have:=hS g c;omega)⟩
theorem szP_neg {n m left:Nat} (h:szP n m left<0):szP n m left=-1:=by
 unfold szP at *
 by_cases h1:left<n
 ·rw [if_pos h1]
 ·rw [if_neg h1] at h ⊢
  by_cases h2:left-n<m
  ·rw [if_pos h2]
  ·rw [if_neg h2] at h;omega
theorem szP_some {n m left:Nat} (h:¬ szP n m left<0):∃ k:Nat,szP n m left=(k:Int)/\k+n+m=left:=by
 unfold szP at *;split at h
 ·exact absurd (by decide) h
 ·rw [if_neg (by assumption)]
  split at h
  ·exact absurd (by decide) h
  ·rw [if_neg (by assumption)]
   exact ⟨left-n-m,rfl,by omega⟩
theorem szTerm_le (t:Te) (v:Tv) (w:World) (h:SlT w t v) (hm:SzT maxLen t) (hf:t.fe.size<=maxLen) :
  Calls Tryz.prog 28 #[teV t v,.int .i64 1048576] w fun e w'=>∃ z,e=.returned (.int .i64 z)/\(z<0\/(SzT 1048576 t/\sumG t.g t.g.length+sumG t.o t.o.length+t.ti.length+t.pa.params.length+t.pa.text.length<=1048576))/\Below w.heap.size w w'/\z<=1048576:=by
 obtain ⟨vg,vo,vti,vpp,vpt⟩:=v;obtain ⟨hg,ho,hti,hpp,hpt⟩:=h;simp only at hg ho hti hpp hpt;obtain ⟨m1,m2,m3,m4,m5,m6,m7⟩:=hm;have hb0:=bal' w (Obj.cells (teCs t ⟨vg,vo,vti,vpp,vpt⟩) 65);have hB:=TeB.new w 65 t ⟨vg,vo,vti,vpp,vpt⟩;have cG:=fun W hW=>szGrid_any t.gc vg t.g 1048576 W hW m1 m2 (by decide)
 have cO:=fun l W hW (hl:l<=1048576)=>szGrid_any t.oc vo t.o l W hW m3 m4 (by omega)
 have cT:=fun l W hW (hl:l<=1048576)=>szI_any vti t.ti l W hW m5 (by omega)
 have cP:=fun l W h1 h2 (hl:l<=1048576)=>szParser_any t.pa vpp vpt l W h1 h2 m6 m7 (by omega)
 have cF:=fun (l:Nat) W (hl:l<=1048576)=>szFeeder_any t.fe (l:Int) W hf (by omega)
 obtain ⟨ga,gp,hq1⟩:=slG_shp hg;obtain ⟨oa,op,hq2⟩:=slG_shp ho;obtain ⟨tia,tip,hq3⟩:=hti.shp;obtain ⟨ppa,ppp,hq4⟩:=hpp.shp;obtain ⟨pta,ptp,hq5⟩:=hpt.shp;subst hq1;subst hq2;subst hq3;subst hq4;subst hq5;unfold teV gridV paV at *;obtain ⟨w1,hw1⟩:∃ w1,w1=w.alloc (Obj.cells (teCs t ⟨.slice ga t.g.length gp,.slice oa t.o.length op,.slice tia t.ti.length tip,.slice ppa t.pa.params.length ppp,.slice pta t.pa.text.length ptp⟩) 65):=⟨_,rfl⟩;rw [<- hw1] at hB hb0
 replace hw1:=(show Hid _ from hw1);clear m1 m2 m3 m4 m5 m6 m7 hf;go_enter Tryz.func28,Tryz.ntmps28;refine wp_seq_k (fun K hK=>?_);have hH:=(show Hid _ from hK);clear hK;go_wp2;refine hH.out _ _ ?_;rw [<- hw1.out]
 clear hH hw1;obtain ⟨c0,c1,c2,c3,c4,c5,c6,c7,c8,c9,c10,c11,c12,c13,c14,c15,c16,c17,c18,c19,c20,c21,c22,c23,c24,c25,c26,c27,c28,c29⟩:=hB.cells
 cases hq1:leftG t.g 1048576 t.g.length with
 | none =>
  have e1:szG t.g 1048576=-1:=by unfold szG;rw [hq1]
  simp only [e1] at cG;clear e1 hq1;go_wp2_with fail;refine (cG _ (hg.below hb0)).mono ?_;rintro e w2 ⟨rfl,hb⟩;have hb1:=hb0.trans (hb.mono hb0.size);replace hB:=hB.below hb;clear c0 c1 c2 c3 c4 c5 c6 c7 c8 c9 c10 c11 c12 c13 c14 c15 c16 c17 c18 c19 c20 c21 c22 c23 c24 c25 c26 c27 c28 c29;clear hb hb0;obtain ⟨c0,c1,c2,c3,c4,c5,c6,c7,c8,c9,c10,c11,c12,c13,c14,c15,c16,c17,c18,c19,c20,c21,c22,c23,c24,c25,c26,c27,c28,c29⟩:=hB.cells;go_wp2;go_ret;exact ⟨_,rfl,.inl (by decide),hb1,by decide⟩
 | some r1 =>
  have e1:szG t.g 1048576=(r1:Int):=by unfold szG;rw [hq1]
  simp only [e1] at cG;have l1:=leftG_le hq1;have s1:=leftG_sum hq1;have n1:¬ ((r1:Int)<0):=by omega
  clear e1 hq1;go_wp2_with fail;refine (cG _ (hg.below hb0)).mono ?_;rintro e w2 ⟨rfl,hb⟩;have hb1:=hb0.trans (hb.mono hb0.size);replace hB:=hB.below hb;clear c0 c1 c2 c3 c4 c5 c6 c7 c8 c9 c10 c11 c12 c13 c14 c15 c16 c17 c18 c19 c20 c21 c22 c23 c24 c25 c26 c27 c28 c29;clear hb hb0;obtain ⟨c0,c1,c2,c3,c4,c5,c6,c7,c8,c9,c10,c11,c12,c13,c14,c15,c16,c17,c18,c19,c20,c21,c22,c23,c24,c25,c26,c27,c28,c29⟩:=hB.cells
  cases hq2:leftG t.o r1 t.o.length with
  | none =>
   have e2:szG t.o r1=-1:=by unfold szG;rw [hq2]
   have cO2:=fun W hW=>cO r1 W hW l1.1
   simp only [e2] at cO2;clear e2 hq2;go_wp2_with fail;refine (cO2 _ (ho.below hb1)).mono ?_;rintro e w3 ⟨rfl,hb⟩;have hb2:=hb1.trans (hb.mono hb1.size);replace hB:=hB.below hb;clear c0 c1 c2 c3 c4 c5 c6 c7 c8 c9 c10 c11 c12 c13 c14 c15 c16 c17 c18 c19 c20 c21 c22 c23 c24 c25 c26 c27 c28 c29;clear hb hb1;obtain ⟨c0,c1,c2,c3,c4,c5,c6,c7,c8,c9,c10,c11,c12,c13,c14,c15,c16,c17,c18,c19,c20,c21,c22,c23,c24,c25,c26,c27,c28,c29⟩:=hB.cells;go_wp2;go_ret;exact ⟨_,rfl,.inl (by decide),hb2,by decide⟩
  | some r2 =>
   have e2:szG t.o r1=(r2:Int):=by unfold szG;rw [hq2]
   have cO2:=fun W hW=>cO r1 W hW l1.1
   simp only [e2] at cO2;have l2:=leftG_le hq2;have s2:=leftG_sum hq2;have n2:¬ ((r2:Int)<0):=by omega
   have u2:r2<=1048576:=by omega
   clear e2 hq2 n1 cO;go_wp2_with fail;refine (cO2 _ (ho.below hb1)).mono ?_;rintro e w3 ⟨rfl,hb⟩;have hb2:=hb1.trans (hb.mono hb1.size);replace hB:=hB.below hb;clear c0 c1 c2 c3 c4 c5 c6 c7 c8 c9 c10 c11 c12 c13 c14 c15 c16 c17 c18 c19 c20 c21 c22 c23 c24 c25 c26 c27 c28 c29;clear hb hb1;obtain ⟨c0,c1,c2,c3,c4,c5,c6,c7,c8,c9,c10,c11,c12,c13,c14,c15,c16,c17,c18,c19,c20,c21,c22,c23,c24,c25,c26,c27,c28,c29⟩:=hB.cells;have cT2:=fun W hW=>cT r2 W hW u2
   by_cases q3:r2<t.ti.length
   case pos =>
    rw [if_pos q3] at cT2
    go_wp2_with fail;refine (cT2 _ (hti.below hb2).l.sl).mono ?_;rintro e w4 ⟨rfl,hw⟩;subst hw;go_wp2;go_ret;exact ⟨_,rfl,.inl (by decide),hb2,by decide⟩
   rw [if_neg q3] at cT2
   obtain ⟨r3,hr3⟩:∃ r3,Hid (r2-t.ti.length=r3):=⟨_,rfl⟩;rw [hr3.out] at cT2
   have n3:¬ ((r3:Int)<0):=by omega
   have v3:Hid (r3+t.ti.length=r2):=by show _=_;have:=hr3.out;omega
   have u3:r3<=1048576:=by have:=v3.out;omega
   clear hr3 n2 cT q3;go_wp2_with fail;refine (cT2 _ (hti.below hb2).l.sl).mono ?_;rintro e w4 ⟨rfl,hw⟩;subst hw;have cP2:=fun W h1 h2=>cP r3 W h1 h2 u3
   by_cases q4:szP t.pa.params.length t.pa.text.length r3<0
   case pos =>
    have e4:=szP_neg q4;simp only [e4] at cP2;clear e4 q4;go_wp2_with fail;refine (cP2 _ (hpp.below hb2).l.sl (hpt.below hb2).l.sl).mono ?_;rintro e w5 ⟨rfl,hb⟩;have hb3:=hb2.trans (hb.mono hb2.size);replace hB:=hB.below hb;clear c0 c1 c2 c3 c4 c5 c6 c7 c8 c9 c10 c11 c12 c13 c14 c15 c16 c17 c18 c19 c20 c21 c22 c23 c24 c25 c26 c27 c28 c29;clear hb hb2;obtain ⟨c0,c1,c2,c3,c4,c5,c6,c7,c8,c9,c10,c11,c12,c13,c14,c15,c16,c17,c18,c19,c20,c21,c22,c23,c24,c25,c26,c27,c28,c29⟩:=hB.cells;go_wp2;go_ret;exact ⟨_,rfl,.inl (by decide),hb3,by decide⟩
   obtain ⟨r4,e4,s4⟩:=szP_some q4;simp only [e4] at cP2;have n4:¬ ((r4:Int)<0):=by omega
   have u4:r4<=1048576:=by omega
   clear e4 q4 n3 cP;go_wp2_with fail;refine (cP2 _ (hpp.below hb2).l.sl (hpt.below hb2).l.sl).mono ?_;rintro e w5 ⟨rfl,hb⟩;have hb3:=hb2.trans (hb.mono hb2.size);replace hB:=hB.below hb;clear c0 c1 c2 c3 c4 c5 c6 c7 c8 c9 c10 c11 c12 c13 c14 c15 c16 c17 c18 c19 c20 c21 c22 c23 c24 c25 c26 c27 c28 c29;clear hb hb2;obtain ⟨c0,c1,c2,c3,c4,c5,c6,c7,c8,c9,c10,c11,c12,c13,c14,c15,c16,c17,c18,c19,c20,c21,c22,c23,c24,c25,c26,c27,c28,c29⟩:=hB.cells;have cF2:=fun W=>cF r4 W u4
   have hfin:Hid (SzT 1048576 t/\sumG t.g t.g.length+sumG t.o t.o.length+t.ti.length+t.pa.params.length+t.pa.text.length<=1048576):=by
    show _/\_
    have:=v3.out;refine ⟨⟨l1.2.1,l1.2.2,by omega,fun i hi=>by have:=l2.2.2 i hi;omega,by omega,by omega,by omega⟩,by omega⟩
   obtain ⟨z,hz⟩:∃ z,Hid ((if (r4:Int)-(t.fe.size:Int)<0 then -1 else (r4:Int)-(t.fe.size:Int))=z):=⟨_,rfl⟩;simp only [hz.out] at cF2;have hzle:z<=1048576:=by rw [<- hz.out];split<;>omega
   clear hz cF n4 l1 l2 s1 s2 s4;go_wp2_with fail;refine (cF2 _).mono ?_;rintro e w6 ⟨rfl,hb⟩;have hb4:=hb3.trans (hb.mono hb3.size);replace hB:=hB.below hb;clear c0 c1 c2 c3 c4 c5 c6 c7 c8 c9 c10 c11 c12 c13 c14 c15 c16 c17 c18 c19 c20 c21 c22 c23 c24 c25 c26 c27 c28 c29;clear hb hb3;obtain ⟨c0,c1,c2,c3,c4,c5,c6,c7,c8,c9,c10,c11,c12,c13,c14,c15,c16,c17,c18,c19,c20,c21,c22,c23,c24,c25,c26,c27,c28,c29⟩:=hB.cells
   by_cases q5:z<0
   case pos =>
    go_wp2;go_ret;exact ⟨_,rfl,.inl (by decide),hb4,by decide⟩
   go_wp2;go_ret;exact ⟨_,rfl,.inr hfin.out,hb4,hzle⟩
theorem eqCSS_same (va vb:Value) (rows:List (List Ce)) (w:World) (ha:SlG w va rows) (hb:SlG w vb rows) (hl:rows.length<=1073741824) (hx:∀ i,i<rows.length->(rowX rows i).length<=1073741824) :
  Calls Tryz.prog 163 #[va,vb] w fun e w'=>e=.returned (.bool true)/\Below w.heap.size w w':=by
 obtain ⟨a,c,vs,rfl,_,_,hr,hs⟩:=id ha;obtain ⟨a2,c2,vs2,rfl,_,_,hr2,hs2⟩:=id hb;clear ha hb;go_enter Tryz.func163,Tryz.ntmps163;go_wp2;go_loopw [5] (fun i wr=>∃ j:Nat,i=.int .i64 j/\j<=rows.length/\Below w.heap.size w wr) (fun i _=>rows.length-(intOf i).toNat)
 case atStart=>exact ⟨0,rfl,Nat.zero_le _,Below.refl _ _⟩
 case round =>
  obtain ⟨j,rfl,hj,kb⟩:=hrel
  by_cases hlt:j<rows.length
  ·have hji:(j:Int)<(rows.length:Int):=by omega
   have hj0:(0:Int)<=(j:Int):=by omega
   rcases hr with h|⟨b,off,rfl,hbb,hrc⟩
   ·rw [h] at hlt;simp at hlt
   rcases hr2 with h|⟨b2,off2,rfl,hbb2,hrc2⟩
   ·rw [h] at hlt;simp at hlt
   have hsj:=(hs j hlt).below kb;have hsj2:=(hs2 j hlt).below kb;have hcj:=(kb.cell (p:=⟨b,off+j,none⟩) hbb).trans (hrc j hlt);have hcj2:=(kb.cell (p:=⟨b2,off2+j,none⟩) hbb2).trans (hrc2 j hlt);obtain ⟨aj,cj,ev,_⟩:=id hsj;obtain ⟨aj2,cj2,ev2,_⟩:=id hsj2;rw [ev] at hcj hsj
   rw [ev2] at hcj2 hsj2
   have heq:=fun W (hW:Below wr.heap.size wr W)=>eqC_same _ _ _ W (hsj.below hW) (hsj2.below hW) (hx j hlt)
   clear hs hs2 hrc hrc2 ev ev2 hsj hsj2;go_wp2;go_region_with (go_at_call 225;refine (heq _ (bdr _)).mono ?_;rintro e w2 ⟨rfl,hb2⟩)
   all_goals
    have kb2:=(kb.trans ((bdr wr).mono kb.size)).trans (hb2.mono kb.size);clear kb hb2 heq;go_wp2;go_roundw
    case rel=>exact ⟨j+1,by go_num,by omega,by first|exact kb2|exact kb2.drew⟩
    case measure=>simp [intOf];omega
  ·have hjn:j=rows.length:=by omega
   have hji:¬ (j:Int)<(rows.length:Int):=by omega
   subst hjn;clear hs hs2 hr hr2;go_wp2;go_ret;exact ⟨rfl,kb⟩
theorem eqGrid_same (cols:Int) (va vb:Value) (rows:List (List Ce)) (w:World) (ha:SlG w va rows) (hb:SlG w vb rows) (hl:rows.length<=1073741824) (hx:∀ i,i<rows.length->(rowX rows i).length<=1073741824) :
  Calls Tryz.prog 96 #[gridV cols va,gridV cols vb] w fun e w'=>e=.returned (.bool true)/\Below w.heap.size w w':=by
 have hb0:=bal' w (Obj.cells #[.int .i64 cols,va] 26);have hb1:=bal' (w.alloc (Obj.cells #[.int .i64 cols,va] 26)) (Obj.cells #[.int .i64 cols,vb] 26);have hG0:=(GrN.new w cols va 26).below hb1;have hG1:=GrN.new (w.alloc (Obj.cells #[.int .i64 cols,va] 26)) cols vb 26;have e0:(w.alloc (Obj.cells #[.int .i64 cols,va] 26)).heap.size=w.heap.size+1:=by simp
 rw [e0] at hG1
 have heq:=fun W h1 h2=>eqCSS_same va vb rows W h1 h2 hl hx
 have hbb:=hb0.trans (hb1.mono hb0.size);have ha1:=ha.below hbb;have hb2:=hb.below hbb;obtain ⟨a,c,vs,rfl,_⟩:=id ha;obtain ⟨a2,c2,vs2,rfl,_⟩:=id hb;unfold gridV;obtain ⟨_,g0,g1⟩:=id hG0;obtain ⟨_,f0,f1⟩:=id hG1;go_enter Tryz.func96,Tryz.ntmps96;go_wp2_with fail;refine (heq _ ha1 hb2).mono ?_;rintro e w2 ⟨rfl,hw⟩;go_wp2;go_ret;exact ⟨rfl,hbb.trans (hw.mono hbb.size)⟩
theorem eqFeeder_same (h:ByteArray) (w:World) :
  Calls Tryz.prog 100 #[.agg #[.string h],.agg #[.string h]] w fun e w'=>e=.returned (.bool true)/\Below w.heap.size w w':=by
 go_enter Tryz.func100,Tryz.ntmps100;go_wp2;go_ret;exact ⟨rfl,((Below.refl _ _).alloc (Nat.le_refl _) _).alloc (by simp) _⟩

theorem eqTerm_same (t:Te) (v v2:Tv) (w:World) (h:SlT w t v) (h2:SlT w t v2) (hz:SzT 1048576 t) :
  Calls Tryz.prog 32 #[teV t v,teV t v2] w fun e w'=>e=.returned (.bool true)/\Below w.heap.size w w':=by
 obtain ⟨vg,vo,vti,vpp,vpt⟩:=v;obtain ⟨hg,ho,hti,hpp,hpt⟩:=h;obtain ⟨vg2,vo2,vti2,vpp2,vpt2⟩:=v2;obtain ⟨hg2,ho2,hti2,hpp2,hpt2⟩:=h2;simp only at hg ho hti hpp hpt hg2 ho2 hti2 hpp2 hpt2;obtain ⟨z1,z2,z3,z4,z5,z6,z7⟩:=hz;have cG:=fun W h1 h2=>eqGrid_same t.gc vg vg2 t.g W h1 h2 (by omega) (fun i hi=>by have:=z2 i hi;omega)
 have cO:=fun W h1 h2=>eqGrid_same t.oc vo vo2 t.o W h1 h2 (by omega) (fun i hi=>by have:=z4 i hi;omega)
 have cS:=fun W=>eqStyle_same t.st W
 have cSs:=fun W=>eqStyle_same t.ss W
 have cT:=fun W h1 h2=>eqI_same vti vti2 t.ti W h1 h2 (by omega)
 have cP:=fun W h1 h2 h3 h4=>eqParser_same t.pa vpp vpt vpp2 vpt2 W h1 h2 h3 h4 (by omega) (by omega)
 have cF:=fun W=>eqFeeder_same t.fe W
 obtain ⟨ga,gp,hq1⟩:=slG_shp hg;obtain ⟨oa,op,hq2⟩:=slG_shp ho;obtain ⟨tia,tip,hq3⟩:=hti.shp;obtain ⟨ppa,ppp,hq4⟩:=hpp.shp;obtain ⟨pta,ptp,hq5⟩:=hpt.shp;obtain ⟨ga2,gp2,hq6⟩:=slG_shp hg2;obtain ⟨oa2,op2,hq7⟩:=slG_shp ho2;obtain ⟨tia2,tip2,hq8⟩:=hti2.shp;obtain ⟨ppa2,ppp2,hq9⟩:=hpp2.shp;obtain ⟨pta2,ptp2,hq10⟩:=hpt2.shp;subst hq1;subst hq2;subst hq3;subst hq4;subst hq5;subst hq6;subst hq7;subst hq8;subst hq9;subst hq10;have hb1:=bal' w (Obj.cells (teCs t ⟨.slice ga t.g.length gp,.slice oa t.o.length op,.slice tia t.ti.length tip,.slice ppa t.pa.params.length ppp,.slice pta t.pa.text.length ptp⟩) 35);have hb2:=bal' (w.alloc (Obj.cells (teCs t ⟨.slice ga t.g.length gp,.slice oa t.o.length op,.slice tia t.ti.length tip,.slice ppa t.pa.params.length ppp,.slice pta t.pa.text.length ptp⟩) 35)) (Obj.cells (teCs t ⟨.slice ga2 t.g.length gp2,.slice oa2 t.o.length op2,.slice tia2 t.ti.length tip2,.slice ppa2 t.pa.params.length ppp2,.slice pta2 t.pa.text.length ptp2⟩) 35);have hX0:=(TeB.new w 35 t ⟨.slice ga t.g.length gp,.slice oa t.o.length op,.slice tia t.ti.length tip,.slice ppa t.pa.params.length ppp,.slice pta t.pa.text.length ptp⟩).below hb2;have hY0:=TeB.new (w.alloc (Obj.cells (teCs t ⟨.slice ga t.g.length gp,.slice oa t.o.length op,.slice tia t.ti.length tip,.slice ppa t.pa.params.length ppp,.slice pta t.pa.text.length ptp⟩) 35)) 35 t ⟨.slice ga2 t.g.length gp2,.slice oa2 t.o.length op2,.slice tia2 t.ti.length tip2,.slice ppa2 t.pa.params.length ppp2,.slice pta2 t.pa.text.length ptp2⟩;have kb:=hb1.trans (hb2.mono hb1.size);rw [show (w.alloc (Obj.cells (teCs t ⟨.slice ga t.g.length gp,.slice oa t.o.length op,.slice tia t.ti.length tip,.slice ppa t.pa.params.length ppp,.slice pta t.pa.text.length ptp⟩) 35)).heap.size=w.heap.size+1 by simp] at hY0
 obtain ⟨w2,hw2⟩:∃ w2,w2=(w.alloc (Obj.cells (teCs t ⟨.slice ga t.g.length gp,.slice oa t.o.length op,.slice tia t.ti.length tip,.slice ppa t.pa.params.length ppp,.slice pta t.pa.text.length ptp⟩) 35)).alloc (Obj.cells (teCs t ⟨.slice ga2 t.g.length gp2,.slice oa2 t.o.length op2,.slice tia2 t.ti.length tip2,.slice ppa2 t.pa.params.length ppp2,.slice pta2 t.pa.text.length ptp2⟩) 35):=⟨_,rfl⟩;rw [<- hw2] at hX0 hY0 kb
 replace hw2:=(show Hid _ from hw2);have hX:=hX0;have hY:=hY0;clear z1 z2 z3 z4 z5 z6 z7 hb1 hb2 hX0 hY0;unfold teV gridV stV paV at *;go_enter Tryz.func32,Tryz.ntmps32;refine wp_seq_k (fun K hK=>?_);have hH:=(show Hid _ from hK);clear hK;go_wp2;refine hH.out _ _ ?_;rw [<- hw2.out]
 clear hH hw2;obtain ⟨c0,c1,c2,c3,c4,c5,c6,c7,c8,c9,c10,c11,c12,c13,c14,c15,c16,c17,c18,c19,c20,c21,c22,c23,c24,c25,c26,c27,c28,c29⟩:=hX.cells;obtain ⟨d0,d1,d2,d3,d4,d5,d6,d7,d8,d9,d10,d11,d12,d13,d14,d15,d16,d17,d18,d19,d20,d21,d22,d23,d24,d25,d26,d27,d28,d29⟩:=hY.cells;go_wp2_with fail;refine (cG _ (hg.below kb) (hg2.below kb)).mono ?_;rintro e w3 ⟨rfl,hb⟩;replace kb:=kb.trans (hb.mono kb.size);replace hX:=hX.below hb;replace hY:=hY.below hb;clear c0 c1 c2 c3 c4 c5 c6 c7 c8 c9 c10 c11 c12 c13 c14 c15 c16 c17 c18 c19 c20 c21 c22 c23 c24 c25 c26 c27 c28 c29;clear d0 d1 d2 d3 d4 d5 d6 d7 d8 d9 d10 d11 d12 d13 d14 d15 d16 d17 d18 d19 d20 d21 d22 d23 d24 d25 d26 d27 d28 d29;clear hb;obtain ⟨c0,c1,c2,c3,c4,c5,c6,c7,c8,c9,c10,c11,c12,c13,c14,c15,c16,c17,c18,c19,c20,c21,c22,c23,c24,c25,c26,c27,c28,c29⟩:=hX.cells;obtain ⟨d0,d1,d2,d3,d4,d5,d6,d7,d8,d9,d10,d11,d12,d13,d14,d15,d16,d17,d18,d19,d20,d21,d22,d23,d24,d25,d26,d27,d28,d29⟩:=hY.cells;go_wp2_with fail;refine (cO _ (ho.below kb) (ho2.below kb)).mono ?_;rintro e w4 ⟨rfl,hb⟩;replace kb:=kb.trans (hb.mono kb.size);replace hX:=hX.below hb;replace hY:=hY.below hb;clear c0 c1 c2 c3 c4 c5 c6 c7 c8 c9 c10 c11 c12 c13 c14 c15 c16 c17 c18 c19 c20 c21 c22 c23 c24 c25 c26 c27 c28 c29;clear d0 d1 d2 d3 d4 d5 d6 d7 d8 d9 d10 d11 d12 d13 d14 d15 d16 d17 d18 d19 d20 d21 d22 d23 d24 d25 d26 d27 d28 d29;clear hb;obtain ⟨c0,c1,c2,c3,c4,c5,c6,c7,c8,c9,c10,c11,c12,c13,c14,c15,c16,c17,c18,c19,c20,c21,c22,c23,c24,c25,c26,c27,c28,c29⟩:=hX.cells;obtain ⟨d0,d1,d2,d3,d4,d5,d6,d7,d8,d9,d10,d11,d12,d13,d14,d15,d16,d17,d18,d19,d20,d21,d22,d23,d24,d25,d26,d27,d28,d29⟩:=hY.cells;go_wp2_with fail;refine (cS _).mono ?_;rintro e w5 ⟨rfl,hb⟩;replace kb:=kb.trans (hb.mono kb.size);replace hX:=hX.below hb;replace hY:=hY.below hb;clear c0 c1 c2 c3 c4 c5 c6 c7 c8 c9 c10 c11 c12 c13 c14 c15 c16 c17 c18 c19 c20 c21 c22 c23 c24 c25 c26 c27 c28 c29;clear d0 d1 d2 d3 d4 d5 d6 d7 d8 d9 d10 d11 d12 d13 d14 d15 d16 d17 d18 d19 d20 d21 d22 d23 d24 d25 d26 d27 d28 d29;clear hb;obtain ⟨c0,c1,c2,c3,c4,c5,c6,c7,c8,c9,c10,c11,c12,c13,c14,c15,c16,c17,c18,c19,c20,c21,c22,c23,c24,c25,c26,c27,c28,c29⟩:=hX.cells;obtain ⟨d0,d1,d2,d3,d4,d5,d6,d7,d8,d9,d10,d11,d12,d13,d14,d15,d16,d17,d18,d19,d20,d21,d22,d23,d24,d25,d26,d27,d28,d29⟩:=hY.cells;go_wp2_with fail;refine (cSs _).mono ?_;rintro e w6 ⟨rfl,hb⟩;replace kb:=kb.trans (hb.mono kb.size);replace hX:=hX.below hb;replace hY:=hY.below hb;clear c0 c1 c2 c3 c4 c5 c6 c7 c8 c9 c10 c11 c12 c13 c14 c15 c16 c17 c18 c19 c20 c21 c22 c23 c24 c25 c26 c27 c28 c29;clear d0 d1 d2 d3 d4 d5 d6 d7 d8 d9 d10 d11 d12 d13 d14 d15 d16 d17 d18 d19 d20 d21 d22 d23 d24 d25 d26 d27 d28 d29;clear hb;obtain ⟨c0,c1,c2,c3,c4,c5,c6,c7,c8,c9,c10,c11,c12,c13,c14,c15,c16,c17,c18,c19,c20,c21,c22,c23,c24,c25,c26,c27,c28,c29⟩:=hX.cells;obtain ⟨d0,d1,d2,d3,d4,d5,d6,d7,d8,d9,d10,d11,d12,d13,d14,d15,d16,d17,d18,d19,d20,d21,d22,d23,d24,d25,d26,d27,d28,d29⟩:=hY.cells;go_wp2_with fail;refine (cT _ (hti.below kb).l.sl (hti2.below kb).l.sl).mono ?_;rintro e w7 ⟨rfl,nd,hwd⟩
 have hb:Below _ _ w7:=hwd ▸ drewN_bel _ nd;clear hwd;replace kb:=kb.trans (hb.mono kb.size);replace hX:=hX.below hb;replace hY:=hY.below hb;clear c0 c1 c2 c3 c4 c5 c6 c7 c8 c9 c10 c11 c12 c13 c14 c15 c16 c17 c18 c19 c20 c21 c22 c23 c24 c25 c26 c27 c28 c29;clear d0 d1 d2 d3 d4 d5 d6 d7 d8 d9 d10 d11 d12 d13 d14 d15 d16 d17 d18 d19 d20 d21 d22 d23 d24 d25 d26 d27 d28 d29;clear hb;obtain ⟨c0,c1,c2,c3,c4,c5,c6,c7,c8,c9,c10,c11,c12,c13,c14,c15,c16,c17,c18,c19,c20,c21,c22,c23,c24,c25,c26,c27,c28,c29⟩:=hX.cells;obtain ⟨d0,d1,d2,d3,d4,d5,d6,d7,d8,d9,d10,d11,d12,d13,d14,d15,d16,d17,d18,d19,d20,d21,d22,d23,d24,d25,d26,d27,d28,d29⟩:=hY.cells;go_wp2_with fail;refine (cP _ (hpp.below kb).l.sl (hpt.below kb).l.sl (hpp2.below kb).l.sl (hpt2.below kb).l.sl).mono ?_;rintro e w8 ⟨rfl,hb⟩;replace kb:=kb.trans (hb.mono kb.size);replace hX:=hX.below hb;replace hY:=hY.below hb;clear c0 c1 c2 c3 c4 c5 c6 c7 c8 c9 c10 c11 c12 c13 c14 c15 c16 c17 c18 c19 c20 c21 c22 c23 c24 c25 c26 c27 c28 c29;clear d0 d1 d2 d3 d4 d5 d6 d7 d8 d9 d10 d11 d12 d13 d14 d15 d16 d17 d18 d19 d20 d21 d22 d23 d24 d25 d26 d27 d28 d29;clear hb;obtain ⟨c0,c1,c2,c3,c4,c5,c6,c7,c8,c9,c10,c11,c12,c13,c14,c15,c16,c17,c18,c19,c20,c21,c22,c23,c24,c25,c26,c27,c28,c29⟩:=hX.cells;obtain ⟨d0,d1,d2,d3,d4,d5,d6,d7,d8,d9,d10,d11,d12,d13,d14,d15,d16,d17,d18,d19,d20,d21,d22,d23,d24,d25,d26,d27,d28,d29⟩:=hY.cells;go_wp2_with fail;refine (cF _).mono ?_;rintro e w9 ⟨rfl,hb⟩;replace kb:=kb.trans (hb.mono kb.size);clear c0 c1 c2 c3 c4 c5 c6 c7 c8 c9 c10 c11 c12 c13 c14 c15 c16 c17 c18 c19 c20 c21 c22 c23 c24 c25 c26 c27 c28 c29;clear d0 d1 d2 d3 d4 d5 d6 d7 d8 d9 d10 d11 d12 d13 d14 d15 d16 d17 d18 d19 d20 d21 d22 d23 d24 d25 d26 d27 d28 d29;clear hb;go_wp2;go_ret;exact ⟨rfl,kb⟩
theorem info_tl:(Tryz.prog.info? 65).map (·.size)=some 30:=by kernel_rfl
theorem load_tl {w:World} {ops:Array Oper} {rest:List Oper} {o:Oper} {a:Act} {Q:Exit->Act->World->Prop} {B:Nat} {t:Te} {v:Tv} (hb:TeB w B 65 t v) (hgd:Region.wanted o (yielded ops a.tmps)=true) (x:Operand)
  (ho:o.op=.load 65 x) (hx:a.eval x=.pointer (some ⟨B,0,none⟩))
  (h:wpList Tryz.prog ops Q rest (a.put o.dst (.agg (teCs t v))) w):wpList Tryz.prog ops Q (o::rest) a w :=
 load_T (cs:=teCs t v) hgd 65 x ho Tryz.underlying65 rfl info_tl hb hx h
theorem run_load_te {W:World} {B:Nat} {t:Te} {v:Tv} (hb:TeB W B 35 t v) (a:Act) (o:Oper) (x:Operand) (ho:o.op=.load 35 x) (hx:a.eval x=.pointer (some ⟨B,0,none⟩)) :
  (execOp a.eval o).run Tryz.prog W=.ok (.value (.agg (teCs t v))) W:=by
 unfold execOp;simp only [ho,hx,Instr.loadAt,Instr.sureAddr,Sem.run_bind,Sem.run_pure,Result.andThen_ok,run_loadVar_row W B 35 35 (teCs t v) (0,0) _ hb Tryz.underlying35 rfl info_te]
theorem run_load_tl {W:World} {B:Nat} {t:Te} {v:Tv} (hb:TeB W B 65 t v) (a:Act) (o:Oper) (x:Operand) (ho:o.op=.load 65 x) (hx:a.eval x=.pointer (some ⟨B,0,none⟩)) :
  (execOp a.eval o).run Tryz.prog W=.ok (.value (.agg (teCs t v))) W:=by
 unfold execOp;simp only [ho,hx,Instr.loadAt,Instr.sureAddr,Sem.run_bind,Sem.run_pure,Result.andThen_ok,run_loadVar_row W B 65 65 (teCs t v) (0,0) _ hb Tryz.underlying65 rfl info_tl]
theorem termOk_bd {t:Te} (h:termOkB t=true):sumG t.g t.g.length<=60000/\sumG t.o t.o.length<=60000/\t.g.length<=30/\t.o.length<=30/\t.ti.length<=40/\t.pa.params.length<=16/\t.pa.text.length<=40:=by
 obtain ⟨gc,f1,f2,f3,f4,_,f6⟩:=termOk_sizes h;obtain ⟨⟨g1,g2⟩,⟨l1,l1'⟩,x1⟩:=gridOk_rows f3;obtain ⟨_,⟨l2,l2'⟩,x2⟩:=gridOk_rows f4;have s1:=sumG_bd _ 60 (fun i hi=>by rw [(x1 i hi).1];omega) _ (Nat.le_refl t.g.length);have s2:=sumG_bd _ 60 (fun i hi=>by rw [(x2 i hi).1];omega) _ (Nat.le_refl t.o.length);have m1:=Nat.mul_le_mul_right 60 l1';have m2:=Nat.mul_le_mul_right 60 l2';exact ⟨by omega,by omega,l1',l2',f6.2.2.2.2.1,f6.2.2.2.2.2.1,f6.2.2.2.2.2.2⟩
theorem doR_bd (t:Te) (a:Ac):sumG (doR t a).g (doR t a).g.length<=60000/\sumG (doR t a).o (doR t a).o.length<=60000/\(doR t a).g.length<=30/\(doR t a).o.length<=30/\(doR t a).ti.length<=40/\(doR t a).pa.params.length<=16/\(doR t a).pa.text.length<=40:=by
 unfold doR
 by_cases h:termOkB t=true
 ·rw [if_pos h]
  by_cases ha:actB a=true
  ·rw [if_pos ha];exact termOk_bd ((rtK_of h).doT a ha).ok
  ·rw [if_neg ha];exact termOk_bd h
 ·rw [if_neg h];simp [teZ,sumG]
theorem doR_sz (t:Te) (a:Ac):SzT 1048576 (doR t a):=by
 obtain ⟨h1,h2,h3,h4,h5,h6,h7⟩:=doR_bd t a;exact ⟨by omega,fun i hi=>by have:=sumG_row (doR t a).g hi;omega,by omega,fun i hi=>by have:=sumG_row (doR t a).o hi;omega,by omega,by omega,by omega⟩
theorem szAction_any (p:Ac) (pv tv:Value) (left:Nat) (w:World) (hp:SlI w pv p.params) (ht:SlI w tv p.text) (hpl:p.params.length<=maxLen) (htl:p.text.length<=maxLen) (hf:left<=4611686018427387904) :
  Calls Tryz.prog 29 #[.agg (acA p.kind p.rune pv p.mark tv),.int .i64 left] w fun e w'=>e=.returned (.int .i64 (szP p.params.length p.text.length left))/\Below w.heap.size w w':=by
 obtain ⟨k,r,ps,m,ts⟩:=p;have hb:=bal' w (Obj.cells #[.int .i64 k,.int .i64 r,pv,.int .i64 m,tv] 66);have hP:=BlkC.new w 66 (acA k r pv m tv).toList;have h1:=szI_any pv ps left _ (hp.below hb) hpl hf;have h2:=fun l h=>szI_any tv ts l _ (ht.below hb) htl h
 unfold acA at *;simp only at *;obtain ⟨pa,pc,hpv⟩:=hp.shp;obtain ⟨ta,tc,htv⟩:=ht.shp;subst hpv;subst htv;have c0:(w.alloc (Obj.cells #[.int .i64 k,.int .i64 r,.slice pa ps.length pc,.int .i64 m,.slice ta ts.length tc] 66)).cell? ⟨w.heap.size,2,none⟩=some (.slice pa ps.length pc):=cAl hP 2;have c1:(w.alloc (Obj.cells #[.int .i64 k,.int .i64 r,.slice pa ps.length pc,.int .i64 m,.slice ta ts.length tc] 66)).cell? ⟨w.heap.size,4,none⟩=some (.slice ta ts.length tc):=cAl hP 4;obtain ⟨rv,hrv⟩:∃ rv,Hid (rv=szP ps.length ts.length left):=⟨_,rfl⟩;rw [<- hrv.out]
 by_cases q1:left<ps.length
 ·have hv:Hid (rv=-1):=by show _=_;rw [hrv.out];unfold szP;rw [if_pos q1]
  rw [if_pos q1] at h1
  clear h2 hp ht hP hrv;go_enter Tryz.func29,Tryz.ntmps29;go_wp2_with (go_at_call 88;refine h1.mono ?_;rintro e w' ⟨rfl,rfl⟩);go_ret;exact ⟨by rw [hv.out];rfl,hb⟩
 ·rw [if_neg q1] at h1
  have h3:=h2 (left-ps.length) (by omega);have hn:¬ (((left-ps.length:Nat):Int)<0):=by omega
  obtain ⟨l2,hl2⟩:∃ l2,Hid (l2=left-ps.length):=⟨_,rfl⟩;rw [<- hl2.out] at h1 h3 hn
  by_cases q2:l2<ts.length
  ·have hv:Hid (rv=-1):=by show _=_;rw [hrv.out];unfold szP;rw [if_neg q1,if_pos (by rw [<- hl2.out];exact q2)]
   rw [if_pos q2] at h3
   clear h2 hp ht hP hrv hl2;go_enter Tryz.func29,Tryz.ntmps29;go_wp2_with fail;refine h1.mono ?_;rintro e w3 ⟨rfl,hw⟩;subst hw;clear h1;go_wp2_with fail;refine h3.mono ?_;rintro e w4 ⟨rfl,hw⟩;subst hw;clear h3;go_wp2;go_ret;exact ⟨by rw [hv.out];rfl,hb⟩
  ·obtain ⟨l3,hl3⟩:∃ l3,Hid (l3=l2-ts.length):=⟨_,rfl⟩
   have hv:Hid (rv=(l3:Int)):=by show _=_;rw [hrv.out,hl3.out,hl2.out];unfold szP;rw [if_neg q1,if_neg (by rw [<- hl2.out];exact q2)]
   rw [if_neg q2,<- hl3.out] at h3
   have hn3:¬ ((l3:Int)<0):=by omega
   clear h2 hp ht hP hrv hl2 hl3;go_enter Tryz.func29,Tryz.ntmps29;go_wp2_with fail;refine h1.mono ?_;rintro e w3 ⟨rfl,hw⟩;subst hw;clear h1;go_wp2_with fail;refine h3.mono ?_;rintro e w4 ⟨rfl,hw⟩;subst hw;clear h3;go_wp2;go_ret;exact ⟨by rw [hv.out];rfl,hb⟩
theorem info_ac5:(Tryz.prog.info? 37).map (·.size)=some 5:=by kernel_rfl
theorem toAction_copy (a:Ac) (pv tv:Value) (w:World) (hp:SlI w pv a.params) (ht:SlI w tv a.text) (hpl:a.params.length<=1073741824) (htl:a.text.length<=1073741824) :
  Calls Tryz.prog 31 #[.agg (acA a.kind a.rune pv a.mark tv)] w fun e w'=>∃ pv' tv',e=.returned (.agg (acA a.kind a.rune pv' a.mark tv'))/\LiOk w' w.heap.size [(pv',a.params),(tv',a.text)]/\Below w.heap.size w w':=by
 obtain ⟨k,r,ps,m,ts⟩:=a;simp only at *;obtain ⟨pa,pc,hpv⟩:=hp.shp;obtain ⟨ta,tc,htv⟩:=ht.shp;subst hpv;subst htv;have cP:=fun W h=>toI_copy (.slice pa ps.length pc) ps W h hpl
 have cT:=fun W h=>toI_copy (.slice ta ts.length tc) ts W h htl
 have b0:=bal' w (Obj.cells #[.int .i64 k,.int .i64 r,.slice pa ps.length pc,.int .i64 m,.slice ta ts.length tc] 66);have hX0:=BlkC.new w 66 [.int .i64 k,.int .i64 r,.slice pa ps.length pc,.int .i64 m,.slice ta ts.length tc];obtain ⟨w1,hw1⟩:∃ w1,w1=w.alloc (Obj.cells #[.int .i64 k,.int .i64 r,.slice pa ps.length pc,.int .i64 m,.slice ta ts.length tc] 66):=⟨_,rfl⟩;have zs1:w1.heap.size=w.heap.size+1:=by rw [hw1];simp
 replace hX0:BlkC w1 w.heap.size 66 [.int .i64 k,.int .i64 r,.slice pa ps.length pc,.int .i64 m,.slice ta ts.length tc]:=by rw [hw1];exact hX0
 rw [<- hw1] at b0
 obtain ⟨w2,hw2⟩:∃ w2,w2=(w1.alloc (Obj.cells #[.int .i64 0,.int .i64 0,.slice none 0 0,.int .i64 0,.slice none 0 0] 37)).alloc (Obj.cells #[.int .i64 0,.int .i64 0,.slice none 0 0,.int .i64 0,.slice none 0 0] 37):=⟨_,rfl⟩;have b1:=bal' w1 (Obj.cells #[.int .i64 0,.int .i64 0,.slice none 0 0,.int .i64 0,.slice none 0 0] 37);have b2:=bal' (w1.alloc (Obj.cells #[.int .i64 0,.int .i64 0,.slice none 0 0,.int .i64 0,.slice none 0 0] 37)) (Obj.cells #[.int .i64 0,.int .i64 0,.slice none 0 0,.int .i64 0,.slice none 0 0] 37);have hR:=BlkC.below (BlkC.new w1 37 [.int .i64 0,.int .i64 0,.slice none 0 0,.int .i64 0,.slice none 0 0]) b2;have hB:=BlkC.new (w1.alloc (Obj.cells #[.int .i64 0,.int .i64 0,.slice none 0 0,.int .i64 0,.slice none 0 0] 37)) 37 [.int .i64 0,.int .i64 0,.slice none 0 0,.int .i64 0,.slice none 0 0];have bb:=b1.trans (b2.mono b1.size);have zs2:w2.heap.size=w.heap.size+3:=by rw [hw2];simp;omega
 replace hR:BlkC w2 (w.heap.size+1) 37 [.int .i64 0,.int .i64 0,.slice none 0 0,.int .i64 0,.slice none 0 0]:=by rw [hw2,<- zs1];exact hR
 replace hB:BlkC w2 (w.heap.size+2) 37 [.int .i64 0,.int .i64 0,.slice none 0 0,.int .i64 0,.slice none 0 0]:=by rw [hw2,show w.heap.size+2=(w1.alloc (Obj.cells #[.int .i64 0,.int .i64 0,.slice none 0 0,.int .i64 0,.slice none 0 0] 37)).heap.size by simp;omega];exact hB
 rw [<- hw2] at bb
 have hX:=BlkC.below hX0 bb;have kb:=b0.trans (bb.mono b0.size);rw [hw1] at hw2
 replace hw2:=(show Hid _ from hw2);clear b0 b1 b2 bb hX0 hw1 zs1;unfold acA at *;go_enter Tryz.func31,Tryz.ntmps31;refine wp_seq_k (fun K hK=>?_);have hH:=(show Hid _ from hK);clear hK;go_wp2;refine hH.out _ _ ?_;clear hH;refine wp_seq_k (fun K hK=>?_);have hH:=(show Hid _ from hK);clear hK;go_wp2;refine hH.out _ _ ?_;rw [<- hw2.out,show w.heap.size+1+1=w.heap.size+2 from rfl]
 clear hH hw2;have c0:w2.cell? ⟨w.heap.size,0,none⟩=some (.int .i64 k):=cAl hX 0
 go_wp2_with (first
  | (refine store_at (by rfl) 2 _ _ (by rfl) inf_i hB (by rfl) (by rfl) (by rfl) (by rfl) (by rfl) ?_;intro W1 hg1 hB1 hz1;clear c0;have hX1:=BlkC.kept hX hg1 (fun e=>by have:=Option.some.inj e;omega);have c1:W1.cell? ⟨w.heap.size,1,none⟩=some (.int .i64 r):=cAl hX1 1)
  | (refine store_at (by rfl) 2 _ _ (by rfl) inf_i hB1 (by rfl) (by rfl) (by rfl) (by rfl) (by rfl) ?_;intro W2 hg2 hB2 hz2;clear c1;have hX2:=BlkC.kept hX1 hg2 (fun e=>by have:=Option.some.inj e;omega);have c2:W2.cell? ⟨w.heap.size,2,none⟩=some (.slice pa ps.length pc):=cAl hX2 2))
 have kb2:=(kb.grown hg1 kb.size (fun g e=>by cases e;omega)).grown hg2 (by omega) (fun g e=>by cases e;omega);have hR2:=BlkC.kept (BlkC.kept hR hg1 (fun e=>by have:=Option.some.inj e;omega)) hg2 (fun e=>by have:=Option.some.inj e;omega);clear hX hX1 hB hB1 hR kb hg1 hg2 c2;refine (cP W2 (hp.below kb2)).mono ?_;rintro e w4 ⟨u,rfl,hou,hb⟩;replace hou:OwnI w4 W2.heap.size u ps:=hou;have kb4:=kb2.trans (hb.mono kb2.size);have hX4:=BlkC.below hX2 hb;have hR4:=BlkC.below hR2 hb;have hB4:=BlkC.below hB2 hb;have z4:=hb.size;obtain ⟨ua,un,uc,hu⟩:=hou.shape;subst hu;clear hb kb2 hX2 hR2 hB2 cP;have c3:w4.cell? ⟨w.heap.size,3,none⟩=some (.int .i64 m):=cAl hX4 3
 go_wp2_with (first
  | (refine store_at (by rfl) 29 _ _ (by rfl) inf_l hB4 (by rfl) (by rfl) (by rfl) (by rfl) (by rfl) ?_;intro W5 hg5 hB5 hz5;clear c3;have hX5:=BlkC.kept hX4 hg5 (fun e=>by have:=Option.some.inj e;omega);have c3:W5.cell? ⟨w.heap.size,3,none⟩=some (.int .i64 m):=cAl hX5 3)
  | (refine store_at (by rfl) 2 _ _ (by rfl) inf_i hB5 (by rfl) (by rfl) (by rfl) (by rfl) (by rfl) ?_;intro W6 hg6 hB6 hz6;clear c3;have hX6:=BlkC.kept hX5 hg6 (fun e=>by have:=Option.some.inj e;omega);have c4:W6.cell? ⟨w.heap.size,4,none⟩=some (.slice ta ts.length tc):=cAl hX6 4))
 have gg:=grown_tr hg5 hg6;have kb6:=kb4.grown gg kb4.size (fun g e=>by cases e;omega);have hR6:=BlkC.kept hR4 gg (fun e=>by have:=Option.some.inj e;omega);have hou6:=hou.kept gg (.inr (fun e=>by have:=(hou.lt _ e).1;omega));clear hX4 hX5 hB4 hB5 hR4 hg5 hg6 c4 gg;refine (cT W6 (ht.below kb6)).mono ?_;rintro e w7 ⟨t,rfl,hot,hb⟩;replace hot:OwnI w7 W6.heap.size t ts:=hot;obtain ⟨sa,sn,sc,hu⟩:=hot.shape;subst hu;have kb7:=kb6.trans (hb.mono kb6.size);have hR7:=BlkC.below hR6 hb;have hB7:=BlkC.below hB6 hb
 have hL7:LiOk w7 w.heap.size [(.slice ua un uc,ps),(.slice sa sn sc,ts)] :=
  ((show LiOk W6 w.heap.size [(.slice ua un uc,ps)] from ⟨fun p hp=>by rw [List.mem_singleton] at hp;subst hp;exact hou6.low (by omega),List.pairwise_singleton _ _⟩).new hb (hot.low (by omega)) (fun g e=>(hot.lt g e).1)).perm (List.Perm.swap _ _ _)
 have hne:∀ p∈[((.slice ua un uc:Value),ps),(.slice sa sn sc,ts)],∀ k,p.1.ownBlock=some k->w.heap.size+3<=k:=fun p hp k e=>by
  simp only [List.mem_cons,List.mem_nil_iff,or_false] at hp;rcases hp with rfl|rfl
  ·have:=(hou.lt k e).1;omega
  ·have:=(hot.lt k e).1;omega
 have z7:=hb.size;clear hb kb6 hX6 hB6 hR6 cT hou6
 go_wp2_with (first
  | (refine store_at (by rfl) 29 _ _ (by rfl) inf_l hB7 (by rfl) (by rfl) (by rfl) (by rfl) (by rfl) ?_;intro W8 hg8 hB8 hz8;have hO8:=(show BlkC W8 (w.heap.size+2) 37 [.int .i64 k,.int .i64 r,.slice ua un uc,.int .i64 m,.slice sa sn sc] from hB8);have hR8:=BlkC.kept hR7 hg8 (fun e=>by have:=Option.some.inj e;omega))
  | (refine load_T (cs:=#[.int .i64 k,.int .i64 r,.slice ua un uc,.int .i64 m,.slice sa sn sc]) (by rfl) 37 _ (by rfl) Tryz.underlying37 rfl info_ac5 hO8 (by rfl) ?_)
  | (refine store_T (cs:=#[.int .i64 k,.int .i64 r,.slice ua un uc,.int .i64 m,.slice sa sn sc]) (by rfl) 37 _ _ (by rfl) info_ac5 (by rfl) (by rfl) hR8 (by rfl) (by rfl) ?_;intro w9 hg9 hR9 hz9))
 have kb9:=(kb7.grown hg8 kb7.size (fun g e=>by cases e;omega)).grown hg9 (by omega) (fun g e=>by cases e;omega);have hL9:=(hL7.kept hg8 (fun p hp=>.inr fun e=>by have:=hne p hp _ e;omega)).kept hg9 (fun p hp=>.inr fun e=>by have:=hne p hp _ e;omega);exact bodyPost_ret (v:=.agg #[.int .i64 k,.int .i64 r,.slice ua un uc,.int .i64 m,.slice sa sn sc]) (results_cell_row Tryz.results31 _ _ _ _ _ _ _ rfl hR9 Tryz.underlying37 rfl info_ac5) rfl ⟨_,_,rfl,hL9,kb9⟩
theorem AxC.kept {w w':World} {B:Nat} {k r m:Int} {pv tv:Value} {row:Option Nat} (h:AxC w B k r pv m tv) (hg:w.grownBy w' row) (hne:row≠some B):AxC w' B k r pv m tv:=by
 unfold AxC;rw [hg.block B h.lt (Ne.symm hne)]
 exact h
theorem markAction_big (p:Ac) (pv tv:Value) (k:Nat) (base:Nat) (R:List (Value×List Int)) (w:World) (h:LiOk w base ((pv,p.params)::(tv,p.text)::R)) (_hb:base<=w.heap.size) (hk:k<=134217728) (hpl:p.params.length<=1048576) (htl:p.text.length<=1048576) :
  Calls Tryz.prog 35 #[.agg (acA p.kind p.rune pv p.mark tv),.int .i64 k] w fun e w'=>e=.returned (.int .i64 ((k+p.params.length+p.text.length:Nat):Int))/\LiOk w' base ((pv,marksI k p.params.length)::(tv,marksI ((k+p.params.length:Nat):Int) p.text.length)::R)/\GrV pv tv w w':=by
 obtain ⟨a,r,ps,m,ts⟩:=p;have hb0:=bal' w (Obj.cells #[.int .i64 a,.int .i64 r,pv,.int .i64 m,tv] 37);have hP:=AxC.new w a r m pv tv;have h0:=h.below hb0;have m1:=markI_own base pv k ps.length (ps.map (Value.int .i64)) _ h0.head ⟨by omega,by omega⟩ (by simp only at hpl;omega);have m2:=fun W (hW:OwnI W base tv ts)=>markI_own base tv ((k+ps.length:Nat):Int) ts.length (ts.map (Value.int .i64)) W hW ⟨by omega,by simp only at hpl;omega⟩ (by simp only at htl;omega)
 have n1:Hid ((k:Int)+(ps.length:Int)=((k+ps.length:Nat):Int)):=by show _=_;omega
 have n2:Hid (((k+ps.length:Nat):Int)+(ts.length:Int)=((k+ps.length+ts.length:Nat):Int)):=by show _=_;omega
 rw [n1.out] at m1
 unfold acA at *;simp only at *;obtain ⟨pa,pn,pc,hpv⟩:=h.head.shape;obtain ⟨ta,tn,tc,htv⟩:=h.tail.head.shape;simp only at hpv htv;subst hpv;subst htv;have hGr:GrV (.slice pa pn pc) (.slice ta tn tc) w (w.alloc (Obj.cells #[.int .i64 a,.int .i64 r,.slice pa pn pc,.int .i64 m,.slice ta tn tc] 37)):=GrV.of_below hb0;obtain ⟨c0,c1,c2,c3,c4⟩:=hP.cells;have hs:∀ W,(w.alloc (Obj.cells #[.int .i64 a,.int .i64 r,.slice pa pn pc,.int .i64 m,.slice ta tn tc] 37)).grownBy W (Value.slice pa pn pc).ownBlock->AxC W w.heap.size a r (.slice pa pn pc) m (.slice ta tn tc):=fun W hg=>hP.kept hg (h0.head.not_block hP (by decide))
 clear h;go_enter Tryz.func35,Tryz.ntmps35;go_wp2_with fail;refine m1.mono ?_;rintro e w3 ⟨rfl,ho3,hg3⟩;have hP3:=hs w3 hg3;have hL3:LiOk w3 base ((.slice pa pn pc,marksI k ps.length)::(.slice ta tn tc,ts)::R):=h0.grow hg3 (by unfold OwnI;rw [marksI_len];exact ho3) (fun g e=>.inl e);have hG3:=hGr.grown hg3 (fun g e=>.inl e);have m3:=m2 w3 hL3.tail.head;rw [n2.out] at m3
 clear m1 m2 hs hGr hP h0 hg3 ho3 c0 c1 c2 c3 c4;obtain ⟨c0,c1,c2,c3,c4⟩:=hP3.cells;go_wp2_with fail;refine m3.mono ?_;rintro e w4 ⟨rfl,ho4,hg4⟩
 have hL4:LiOk w4 base ((.slice pa pn pc,marksI k ps.length)::(.slice ta tn tc,marksI ((k+ps.length:Nat):Int) ts.length)::R) :=
  ((hL3.perm (List.Perm.swap _ _ _)).grow hg4 (show OwnI w4 base _ _ from by unfold OwnI;rw [marksI_len];exact ho4) (fun g e=>.inl e)).perm (List.Perm.swap _ _ _)
 have hG4:=hG3.grown hg4 (fun g e=>.inr (.inl e));clear m3 hP3 hL3 hG3 hg4 ho4 c0 c1 c2 c3 c4;go_wp2;go_ret;exact ⟨rfl,hL4,hG4⟩
theorem info_al:(Tryz.prog.info? 66).map (·.size)=some 5:=by kernel_rfl
theorem info_ac:(Tryz.prog.info? 37).map (·.size)=some 5:=by kernel_rfl
def AcB (w:World) (B:Nat) (T:TypeId) (q:Ac) (p x:Value):Prop:=w.heap[B]?=some (.cells (acA q.kind q.rune p q.mark x) T (0,0))
theorem AcB.below {w w':World} {B:Nat} {T:TypeId} {q:Ac} {p x:Value} (h:AcB w B T q p x) (hb:Below w.heap.size w w'):AcB w' B T q p x :=
 (hb.block B ((Array.getElem?_eq_some_iff.1 h).1)).trans h
theorem AcB.lt {w:World} {B:Nat} {T:TypeId} {q:Ac} {p x:Value} (h:AcB w B T q p x):B<w.heap.size:=(Array.getElem?_eq_some_iff.1 h).1
abbrev zO:Obj:=Obj.cells #[.int .i64 0,.slice none 0 0,.int .i64 0,.slice none 0 0,.int .i64 0,.int .i64 0,.int .i64 0,.int .i64 0,.bool false,.bool false,.bool false,.int .i64 0,.int .i64 0,.bool false,.bool false,.bool false,.bool false,.int .i64 0,.int .i64 0,.int .i64 0,.int .i64 0,.bool false,.bool false,.bool false,.slice none 0 0,.int .i64 0,.slice none 0 0,.int .i64 0,.slice none 0 0,.string ⟨#[]⟩] 35
abbrev zL:List Value:=[.int .i64 0,.slice none 0 0,.int .i64 0,.slice none 0 0,.int .i64 0,.int .i64 0,.int .i64 0,.int .i64 0,.bool false,.bool false,.bool false,.int .i64 0,.int .i64 0,.bool false,.bool false,.bool false,.bool false,.int .i64 0,.int .i64 0,.int .i64 0,.int .i64 0,.bool false,.bool false,.bool false,.slice none 0 0,.int .i64 0,.slice none 0 0,.int .i64 0,.slice none 0 0,.string ⟨#[]⟩]
theorem AcB.grp {S:Nat->Prop} {w w':World} {B:Nat} {T:TypeId} {q:Ac} {p x:Value} (h:AcB w B T q p x) (hg:GrP S w w') (hne:¬ S B):AcB w' B T q p x:=(hg.2.2.2.2 B h.lt hne).trans h
theorem AcB.lowB {w w':World} {B C:Nat} {T:TypeId} {q:Ac} {p x:Value} (h:AcB w B T q p x) (hb:Below C w w') (hB:B<C):AcB w' B T q p x:=(hb.block B hB).trans h
theorem TeB.lowB {w w':World} {B C:Nat} {T:TypeId} {t:Te} {v:Tv} (h:TeB w B T t v) (hb:Below C w w') (hB:B<C):TeB w' B T t v:=by
 unfold TeB;rw [hb.block B hB]
 exact h
theorem load_al {w:World} {ops:Array Oper} {rest:List Oper} {o:Oper} {a:Act} {Q:Exit->Act->World->Prop} {B:Nat} {q:Ac} {p x:Value} (hb:AcB w B 66 q p x) (hgd:Region.wanted o (yielded ops a.tmps)=true) (y:Operand)
  (ho:o.op=.load 66 y) (hx:a.eval y=.pointer (some ⟨B,0,none⟩))
  (h:wpList Tryz.prog ops Q rest (a.put o.dst (.agg (acA q.kind q.rune p q.mark x))) w):wpList Tryz.prog ops Q (o::rest) a w :=
 load_T (cs:=acA q.kind q.rune p q.mark x) hgd 66 y ho Tryz.underlying66 rfl info_al hb hx h
theorem load_ai {w:World} {ops:Array Oper} {rest:List Oper} {o:Oper} {a:Act} {Q:Exit->Act->World->Prop} {B:Nat} {q:Ac} {p x:Value} (hb:AcB w B 37 q p x) (hgd:Region.wanted o (yielded ops a.tmps)=true) (y:Operand)
  (ho:o.op=.load 37 y) (hx:a.eval y=.pointer (some ⟨B,0,none⟩))
  (h:wpList Tryz.prog ops Q rest (a.put o.dst (.agg (acA q.kind q.rune p q.mark x))) w):wpList Tryz.prog ops Q (o::rest) a w :=
 load_T (cs:=acA q.kind q.rune p q.mark x) hgd 37 y ho Tryz.underlying37 rfl info_ac hb hx h
theorem run_load_al {W:World} {B:Nat} {q:Ac} {p x:Value} (hb:AcB W B 66 q p x) (a:Act) (o:Oper) (y:Operand) (ho:o.op=.load 66 y) (hx:a.eval y=.pointer (some ⟨B,0,none⟩)) :
  (execOp a.eval o).run Tryz.prog W=.ok (.value (.agg (acA q.kind q.rune p q.mark x))) W:=by
 unfold execOp;simp only [ho,hx,Instr.loadAt,Instr.sureAddr,Sem.run_bind,Sem.run_pure,Result.andThen_ok,run_loadVar_row W B 66 66 (acA q.kind q.rune p q.mark x) (0,0) _ hb Tryz.underlying66 rfl info_al]
theorem run_load_ai {W:World} {B:Nat} {q:Ac} {p x:Value} (hb:AcB W B 37 q p x) (a:Act) (o:Oper) (y:Operand) (ho:o.op=.load 37 y) (hx:a.eval y=.pointer (some ⟨B,0,none⟩)) :
  (execOp a.eval o).run Tryz.prog W=.ok (.value (.agg (acA q.kind q.rune p q.mark x))) W:=by
 unfold execOp;simp only [ho,hx,Instr.loadAt,Instr.sureAddr,Sem.run_bind,Sem.run_pure,Result.andThen_ok,run_loadVar_row W B 37 37 (acA q.kind q.rune p q.mark x) (0,0) _ hb Tryz.underlying37 rfl info_ac]
theorem wp_store_te {o:Oper} {a:Act} {w:World} {K:Act->World->Prop} {Q:Exit->Act->World->Prop} (x y:Operand) (ho:o.op=.store 35 x y) {B:Nat} {old:List Value} {t:Te} {v:Tv} (h1:(teCs t v).toList.all (·.oneCell')=true) (hB:TB w B old) (hl:old.length=(teCs t v).size) (hx:a.eval x=.pointer (some ⟨B,0,none⟩)) (hy:a.eval y=.agg (teCs t v))
  (h:∀ w',w.grownBy w' (some B)->TeB w' B 35 t v->w'.heap.size=w.heap.size->K (a.put o.dst undef) w'):o.wp Tryz.prog a w K Q :=
 wp_store_row 35 x y ho B (teCs t v) hx hy 35 old.toArray hB info_te (by simpa using hl) (by rw [<- Array.all_toList];exact h1) (h _ (setRow_gr w B (teCs t v)) (setRow_heap w B old.toArray (teCs t v) 35 (0,0) hB) (by simp))
theorem LiOk.ownB {w:World} {base:Nat} {L:List (Value×List Int)} (h:LiOk w base L) {p:Value×List Int} (hp:p∈L):∀ g,p.1.ownBlock=some g->base<=g/\g<w.heap.size:=fun g e=>(h.1 p hp).lt g e

theorem walk_FnExactDo (w:World) (hS:SpansAt w) (t:Te) (v:Tv) (h:SlT w t v) (hm:SzT maxLen t) (hf:t.fe.size<=maxLen) (q:Ac) (pv tv:Value) (hp:SlN w pv q.params) (ht:SlN w tv q.text) (hpl:q.params.length<=maxLen) (htl:q.text.length<=maxLen) :
  Calls Tryz.prog 6 #[teV t v,.agg (acA q.kind q.rune pv q.mark tv)] w fun e w'=>e=.returned (.bool true)/\Below w.heap.size w w':=by
 have hbd:=doR_bd t q;have hbR:=doR_sz t q;have hsp:=fun u px tx W h1 h2 h3 h4 l1 l2 h5=>specDo_any t u q px tx W h1 h2 h3 h4 l1 l2 h5
 have him:=fun u px tx W hS h1 h2 h3 h4 l1 l2 h5=>implDo_any t u q px tx W hS h1 h2 h3 h4 l1 l2 h5
 obtain ⟨R,hR⟩:∃ R,Hid (doR t q=R):=⟨_,rfl⟩;simp only [hR.out] at hbd hbR hsp him;clear hR;have hzz:=fun W h=>szTerm_le t v W h hm hf
 have hza:=fun n W h1 h2 (hn:n<=1048576)=>szAction_any q pv tv n W h1 h2 hpl htl (by omega)
 have hb1:=bal' w (Obj.cells (teCs t v) 65);have hb2:=bal' (w.alloc (Obj.cells (teCs t v) 65)) (Obj.cells (acA q.kind q.rune pv q.mark tv) 66);have hX:=(TeB.new w 65 t v).below hb2
 have hY:AcB ((w.alloc (Obj.cells (teCs t v) 65)).alloc (Obj.cells (acA q.kind q.rune pv q.mark tv) 66)) (w.heap.size+1) 66 q pv tv:=by
  have h0:=heap_alloc_new (w.alloc (Obj.cells (teCs t v) 65)) (Obj.cells (acA q.kind q.rune pv q.mark tv) 66);rw [show (w.alloc (Obj.cells (teCs t v) 65)).heap.size=w.heap.size+1 by simp] at h0
  exact h0
 have hb0:=hb1.trans (hb2.mono hb1.size);obtain ⟨w1,hw1⟩:∃ w1,w1=(w.alloc (Obj.cells (teCs t v) 65)).alloc (Obj.cells (acA q.kind q.rune pv q.mark tv) 66):=⟨_,rfl⟩;rw [<- hw1] at hb0 hX hY
 replace hw1:=(show Hid _ from hw1);clear hb1 hb2;have hto:=fun W h hz=>toTerm_copy t v W h hz
 have htoA:=fun W h1 h2 l1 l2=>toAction_copy q pv tv W h1 h2 l1 l2
 have heq0:=fun u u2 W h h2 hz=>eqTerm_same t u u2 W h h2 hz
 have heqR:=fun u u2 W h h2=>eqTerm_same R u u2 W h h2 hbR
 have heqA:∀ p1 t1 p2 t2 W,SlI W p1 q.params->SlI W t1 q.text->SlI W p2 q.params->SlI W t2 q.text->q.params.length<=1073741824->q.text.length<=1073741824->Calls Tryz.prog 33 #[.agg (acA q.kind q.rune p1 q.mark t1),.agg (acA q.kind q.rune p2 q.mark t2)] W fun e w'=>e=.returned (.bool true)/\Below W.heap.size W w':=fun p1 t1 p2 t2 W a b c d e f=>eqAction_same q p1 t1 p2 t2 W a b c d e f
 have hmkR:=fun u vg vo base W h hb=>markTerm_s R u vg vo base W h hb (by have:=hbd.1;omega) (by have:=hbd.2.1;omega) (by have:=hbd.2.2.1;omega) (by have:=hbd.2.2.2.1;omega) (by have:=hbd.2.2.2.2.1;omega) (by have:=hbd.2.2.2.2.2.1;omega) (by have:=hbd.2.2.2.2.2.2;omega)
 have hhdR:=fun u W h=>heldTerm_r R u W h hbd.1 hbd.2.1 (by have:=hbd.2.2.1;omega) (by have:=hbd.2.2.2.1;omega) (by have:=hbd.2.2.2.2.1;omega) (by have:=hbd.2.2.2.2.2.1;omega) (by have:=hbd.2.2.2.2.2.2;omega)
 have hn:¬ (((1+mkN R:Nat):Int)<0):=by omega
 generalize ((1+mkN R:Nat):Int)=mR at *;clear hm hf hbR hbd hpl htl;unfold teV at *;go_enter Tryz.func6,Tryz.ntmps6;refine wp_seq_k (fun K hK=>?_);have hH:=(show Hid _ from hK);clear hK;go_wp2;refine hH.out _ _ ?_;rw [<- hw1.out]
 clear hH hw1;go_wp2_with (refine load_tl hX (by rfl) _ (by rfl) (by rfl) ?_);refine (hzz _ (h.below hb0)).mono ?_;rintro e w2 ⟨z,rfl,hz,hb,hzl⟩;have kb:=hb0.trans (hb.mono hb0.size);replace hX:=hX.below hb;replace hY:=hY.below hb;clear hb hb0 hzz
 by_cases hzn:z<0
 case pos =>
  go_wp2;go_ret;exact ⟨rfl,kb⟩
 obtain ⟨hsz,hsum⟩:=hz.resolve_left hzn;have hmkX:=fun u vg vo base W h hb=>markTerm_s t u vg vo base W h hb (by omega) (by omega) hsz.1 hsz.2.2.1 (by omega) (by omega) (by omega)
 have hmN:mkN t<=134217000:=by unfold mkN;omega
 obtain ⟨zn,rfl⟩:∃ zn:Nat,z=(zn:Int):=⟨z.toNat,by omega⟩;have hzn2:¬ ((zn:Int)<0):=by omega
 have hza2:=hza zn w2 (hp.below kb).l.sl (ht.below kb).l.sl (by omega);clear hz hsum hza hzn;replace hsz:=(show Hid _ from hsz);go_wp2_with (refine load_al hY (by rfl) _ (by rfl) (by rfl) ?_);refine hza2.mono ?_;rintro e w2a ⟨rfl,hb⟩;replace kb:=kb.trans (hb.mono kb.size);replace hX:=hX.below hb;replace hY:=hY.below hb;clear hb hza2
 by_cases hyn:szP q.params.length q.text.length zn<0
 case pos =>
  have e4:=szP_neg hyn;rw [e4]
  clear hyn;go_wp2;go_ret;exact ⟨rfl,kb⟩
 obtain ⟨zk,e4,hzk⟩:=szP_some hyn;rw [e4]
 have hzk2:¬ ((zk:Int)<0):=by omega
 have lp:q.params.length<=1048576:=by omega
 have lt':q.text.length<=1048576:=by omega
 have hnX:¬ (((1+mkN t+q.params.length+q.text.length:Nat):Int)<0):=by omega
 have hmkA:=fun p x base R W h hb=>markAction_big q p x (1+mkN t) base R W h hb (by omega) lp lt'
 generalize ((1+mkN t+q.params.length+q.text.length:Nat):Int)=mX at *;generalize ((1+mkN t:Nat):Int)=mY at *;have hnX2:decide (mX<0)=false:=decide_eq_false hnX
 clear hyn e4 hzk hmN
  -- the specification's answer
 have hbX:w.heap.size<w2a.heap.size:=hX.lt;have hSb:∀ W,Below w2a.heap.size w2a W->TeB W w.heap.size 65 t v/\AcB W (w.heap.size+1) 66 q pv tv/\Below w2a.heap.size w2a W:=fun W k=>⟨hX.below k,hY.below k,k⟩
 go_wp2
 rename_i K8 hK8
 have hcut8:∀ (j4 j7 j8 j9 j10 j11 j12 j13 j14 j15 j16 j17 j18 j19 j20 j21 j22 j23 j24 j25 j26 j27 j28 j29 j30 j31 j32 j33 j34 j35 j36 j37 j38 j39 j40 j41 j42 j43 j44 j45 j46 j47 j48 j49 j50 j51 j52 j53 j54 j55 j56 j57 j58 j59 j60 j61 j62 j63 j64 j65 j66 j67 j68 j69 j70 j71 j72 j73 j74 j75 j76 j77 j78 j79 j80 j81 j82 j83 j84 j85 j86 j87 j88 j89 j90 j91:Value) (B6:Nat) (v4:Tv) (W:World),Below w.heap.size w W->TeB W w.heap.size 65 t v->AcB W (w.heap.size+1) 66 q pv tv->TeB W B6 35 R v4->SlT W R v4->K8 { tmps:=#[.agg (teCs t v),.agg (acA q.kind q.rune pv q.mark tv),.pointer (some ⟨w.heap.size,0,none⟩),.pointer (some ⟨w.heap.size+1,0,none⟩),j4,.int .i64 (zk:Int),.pointer (some ⟨B6,0,none⟩),j7,j8,j9,j10,j11,j12,j13,j14,j15,j16,j17,j18,j19,j20,j21,j22,j23,j24,j25,j26,j27,j28,j29,j30,j31,j32,j33,j34,j35,j36,j37,j38,j39,j40,j41,j42,j43,j44,j45,j46,j47,j48,j49,j50,j51,j52,j53,j54,j55,j56,j57,j58,j59,j60,j61,j62,j63,j64,j65,j66,j67,j68,j69,j70,j71,j72,j73,j74,j75,j76,j77,j78,j79,j80,j81,j82,j83,j84,j85,j86,j87,j88,j89,j90,j91],defers:=[] } W:=by
  intro j4 j7 j8 j9 j10 j11 j12 j13 j14 j15 j16 j17 j18 j19 j20 j21 j22 j23 j24 j25 j26 j27 j28 j29 j30 j31 j32 j33 j34 j35 j36 j37 j38 j39 j40 j41 j42 j43 j44 j45 j46 j47 j48 j49 j50 j51 j52 j53 j54 j55 j56 j57 j58 j59 j60 j61 j62 j63 j64 j65 j66 j67 j68 j69 j70 j71 j72 j73 j74 j75 j76 j77 j78 j79 j80 j81 j82 j83 j84 j85 j86 j87 j88 j89 j90 j91 B6 v4 W4 kb hX hY A0 s0;clear hSb hbX;apply hK8
  clear hK8 hsp;have hX0:=hX.lt;have hY0:=hY.lt
  have hk0:=kb.size
    -- the arguments' copies
  go_wp2_with (refine load_tl hX (by rfl) _ (by rfl) (by rfl) ?_);refine (hto _ (h.below kb) hsz.out).mono ?_;rintro e w5 ⟨v5,rfl,ho,hb⟩;obtain ⟨b1,b2,b3,hrg⟩:=ho;obtain ⟨vg5,vo5,o1⟩:=RgT.own (show RgT w5 W4.heap.size b1 b2 b3 t v5 from hrg);replace kb:=kb.trans (hb.mono kb.size);replace hX:=hX.below hb;replace hY:=hY.below hb;have K0:Below W4.heap.size W4 w5:=hb;have hon:=o1.sl.one;clear hb hrg;have hal:=bal' w5 zO;have hZ:=TB.new w5 zL
  go_wp2_with (first
   | (refine store_T (cs:=teCs t v5) (by rfl) 35 _ _ (by rfl) info_te (by rfl) hon hZ (by rfl) (by rfl) ?_;intro W5 hg hA hzs;have hbW:Below w5.heap.size w5 W5:=hal.grown hg hal.size (fun k e=>by cases e;exact Nat.le_refl _);have A1:TeB W5 w5.heap.size 35 t v5:=hA;clear hA hg hzs hal hZ hon)
   | (refine load_al (hY.below hbW) (by rfl) _ (by rfl) (by rfl) ?_))
  replace kb:=kb.trans (hbW.mono kb.size);replace hX:=hX.below hbW;replace hY:=hY.below hbW;replace K0:=K0.trans (hbW.mono K0.size);replace o1:=o1.below hbW;have hW45:W4.heap.size<=W5.heap.size:=K0.size;have hw5l:w5.heap.size<W5.heap.size:=A1.lt;have hbd1:∀ k,StT vg5 vo5 v5 k->W4.heap.size<=k/\k<W5.heap.size:=fun k c=>StT.bd o1 c
  clear hbW;refine (htoA _ (hp.below kb).l.sl (ht.below kb).l.sl (by omega) (by omega)).mono ?_;rintro e w5a ⟨p5,x5,rfl,oA,hb⟩;replace kb:=kb.trans (hb.mono kb.size);replace hX:=hX.below hb;replace hY:=hY.below hb;replace K0:=K0.trans (hb.mono K0.size);replace o1:=o1.below hb;replace A1:=A1.below hb;have zA:=hb.size;obtain ⟨p5a,p5n,p5c,hp5⟩:=oA.head.shape;obtain ⟨x5a,x5n,x5c,hx5⟩:=oA.tail.head.shape;simp only at hp5 hx5;subst hp5;subst hx5;clear hb;have hal:=bal' w5a (Obj.cells #[.int .i64 0,.int .i64 0,.slice none 0 0,.int .i64 0,.slice none 0 0] 37);have hZ:=heap_alloc_new w5a (Obj.cells #[.int .i64 0,.int .i64 0,.slice none 0 0,.int .i64 0,.slice none 0 0] 37)
  go_wp2_with (first
   | (refine store_T (cs:=acA q.kind q.rune (.slice p5a p5n p5c) q.mark (.slice x5a x5n x5c)) (by rfl) 37 _ _ (by rfl) info_ac (by rfl) (by rfl) hZ (by rfl) (by rfl) ?_;intro Wq hg hA hzs;have hbW:Below w5a.heap.size w5a Wq:=hal.grown hg hal.size (fun k e=>by cases e;exact Nat.le_refl _);have A3:AcB Wq w5a.heap.size 37 q (.slice p5a p5n p5c) (.slice x5a x5n x5c):=hA;clear hA hg hzs hal hZ)
   | (refine load_te (A1.below hbW) (by rfl) _ (by rfl) (by rfl) ?_)
   | (refine load_ai A3 (by rfl) _ (by rfl) (by rfl) ?_))
  replace kb:=kb.trans (hbW.mono kb.size);replace hX:=hX.below hbW;replace hY:=hY.below hbW;replace K0:=K0.trans (hbW.mono K0.size);replace o1:=o1.below hbW;replace A1:=A1.below hbW;replace oA:=oA.below hbW;have hw5q:w5a.heap.size<Wq.heap.size:=A3.lt;have hbdP:∀ g,(Value.slice p5a p5n p5c).ownBlock=some g->W5.heap.size<=g/\g<Wq.heap.size:=fun g e=>oA.head.lt g e
  have hbdX:∀ g,(Value.slice x5a x5n x5c).ownBlock=some g->W5.heap.size<=g/\g<Wq.heap.size:=fun g e=>oA.tail.head.lt g e
  clear hbW;replace hbdP:=(show Hid _ from hbdP)
  replace hbdX:=(show Hid _ from hbdX)
    -- the program's answer
  refine (him v5 _ _ _ (hS.below kb hS.lt) o1.sl hsz.out (SlN.of_own oA.head) (SlN.of_own oA.tail.head) lp lt' (fun g e=>(oA.head.lt g e).2)).mono ?_;rintro e w6 ⟨v6,vg6,vo6,rfl,o2,hb⟩;replace kb:=kb.trans (hb.mono kb.size);replace hX:=hX.below hb;replace hY:=hY.below hb;replace K0:=K0.trans (hb.mono K0.size);replace o1:=o1.below hb;replace A1:=A1.below hb;replace A3:=A3.below hb;replace oA:=oA.below hb;have z5:=hb.size;have hon:=o2.sl.one;clear hb;have hal:=bal' w6 zO;have hZ:=TB.new w6 zL
  go_wp2_with (first
   | (refine store_T (cs:=teCs R v6) (by rfl) 35 _ _ (by rfl) info_te (by rfl) hon hZ (by rfl) (by rfl) ?_;intro W6 hg hA hzs;have hbW:Below w6.heap.size w6 W6:=hal.grown hg hal.size (fun k e=>by cases e;exact Nat.le_refl _);have A2:TeB W6 w6.heap.size 35 R v6:=hA;clear hA hg hzs hal hZ hon)
   | (refine load_te (A0.below (K0.trans (hbW.mono K0.size))) (by rfl) _ (by rfl) (by rfl) ?_)
   | (refine load_te A2 (by rfl) _ (by rfl) (by rfl) ?_))
  replace kb:=kb.trans (hbW.mono kb.size);replace hX:=hX.below hbW;replace hY:=hY.below hbW;replace K0:=K0.trans (hbW.mono K0.size);replace o1:=o1.below hbW;replace A1:=A1.below hbW;replace A3:=A3.below hbW;replace oA:=oA.below hbW;replace o2:=o2.below hbW;have z6:=hbW.size;clear hbW;refine (heqR _ _ _ o2.sl (s0.below K0)).mono ?_;rintro e w7 ⟨rfl,hb⟩;replace kb:=kb.trans (hb.mono kb.size);replace hX:=hX.below hb;replace hY:=hY.below hb;replace K0:=K0.trans (hb.mono K0.size);replace o1:=o1.below hb;replace A1:=A1.below hb;replace A3:=A3.below hb;replace oA:=oA.below hb;replace o2:=o2.below hb;replace A2:=A2.below hb;have z7:=hb.size
  clear hb
    -- the screen stays
  have hAd:=A1.below (bdr w7);have hXd:=hX.below (bdr w7);go_wp2
  rename_i K9 hK9
  replace hK9:=(show Hid _ from hK9);refine wp_region_noPanic ?_;refine wp_region_held_drew (S:=(fun W=>TeB W w5.heap.size 35 t v5/\TeB W w.heap.size 65 t v/\Below w7.heap.size w7 W)) (by kernel_rfl) ⟨hAd,hXd,bdr w7⟩ (fun hHeld=>?_);refine' wpAnyH_take (i:=0) (v:=.agg (teCs t v5)) rfl (by kernel_rfl) (by kernel_rfl) (by kernel_rfl) (fun _ _ _ h=>h) (Or.inl ⟨by rfl,?hy5⟩) hHeld ?hr5
  case hy5=>(intro W hSw;exact run_load_te hSw.1 _ _ _ rfl rfl)
  simp only [Act.put,ZA,ZB,ZC,ZD,ZE];refine' wpAnyH_take (i:=1) (v:=.agg (teCs t v)) rfl (by kernel_rfl) (by kernel_rfl) (by kernel_rfl) (fun _ _ _ h=>h) (Or.inl ⟨by rfl,?hy6⟩) hHeld ?hr6
  case hy6=>(intro W hSw;exact run_load_tl hSw.2.1 _ _ _ rfl rfl)
  refine rd 2 fun K hK=>?_
  go_simp;refine (hto _ (h.below (kb.trans ((bdr w7).mono kb.size))) hsz.out).mono ?_;rintro e wa ⟨va,rfl,hoa,hba⟩;have hba2:=(bdr w7).trans hba;have hAa:=hAd.below hba;have hXa:=hXd.below hba;go_wp2_with fail;refine hK.out _ _ ⟨hAa,hXa,hba2⟩ (fun hHeld=>?_);clear hK K;refine rd 3 fun K hK=>?_
  go_simp;refine (heq0 v5 va _ (o1.sl.below hba2) hoa.sl hsz.out).mono ?_;rintro e wb ⟨rfl,hbb⟩;have hkb:=hba2.trans (hbb.mono hba2.size);have hAb:=hAa.below hbb;have hXb:=hXa.below hbb;go_wp2_with fail;refine hK.out _ _ ⟨hAb,hXb,hkb⟩ (fun hHeld=>?_);clear hK K;refine tk 4 ?_;simp only [Act.put,ZA,ZB,ZC,ZD,ZE,ZF];refine dn ?_;refine hK9.out _ _ ?_;replace kb:=kb.trans (hkb.mono kb.size);replace hX:=hXb;replace hY:=hY.below hkb;replace K0:=K0.trans (hkb.mono K0.size);replace o1:=o1.below hkb;replace A1:=hAb;replace A3:=A3.below hkb;replace oA:=oA.below hkb;replace o2:=o2.below hkb;replace A2:=A2.below hkb;have zb:=hkb.size
  clear hK9 hAa hXa hAb hXb hAd hXd hkb hbb hba hba2 hoa hHeld heq0
    -- the action stays
  have hAd:=A3.below (bdr wb);have hYd:=hY.below (bdr wb);go_wp2
  rename_i K9 hK9
  replace hK9:=(show Hid _ from hK9);refine wp_region_noPanic ?_;refine wp_region_held_drew (S:=(fun W=>AcB W w5a.heap.size 37 q (.slice p5a p5n p5c) (.slice x5a x5n x5c)/\AcB W (w.heap.size+1) 66 q pv tv/\Below wb.heap.size wb W)) (by kernel_rfl) ⟨hAd,hYd,bdr wb⟩ (fun hHeld=>?_);refine' wpAnyH_take (i:=0) (v:=.agg (acA q.kind q.rune (.slice p5a p5n p5c) q.mark (.slice x5a x5n x5c))) rfl (by kernel_rfl) (by kernel_rfl) (by kernel_rfl) (fun _ _ _ h=>h) (Or.inl ⟨by rfl,?hy7⟩) hHeld ?hr7
  case hy7=>(intro W hSw;exact run_load_ai hSw.1 _ _ _ rfl rfl)
  simp only [Act.put,ZA,ZB,ZC,ZD,ZE];refine' wpAnyH_take (i:=1) (v:=.agg (acA q.kind q.rune pv q.mark tv)) rfl (by kernel_rfl) (by kernel_rfl) (by kernel_rfl) (fun _ _ _ h=>h) (Or.inl ⟨by rfl,?hy8⟩) hHeld ?hr8
  case hy8=>(intro W hSw;exact run_load_al hSw.2.1 _ _ _ rfl rfl)
  refine rd 2 fun K hK=>?_
  go_simp;refine (htoA _ (hp.below (kb.trans ((bdr wb).mono kb.size))).l.sl (ht.below (kb.trans ((bdr wb).mono kb.size))).l.sl (by omega) (by omega)).mono ?_;rintro e wc ⟨pc,xc,rfl,hoc,hba⟩;have hba2:=(bdr wb).trans hba;have hAa:=hAd.below hba;have hYa:=hYd.below hba;go_wp2_with fail;refine hK.out _ _ ⟨hAa,hYa,hba2⟩ (fun hHeld=>?_);clear hK K;refine rd 3 fun K hK=>?_
  go_simp;refine (heqA _ _ _ _ _ (OwnI.below oA.head hba2).sl (OwnI.below oA.tail.head hba2).sl hoc.head.sl hoc.tail.head.sl (by omega) (by omega)).mono ?_;rintro e wd ⟨rfl,hbb⟩;have hkb:=hba2.trans (hbb.mono hba2.size);have hAb:=hAa.below hbb;have hYb:=hYa.below hbb;go_wp2_with fail;refine hK.out _ _ ⟨hAb,hYb,hkb⟩ (fun hHeld=>?_);clear hK K;refine tk 4 ?_;simp only [Act.put,ZA,ZB,ZC,ZD,ZE,ZF];refine dn ?_;refine hK9.out _ _ ?_;replace kb:=kb.trans (hkb.mono kb.size);replace hX:=hX.below hkb;replace hY:=hYb;replace K0:=K0.trans (hkb.mono K0.size);replace o1:=o1.below hkb;replace A1:=A1.below hkb;replace A3:=hAb;replace oA:=oA.below hkb;replace o2:=o2.below hkb;replace A2:=A2.below hkb;have zd:=hkb.size
  clear hK9 hAa hYa hAb hYb hAd hYd hkb hbb hba hba2 hoc hHeld heqA
    -- the arguments are marked
  go_wp2_with (refine load_te A1 (by rfl) _ (by rfl) (by rfl) ?_);refine (hmkX _ _ _ _ _ o1 (by have:=K0.size;omega)).mono ?_;rintro e w8 ⟨rfl,_,hgp⟩;have hbm:=hgp.to_below (fun k c=>(hbd1 k c).1) K0.size;replace A2:TeB w8 w6.heap.size 35 R v6:=BlkC.grp A2 hgp (StT.not o1 A2 (by decide) (by decide));replace o2:=o2.grp hgp (fun k c=>by have:=(hbd1 k c).2;omega);replace oA:=oA.grp hgp (fun p hp g e c=>by have:=hbd1 g c;have:=(oA.ownB hp g e).1;omega);replace A3:=A3.grp hgp (fun c=>by have:=hbd1 _ c;omega);have hwW:w.heap.size<=W4.heap.size:=hk0;replace kb:=kb.trans (hbm.mono hwW);replace hX:=hX.lowB hbm hX0;replace hY:=hY.lowB hbm hY0;replace K0:=K0.trans hbm;have z8:=hgp.size;clear hgp hbm hmkX o1 A1 hbd1;go_wp2_with (refine load_ai A3 (by rfl) _ (by rfl) (by rfl) ?_);refine (hmkA _ _ _ _ _ oA (by have:=K0.size;omega)).mono ?_;rintro e w8a ⟨rfl,_,hgv⟩;have hgp:=GrP.of_grv hgv;have hbdA:∀ k,((Value.slice p5a p5n p5c).ownBlock=some k\/(Value.slice x5a x5n x5c).ownBlock=some k)->W5.heap.size<=k/\k<Wq.heap.size:=fun k c=>c.elim (hbdP.out k) (hbdX.out k)
  have hbm:=hgp.to_below (B:=W4.heap.size) (fun k c=>by have:=hbdA k c;omega) K0.size;replace A2:TeB w8a w6.heap.size 35 R v6:=BlkC.grp A2 hgp (fun c=>by have:=hbdA _ c;omega);replace o2:=o2.grp hgp (fun k c=>(hbdA k c).2);replace kb:=kb.trans (hbm.mono hwW);replace hX:=hX.lowB hbm hX0;replace hY:=hY.lowB hbm hY0;replace K0:=K0.trans hbm;have z8a:=hgp.size
  clear hgp hgv hbm hmkA oA A3 hbdA hbdP hbdX
    -- the answer stays
  go_wp2_with (first
   | (refine load_te A2 (by rfl) _ (by rfl) (by rfl) ?_)
   | (refine load_te (A0.below K0) (by rfl) _ (by rfl) (by rfl) ?_))
  refine (heqR _ _ _ o2.sl (s0.below K0)).mono ?_;rintro e w9 ⟨rfl,hb⟩;replace kb:=kb.trans (hb.mono kb.size);replace hX:=hX.below hb;replace hY:=hY.below hb;replace K0:=K0.trans (hb.mono K0.size);replace o2:=o2.below hb;replace A2:=A2.below hb;have z9:=hb.size
  clear hb
    -- the answer is marked
  have hbd2:∀ k,StT vg6 vo6 v6 k->Wq.heap.size<=k:=fun k c=>(StT.bd o2 c).1
  go_wp2_with (refine load_te A2 (by rfl) _ (by rfl) (by rfl) ?_);refine (hmkR _ _ _ _ _ o2 (by omega)).mono ?_;rintro e w10 ⟨rfl,o3,hgp⟩;have hbm:=hgp.to_below (B:=W4.heap.size) (fun k c=>by have:=hbd2 k c;omega) K0.size;replace A2:TeB w10 w6.heap.size 35 R v6:=BlkC.grp A2 hgp (StT.not o2 A2 (by decide) (by decide));replace kb:=kb.trans (hbm.mono hwW);replace hX:=hX.lowB hbm hX0;replace hY:=hY.lowB hbm hY0;replace K0:=K0.trans hbm;have sm:=o3.sl;clear hgp hbm hmkR o2 o3 hbd2;go_wp2_with (refine load_te A2 (by rfl) _ (by rfl) (by rfl) ?_);refine (hhdR _ _ sm).mono ?_;rintro e w11 ⟨rfl,hb⟩;replace kb:=kb.trans (hb.mono kb.size);replace hX:=hX.below hb;replace hY:=hY.below hb;replace K0:=K0.trans (hb.mono K0.size);replace A2:=A2.below hb;replace sm:=sm.below hb
  clear hb
    -- the function is called anew
  have A0w:=A0.below K0;have s0w:=s0.below K0;have hSb:∀ W,Below w11.heap.size w11 W->TeB W w.heap.size 65 t v/\AcB W (w.heap.size+1) 66 q pv tv/\Below w11.heap.size w11 W:=fun W k=>⟨hX.below k,hY.below k,k⟩
  clear A0 s0 K0 hX0 hY0 hk0 hW45 hw5l zA hw5q z5 z6 z7 zb zd z8 z8a z9 hwW;go_wp2
  rename_i K31 hK31
  have hcut31:∀ (j0 j1 j2 j3 j4 j5 j7 j8 j10 j12 j14 j15 j16 j17 j18 j19 j20 j21 j22 j23 j24 j25 j26 j27 j28 j29 j30 j31 j32 j33 j34 j35 j36 j37 j38 j39 j40 j41 j42 j43 j44 j45 j46 j47 j48 j49 j50 j51 j52 j53 j54 j55 j56 j57 j58 j59 j60 j61 j62 j63 j64 j65 j66 j67 j68 j69 j70 j71 j72 j73 j74 j75 j76 j77 j78 j79 j80 j81 j82 j83 j84 j85 j86 j87 j88 j89 j90 j91:Value) (B13:Nat) (v13:Tv) (W:World),Below w11.heap.size w11 W->TeB W B13 35 R v13->SlT W R v13->K31 { tmps:=#[j0,j1,j2,j3,j4,j5,.pointer (some ⟨B6,0,none⟩),j7,j8,.pointer (some ⟨w6.heap.size,0,none⟩),j10,.int .i64 mR,j12,.pointer (some ⟨B13,0,none⟩),j14,j15,j16,j17,j18,j19,j20,j21,j22,j23,j24,j25,j26,j27,j28,j29,j30,j31,j32,j33,j34,j35,j36,j37,j38,j39,j40,j41,j42,j43,j44,j45,j46,j47,j48,j49,j50,j51,j52,j53,j54,j55,j56,j57,j58,j59,j60,j61,j62,j63,j64,j65,j66,j67,j68,j69,j70,j71,j72,j73,j74,j75,j76,j77,j78,j79,j80,j81,j82,j83,j84,j85,j86,j87,j88,j89,j90,j91],defers:=[] } W:=by
   intro j0 j1 j2 j3 j4 j5 j7 j8 j10 j12 j14 j15 j16 j17 j18 j19 j20 j21 j22 j23 j24 j25 j26 j27 j28 j29 j30 j31 j32 j33 j34 j35 j36 j37 j38 j39 j40 j41 j42 j43 j44 j45 j46 j47 j48 j49 j50 j51 j52 j53 j54 j55 j56 j57 j58 j59 j60 j61 j62 j63 j64 j65 j66 j67 j68 j69 j70 j71 j72 j73 j74 j75 j76 j77 j78 j79 j80 j81 j82 j83 j84 j85 j86 j87 j88 j89 j90 j91 B13 v13 W13 k13 A6 s6;clear hSb;apply hK31
   clear hK31;replace A2:=A2.below k13;replace A0w:=A0w.below k13;replace s0w:=s0w.below k13;replace sm:=sm.below k13;replace kb:=kb.trans (k13.mono kb.size);clear k13
   go_wp2_with (first
    | (refine load_te A6 (by rfl) _ (by rfl) (by rfl) ?_)
    | (refine load_te A0w (by rfl) _ (by rfl) (by rfl) ?_))
   refine (heqR _ _ _ s6 s0w).mono ?_;rintro e w14 ⟨rfl,hb⟩;replace kb:=kb.trans (hb.mono kb.size);replace A2:=A2.below hb;replace sm:=sm.below hb;clear hb;go_wp2_with (refine load_te A2 (by rfl) _ (by rfl) (by rfl) ?_);refine (hhdR _ _ sm).mono ?_;rintro e w15 ⟨rfl,hb⟩;replace kb:=kb.trans (hb.mono kb.size);clear hb;go_wp2;go_ret;exact ⟨rfl,kb⟩
  refine wp_region_noPanic ?_;refine wp_region_held_drew (S:=(fun W=>TeB W w.heap.size 65 t v/\AcB W (w.heap.size+1) 66 q pv tv/\Below w11.heap.size w11 W)) (by kernel_rfl) (hSb _ (bdr w11)) (fun hHeld=>?_);refine' wpAnyH_take (i:=0) (v:=.agg (teCs t v)) rfl (by kernel_rfl) (by kernel_rfl) (by kernel_rfl) (fun _ _ _ h=>h) (Or.inl ⟨by rfl,?hy3⟩) hHeld ?hr3
  case hy3=>(intro W hSw;exact run_load_tl hSw.1 _ _ _ rfl rfl)
  simp only [Act.put,ZA,ZB,ZC,ZD,ZE];refine' wpAnyH_take (i:=2) (v:=.agg (acA q.kind q.rune pv q.mark tv)) rfl (by kernel_rfl) (by kernel_rfl) (by kernel_rfl) (fun _ _ _ h=>h) (Or.inl ⟨by rfl,?hy4⟩) hHeld ?hr4
  case hy4=>(intro W hSw;exact run_load_al hSw.2.1 _ _ _ rfl rfl)
  simp only [Act.put,ZA,ZB,ZC,ZD,ZE,ZF];have k2d:=bdr w11;generalize w11.drew=wd at *;refine rd2 1 5 (fun K hK=>?_) fun K hK=>?_
  ·go_simp
   refine (hto _ (h.below (kb.trans (k2d.mono kb.size))) hsz.out).mono ?_;rintro e w12 ⟨v12,rfl,ho,hb⟩;have ho3:=ho.sl;clear ho;have k3:=k2d.trans (hb.mono k2d.size);clear hb;go_wp2_with fail;refine hK.out _ _ (hSb _ k3) (fun hHeld=>?_);clear hK K;refine rd2 3 5 (fun K hK=>?_) fun K hK=>?_
   ·go_simp
    refine (htoA _ (hp.below (kb.trans (k3.mono kb.size))).l.sl (ht.below (kb.trans (k3.mono kb.size))).l.sl (by omega) (by omega)).mono ?_;rintro e w12a ⟨p3,x3,rfl,hoA,hb⟩;replace hoA:=hoA.low (show 0<=_ from Nat.zero_le _);have k3a:=k3.trans (hb.mono k3.size);replace ho3:=ho3.below hb;clear hb;go_wp2_with fail;refine hK.out _ _ (hSb _ k3a) (fun hHeld=>?_);clear hK K;refine rd2 4 5 (fun K hK=>?_) fun K hK=>?_
    ·go_simp
     refine (him v12 p3 x3 _ (hS.below (kb.trans (k3a.mono kb.size)) hS.lt) ho3 hsz.out (SlN.of_own hoA.head) (SlN.of_own hoA.tail.head) lp lt' (fun g e=>(hoA.head.lt g e).2)).mono ?_;rintro e w13 ⟨v13,vg13,vo13,rfl,os4,hb⟩;have hone4:=os4.sl.one;clear ho3 hoA;have k4:=k3a.trans (hb.mono k3a.size);clear hb;go_wp2_with fail;refine hK.out _ _ (hSb _ k4) (fun hHeld=>?_);clear hK K;refine rd 5 fun K hK=>?_
     go_simp;have hal:=bal' w13 zO;have hZa:=TB.new w13 zL;have hkA:=k4.trans (hal.mono k4.size);refine hK.out _ _ (hSb _ hkA) (fun hHeld=>?_);clear hK K
     (try simp only [Act.put,ZA,ZB,ZC,ZD,ZE,ZF])
     obtain ⟨Wa,hWa⟩:∃ Wa,Wa=(w13.alloc zO):=⟨_,rfl⟩;obtain ⟨Ba,hBa⟩:∃ Ba,Ba=w13.heap.size:=⟨_,rfl⟩;replace os4:=os4.below hal;rw [<- hWa] at hal hZa hkA hHeld os4 ⊢
     rw [<- hBa] at hZa ⊢
     have hBge:w11.heap.size<=Ba:=by rw [hBa];exact k4.size
     clear hWa hBa hal;refine rdo 6 fun K hK=>?_
     refine wp_store_te _ _ (by rfl) hone4 hZa (by rfl) (by rfl) (by rfl) ?_;intro We hg hA hzs;have hkE:=hkA.grown hg hkA.size (fun k e=>by cases e;exact hBge);refine hK.out _ _ (hSb We hkE) (fun hHeld=>?_);clear hK K
     (try simp only [Act.put])
     refine dn ?_;exact hcut31 _ _ _ _ _ _ _ _ _ _ _ _ _ _ _ _ _ _ _ _ _ _ _ _ _ _ _ _ _ _ _ _ _ _ _ _ _ _ _ _ _ _ _ _ _ _ _ _ _ _ _ _ _ _ _ _ _ _ _ _ _ _ _ _ _ _ _ _ _ _ _ _ _ _ _ _ _ _ _ _ _ _ _ _ _ _ _ _ Ba v13 We hkE hA (os4.grown hg hZa (by decide) (by decide) (by decide)).sl
    ·go_simp
     have hal:=bal' w12a zO;have hZa:=TB.new w12a zL;have hkA:=k3a.trans (hal.mono k3a.size);refine hK.out _ _ (hSb _ hkA) (fun hHeld=>?_);clear hK K
     (try simp only [Act.put,ZA,ZB,ZC,ZD,ZE,ZF])
     obtain ⟨Wa,hWa⟩:∃ Wa,Wa=(w12a.alloc zO):=⟨_,rfl⟩;obtain ⟨Ba,hBa⟩:∃ Ba,Ba=w12a.heap.size:=⟨_,rfl⟩;replace ho3:=ho3.below hal;replace hoA:=hoA.below hal;rw [<- hWa] at hal hZa hkA hHeld ho3 hoA ⊢
     rw [<- hBa] at hZa ⊢
     have hBge:w11.heap.size<=Ba:=by rw [hBa];exact k3a.size
     clear hWa hBa hal;refine rd 4 fun K hK=>?_
     go_simp;refine (him v12 p3 x3 _ (hS.below (kb.trans (hkA.mono kb.size)) hS.lt) ho3 hsz.out (SlN.of_own hoA.head) (SlN.of_own hoA.tail.head) lp lt' (fun g e=>(hoA.head.lt g e).2)).mono ?_;rintro e w13 ⟨v13,vg13,vo13,rfl,os4,hb⟩;have hone4:=os4.sl.one;clear ho3 hoA;have k4:=hkA.trans (hb.mono hkA.size);replace hZa:=hZa.below hb;clear hb;go_wp2_with fail;refine hK.out _ _ (hSb _ k4) (fun hHeld=>?_);clear hK K;refine rdo 6 fun K hK=>?_
     refine wp_store_te _ _ (by rfl) hone4 hZa (by rfl) (by rfl) (by rfl) ?_;intro We hg hA hzs;have hkE:=k4.grown hg k4.size (fun k e=>by cases e;exact hBge);refine hK.out _ _ (hSb We hkE) (fun hHeld=>?_);clear hK K
     (try simp only [Act.put])
     refine dn ?_;exact hcut31 _ _ _ _ _ _ _ _ _ _ _ _ _ _ _ _ _ _ _ _ _ _ _ _ _ _ _ _ _ _ _ _ _ _ _ _ _ _ _ _ _ _ _ _ _ _ _ _ _ _ _ _ _ _ _ _ _ _ _ _ _ _ _ _ _ _ _ _ _ _ _ _ _ _ _ _ _ _ _ _ _ _ _ _ _ _ _ _ Ba v13 We hkE hA (os4.grown hg hZa (by decide) (by decide) (by decide)).sl
   ·go_simp
    have hal:=bal' w12 zO;have hZa:=TB.new w12 zL;have hkA:=k3.trans (hal.mono k3.size);refine hK.out _ _ (hSb _ hkA) (fun hHeld=>?_);clear hK K
    (try simp only [Act.put,ZA,ZB,ZC,ZD,ZE,ZF])
    obtain ⟨Wa,hWa⟩:∃ Wa,Wa=(w12.alloc zO):=⟨_,rfl⟩;obtain ⟨Ba,hBa⟩:∃ Ba,Ba=w12.heap.size:=⟨_,rfl⟩;replace ho3:=ho3.below hal;rw [<- hWa] at hal hZa hkA hHeld ho3 ⊢
    rw [<- hBa] at hZa ⊢
    have hBge:w11.heap.size<=Ba:=by rw [hBa];exact k3.size
    clear hWa hBa hal;refine rd 3 fun K hK=>?_
    go_simp;refine (htoA _ (hp.below (kb.trans (hkA.mono kb.size))).l.sl (ht.below (kb.trans (hkA.mono kb.size))).l.sl (by omega) (by omega)).mono ?_;rintro e w12a ⟨p3,x3,rfl,hoA,hb⟩;replace hoA:=hoA.low (show 0<=_ from Nat.zero_le _);have k3a:=hkA.trans (hb.mono hkA.size);replace ho3:=ho3.below hb;replace hZa:=hZa.below hb;clear hb;go_wp2_with fail;refine hK.out _ _ (hSb _ k3a) (fun hHeld=>?_);clear hK K;refine rd 4 fun K hK=>?_
    go_simp;refine (him v12 p3 x3 _ (hS.below (kb.trans (k3a.mono kb.size)) hS.lt) ho3 hsz.out (SlN.of_own hoA.head) (SlN.of_own hoA.tail.head) lp lt' (fun g e=>(hoA.head.lt g e).2)).mono ?_;rintro e w13 ⟨v13,vg13,vo13,rfl,os4,hb⟩;have hone4:=os4.sl.one;clear ho3 hoA;have k4:=k3a.trans (hb.mono k3a.size);replace hZa:=hZa.below hb;clear hb;go_wp2_with fail;refine hK.out _ _ (hSb _ k4) (fun hHeld=>?_);clear hK K;refine rdo 6 fun K hK=>?_
    refine wp_store_te _ _ (by rfl) hone4 hZa (by rfl) (by rfl) (by rfl) ?_;intro We hg hA hzs;have hkE:=k4.grown hg k4.size (fun k e=>by cases e;exact hBge);refine hK.out _ _ (hSb We hkE) (fun hHeld=>?_);clear hK K
    (try simp only [Act.put])
    refine dn ?_;exact hcut31 _ _ _ _ _ _ _ _ _ _ _ _ _ _ _ _ _ _ _ _ _ _ _ _ _ _ _ _ _ _ _ _ _ _ _ _ _ _ _ _ _ _ _ _ _ _ _ _ _ _ _ _ _ _ _ _ _ _ _ _ _ _ _ _ _ _ _ _ _ _ _ _ _ _ _ _ _ _ _ _ _ _ _ _ _ _ _ _ Ba v13 We hkE hA (os4.grown hg hZa (by decide) (by decide) (by decide)).sl
  ·go_simp
   have hal:=bal' wd zO;have hZa:=TB.new wd zL;have hkA:=k2d.trans (hal.mono k2d.size);refine hK.out _ _ (hSb _ hkA) (fun hHeld=>?_);clear hK K
   (try simp only [Act.put,ZA,ZB,ZC,ZD,ZE,ZF])
   obtain ⟨Wa,hWa⟩:∃ Wa,Wa=(wd.alloc zO):=⟨_,rfl⟩;obtain ⟨Ba,hBa⟩:∃ Ba,Ba=wd.heap.size:=⟨_,rfl⟩;rw [<- hWa] at hal hZa hkA hHeld ⊢
   rw [<- hBa] at hZa ⊢
   have hBge:w11.heap.size<=Ba:=by rw [hBa];exact k2d.size
   clear hWa hBa hal;refine rd 1 fun K hK=>?_
   go_simp;refine (hto _ (h.below (kb.trans (hkA.mono kb.size))) hsz.out).mono ?_;rintro e w12 ⟨v12,rfl,ho,hb⟩;have ho3:=ho.sl;clear ho;have k3:=hkA.trans (hb.mono hkA.size);replace hZa:=hZa.below hb;clear hb;go_wp2_with fail;refine hK.out _ _ (hSb _ k3) (fun hHeld=>?_);clear hK K;refine rd 3 fun K hK=>?_
   go_simp;refine (htoA _ (hp.below (kb.trans (k3.mono kb.size))).l.sl (ht.below (kb.trans (k3.mono kb.size))).l.sl (by omega) (by omega)).mono ?_;rintro e w12a ⟨p3,x3,rfl,hoA,hb⟩;replace hoA:=hoA.low (show 0<=_ from Nat.zero_le _);have k3a:=k3.trans (hb.mono k3.size);replace ho3:=ho3.below hb;replace hZa:=hZa.below hb;clear hb;go_wp2_with fail;refine hK.out _ _ (hSb _ k3a) (fun hHeld=>?_);clear hK K;refine rd 4 fun K hK=>?_
   go_simp;refine (him v12 p3 x3 _ (hS.below (kb.trans (k3a.mono kb.size)) hS.lt) ho3 hsz.out (SlN.of_own hoA.head) (SlN.of_own hoA.tail.head) lp lt' (fun g e=>(hoA.head.lt g e).2)).mono ?_;rintro e w13 ⟨v13,vg13,vo13,rfl,os4,hb⟩;have hone4:=os4.sl.one;clear ho3 hoA;have k4:=k3a.trans (hb.mono k3a.size);replace hZa:=hZa.below hb;clear hb;go_wp2_with fail;refine hK.out _ _ (hSb _ k4) (fun hHeld=>?_);clear hK K;refine rdo 6 fun K hK=>?_
   refine wp_store_te _ _ (by rfl) hone4 hZa (by rfl) (by rfl) (by rfl) ?_;intro We hg hA hzs;have hkE:=k4.grown hg k4.size (fun k e=>by cases e;exact hBge);refine hK.out _ _ (hSb We hkE) (fun hHeld=>?_);clear hK K
   (try simp only [Act.put])
   refine dn ?_;exact hcut31 _ _ _ _ _ _ _ _ _ _ _ _ _ _ _ _ _ _ _ _ _ _ _ _ _ _ _ _ _ _ _ _ _ _ _ _ _ _ _ _ _ _ _ _ _ _ _ _ _ _ _ _ _ _ _ _ _ _ _ _ _ _ _ _ _ _ _ _ _ _ _ _ _ _ _ _ _ _ _ _ _ _ _ _ _ _ _ _ Ba v13 We hkE hA (os4.grown hg hZa (by decide) (by decide) (by decide)).sl
 refine wp_region_noPanic ?_;refine wp_region_held_drew (S:=(fun W=>TeB W w.heap.size 65 t v/\AcB W (w.heap.size+1) 66 q pv tv/\Below w2a.heap.size w2a W)) (by kernel_rfl) (hSb _ (bdr w2a)) (fun hHeld=>?_);refine' wpAnyH_take (i:=0) (v:=.agg (teCs t v)) rfl (by kernel_rfl) (by kernel_rfl) (by kernel_rfl) (fun _ _ _ h=>h) (Or.inl ⟨by rfl,?hy1⟩) hHeld ?hr1
 case hy1=>(intro W hSw;exact run_load_tl hSw.1 _ _ _ rfl rfl)
 simp only [Act.put,ZA,ZB,ZC,ZD,ZE];refine' wpAnyH_take (i:=2) (v:=.agg (acA q.kind q.rune pv q.mark tv)) rfl (by kernel_rfl) (by kernel_rfl) (by kernel_rfl) (fun _ _ _ h=>h) (Or.inl ⟨by rfl,?hy2⟩) hHeld ?hr2
 case hy2=>(intro W hSw;exact run_load_al hSw.2.1 _ _ _ rfl rfl)
 simp only [Act.put,ZA,ZB,ZC,ZD,ZE,ZF];have k2d:=bdr w2a;generalize w2a.drew=wd at *;refine rd2 1 5 (fun K hK=>?_) fun K hK=>?_
 ·go_simp
  refine (hto _ (h.below (kb.trans (k2d.mono kb.size))) hsz.out).mono ?_;rintro e w3 ⟨v3,rfl,ho,hb⟩;have ho3:=ho.sl;clear ho;have k3:=k2d.trans (hb.mono k2d.size);clear hb;go_wp2_with fail;refine hK.out _ _ (hSb _ k3) (fun hHeld=>?_);clear hK K;refine rd2 3 5 (fun K hK=>?_) fun K hK=>?_
  ·go_simp
   refine (htoA _ (hp.below (kb.trans (k3.mono kb.size))).l.sl (ht.below (kb.trans (k3.mono kb.size))).l.sl (by omega) (by omega)).mono ?_;rintro e w3a ⟨p3,x3,rfl,hoA,hb⟩;replace hoA:=hoA.low (show 0<=_ from Nat.zero_le _);have k3a:=k3.trans (hb.mono k3.size);replace ho3:=ho3.below hb;clear hb;go_wp2_with fail;refine hK.out _ _ (hSb _ k3a) (fun hHeld=>?_);clear hK K;refine rd2 4 5 (fun K hK=>?_) fun K hK=>?_
   ·go_simp
    refine (hsp v3 p3 x3 _ ho3 hsz.out (SlN.of_own hoA.head) (SlN.of_own hoA.tail.head) lp lt' (fun g e=>(hoA.head.lt g e).2)).mono ?_;rintro e w4 ⟨v4,vg4,vo4,rfl,os4,hb⟩;have hone4:=os4.sl.one;clear ho3 hoA;have k4:=k3a.trans (hb.mono k3a.size);clear hb;go_wp2_with fail;refine hK.out _ _ (hSb _ k4) (fun hHeld=>?_);clear hK K;refine rd 5 fun K hK=>?_
    go_simp;have hal:=bal' w4 zO;have hZa:=TB.new w4 zL;have hkA:=k4.trans (hal.mono k4.size);refine hK.out _ _ (hSb _ hkA) (fun hHeld=>?_);clear hK K
    (try simp only [Act.put,ZA,ZB,ZC,ZD,ZE,ZF])
    obtain ⟨Wa,hWa⟩:∃ Wa,Wa=(w4.alloc zO):=⟨_,rfl⟩;obtain ⟨Ba,hBa⟩:∃ Ba,Ba=w4.heap.size:=⟨_,rfl⟩;replace os4:=os4.below hal;rw [<- hWa] at hal hZa hkA hHeld os4 ⊢
    rw [<- hBa] at hZa ⊢
    have hBge:w2a.heap.size<=Ba:=by rw [hBa];exact k4.size
    clear hWa hBa hal;refine rdo 6 fun K hK=>?_
    refine wp_store_te _ _ (by rfl) hone4 hZa (by rfl) (by rfl) (by rfl) ?_;intro We hg hA hzs;have hkE:=hkA.grown hg hkA.size (fun k e=>by cases e;exact hBge);refine hK.out _ _ (hSb We hkE) (fun hHeld=>?_);clear hK K
    (try simp only [Act.put])
    refine dn ?_;exact hcut8 _ _ _ _ _ _ _ _ _ _ _ _ _ _ _ _ _ _ _ _ _ _ _ _ _ _ _ _ _ _ _ _ _ _ _ _ _ _ _ _ _ _ _ _ _ _ _ _ _ _ _ _ _ _ _ _ _ _ _ _ _ _ _ _ _ _ _ _ _ _ _ _ _ _ _ _ _ _ _ _ _ _ _ _ _ _ Ba v4 We (kb.trans (hkE.mono kb.size)) (hSb We hkE).1 (hSb We hkE).2.1 hA (os4.grown hg hZa (by decide) (by decide) (by decide)).sl
   ·go_simp
    have hal:=bal' w3a zO;have hZa:=TB.new w3a zL;have hkA:=k3a.trans (hal.mono k3a.size);refine hK.out _ _ (hSb _ hkA) (fun hHeld=>?_);clear hK K
    (try simp only [Act.put,ZA,ZB,ZC,ZD,ZE,ZF])
    obtain ⟨Wa,hWa⟩:∃ Wa,Wa=(w3a.alloc zO):=⟨_,rfl⟩;obtain ⟨Ba,hBa⟩:∃ Ba,Ba=w3a.heap.size:=⟨_,rfl⟩;replace ho3:=ho3.below hal;replace hoA:=hoA.below hal;rw [<- hWa] at hal hZa hkA hHeld ho3 hoA ⊢
    rw [<- hBa] at hZa ⊢
    have hBge:w2a.heap.size<=Ba:=by rw [hBa];exact k3a.size
    clear hWa hBa hal;refine rd 4 fun K hK=>?_
    go_simp;refine (hsp v3 p3 x3 _ ho3 hsz.out (SlN.of_own hoA.head) (SlN.of_own hoA.tail.head) lp lt' (fun g e=>(hoA.head.lt g e).2)).mono ?_;rintro e w4 ⟨v4,vg4,vo4,rfl,os4,hb⟩;have hone4:=os4.sl.one;clear ho3 hoA;have k4:=hkA.trans (hb.mono hkA.size);replace hZa:=hZa.below hb;clear hb;go_wp2_with fail;refine hK.out _ _ (hSb _ k4) (fun hHeld=>?_);clear hK K;refine rdo 6 fun K hK=>?_
    refine wp_store_te _ _ (by rfl) hone4 hZa (by rfl) (by rfl) (by rfl) ?_;intro We hg hA hzs;have hkE:=k4.grown hg k4.size (fun k e=>by cases e;exact hBge);refine hK.out _ _ (hSb We hkE) (fun hHeld=>?_);clear hK K
    (try simp only [Act.put])
    refine dn ?_;exact hcut8 _ _ _ _ _ _ _ _ _ _ _ _ _ _ _ _ _ _ _ _ _ _ _ _ _ _ _ _ _ _ _ _ _ _ _ _ _ _ _ _ _ _ _ _ _ _ _ _ _ _ _ _ _ _ _ _ _ _ _ _ _ _ _ _ _ _ _ _ _ _ _ _ _ _ _ _ _ _ _ _ _ _ _ _ _ _ Ba v4 We (kb.trans (hkE.mono kb.size)) (hSb We hkE).1 (hSb We hkE).2.1 hA (os4.grown hg hZa (by decide) (by decide) (by decide)).sl
  ·go_simp
   have hal:=bal' w3 zO;have hZa:=TB.new w3 zL;have hkA:=k3.trans (hal.mono k3.size);refine hK.out _ _ (hSb _ hkA) (fun hHeld=>?_);clear hK K
   (try simp only [Act.put,ZA,ZB,ZC,ZD,ZE,ZF])
   obtain ⟨Wa,hWa⟩:∃ Wa,Wa=(w3.alloc zO):=⟨_,rfl⟩;obtain ⟨Ba,hBa⟩:∃ Ba,Ba=w3.heap.size:=⟨_,rfl⟩;replace ho3:=ho3.below hal;rw [<- hWa] at hal hZa hkA hHeld ho3 ⊢
   rw [<- hBa] at hZa ⊢
   have hBge:w2a.heap.size<=Ba:=by rw [hBa];exact k3.size
   clear hWa hBa hal;refine rd 3 fun K hK=>?_
   go_simp;refine (htoA _ (hp.below (kb.trans (hkA.mono kb.size))).l.sl (ht.below (kb.trans (hkA.mono kb.size))).l.sl (by omega) (by omega)).mono ?_;rintro e w3a ⟨p3,x3,rfl,hoA,hb⟩;replace hoA:=hoA.low (show 0<=_ from Nat.zero_le _);have k3a:=hkA.trans (hb.mono hkA.size);replace ho3:=ho3.below hb;replace hZa:=hZa.below hb;clear hb;go_wp2_with fail;refine hK.out _ _ (hSb _ k3a) (fun hHeld=>?_);clear hK K;refine rd 4 fun K hK=>?_
   go_simp;refine (hsp v3 p3 x3 _ ho3 hsz.out (SlN.of_own hoA.head) (SlN.of_own hoA.tail.head) lp lt' (fun g e=>(hoA.head.lt g e).2)).mono ?_;rintro e w4 ⟨v4,vg4,vo4,rfl,os4,hb⟩;have hone4:=os4.sl.one;clear ho3 hoA;have k4:=k3a.trans (hb.mono k3a.size);replace hZa:=hZa.below hb;clear hb;go_wp2_with fail;refine hK.out _ _ (hSb _ k4) (fun hHeld=>?_);clear hK K;refine rdo 6 fun K hK=>?_
   refine wp_store_te _ _ (by rfl) hone4 hZa (by rfl) (by rfl) (by rfl) ?_;intro We hg hA hzs;have hkE:=k4.grown hg k4.size (fun k e=>by cases e;exact hBge);refine hK.out _ _ (hSb We hkE) (fun hHeld=>?_);clear hK K
   (try simp only [Act.put])
   refine dn ?_;exact hcut8 _ _ _ _ _ _ _ _ _ _ _ _ _ _ _ _ _ _ _ _ _ _ _ _ _ _ _ _ _ _ _ _ _ _ _ _ _ _ _ _ _ _ _ _ _ _ _ _ _ _ _ _ _ _ _ _ _ _ _ _ _ _ _ _ _ _ _ _ _ _ _ _ _ _ _ _ _ _ _ _ _ _ _ _ _ _ Ba v4 We (kb.trans (hkE.mono kb.size)) (hSb We hkE).1 (hSb We hkE).2.1 hA (os4.grown hg hZa (by decide) (by decide) (by decide)).sl
 ·go_simp
  have hal:=bal' wd zO;have hZa:=TB.new wd zL;have hkA:=k2d.trans (hal.mono k2d.size);refine hK.out _ _ (hSb _ hkA) (fun hHeld=>?_);clear hK K
  (try simp only [Act.put,ZA,ZB,ZC,ZD,ZE,ZF])
  obtain ⟨Wa,hWa⟩:∃ Wa,Wa=(wd.alloc zO):=⟨_,rfl⟩;obtain ⟨Ba,hBa⟩:∃ Ba,Ba=wd.heap.size:=⟨_,rfl⟩;rw [<- hWa] at hal hZa hkA hHeld ⊢
  rw [<- hBa] at hZa ⊢
  have hBge:w2a.heap.size<=Ba:=by rw [hBa];exact k2d.size
  clear hWa hBa hal;refine rd 1 fun K hK=>?_
  go_simp;refine (hto _ (h.below (kb.trans (hkA.mono kb.size))) hsz.out).mono ?_;rintro e w3 ⟨v3,rfl,ho,hb⟩;have ho3:=ho.sl;clear ho;have k3:=hkA.trans (hb.mono hkA.size);replace hZa:=hZa.below hb;clear hb;go_wp2_with fail;refine hK.out _ _ (hSb _ k3) (fun hHeld=>?_);clear hK K;refine rd 3 fun K hK=>?_
  go_simp;refine (htoA _ (hp.below (kb.trans (k3.mono kb.size))).l.sl (ht.below (kb.trans (k3.mono kb.size))).l.sl (by omega) (by omega)).mono ?_;rintro e w3a ⟨p3,x3,rfl,hoA,hb⟩;replace hoA:=hoA.low (show 0<=_ from Nat.zero_le _);have k3a:=k3.trans (hb.mono k3.size);replace ho3:=ho3.below hb;replace hZa:=hZa.below hb;clear hb;go_wp2_with fail;refine hK.out _ _ (hSb _ k3a) (fun hHeld=>?_);clear hK K;refine rd 4 fun K hK=>?_
  go_simp;refine (hsp v3 p3 x3 _ ho3 hsz.out (SlN.of_own hoA.head) (SlN.of_own hoA.tail.head) lp lt' (fun g e=>(hoA.head.lt g e).2)).mono ?_;rintro e w4 ⟨v4,vg4,vo4,rfl,os4,hb⟩;have hone4:=os4.sl.one;clear ho3 hoA;have k4:=k3a.trans (hb.mono k3a.size);replace hZa:=hZa.below hb;clear hb;go_wp2_with fail;refine hK.out _ _ (hSb _ k4) (fun hHeld=>?_);clear hK K;refine rdo 6 fun K hK=>?_
  refine wp_store_te _ _ (by rfl) hone4 hZa (by rfl) (by rfl) (by rfl) ?_;intro We hg hA hzs;have hkE:=k4.grown hg k4.size (fun k e=>by cases e;exact hBge);refine hK.out _ _ (hSb We hkE) (fun hHeld=>?_);clear hK K
  (try simp only [Act.put])
  refine dn ?_;exact hcut8 _ _ _ _ _ _ _ _ _ _ _ _ _ _ _ _ _ _ _ _ _ _ _ _ _ _ _ _ _ _ _ _ _ _ _ _ _ _ _ _ _ _ _ _ _ _ _ _ _ _ _ _ _ _ _ _ _ _ _ _ _ _ _ _ _ _ _ _ _ _ _ _ _ _ _ _ _ _ _ _ _ _ _ _ _ _ Ba v4 We (kb.trans (hkE.mono kb.size)) (hSb We hkE).1 (hSb We hkE).2.1 hA (os4.grown hg hZa (by decide) (by decide) (by decide)).sl
section
instance:Inhabited Ce:=⟨Ce.zero⟩
variable {H : Type} {enc : TypeId × Value → H} {w : World} {base : Nat} {spare : Nat → Bool} {held : Bool}
theorem style_cs {fuel:Nat} {cs:List Value} {x:DataW H×List MemPlace} (hf:DataW.trod enc Tryz.prog w base spare held fuel 61 cs=some x) :
  ∃ s:St,cs=[.int .i64 s.fore,.int .i64 s.back,.bool s.bold,.bool s.under,.bool s.turned]:=by
 obtain ⟨xs,n,_,_,hl,hlen,hfs⟩:=DataW.trod_struct Tryz.underlying61 hf;have e:Tryz.prog.cellsOf 61=5:=by kernel_rfl
 have ei:Tryz.prog.cellsOf 2=1:=by kernel_rfl
 have eb:Tryz.prog.cellsOf 4=1:=by kernel_rfl
 match cs,hl.trans e,xs,hlen with
 | [c0,c1,c2,c3,c4],_,[x0,x1,x2,x3,x4],_ =>
  have h0:=hfs 0 _ rfl;have h1:=hfs 1 _ rfl;have h2:=hfs 2 _ rfl;have h3:=hfs 3 _ rfl;have h4:=hfs 4 _ rfl;simp [ei,eb] at h0 h1 h2 h3 h4;obtain ⟨k0,q0,_,_⟩:=DataW.trod_int Tryz.underlying2 h0;obtain ⟨k1,q1,_,_⟩:=DataW.trod_int Tryz.underlying2 h1;obtain ⟨k2,q2,_⟩:=DataW.trod_bool Tryz.underlying4 h2;obtain ⟨k3,q3,_⟩:=DataW.trod_bool Tryz.underlying4 h3;obtain ⟨k4,q4,_⟩:=DataW.trod_bool Tryz.underlying4 h4;simp at q0 q1 q2 q3 q4;subst q0;subst q1;subst q2;subst q3;subst q4;exact ⟨⟨k0,k1,k2,k3,k4⟩,rfl⟩
theorem cell_cs {fuel:Nat} {cs:List Value} {x:DataW H×List MemPlace} (hf:DataW.trod enc Tryz.prog w base spare held fuel 222 cs=some x) :
  ∃ c:Ce,cs=ceL c:=by
 obtain ⟨xs,n,_,_,hl,hlen,hfs⟩:=DataW.trod_struct Tryz.underlying222 hf;have e:Tryz.prog.cellsOf 222=7:=by kernel_rfl
 have es:Tryz.prog.cellsOf 61=5:=by kernel_rfl
 have ei:Tryz.prog.cellsOf 2=1:=by kernel_rfl
 match cs,hl.trans e,xs,hlen with
 | [c0,c1,c2,c3,c4,c5,c6],_,[x0,x1,x2],_ =>
  have h0:=hfs 0 _ rfl;have h1:=hfs 1 _ rfl;have h2:=hfs 2 _ rfl;simp [ei,es] at h0 h1 h2;obtain ⟨k0,q0,_,_⟩:=DataW.trod_int Tryz.underlying2 h0;obtain ⟨s,q1⟩:=style_cs h1;obtain ⟨k2,q2,_,_⟩:=DataW.trod_int Tryz.underlying2 h2;simp at q0 q1 q2;obtain ⟨r1,r2,r3,r4,r5⟩:=q1;subst q0;subst r1;subst r2;subst r3;subst r4;subst r5;subst q2;exact ⟨⟨k0,s,k2⟩,rfl⟩
end
section
variable {H : Type} {enc : TypeId × Value → H} {w : World} {base : Nat} {spare : Nat → Bool} {held : Bool}
theorem cells_tr {fuel:Nat} {cs:List Value} {y:DataW H×List MemPlace} (hf:DataW.trod enc Tryz.prog w base spare held fuel 201 cs=some y) :
  ∃ (v:Value) (xs:List Ce),cs=[v]/\SlC w v xs/\xs.length<=maxLen:=by
 have e:Tryz.prog.cellsOf 222=7:=by kernel_rfl
 rcases Go.Deep.open_slice Tryz.underlying201 hf with ⟨hcs,_⟩|⟨x,len,cap,m,n,D,Pl,hcs,_,hl,hm,hmm,_,hx⟩
 ·exact ⟨_,[],hcs,⟨none,0,rfl,Nat.le_refl _,fun _=>rfl,.inl rfl⟩,by simp⟩
 ·have hlm:len<=m:=by rw [hmm];split<;>omega
  rw [e] at hx
  obtain ⟨f,hfc⟩:=Go.Deep.choose_lt (α:=Ce) (n:=len) (p:=fun i q=>w.cells? base (x.add (i*7)) 7=some (ceL q)) (fun i hi=>by
   obtain ⟨cs',h1,h2⟩:=hx i (by omega);obtain ⟨q,rfl⟩:=cell_cs h2;exact ⟨q,h1⟩)
  have hlen:((List.range len).map f).length=len:=by simp
  refine ⟨_,(List.range len).map f,hcs,⟨some x,cap,by rw [hlen],by rw [hlen];exact hl,(fun h=>by cases h),?_⟩,by rw [hlen];omega⟩
  by_cases h0:len=0
  ·left;subst h0;rfl
  ·right
   have hc:∀ i,i<len->∀ k,k<7->w.cell? ((x.add (i*7)).add k)=(ceL (f i))[k]?:=fun i hi k hk=>by
    obtain ⟨_,hl7,hcell⟩:=World.cells?_some (hfc i hi);exact hcell k hk
   obtain ⟨b,off,spot⟩:=x;have h1:=hc 0 (by omega) 0 (by decide)
   have hspot:spot=none:=by
    have h1':w.cell? ((⟨b,off,spot⟩:Addr).add 0)=some (.int .i64 (f 0).rune):=by simpa [Addr.add,ceL] using h1
    simpa [Addr.add] using World.cell?_spot h1'
   subst hspot;refine ⟨b,off,rfl,?_,fun i hi=>?_⟩
   ·have h1':w.cell? ((⟨b,off,none⟩:Addr).add 0)=some (.int .i64 (f 0).rune):=by simpa [Addr.add,ceL] using h1
    exact World.block_lt_of_cell? w _ h1'
   ·rw [hlen] at hi
    have ef:atC ((List.range len).map f) i=f i:=by simp [atC,hi]
    rw [ef]
    have g:=fun k hk=>hc i hi k hk
    have ea:∀ k,(((⟨b,off,none⟩:Addr).add (i*7)).add k)=⟨b,off+i*7+k,none⟩:=fun k=>by rw [Addr.add_mid,Addr.add_mid]
    simp only [ea] at g;exact ⟨by simpa [ceL] using g 0 (by decide),by simpa [ceL] using g 1 (by decide),by simpa [ceL] using g 2 (by decide),by simpa [ceL] using g 3 (by decide),by simpa [ceL] using g 4 (by decide),by simpa [ceL] using g 5 (by decide),by simpa [ceL] using g 6 (by decide)⟩
theorem rows_tr {fuel:Nat} {cs:List Value} {y:DataW H×List MemPlace} (hf:DataW.trod enc Tryz.prog w base spare held fuel 58 cs=some y) :
  ∃ (v:Value) (rows:List (List Ce)),cs=[v]/\SlG w v rows/\rows.length<=maxLen/\∀ i,i<rows.length->(rowX rows i).length<=maxLen:=by
 have e:Tryz.prog.cellsOf 201=1:=by kernel_rfl
 rcases Go.Deep.open_slice1 Tryz.underlying58 e hf with ⟨hcs,_⟩|⟨x,len,cap,m,n,V,D,Pl,hcs,_,hl,hm,hmm,_,hx⟩
 ·exact ⟨_,[],hcs,⟨none,0,[],rfl,Nat.le_refl _,fun _=>rfl,.inl rfl,fun i h=>absurd h (Nat.not_lt_zero i)⟩,by simp,fun i h=>absurd h (Nat.not_lt_zero i)⟩
 ·have hlm:len<=m:=by rw [hmm];split<;>omega
  obtain ⟨f,hfc⟩:=Go.Deep.choose_lt (α:=List Ce) (n:=len) (p:=fun i xs=>SlC w (V i) xs/\xs.length<=maxLen) (fun i hi=>by
   obtain ⟨h1,h2⟩:=hx i (by omega);obtain ⟨v,xs,hv,hs,hle⟩:=cells_tr h2;simp at hv;subst hv;exact ⟨xs,hs,hle⟩)
  have hlen:((List.range len).map f).length=len:=by simp
  have hvl:((List.range len).map V).length=len:=by simp
  have hX:∀ i,i<len->rowX ((List.range len).map f) i=f i:=fun i hi=>by simp [rowX,List.getD,hi]
  have hV:∀ i,i<len->rowV ((List.range len).map V) i=V i:=fun i hi=>by simp [rowV,List.getD,hi]
  refine ⟨_,(List.range len).map f,hcs,⟨some x,cap,(List.range len).map V,by rw [hlen],by rw [hlen];exact hl,(fun h=>by cases h),?_,fun i hi=>?_⟩,by rw [hlen];omega,fun i hi=>?_⟩
  ·by_cases h0:len=0
   ·left;subst h0;rfl
   ·right
    obtain ⟨b,off,spot⟩:=x;have h1:=(hx 0 (by omega)).1
    have h1c:w.cell? ⟨b,off,spot⟩=some (V 0):=by
     have:(⟨b,off,spot⟩:Addr).add 0=⟨b,off,spot⟩:=by unfold Addr.add;split<;>simp_all
     rwa [this] at h1
    have hspot:spot=none:=World.cell?_spot h1c;subst hspot;refine ⟨b,off,rfl,World.block_lt_of_cell? w _ h1c,fun i hi=>?_⟩;rw [hlen] at hi
    rw [hV i hi,<- (hx i (by omega)).1,Addr.add_mid]
  ·rw [hlen] at hi
   rw [hV i hi,hX i hi]
   exact (hfc i hi).1
  ·rw [hlen] at hi
   rw [hX i hi]
   exact (hfc i hi).2
end
section
variable {H : Type} {enc : TypeId × Value → H} {w : World} {base : Nat} {spare : Nat → Bool} {held : Bool}
theorem slN_of {w:World} {x:Addr} {l c:Nat} {zs:List Int} (hl:l<=c) (hz:l<=zs.length) (hc:∀ i,i<zs.length->w.cell? (x.add i)=some (.int .i64 (zs.getD i 0))):SlN w (.slice (some x) l c) (zs.take l)/\(zs.take l).length=l:=by
 have hlen:(zs.take l).length=l:=by rw [List.length_take];omega
 refine ⟨⟨some x,c,by rw [hlen],by rw [hlen];exact hl,(fun e=>by cases e),?_⟩,hlen⟩
 by_cases h0:l=0
 ·left;subst h0;simp
 ·right
  obtain ⟨b,off,spot⟩:=x;have h1:=hc 0 (by omega);have hspot:spot=none:=by simpa [Addr.add] using World.cell?_spot h1
  subst hspot;refine ⟨b,off,rfl,World.block_lt_of_cell? w _ h1,fun i hi=>?_⟩;rw [hlen] at hi
  have h2:=hc i (by omega);have e:(zs.take l).getD i 0=zs.getD i 0:=by simp [List.getD,hi]
  rw [e,<- h2]
  by_cases hi0:i=0
  ·subst hi0;simp [Addr.add]
  ·simp [Addr.add,hi0]
theorem ints_tr {fuel:Nat} {cs:List Value} {y:DataW H×List MemPlace} (hf:DataW.trod enc Tryz.prog w base spare held fuel 29 cs=some y) :
  ∃ (v:Value) (xs:List Int),cs=[v]/\SlN w v xs/\xs.length<=maxLen:=by
 rcases open_ints Tryz.underlying29 Tryz.underlying2 (by kernel_rfl) hf with ⟨hcs,_⟩|⟨x,l,c,zs,hcs,_,hl,hm,hz,_,hcell,hwz⟩
 ·exact ⟨_,[],hcs,⟨none,0,rfl,Nat.le_refl _,fun _=>rfl,.inl rfl⟩,by simp⟩
 ·have:=slN_of (w:=w) (x:=x) hl (by rw [hz];split<;>omega) hcell
  exact ⟨_,_,hcs,this.1,by rw [this.2];omega⟩
end
section
variable {H : Type} {enc : TypeId × Value → H} {w : World} {base : Nat} {spare : Nat → Bool} {held : Bool}
theorem grid_cs {fuel:Nat} {cs:List Value} {y:DataW H×List MemPlace} (hf:DataW.trod enc Tryz.prog w base spare held fuel 60 cs=some y) :
  ∃ (cols:Int) (u:Value) (rows:List (List Ce)),cs=[.int .i64 cols,u]/\SlG w u rows/\rows.length<=maxLen/\∀ i,i<rows.length->(rowX rows i).length<=maxLen:=by
 obtain ⟨xs,n,_,_,hl,hlen,hfs⟩:=DataW.trod_struct Tryz.underlying60 hf;have e:Tryz.prog.cellsOf 60=2:=by kernel_rfl
 have ei:Tryz.prog.cellsOf 2=1:=by kernel_rfl
 have er:Tryz.prog.cellsOf 58=1:=by kernel_rfl
 match cs,hl.trans e,xs,hlen with
 | [c0,c1],_,[x0,x1],_ =>
  have h0:=hfs 0 _ rfl;have h1:=hfs 1 _ rfl;simp [ei,er] at h0 h1;obtain ⟨k0,q0,_,_⟩:=DataW.trod_int Tryz.underlying2 h0;obtain ⟨u,rows,q1,hs,hle,hxl⟩:=rows_tr h1;simp at q0 q1;subst q0;subst q1;exact ⟨_,_,rows,rfl,hs,hle,hxl⟩
theorem parser_cs {fuel:Nat} {cs:List Value} {y:DataW H×List MemPlace} (hf:DataW.trod enc Tryz.prog w base spare held fuel 62 cs=some y) :
  ∃ (q:Pa) (pv tv:Value),cs=[.int .i64 q.state,pv,.int .i64 q.mark,tv]/\SlN w pv q.params/\SlN w tv q.text/\q.params.length<=maxLen/\q.text.length<=maxLen:=by
 obtain ⟨xs,n,_,_,hl,hlen,hfs⟩:=DataW.trod_struct Tryz.underlying62 hf;have e:Tryz.prog.cellsOf 62=4:=by kernel_rfl
 have ei:Tryz.prog.cellsOf 2=1:=by kernel_rfl
 have er:Tryz.prog.cellsOf 29=1:=by kernel_rfl
 match cs,hl.trans e,xs,hlen with
 | [c0,c1,c2,c3],_,[x0,x1,x2,x3],_ =>
  have h0:=hfs 0 _ rfl;have h1:=hfs 1 _ rfl;have h2:=hfs 2 _ rfl;have h3:=hfs 3 _ rfl;simp [ei,er] at h0 h1 h2 h3;obtain ⟨k0,q0,_,_⟩:=DataW.trod_int Tryz.underlying2 h0;obtain ⟨u1,y1,q1,s1,l1⟩:=ints_tr h1;obtain ⟨k2,q2,_,_⟩:=DataW.trod_int Tryz.underlying2 h2;obtain ⟨u3,y3,q3,s3,l3⟩:=ints_tr h3;simp at q0 q1 q2 q3;subst q0;subst q1;subst q2;subst q3;exact ⟨⟨k0,y1,k2,y3⟩,_,_,rfl,s1,s3,l1,l3⟩
theorem feeder_cs {fuel:Nat} {cs:List Value} {y:DataW H×List MemPlace} (hf:DataW.trod enc Tryz.prog w base spare held fuel 63 cs=some y) :
  ∃ s:ByteArray,cs=[.string s]/\s.size<=maxLen:=by
 obtain ⟨xs,n,_,_,hl,hlen,hfs⟩:=DataW.trod_struct Tryz.underlying63 hf;have e:Tryz.prog.cellsOf 63=1:=by kernel_rfl
 have e2:Tryz.prog.cellsOf 9=1:=by kernel_rfl
 match cs,hl.trans e,xs,hlen with
 | [c0],_,[x0],_ =>
  have h0:=hfs 0 _ rfl;simp [e2] at h0;obtain ⟨s,hs,_,hm⟩:=DataW.trod_string Tryz.underlying9 h0;simp at hs;subst hs;exact ⟨s,rfl,hm⟩
theorem split1 (cs:List Value) (a k b:Nat) (h:a+k=b):cs.drop a=(cs.drop a).take k++cs.drop b:=by
 subst h;rw [<- List.drop_drop]
 exact (List.take_append_drop k (cs.drop a)).symm
theorem term_cs {fuel:Nat} {cs:List Value} {y:DataW H×List MemPlace} (hf:DataW.trod enc Tryz.prog w base spare held fuel 65 cs=some y) :
  ∃ (t:Te) (u:Tv),cs=(teCs t u).toList/\SlT w t u/\SzT maxLen t/\t.fe.size<=maxLen:=by
 obtain ⟨xs,n,_,_,hl,hlen,hfs⟩:=DataW.trod_struct Tryz.underlying65 hf;have e:Tryz.prog.cellsOf 65=30:=by kernel_rfl
 have eg:Tryz.prog.cellsOf 60=2:=by kernel_rfl
 have ei:Tryz.prog.cellsOf 2=1:=by kernel_rfl
 have eb:Tryz.prog.cellsOf 4=1:=by kernel_rfl
 have es:Tryz.prog.cellsOf 61=5:=by kernel_rfl
 have el:Tryz.prog.cellsOf 29=1:=by kernel_rfl
 have ep:Tryz.prog.cellsOf 62=4:=by kernel_rfl
 have ef:Tryz.prog.cellsOf 63=1:=by kernel_rfl
 have hn:xs.length=17:=hlen;have hget:∀ i,i<17->∃ y,xs[i]?=some y:=fun i hi=>⟨xs[i]'(by omega),List.getElem?_eq_getElem (by omega)⟩
 clear hlen hf;obtain ⟨y0,hy0⟩:=hget 0 (by decide);have h0:DataW.trod enc Tryz.prog w base spare held n 60 ((cs.drop 0).take (Tryz.prog.cellsOf 60))=some y0:=(hfs 0 _ rfl).trans hy0;rw [eg] at h0
 obtain ⟨k0,u0,r0,q0,s0,l0,m0⟩:=grid_cs h0;obtain ⟨y1,hy1⟩:=hget 1 (by decide);have h1:DataW.trod enc Tryz.prog w base spare held n 60 ((cs.drop 2).take (Tryz.prog.cellsOf 60))=some y1:=(hfs 1 _ rfl).trans hy1;rw [eg] at h1
 obtain ⟨k1,u1,r1,q1,s1,l1,m1⟩:=grid_cs h1;obtain ⟨y2,hy2⟩:=hget 2 (by decide);have h2:DataW.trod enc Tryz.prog w base spare held n 2 ((cs.drop 4).take (Tryz.prog.cellsOf 2))=some y2:=(hfs 2 _ rfl).trans hy2;rw [ei] at h2
 obtain ⟨k2,q2,_,_⟩:=DataW.trod_int Tryz.underlying2 h2;obtain ⟨y3,hy3⟩:=hget 3 (by decide);have h3:DataW.trod enc Tryz.prog w base spare held n 2 ((cs.drop 5).take (Tryz.prog.cellsOf 2))=some y3:=(hfs 3 _ rfl).trans hy3;rw [ei] at h3
 obtain ⟨k3,q3,_,_⟩:=DataW.trod_int Tryz.underlying2 h3;obtain ⟨y4,hy4⟩:=hget 4 (by decide);have h4:DataW.trod enc Tryz.prog w base spare held n 61 ((cs.drop 6).take (Tryz.prog.cellsOf 61))=some y4:=(hfs 4 _ rfl).trans hy4;rw [es] at h4
 obtain ⟨k4,q4⟩:=style_cs h4;obtain ⟨y5,hy5⟩:=hget 5 (by decide);have h5:DataW.trod enc Tryz.prog w base spare held n 2 ((cs.drop 11).take (Tryz.prog.cellsOf 2))=some y5:=(hfs 5 _ rfl).trans hy5;rw [ei] at h5
 obtain ⟨k5,q5,_,_⟩:=DataW.trod_int Tryz.underlying2 h5;obtain ⟨y6,hy6⟩:=hget 6 (by decide);have h6:DataW.trod enc Tryz.prog w base spare held n 2 ((cs.drop 12).take (Tryz.prog.cellsOf 2))=some y6:=(hfs 6 _ rfl).trans hy6;rw [ei] at h6
 obtain ⟨k6,q6,_,_⟩:=DataW.trod_int Tryz.underlying2 h6;obtain ⟨y7,hy7⟩:=hget 7 (by decide);have h7:DataW.trod enc Tryz.prog w base spare held n 4 ((cs.drop 13).take (Tryz.prog.cellsOf 4))=some y7:=(hfs 7 _ rfl).trans hy7;rw [eb] at h7
 obtain ⟨k7,q7,_⟩:=DataW.trod_bool Tryz.underlying4 h7;obtain ⟨y8,hy8⟩:=hget 8 (by decide);have h8:DataW.trod enc Tryz.prog w base spare held n 4 ((cs.drop 14).take (Tryz.prog.cellsOf 4))=some y8:=(hfs 8 _ rfl).trans hy8;rw [eb] at h8
 obtain ⟨k8,q8,_⟩:=DataW.trod_bool Tryz.underlying4 h8;obtain ⟨y9,hy9⟩:=hget 9 (by decide);have h9:DataW.trod enc Tryz.prog w base spare held n 4 ((cs.drop 15).take (Tryz.prog.cellsOf 4))=some y9:=(hfs 9 _ rfl).trans hy9;rw [eb] at h9
 obtain ⟨k9,q9,_⟩:=DataW.trod_bool Tryz.underlying4 h9;obtain ⟨y10,hy10⟩:=hget 10 (by decide);have h10:DataW.trod enc Tryz.prog w base spare held n 4 ((cs.drop 16).take (Tryz.prog.cellsOf 4))=some y10:=(hfs 10 _ rfl).trans hy10;rw [eb] at h10
 obtain ⟨k10,q10,_⟩:=DataW.trod_bool Tryz.underlying4 h10;obtain ⟨y11,hy11⟩:=hget 11 (by decide);have h11:DataW.trod enc Tryz.prog w base spare held n 2 ((cs.drop 17).take (Tryz.prog.cellsOf 2))=some y11:=(hfs 11 _ rfl).trans hy11;rw [ei] at h11
 obtain ⟨k11,q11,_,_⟩:=DataW.trod_int Tryz.underlying2 h11;obtain ⟨y12,hy12⟩:=hget 12 (by decide);have h12:DataW.trod enc Tryz.prog w base spare held n 2 ((cs.drop 18).take (Tryz.prog.cellsOf 2))=some y12:=(hfs 12 _ rfl).trans hy12;rw [ei] at h12
 obtain ⟨k12,q12,_,_⟩:=DataW.trod_int Tryz.underlying2 h12;obtain ⟨y13,hy13⟩:=hget 13 (by decide);have h13:DataW.trod enc Tryz.prog w base spare held n 61 ((cs.drop 19).take (Tryz.prog.cellsOf 61))=some y13:=(hfs 13 _ rfl).trans hy13;rw [es] at h13
 obtain ⟨k13,q13⟩:=style_cs h13;obtain ⟨y14,hy14⟩:=hget 14 (by decide);have h14:DataW.trod enc Tryz.prog w base spare held n 29 ((cs.drop 24).take (Tryz.prog.cellsOf 29))=some y14:=(hfs 14 _ rfl).trans hy14;rw [el] at h14
 obtain ⟨u14,k14,q14,s14,l14⟩:=ints_tr h14;obtain ⟨y15,hy15⟩:=hget 15 (by decide);have h15:DataW.trod enc Tryz.prog w base spare held n 62 ((cs.drop 25).take (Tryz.prog.cellsOf 62))=some y15:=(hfs 15 _ rfl).trans hy15;rw [ep] at h15
 obtain ⟨k15,u15,v15,q15,s15,l15,m15,n15⟩:=parser_cs h15;obtain ⟨y16,hy16⟩:=hget 16 (by decide);have h16:DataW.trod enc Tryz.prog w base spare held n 63 ((cs.drop 29).take (Tryz.prog.cellsOf 63))=some y16:=(hfs 16 _ rfl).trans hy16;rw [ef] at h16
 obtain ⟨k16,q16,l16⟩:=feeder_cs h16;have z17:cs.drop 30=[]:=List.drop_eq_nil_of_le (by rw [hl,e];exact Nat.le_refl _);have z16:cs.drop 29=[.string k16]:=by rw [split1 cs 29 1 30 rfl,q16,z17];rfl
 have z15:cs.drop 25=[.int .i64 k15.state,u15,.int .i64 k15.mark,v15,.string k16]:=by rw [split1 cs 25 4 29 rfl,q15,z16];rfl
 have z14:cs.drop 24=[u14,.int .i64 k15.state,u15,.int .i64 k15.mark,v15,.string k16]:=by rw [split1 cs 24 1 25 rfl,q14,z15];rfl
 have z13:cs.drop 19=[.int .i64 k13.fore,.int .i64 k13.back,.bool k13.bold,.bool k13.under,.bool k13.turned,u14,.int .i64 k15.state,u15,.int .i64 k15.mark,v15,.string k16]:=by rw [split1 cs 19 5 24 rfl,q13,z14];rfl
 have z12:cs.drop 18=[.int .i64 k12,.int .i64 k13.fore,.int .i64 k13.back,.bool k13.bold,.bool k13.under,.bool k13.turned,u14,.int .i64 k15.state,u15,.int .i64 k15.mark,v15,.string k16]:=by rw [split1 cs 18 1 19 rfl,q12,z13];rfl
 have z11:cs.drop 17=[.int .i64 k11,.int .i64 k12,.int .i64 k13.fore,.int .i64 k13.back,.bool k13.bold,.bool k13.under,.bool k13.turned,u14,.int .i64 k15.state,u15,.int .i64 k15.mark,v15,.string k16]:=by rw [split1 cs 17 1 18 rfl,q11,z12];rfl
 have z10:cs.drop 16=[.bool k10,.int .i64 k11,.int .i64 k12,.int .i64 k13.fore,.int .i64 k13.back,.bool k13.bold,.bool k13.under,.bool k13.turned,u14,.int .i64 k15.state,u15,.int .i64 k15.mark,v15,.string k16]:=by rw [split1 cs 16 1 17 rfl,q10,z11];rfl
 have z9:cs.drop 15=[.bool k9,.bool k10,.int .i64 k11,.int .i64 k12,.int .i64 k13.fore,.int .i64 k13.back,.bool k13.bold,.bool k13.under,.bool k13.turned,u14,.int .i64 k15.state,u15,.int .i64 k15.mark,v15,.string k16]:=by rw [split1 cs 15 1 16 rfl,q9,z10];rfl
 have z8:cs.drop 14=[.bool k8,.bool k9,.bool k10,.int .i64 k11,.int .i64 k12,.int .i64 k13.fore,.int .i64 k13.back,.bool k13.bold,.bool k13.under,.bool k13.turned,u14,.int .i64 k15.state,u15,.int .i64 k15.mark,v15,.string k16]:=by rw [split1 cs 14 1 15 rfl,q8,z9];rfl
 have z7:cs.drop 13=[.bool k7,.bool k8,.bool k9,.bool k10,.int .i64 k11,.int .i64 k12,.int .i64 k13.fore,.int .i64 k13.back,.bool k13.bold,.bool k13.under,.bool k13.turned,u14,.int .i64 k15.state,u15,.int .i64 k15.mark,v15,.string k16]:=by rw [split1 cs 13 1 14 rfl,q7,z8];rfl
 have z6:cs.drop 12=[.int .i64 k6,.bool k7,.bool k8,.bool k9,.bool k10,.int .i64 k11,.int .i64 k12,.int .i64 k13.fore,.int .i64 k13.back,.bool k13.bold,.bool k13.under,.bool k13.turned,u14,.int .i64 k15.state,u15,.int .i64 k15.mark,v15,.string k16]:=by rw [split1 cs 12 1 13 rfl,q6,z7];rfl
 have z5:cs.drop 11=[.int .i64 k5,.int .i64 k6,.bool k7,.bool k8,.bool k9,.bool k10,.int .i64 k11,.int .i64 k12,.int .i64 k13.fore,.int .i64 k13.back,.bool k13.bold,.bool k13.under,.bool k13.turned,u14,.int .i64 k15.state,u15,.int .i64 k15.mark,v15,.string k16]:=by rw [split1 cs 11 1 12 rfl,q5,z6];rfl
 have z4:cs.drop 6=[.int .i64 k4.fore,.int .i64 k4.back,.bool k4.bold,.bool k4.under,.bool k4.turned,.int .i64 k5,.int .i64 k6,.bool k7,.bool k8,.bool k9,.bool k10,.int .i64 k11,.int .i64 k12,.int .i64 k13.fore,.int .i64 k13.back,.bool k13.bold,.bool k13.under,.bool k13.turned,u14,.int .i64 k15.state,u15,.int .i64 k15.mark,v15,.string k16]:=by rw [split1 cs 6 5 11 rfl,q4,z5];rfl
 have z3:cs.drop 5=[.int .i64 k3,.int .i64 k4.fore,.int .i64 k4.back,.bool k4.bold,.bool k4.under,.bool k4.turned,.int .i64 k5,.int .i64 k6,.bool k7,.bool k8,.bool k9,.bool k10,.int .i64 k11,.int .i64 k12,.int .i64 k13.fore,.int .i64 k13.back,.bool k13.bold,.bool k13.under,.bool k13.turned,u14,.int .i64 k15.state,u15,.int .i64 k15.mark,v15,.string k16]:=by rw [split1 cs 5 1 6 rfl,q3,z4];rfl
 have z2:cs.drop 4=[.int .i64 k2,.int .i64 k3,.int .i64 k4.fore,.int .i64 k4.back,.bool k4.bold,.bool k4.under,.bool k4.turned,.int .i64 k5,.int .i64 k6,.bool k7,.bool k8,.bool k9,.bool k10,.int .i64 k11,.int .i64 k12,.int .i64 k13.fore,.int .i64 k13.back,.bool k13.bold,.bool k13.under,.bool k13.turned,u14,.int .i64 k15.state,u15,.int .i64 k15.mark,v15,.string k16]:=by rw [split1 cs 4 1 5 rfl,q2,z3];rfl
 have z1:cs.drop 2=[.int .i64 k1,u1,.int .i64 k2,.int .i64 k3,.int .i64 k4.fore,.int .i64 k4.back,.bool k4.bold,.bool k4.under,.bool k4.turned,.int .i64 k5,.int .i64 k6,.bool k7,.bool k8,.bool k9,.bool k10,.int .i64 k11,.int .i64 k12,.int .i64 k13.fore,.int .i64 k13.back,.bool k13.bold,.bool k13.under,.bool k13.turned,u14,.int .i64 k15.state,u15,.int .i64 k15.mark,v15,.string k16]:=by rw [split1 cs 2 2 4 rfl,q1,z2];rfl
 have z0:cs.drop 0=[.int .i64 k0,u0,.int .i64 k1,u1,.int .i64 k2,.int .i64 k3,.int .i64 k4.fore,.int .i64 k4.back,.bool k4.bold,.bool k4.under,.bool k4.turned,.int .i64 k5,.int .i64 k6,.bool k7,.bool k8,.bool k9,.bool k10,.int .i64 k11,.int .i64 k12,.int .i64 k13.fore,.int .i64 k13.back,.bool k13.bold,.bool k13.under,.bool k13.turned,u14,.int .i64 k15.state,u15,.int .i64 k15.mark,v15,.string k16]:=by rw [split1 cs 0 2 2 rfl,q0,z1];rfl
 refine ⟨⟨k0,r0,k1,r1,k2,k3,k4,k5,k6,k7,k8,k9,k10,k11,k12,k13,k14,k15,k16⟩,⟨u0,u1,u14,u15,v15⟩,z0,⟨s0,s1,s14,s15,l15⟩,⟨l0,m0,l1,m1,l14,m15,n15⟩,l16⟩
theorem term_view {b0:Nat} {r:Reach} {v:Value} {d:DataW H} {p:List MemPlace} (hv:Value.okWide Tryz.prog w r b0 65 v) (h:DataW.Trod enc Tryz.prog w base spare held 65 v d p) :
  ∃ (t:Te) (u:Tv),v=teV t u/\SlT w t u/\SzT maxLen t/\t.fe.size<=maxLen:=by
 obtain ⟨cs,rfl,_⟩:=okWide_struct Tryz.underlying65 hv;obtain ⟨fuel,hf⟩:=h;obtain ⟨t,u,h1,h2,h3,h4⟩:=term_cs hf;refine ⟨t,u,?_,h2,h3,h4⟩;unfold teV
 congr 1
 exact Array.toList_inj.1 h1
end
section
variable {H : Type} {enc : TypeId × Value → H} {w : World} {base : Nat} {spare : Nat → Bool} {held : Bool}
theorem action_view {b0:Nat} {r:Reach} {v:Value} {d:DataW H} {p:List MemPlace} (hv:Value.okWide Tryz.prog w r b0 66 v) (h:DataW.Trod enc Tryz.prog w base spare held 66 v d p) :
  ∃ (q:Ac) (pv tv:Value),v=.agg (acA q.kind q.rune pv q.mark tv)/\SlN w pv q.params/\SlN w tv q.text/\q.params.length<=maxLen/\q.text.length<=maxLen:=by
 obtain ⟨cs,rfl,hsz⟩:=okWide_struct Tryz.underlying66 hv;obtain ⟨fuel,hf⟩:=h;obtain ⟨xs,n,_,_,hl,hlen,hfs⟩:=DataW.trod_struct Tryz.underlying66 hf;have e:Tryz.prog.cellsOf 66=5:=by kernel_rfl
 have ei:Tryz.prog.cellsOf 2=1:=by kernel_rfl
 have er:Tryz.prog.cellsOf 29=1:=by kernel_rfl
 obtain ⟨l⟩:=cs
 match l,hsz.trans e,xs,hlen with
 | [c0,c1,c2,c3,c4],_,[x0,x1,x2,x3,x4],_ =>
  have h0:=hfs 0 _ rfl;have h1:=hfs 1 _ rfl;have h2:=hfs 2 _ rfl;have h3:=hfs 3 _ rfl;have h4:=hfs 4 _ rfl;simp [Value.cells,ei,er] at h0 h1 h2 h3 h4;obtain ⟨k0,q0,_,_⟩:=DataW.trod_int Tryz.underlying2 h0;obtain ⟨k1,q1,_,_⟩:=DataW.trod_int Tryz.underlying2 h1;obtain ⟨u2,y2,q2,s2,l2⟩:=ints_tr h2;obtain ⟨k3,q3,_,_⟩:=DataW.trod_int Tryz.underlying2 h3;obtain ⟨u4,y4,q4,s4,l4⟩:=ints_tr h4;simp at q0 q1 q2 q3 q4;subst q0;subst q1;subst q2;subst q3;subst q4;exact ⟨⟨k0,k1,y2,k3,y4⟩,_,_,rfl,s2,s4,l2,l4⟩
end
end Go.Proofs.YtgcnmjjlmcnllaaGreatDoor
namespace Go.Proofs.YtgcnmjjlmcnllaaGreatDoor
set_option maxRecDepth 20000
set_option maxHeartbeats 16000000
open Go.ChangeShapes Go.WideShapes Go.ChangeAt Go.WideElems Go.RowKit
theorem gSpans : Tryz.prog.globalNamed "loop.example/g00215/impl.spans" = some 0 := by kernel_rfl
theorem tSpans:(Tryz.prog.globals[0]?).map (·.type)=some 209:=by kernel_rfl
theorem c_i64:Tryz.prog.cellsOf 2=1:=by kernel_rfl
theorem c_span:Tryz.prog.cellsOf 208=3:=by kernel_rfl
theorem c_spans:Tryz.prog.cellsOf 209=18:=by kernel_rfl

section
variable {H : Type} {enc : TypeId × Value → H} {w : World} {base : Nat} {spare : Nat → Bool} {held : Bool}
theorem span_open {fuel:Nat} {cs:List Value} {a b c:Int} {p:List MemPlace}
  (h:DataW.trod enc Tryz.prog w base spare held fuel 208 cs=some (.agg [.lit (.int .i64 a),.lit (.int .i64 b),.lit (.int .i64 c)],p)):cs=[.int .i64 a,.int .i64 b,.int .i64 c]:=by
 obtain ⟨y0,y1,y2,n,e,hl,h0,h1,h2⟩:=Go.Deep.trod_struct3 Tryz.underlying208 h;rw [c_span] at hl
 simp only [Prod.mk.injEq,DataW.agg.injEq,List.cons.injEq,and_true] at e;obtain ⟨⟨e0,e1,e2⟩,_⟩:=e
 match cs,hl with
 | [x0,x1,x2],_ =>
  obtain ⟨k0,q0,r0,_⟩:=DataW.trod_int Tryz.underlying2 h0;obtain ⟨k1,q1,r1,_⟩:=DataW.trod_int Tryz.underlying2 h1;obtain ⟨k2,q2,r2,_⟩:=DataW.trod_int Tryz.underlying2 h2;subst r0;subst r1;subst r2;simp only [DataW.lit.injEq,Lit.int.injEq,true_and] at e0 e1 e2;subst e0;subst e1;subst e2;rw [c_i64] at q0 q1 q2
  simp at q0 q1 q2;subst q0;subst q1;subst q2
  rfl
theorem spans_open {fuel:Nat} {cs:List Value} {p:List MemPlace}
  (h:DataW.trod enc Tryz.prog w base spare held fuel 209 cs=some (Rows.laid_loop_example_g00215_impl_spans,p)):cs=spansC.toList:=by
 obtain ⟨xs,m,rfl,e,hl,hn,hel⟩:=DataW.trod_array Tryz.underlying209 h;rw [c_spans] at hl
 simp only [Rows.laid_loop_example_g00215_impl_spans,Prod.mk.injEq,DataW.agg.injEq] at e;obtain ⟨e,_⟩:=e
 match xs,hn with
 | [x0,x1,x2,x3,x4,x5],_ =>
  simp only [List.map_cons,List.map_nil,List.cons.injEq,and_true] at e;obtain ⟨e0,e1,e2,e3,e4,e5⟩:=e
  have go:∀ (i:Nat) (x:DataW H×List MemPlace) (a b c:Int),i<6->[x0,x1,x2,x3,x4,x5][i]?=some x->DataW.agg [.lit (.int .i64 a),.lit (.int .i64 b),.lit (.int .i64 c)]=x.1->(cs.drop (i*3)).take 3=[.int .i64 a,.int .i64 b,.int .i64 c]:=by
   intro i x a b c hi hx he;have:=hel i hi;rw [c_span,hx] at this
   obtain ⟨x1,x2⟩:=x;simp only at he;rw [<- he] at this
   exact span_open this
  have g0:=go 0 x0 _ _ _ (by decide) rfl e0;have g1:=go 1 x1 _ _ _ (by decide) rfl e1;have g2:=go 2 x2 _ _ _ (by decide) rfl e2;have g3:=go 3 x3 _ _ _ (by decide) rfl e3;have g4:=go 4 x4 _ _ _ (by decide) rfl e4;have g5:=go 5 x5 _ _ _ (by decide) rfl e5
  match cs,hl with
  | [a0,a1,a2,a3,a4,a5,a6,a7,a8,a9,b0,b1,b2,b3,b4,b5,b6,b7],_ =>
   simp at g0 g1 g2 g3 g4 g5;simp [spansC,g0,g1,g2,g3,g4,g5]
end
theorem spans_of_laid {W : World} (h : laidMetH Tryz.prog [("loop.example/g00215/impl.spans", Rows.laid_loop_example_g00215_impl_spans)] W) : SpansAt W := by
 rw [MakeChecks.laidMetH_plain _ _ _ (by kernel_rfl)] at h
 obtain ⟨ps,⟨g0,t0,cs0,f0,p0,q0,hg0,ht0,hv0,hd0,_⟩,_⟩:=h;obtain rfl:=Option.some.inj (gSpans.symm.trans hg0);obtain rfl:=Option.some.inj (tSpans.symm.trans ht0);have hcs:=spans_open hd0;have e:cs0=spansC:=by cases cs0;simp at hcs;rw [hcs]
 subst e;unfold World.var? at hv0;rw [gSpans] at hv0
 simp only [Option.bind_some] at hv0
 cases hh:W.heap[0]? with
 | none=>rw [hh] at hv0;cases hv0
 | some o =>
  rw [hh] at hv0
  cases o with
  | cells c t fr=>simp at hv0;subst hv0;exact ⟨t,fr,hh⟩
  | _=>simp at hv0
theorem spans_door (os : Os) (args : Array Value) : laidMetH Tryz.prog [("loop.example/g00215/impl.spans", Rows.laid_loop_example_g00215_impl_spans)] ((World.doorLaid Tryz.prog 400 os).forCall (fun _ _ => 0) ⟨#[], args, []⟩).memory :=
 laidMetH_of_parts3 (fuel:=8) (laidMet_of_run' 8 (by kernel_rfl) (by kernel_rfl)) (by kernel_rfl) (by kernel_rfl)
end Go.Proofs.YtgcnmjjlmcnllaaGreatDoor
