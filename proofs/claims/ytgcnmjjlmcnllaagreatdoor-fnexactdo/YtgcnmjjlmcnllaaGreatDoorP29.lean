/- Parts of the proof. -/
import Derived.Test.YtgcnmjjlmcnllaaGreatDoorP1
import Derived.Test.YtgcnmjjlmcnllaaGreatDoorP13
import Derived.Test.YtgcnmjjlmcnllaaGreatDoorP20
namespace Go.Proofs.YtgcnmjjlmcnllaaGreatDoor
set_option maxRecDepth 20000
set_option maxHeartbeats 16000000
open Go.ChangeShapes Go.WideShapes Go.ChangeAt Go.RowKit
theorem l7Sign_88 (cn N base B:Nat) (pv:Value) (ps:List Int) (t:Te) (v:Tv) (vg vo:List Value) (w:World) (h:Scr w 35 base B [] t v vg vo) (hbase:base<=w.heap.size) (rt:RtW t cn N) (hp:SlN w pv ps) (hl:ps.length<=1000) (hap:ApF w B v vg vo pv) (hb:∀ x∈ps,0<=x/\x<=9999) :
  Calls Tryz.prog 144 #[.pointer (some ⟨B,0,none⟩),.int .i64 88,pv] w fun e w'=>e=.returned (.tuple #[])/\∃ v' vg' vo',Res w w' 35 base B [] v vg vo (listT t 88 ps) v' vg' vo':=by
 have hpn:Calls Tryz.prog 211 #[pv,.int .i64 0,.int .i64 1] w (fun e w'=>e=.returned (.int .i64 (parN ps 0 1))/\w'=w):=lPa pv ps 0 1 w hp hl;have hph:Calls Tryz.prog 211 #[pv,.int .i64 0,.int .i64 0] w (fun e w'=>e=.returned (.int .i64 (parN ps 0 0))/\w'=w):=lPa pv ps 0 0 w hp hl;have hnb:=parN_bd hb 0 1 (by omega);have hcc:=rt.c;have c0:w.cell? ⟨B,0,none⟩=some (.int .i64 t.gc):=h.cell 0;have c4:w.cell? ⟨B,4,none⟩=some (.int .i64 t.row):=h.cell 4;have c5:w.cell? ⟨B,5,none⟩=some (.int .i64 t.col):=h.cell 5;have c13:w.cell? ⟨B,13,none⟩=some (.bool t.full):=h.cell 13;have z13:w.frozen? ⟨B,13,none⟩=false:=h.frozen 13;have h1:Res w (w.setCell ⟨B,13,none⟩ (.bool false)) 35 base B [] v vg vo { t with full:=false } v vg vo:=h.put (sCg B [.bool false] 13 w) _ (sCh B 35 [.bool false] 13 w _ h.b) rfl rfl rfl rfl rfl;have hb1:=Nat.le_trans hbase h1.g.size;have hp1:=(hp.res hap h1).1;have hw:IntKind.i64.wrap (t.col+parN ps 0 1)=t.col+parN ps 0 1:=by have:=rt.col;simp [IntKind.wrap,IntKind.bits,IntKind.signed];omega
 have hd:=bdr (w.setCell ⟨B,13,none⟩ (.bool false));have hcl:=l7Clear_any cn N base B { t with full:=false } v vg vo _ (h1.s.below hd) (Nat.le_trans hb1 hd.size) (rt.full false) t.row t.col (min t.gc (t.col+parN ps 0 1)) rt.row (by have:=rt.col;have:=rt.gc;omega);have hmn:=fun W=>l1Min_any t.gc (t.col+parN ps 0 1) W
 have cf:∀ W,Below (w.setCell ⟨B,13,none⟩ (.bool false)).heap.size (w.setCell ⟨B,13,none⟩ (.bool false)) W->W.cell? ⟨B,4,none⟩=some (.int .i64 t.row)/\W.cell? ⟨B,5,none⟩=some (.int .i64 t.col):=fun W hb=>⟨(h1.s.below hb).cell 4,(h1.s.below hb).cell 5⟩
 obtain ⟨q,hq⟩:∃ q,Hid (q=min t.gc (t.col+parN ps 0 1)):=⟨_,rfl⟩;have hV:listT t 88 ps=clearT { t with full:=false } t.row t.col (min t.gc (t.col+parN ps 0 1)):=rfl;rw [hV]
 clear hV;rw [<- hq.out] at hcl ⊢
 replace h1:=(show Hid _ from h1);clear h rt hbase hb1 hp1 hp hap hb;generalize parN ps 0 1=n at *;generalize parN ps 0 0=how at *;go_enter Tryz.func144,Tryz.ntmps144;go_wp2_with fail;refine hpn.mono ?_;rintro e wk ⟨rfl,hk⟩;subst hk;clear hpn;go_wp2_with fail;refine hph.mono ?_;rintro e wk ⟨rfl,hk⟩;subst hk;clear hph;go_wp2;obtain ⟨f4,f5⟩:=cf _ hd;refine wp_region_noPanic ?_;refine wp_region_held_drew (S:=(fun _=>True)) (by kernel_rfl) (trivial) (fun Hh=>?_);refine' wpAnyH_take (i:=0) (v:=_) rfl (by kernel_rfl) (by kernel_rfl) (by kernel_rfl) (fun _ _ _ h=>h) (Or.inl ⟨by rfl,?hy1021⟩) Hh ?hr1021
 case hy1021=>(intro w hSw;(try dsimp only at hSw);go_simp;(try with_reducible rfl))
 simp only [Act.put,ZA,ZB,ZC,ZD,ZE];refine' wpAnyH_take (i:=1) (v:=_) rfl (by kernel_rfl) (by kernel_rfl) (by kernel_rfl) (fun _ _ _ h=>h) (Or.inl ⟨by rfl,?hy1022⟩) Hh ?hr1022
 case hy1022=>(intro w hSw;(try dsimp only at hSw);go_simp;(try with_reducible rfl))
 simp only [Act.put,ZA,ZB,ZC,ZD,ZE,ZF];refine' wpAnyH_take (i:=2) (v:=_) rfl (by kernel_rfl) (by kernel_rfl) (by kernel_rfl) (fun _ _ _ h=>h) (Or.inl ⟨by rfl,?hy1023⟩) Hh ?hr1023
 case hy1023=>(intro w hSw;(try dsimp only at hSw);go_simp;(try with_reducible rfl))
 simp only [Act.put,ZA,ZB,ZC,ZD,ZE,ZF];refine' wpAnyH_take (i:=3) (v:=_) rfl (by kernel_rfl) (by kernel_rfl) (by kernel_rfl) (fun _ _ _ h=>h) (Or.inl ⟨by rfl,?hy1024⟩) Hh ?hr1024
 case hy1024=>(intro w hSw;(try dsimp only at hSw);go_simp;(try with_reducible rfl))
 simp only [Act.put,ZA,ZB,ZC,ZD,ZE,ZF];refine' wpAnyH_take (i:=5) (v:=_) rfl (by kernel_rfl) (by kernel_rfl) (by kernel_rfl) (fun _ _ _ h=>h) (Or.inl ⟨by rfl,?hy1025⟩) Hh ?hr1025
 case hy1025=>(intro w hSw;(try dsimp only at hSw);go_simp;(try with_reducible rfl))
 simp only [Act.put,ZA,ZB,ZC,ZD,ZE,ZF];refine' wpAnyH_take (i:=6) (v:=_) rfl (by kernel_rfl) (by kernel_rfl) (by kernel_rfl) (fun _ _ _ h=>h) (Or.inl ⟨by rfl,?hy1026⟩) Hh ?hr1026
 case hy1026=>(intro w hSw;(try dsimp only at hSw);go_simp;(try with_reducible rfl))
 simp only [Act.put,ZA,ZB,ZC,ZD,ZE,ZF];refine' wpAnyH_take (i:=7) (v:=_) rfl (by kernel_rfl) (by kernel_rfl) (by kernel_rfl) (fun _ _ _ h=>h) (Or.inl ⟨by rfl,?hy1027⟩) Hh ?hr1027
 case hy1027=>(intro w hSw;(try dsimp only at hSw);go_simp;(try with_reducible rfl))
 simp only [Act.put,ZA,ZB,ZC,ZD,ZE,ZF];refine' wpAnyH_take (i:=9) (v:=_) rfl (by kernel_rfl) (by kernel_rfl) (by kernel_rfl) (fun _ _ _ h=>h) (Or.inl ⟨by rfl,?hy1028⟩) Hh ?hr1028
 case hy1028=>(intro w hSw;(try dsimp only at hSw);go_simp;(try with_reducible rfl))
 simp only [Act.put,ZA,ZB,ZC,ZD,ZE,ZF];refine' wpAnyH_take (i:=10) (v:=_) rfl (by kernel_rfl) (by kernel_rfl) (by kernel_rfl) (fun _ _ _ h=>h) (Or.inl ⟨by rfl,?hy1029⟩) Hh ?hr1029
 case hy1029=>(intro w hSw;(try dsimp only at hSw);go_simp;(try with_reducible rfl))
 simp only [Act.put,ZA,ZB,ZC,ZD,ZE,ZF];refine' wpAnyH_take (i:=11) (v:=_) rfl (by kernel_rfl) (by kernel_rfl) (by kernel_rfl) (fun _ _ _ h=>h) (Or.inl ⟨by rfl,?hy1030⟩) Hh ?hr1030
 case hy1030=>(intro w hSw;(try dsimp only at hSw);go_simp;(try with_reducible rfl))
 simp only [Act.put,ZA,ZB,ZC,ZD,ZE,ZF];refine' wpAnyH_take (i:=12) (v:=_) rfl (by kernel_rfl) (by kernel_rfl) (by kernel_rfl) (fun _ _ _ h=>h) (Or.inl ⟨by rfl,?hy1031⟩) Hh ?hr1031
 case hy1031=>(intro w hSw;(try dsimp only at hSw);go_simp;(try with_reducible rfl))
 simp only [Act.put,ZA,ZB,ZC,ZD,ZE,ZF];refine' wpAnyH_take (i:=14) (v:=_) rfl (by kernel_rfl) (by kernel_rfl) (by kernel_rfl) (fun _ _ _ h=>h) (Or.inl ⟨by rfl,?hy1032⟩) Hh ?hr1032
 case hy1032=>(intro w hSw;(try dsimp only at hSw);go_simp;(try with_reducible rfl))
 simp only [Act.put,ZA,ZB,ZC,ZD,ZE,ZF];refine wpAnyH_ready (rs:=[4,8,13]) (by kernel_rfl) (by simp) (AllReadyH.cons rfl (fun K hK=>?_) (AllReadyH.cons rfl (fun K hK=>?_) (AllReadyH.cons rfl (fun K hK=>?_) AllReadyH.nil)))
 ·go_simp
  refine hK.out _ _ (Hh) (fun Hh=>?_);clear hK K;refine rd2 8 13 (fun K hK=>?_) fun K hK=>?_
  ·go_simp
   refine hK.out _ _ (Hh) (fun Hh=>?_);clear hK K;refine rd 13 fun K hK=>?_
   go_simp;refine hK.out _ _ (Hh) (fun Hh=>?_);clear hK K
   (try simp only [Act.put,ZA,ZB,ZC,ZD,ZE,ZF])
   refine' wpAnyH_take (i:=15) (v:=_) rfl (by kernel_rfl) (by kernel_rfl) (by kernel_rfl) (fun _ _ _ h=>h) (Or.inl ⟨by rfl,?hy1033⟩) Hh ?hr1033
   case hy1033=>(intro w hSw;(try dsimp only at hSw);go_simp;(try with_reducible rfl))
   refine rd 16 fun K hK=>?_
   go_simp;refine (hmn _).mono ?_;rintro e wk ⟨rfl,hk⟩;subst hk;rw [<- hq.out]
   go_wp2_with fail;refine hK.out _ _ (trivial) (fun Hh=>?_);clear hK K;refine rd 17 fun K hK=>?_
   go_simp;refine hcl.mono ?_;rintro e w2 ⟨rfl,v2,g2,o2,hR⟩;go_wp2_with fail;refine hK.out _ _ (trivial) (fun Hh=>?_);clear hK K
   (try simp only [Act.put,ZA,ZB,ZC,ZD,ZE,ZF])
   refine dn ?_;have hF:=(show Hid _ from (h1.out.below hd).trans hR);clear hcl hR h1 Hh cf hd hmn;go_wp2;refine be ?_;exact ⟨rfl,_,_,_,hF.out⟩
  ·go_simp
   refine hK.out _ _ (Hh) (fun Hh=>?_);clear hK K
   (try simp only [Act.put,ZA,ZB,ZC,ZD,ZE,ZF])
   refine' wpAnyH_take (i:=15) (v:=_) rfl (by kernel_rfl) (by kernel_rfl) (by kernel_rfl) (fun _ _ _ h=>h) (Or.inl ⟨by rfl,?hy1034⟩) Hh ?hr1034
   case hy1034=>(intro w hSw;(try dsimp only at hSw);go_simp;(try with_reducible rfl))
   refine rd2 8 16 (fun K hK=>?_) fun K hK=>?_
   ·go_simp
    refine hK.out _ _ (Hh) (fun Hh=>?_);clear hK K;refine rd 16 fun K hK=>?_
    go_simp;refine (hmn _).mono ?_;rintro e wk ⟨rfl,hk⟩;subst hk;rw [<- hq.out]
    go_wp2_with fail;refine hK.out _ _ (trivial) (fun Hh=>?_);clear hK K;refine rd 17 fun K hK=>?_
    go_simp;refine hcl.mono ?_;rintro e w2 ⟨rfl,v2,g2,o2,hR⟩;go_wp2_with fail;refine hK.out _ _ (trivial) (fun Hh=>?_);clear hK K
    (try simp only [Act.put,ZA,ZB,ZC,ZD,ZE,ZF])
    refine dn ?_;have hF:=(show Hid _ from (h1.out.below hd).trans hR);clear hcl hR h1 Hh cf hd hmn;go_wp2;refine be ?_;exact ⟨rfl,_,_,_,hF.out⟩
   ·go_simp
    refine (hmn _).mono ?_;rintro e wk ⟨rfl,hk⟩;subst hk;rw [<- hq.out]
    go_wp2_with fail;refine hK.out _ _ (trivial) (fun Hh=>?_);clear hK K;refine rd 8 fun K hK=>?_
    go_simp;refine hK.out _ _ (Hh) (fun Hh=>?_);clear hK K;refine rd 17 fun K hK=>?_
    go_simp;refine hcl.mono ?_;rintro e w2 ⟨rfl,v2,g2,o2,hR⟩;go_wp2_with fail;refine hK.out _ _ (trivial) (fun Hh=>?_);clear hK K
    (try simp only [Act.put,ZA,ZB,ZC,ZD,ZE,ZF])
    refine dn ?_;have hF:=(show Hid _ from (h1.out.below hd).trans hR);clear hcl hR h1 Hh cf hd hmn;go_wp2;refine be ?_;exact ⟨rfl,_,_,_,hF.out⟩
 ·go_simp
  refine hK.out _ _ (Hh) (fun Hh=>?_);clear hK K;refine rd2 4 13 (fun K hK=>?_) fun K hK=>?_
  ·go_simp
   refine hK.out _ _ (Hh) (fun Hh=>?_);clear hK K;refine rd 13 fun K hK=>?_
   go_simp;refine hK.out _ _ (Hh) (fun Hh=>?_);clear hK K
   (try simp only [Act.put,ZA,ZB,ZC,ZD,ZE,ZF])
   refine' wpAnyH_take (i:=15) (v:=_) rfl (by kernel_rfl) (by kernel_rfl) (by kernel_rfl) (fun _ _ _ h=>h) (Or.inl ⟨by rfl,?hy1035⟩) Hh ?hr1035
   case hy1035=>(intro w hSw;(try dsimp only at hSw);go_simp;(try with_reducible rfl))
   refine rd 16 fun K hK=>?_
   go_simp;refine (hmn _).mono ?_;rintro e wk ⟨rfl,hk⟩;subst hk;rw [<- hq.out]
   go_wp2_with fail;refine hK.out _ _ (trivial) (fun Hh=>?_);clear hK K;refine rd 17 fun K hK=>?_
   go_simp;refine hcl.mono ?_;rintro e w2 ⟨rfl,v2,g2,o2,hR⟩;go_wp2_with fail;refine hK.out _ _ (trivial) (fun Hh=>?_);clear hK K
   (try simp only [Act.put,ZA,ZB,ZC,ZD,ZE,ZF])
   refine dn ?_;have hF:=(show Hid _ from (h1.out.below hd).trans hR);clear hcl hR h1 Hh cf hd hmn;go_wp2;refine be ?_;exact ⟨rfl,_,_,_,hF.out⟩
  ·go_simp
   refine hK.out _ _ (Hh) (fun Hh=>?_);clear hK K
   (try simp only [Act.put,ZA,ZB,ZC,ZD,ZE,ZF])
   refine' wpAnyH_take (i:=15) (v:=_) rfl (by kernel_rfl) (by kernel_rfl) (by kernel_rfl) (fun _ _ _ h=>h) (Or.inl ⟨by rfl,?hy1036⟩) Hh ?hr1036
   case hy1036=>(intro w hSw;(try dsimp only at hSw);go_simp;(try with_reducible rfl))
   refine rd2 4 16 (fun K hK=>?_) fun K hK=>?_
   ·go_simp
    refine hK.out _ _ (Hh) (fun Hh=>?_);clear hK K;refine rd 16 fun K hK=>?_
    go_simp;refine (hmn _).mono ?_;rintro e wk ⟨rfl,hk⟩;subst hk;rw [<- hq.out]
    go_wp2_with fail;refine hK.out _ _ (trivial) (fun Hh=>?_);clear hK K;refine rd 17 fun K hK=>?_
    go_simp;refine hcl.mono ?_;rintro e w2 ⟨rfl,v2,g2,o2,hR⟩;go_wp2_with fail;refine hK.out _ _ (trivial) (fun Hh=>?_);clear hK K
    (try simp only [Act.put,ZA,ZB,ZC,ZD,ZE,ZF])
    refine dn ?_;have hF:=(show Hid _ from (h1.out.below hd).trans hR);clear hcl hR h1 Hh cf hd hmn;go_wp2;refine be ?_;exact ⟨rfl,_,_,_,hF.out⟩
   ·go_simp
    refine (hmn _).mono ?_;rintro e wk ⟨rfl,hk⟩;subst hk;rw [<- hq.out]
    go_wp2_with fail;refine hK.out _ _ (trivial) (fun Hh=>?_);clear hK K;refine rd 4 fun K hK=>?_
    go_simp;refine hK.out _ _ (Hh) (fun Hh=>?_);clear hK K;refine rd 17 fun K hK=>?_
    go_simp;refine hcl.mono ?_;rintro e w2 ⟨rfl,v2,g2,o2,hR⟩;go_wp2_with fail;refine hK.out _ _ (trivial) (fun Hh=>?_);clear hK K
    (try simp only [Act.put,ZA,ZB,ZC,ZD,ZE,ZF])
    refine dn ?_;have hF:=(show Hid _ from (h1.out.below hd).trans hR);clear hcl hR h1 Hh cf hd hmn;go_wp2;refine be ?_;exact ⟨rfl,_,_,_,hF.out⟩
 ·go_simp
  refine hK.out _ _ (Hh) (fun Hh=>?_);clear hK K
  (try simp only [Act.put,ZA,ZB,ZC,ZD,ZE,ZF])
  refine' wpAnyH_take (i:=15) (v:=_) rfl (by kernel_rfl) (by kernel_rfl) (by kernel_rfl) (fun _ _ _ h=>h) (Or.inl ⟨by rfl,?hy1037⟩) Hh ?hr1037
  case hy1037=>(intro w hSw;(try dsimp only at hSw);go_simp;(try with_reducible rfl))
  simp only [Act.put,ZA,ZB,ZC,ZD,ZE,ZF];refine wpAnyH_ready (rs:=[4,8,16]) (by kernel_rfl) (by simp) (AllReadyH.cons rfl (fun K hK=>?_) (AllReadyH.cons rfl (fun K hK=>?_) (AllReadyH.cons rfl (fun K hK=>?_) AllReadyH.nil)))
  ·go_simp
   refine hK.out _ _ (Hh) (fun Hh=>?_);clear hK K;refine rd2 8 16 (fun K hK=>?_) fun K hK=>?_
   ·go_simp
    refine hK.out _ _ (Hh) (fun Hh=>?_);clear hK K;refine rd 16 fun K hK=>?_
    go_simp;refine (hmn _).mono ?_;rintro e wk ⟨rfl,hk⟩;subst hk;rw [<- hq.out]
    go_wp2_with fail;refine hK.out _ _ (trivial) (fun Hh=>?_);clear hK K;refine rd 17 fun K hK=>?_
    go_simp;refine hcl.mono ?_;rintro e w2 ⟨rfl,v2,g2,o2,hR⟩;go_wp2_with fail;refine hK.out _ _ (trivial) (fun Hh=>?_);clear hK K
    (try simp only [Act.put,ZA,ZB,ZC,ZD,ZE,ZF])
    refine dn ?_;have hF:=(show Hid _ from (h1.out.below hd).trans hR);clear hcl hR h1 Hh cf hd hmn;go_wp2;refine be ?_;exact ⟨rfl,_,_,_,hF.out⟩
   ·go_simp
    refine (hmn _).mono ?_;rintro e wk ⟨rfl,hk⟩;subst hk;rw [<- hq.out]
    go_wp2_with fail;refine hK.out _ _ (trivial) (fun Hh=>?_);clear hK K;refine rd 8 fun K hK=>?_
    go_simp;refine hK.out _ _ (Hh) (fun Hh=>?_);clear hK K;refine rd 17 fun K hK=>?_
    go_simp;refine hcl.mono ?_;rintro e w2 ⟨rfl,v2,g2,o2,hR⟩;go_wp2_with fail;refine hK.out _ _ (trivial) (fun Hh=>?_);clear hK K
    (try simp only [Act.put,ZA,ZB,ZC,ZD,ZE,ZF])
    refine dn ?_;have hF:=(show Hid _ from (h1.out.below hd).trans hR);clear hcl hR h1 Hh cf hd hmn;go_wp2;refine be ?_;exact ⟨rfl,_,_,_,hF.out⟩
  ·go_simp
   refine hK.out _ _ (Hh) (fun Hh=>?_);clear hK K;refine rd2 4 16 (fun K hK=>?_) fun K hK=>?_
   ·go_simp
    refine hK.out _ _ (Hh) (fun Hh=>?_);clear hK K;refine rd 16 fun K hK=>?_
    go_simp;refine (hmn _).mono ?_;rintro e wk ⟨rfl,hk⟩;subst hk;rw [<- hq.out]
    go_wp2_with fail;refine hK.out _ _ (trivial) (fun Hh=>?_);clear hK K;refine rd 17 fun K hK=>?_
    go_simp;refine hcl.mono ?_;rintro e w2 ⟨rfl,v2,g2,o2,hR⟩;go_wp2_with fail;refine hK.out _ _ (trivial) (fun Hh=>?_);clear hK K
    (try simp only [Act.put,ZA,ZB,ZC,ZD,ZE,ZF])
    refine dn ?_;have hF:=(show Hid _ from (h1.out.below hd).trans hR);clear hcl hR h1 Hh cf hd hmn;go_wp2;refine be ?_;exact ⟨rfl,_,_,_,hF.out⟩
   ·go_simp
    refine (hmn _).mono ?_;rintro e wk ⟨rfl,hk⟩;subst hk;rw [<- hq.out]
    go_wp2_with fail;refine hK.out _ _ (trivial) (fun Hh=>?_);clear hK K;refine rd 4 fun K hK=>?_
    go_simp;refine hK.out _ _ (Hh) (fun Hh=>?_);clear hK K;refine rd 17 fun K hK=>?_
    go_simp;refine hcl.mono ?_;rintro e w2 ⟨rfl,v2,g2,o2,hR⟩;go_wp2_with fail;refine hK.out _ _ (trivial) (fun Hh=>?_);clear hK K
    (try simp only [Act.put,ZA,ZB,ZC,ZD,ZE,ZF])
    refine dn ?_;have hF:=(show Hid _ from (h1.out.below hd).trans hR);clear hcl hR h1 Hh cf hd hmn;go_wp2;refine be ?_;exact ⟨rfl,_,_,_,hF.out⟩
  ·go_simp
   refine (hmn _).mono ?_;rintro e wk ⟨rfl,hk⟩;subst hk;rw [<- hq.out]
   go_wp2_with fail;refine hK.out _ _ (trivial) (fun Hh=>?_);clear hK K;refine rd2 4 8 (fun K hK=>?_) fun K hK=>?_
   ·go_simp
    refine hK.out _ _ (Hh) (fun Hh=>?_);clear hK K;refine rd 8 fun K hK=>?_
    go_simp;refine hK.out _ _ (Hh) (fun Hh=>?_);clear hK K;refine rd 17 fun K hK=>?_
    go_simp;refine hcl.mono ?_;rintro e w2 ⟨rfl,v2,g2,o2,hR⟩;go_wp2_with fail;refine hK.out _ _ (trivial) (fun Hh=>?_);clear hK K
    (try simp only [Act.put,ZA,ZB,ZC,ZD,ZE,ZF])
    refine dn ?_;have hF:=(show Hid _ from (h1.out.below hd).trans hR);clear hcl hR h1 Hh cf hd hmn;go_wp2;refine be ?_;exact ⟨rfl,_,_,_,hF.out⟩
   ·go_simp
    refine hK.out _ _ (Hh) (fun Hh=>?_);clear hK K;refine rd 4 fun K hK=>?_
    go_simp;refine hK.out _ _ (Hh) (fun Hh=>?_);clear hK K;refine rd 17 fun K hK=>?_
    go_simp;refine hcl.mono ?_;rintro e w2 ⟨rfl,v2,g2,o2,hR⟩;go_wp2_with fail;refine hK.out _ _ (trivial) (fun Hh=>?_);clear hK K
    (try simp only [Act.put,ZA,ZB,ZC,ZD,ZE,ZF])
    refine dn ?_;have hF:=(show Hid _ from (h1.out.below hd).trans hR);clear hcl hR h1 Hh cf hd hmn;go_wp2;refine be ?_;exact ⟨rfl,_,_,_,hF.out⟩
theorem l7Sign_83 (cn N base B:Nat) (pv:Value) (ps:List Int) (t:Te) (v:Tv) (vg vo:List Value) (w:World) (h:Scr w 35 base B [] t v vg vo) (hbase:base<=w.heap.size) (rt:RtW t cn N) (hp:SlN w pv ps) (hl:ps.length<=1000) (hap:ApF w B v vg vo pv) (hb:∀ x∈ps,0<=x/\x<=9999) :
  Calls Tryz.prog 144 #[.pointer (some ⟨B,0,none⟩),.int .i64 83,pv] w fun e w'=>e=.returned (.tuple #[])/\∃ v' vg' vo',Res w w' 35 base B [] v vg vo (listT t 83 ps) v' vg' vo':=by
 have hpn:Calls Tryz.prog 211 #[pv,.int .i64 0,.int .i64 1] w (fun e w'=>e=.returned (.int .i64 (parN ps 0 1))/\w'=w):=lPa pv ps 0 1 w hp hl;have hph:Calls Tryz.prog 211 #[pv,.int .i64 0,.int .i64 0] w (fun e w'=>e=.returned (.int .i64 (parN ps 0 0))/\w'=w):=lPa pv ps 0 0 w hp hl;have hnb:=parN_bd hb 0 1 (by omega);have hcc:=rt.c;have c0:w.cell? ⟨B,0,none⟩=some (.int .i64 t.gc):=h.cell 0;have c4:w.cell? ⟨B,4,none⟩=some (.int .i64 t.row):=h.cell 4;have c5:w.cell? ⟨B,5,none⟩=some (.int .i64 t.col):=h.cell 5;have c13:w.cell? ⟨B,13,none⟩=some (.bool t.full):=h.cell 13;have z13:w.frozen? ⟨B,13,none⟩=false:=h.frozen 13;have h1:Res w (w.setCell ⟨B,13,none⟩ (.bool false)) 35 base B [] v vg vo { t with full:=false } v vg vo:=h.put (sCg B [.bool false] 13 w) _ (sCh B 35 [.bool false] 13 w _ h.b) rfl rfl rfl rfl rfl;have hb1:=Nat.le_trans hbase h1.g.size;have hp1:=(hp.res hap h1).1;obtain ⟨W1,hW1⟩:∃ W1,Hid (W1=w.setCell ⟨B,13,none⟩ (.bool false)):=⟨_,rfl⟩;rw [<- hW1.out] at h1 hp1 hb1
 obtain ⟨b1,b2,b3⟩:=rt.tb;obtain ⟨r1,r2⟩:=rt.row;have hn2:=rt.n1.2;have hlt:=h1.s.lt;have hN:=rt.n;have cf:∀ W,Below W1.heap.size W1 W->W.cell? ⟨B,11,none⟩=some (.int .i64 t.top)/\W.cell? ⟨B,12,none⟩=some (.int .i64 t.bot):=fun W hb=>⟨(h1.s.below hb).cell 11,(h1.s.below hb).cell 12⟩
 have hmv:=fun W (hbW:Below W1.heap.size W1 W)=>moveS_any cn N base B { t with full:=false } v vg vo W (h1.s.below hbW) (Nat.le_trans hb1 hbW.size) (rt.full false) t.top.toNat t.bot.toNat (parN ps 0 1) (by omega) (by omega) (by  omega)
 rw [show ((t.top.toNat:Nat):Int)=t.top by omega,show ((t.bot.toNat:Nat):Int)=t.bot by omega] at hmv
 have hbk:=fun W (hbW:Below W1.heap.size W1 W)=>l7Back_any B t.st W ((h1.s.below hbW).cell 7) (Nat.lt_of_lt_of_le hlt hbW.size)
 unfold stV at hmv hbk;have hV:listT t 83 ps=moveT { t with full:=false } t.top t.bot (parN ps 0 1):=by  simp [listT]
 rw [hV]
 clear hV;replace h1:=(show Hid _ from h1);clear h rt hbase hb1 hp1 hp hap hb hcc hn2 hN r1 r2 b1 b2 b3;generalize parN ps 0 1=n at *;generalize parN ps 0 0=how at *;go_enter Tryz.func144,Tryz.ntmps144;go_wp2_with fail;refine hpn.mono ?_;rintro e wk ⟨rfl,hk⟩;subst hk;clear hpn;go_wp2_with fail;refine hph.mono ?_;rintro e wk ⟨rfl,hk⟩;subst hk;clear hph;go_wp2;rw [<- hW1.out]
 have hd:Below W1.heap.size W1 W1.drew:=bdr W1;refine wp_region_noPanic ?_;refine wp_region_held_drew (S:=(fun W=>W.cell? ⟨B,11,none⟩=some (.int .i64 t.top)/\W.cell? ⟨B,12,none⟩=some (.int .i64 t.bot))) (by kernel_rfl) (cf _ hd) (fun Hh=>?_);refine' wpAnyH_take (i:=0) (v:=_) rfl (by kernel_rfl) (by kernel_rfl) (by kernel_rfl) (fun _ _ _ h=>h) (Or.inl ⟨by rfl,?hy1001⟩) Hh ?hr1001
 case hy1001=>(intro w hSw;(try dsimp only at hSw);go_simp;(try with_reducible rfl))
 simp only [Act.put,ZA,ZB,ZC,ZD,ZE];refine' wpAnyH_take (i:=1) (v:=_) rfl (by kernel_rfl) (by kernel_rfl) (by kernel_rfl) (fun _ _ _ h=>h) (Or.inl ⟨by rfl,?hy1002⟩) Hh ?hr1002
 case hy1002=>(intro w hSw;(try dsimp only at hSw);go_simp;(try with_reducible rfl))
 simp only [Act.put,ZA,ZB,ZC,ZD,ZE,ZF];refine' wpAnyH_take (i:=2) (v:=_) rfl (by kernel_rfl) (by kernel_rfl) (by kernel_rfl) (fun _ _ _ h=>h) (Or.inl ⟨by rfl,?hy1003⟩) Hh ?hr1003
 case hy1003=>(intro w hSw;(try dsimp only at hSw);go_simp;(try with_reducible rfl))
 simp only [Act.put,ZA,ZB,ZC,ZD,ZE,ZF];refine' wpAnyH_take (i:=3) (v:=_) rfl (by kernel_rfl) (by kernel_rfl) (by kernel_rfl) (fun _ _ _ h=>h) (Or.inl ⟨by rfl,?hy1004⟩) Hh ?hr1004
 case hy1004=>(intro w hSw;(try dsimp only at hSw);go_simp;(try with_reducible rfl))
 simp only [Act.put,ZA,ZB,ZC,ZD,ZE,ZF];refine' wpAnyH_take (i:=4) (v:=_) rfl (by kernel_rfl) (by kernel_rfl) (by kernel_rfl) (fun _ _ _ h=>h) (Or.inl ⟨by rfl,?hy1005⟩) Hh ?hr1005
 case hy1005=>(intro w hSw;(try dsimp only at hSw);go_simp;(try with_reducible rfl))
 simp only [Act.put,ZA,ZB,ZC,ZD,ZE,ZF];refine' wpAnyH_take (i:=5) (v:=_) rfl (by kernel_rfl) (by kernel_rfl) (by kernel_rfl) (fun _ _ _ h=>h) (Or.inl ⟨by rfl,?hy1006⟩) Hh ?hr1006
 case hy1006=>(intro w hSw;(try dsimp only at hSw);go_simp;(try with_reducible rfl))
 simp only [Act.put,ZA,ZB,ZC,ZD,ZE,ZF];refine' wpAnyH_take (i:=6) (v:=_) rfl (by kernel_rfl) (by kernel_rfl) (by kernel_rfl) (fun _ _ _ h=>h) (Or.inl ⟨by rfl,?hy1007⟩) Hh ?hr1007
 case hy1007=>(intro w hSw;(try dsimp only at hSw);go_simp;(try with_reducible rfl))
 simp only [Act.put,ZA,ZB,ZC,ZD,ZE,ZF];refine' wpAnyH_take (i:=7) (v:=_) rfl (by kernel_rfl) (by kernel_rfl) (by kernel_rfl) (fun _ _ _ h=>h) (Or.inl ⟨by rfl,?hy1008⟩) Hh ?hr1008
 case hy1008=>(intro w hSw;(try dsimp only at hSw);go_simp;(try with_reducible rfl))
 simp only [Act.put,ZA,ZB,ZC,ZD,ZE,ZF];refine' wpAnyH_take (i:=8) (v:=_) rfl (by kernel_rfl) (by kernel_rfl) (by kernel_rfl) (fun _ _ _ h=>h) (Or.inl ⟨by rfl,?hy1009⟩) Hh ?hr1009
 case hy1009=>(intro w hSw;(try dsimp only at hSw);go_simp;(try with_reducible rfl))
 simp only [Act.put,ZA,ZB,ZC,ZD,ZE,ZF];refine' wpAnyH_take (i:=9) (v:=_) rfl (by kernel_rfl) (by kernel_rfl) (by kernel_rfl) (fun _ _ _ h=>h) (Or.inl ⟨by rfl,?hy1010⟩) Hh ?hr1010
 case hy1010=>(intro w hSw;(try dsimp only at hSw);go_simp;(try with_reducible rfl))
 simp only [Act.put,ZA,ZB,ZC,ZD,ZE,ZF];refine' wpAnyH_take (i:=10) (v:=_) rfl (by kernel_rfl) (by kernel_rfl) (by kernel_rfl) (fun _ _ _ h=>h) (Or.inl ⟨by rfl,?hy1011⟩) Hh ?hr1011
 case hy1011=>(intro w hSw;(try dsimp only at hSw);go_simp;(try with_reducible rfl))
 simp only [Act.put,ZA,ZB,ZC,ZD,ZE,ZF];refine' wpAnyH_take (i:=11) (v:=_) rfl (by kernel_rfl) (by kernel_rfl) (by kernel_rfl) (fun _ _ _ h=>h) (Or.inl ⟨by rfl,?hy1012⟩) Hh ?hr1012
 case hy1012=>(intro w hSw;(try dsimp only at hSw);go_simp;(try with_reducible rfl))
 simp only [Act.put,ZA,ZB,ZC,ZD,ZE,ZF];refine' wpAnyH_take (i:=12) (v:=_) rfl (by kernel_rfl) (by kernel_rfl) (by kernel_rfl) (fun _ _ _ h=>h) (Or.inl ⟨by rfl,?hy1013⟩) Hh ?hr1013
 case hy1013=>(intro w hSw;(try dsimp only at hSw);go_simp;(try with_reducible rfl))
 refine rd 13 fun K hK=>?_
 go_simp;refine (hbk _ hd).mono ?_;rintro e wk ⟨rfl,hb⟩;replace hd:=hd.trans (hb.mono hd.size);unfold backS;go_wp2_with fail;refine hK.out _ _ (cf _ hd) (fun Hh=>?_);clear hK K;refine rd 14 fun K hK=>?_
 go_simp;refine (hmv _ hd).mono ?_;rintro e w2 ⟨rfl,vg2,hR⟩;go_wp2_with fail;refine hK.out _ _ (⟨hR.s.cell 11,hR.s.cell 12⟩) (fun Hh=>?_);clear hK K
 (try simp only [Act.put,ZA,ZB,ZC,ZD,ZE,ZF])
 refine dn ?_;have hF:=(show Hid _ from (h1.out.below hd).trans hR);clear hR h1 Hh cf hd hmv hbk;go_wp2;refine be ?_;exact ⟨rfl,_,_,_,hF.out⟩
end Go.Proofs.YtgcnmjjlmcnllaaGreatDoor
