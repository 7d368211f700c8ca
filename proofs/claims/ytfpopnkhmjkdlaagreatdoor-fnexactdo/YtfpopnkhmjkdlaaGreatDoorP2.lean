import Derived.Test.YtfpopnkhmjkdlaaGreatDoorP1
import Derived.Laws.OwnMore
import Derived.Laws.AppendOwn
import Derived.OwnWalk
import Derived.Deep.MidRow
import Derived.Deep.AppendLies
import Derived.Laws.Rows
import Derived.WalkMore
import Derived.ChangeOld
import Derived.Below
import Derived.Deep.Slices
set_option maxRecDepth 20000
set_option maxHeartbeats 16000000
namespace Go.Proofs.YtfpopnkhmjkdlaaGreatDoor
open Go.ChangeShapes Go.WideShapes Go.ChangeAt Go.RowKit
def ceL (c:Ce):List Value:=[.int .i64 c.rune,.int .i64 c.st.fore,.int .i64 c.st.back,.bool c.st.bold,.bool c.st.under,.bool c.st.turned,.int .i64 c.part]
def ceV (c:Ce):Value:=.agg #[.int .i64 c.rune,.int .i64 c.st.fore,.int .i64 c.st.back,.bool c.st.bold,.bool c.st.under,.bool c.st.turned,.int .i64 c.part]
def Je (w:World) (b o:Nat) (c:Ce):Prop :=
 w.cell? ⟨b,o,none⟩=some (.int .i64 c.rune)/\w.cell? ⟨b,o+1,none⟩=some (.int .i64 c.st.fore)/\w.cell? ⟨b,o+2,none⟩=some (.int .i64 c.st.back)/\w.cell? ⟨b,o+3,none⟩=some (.bool c.st.bold)/\w.cell? ⟨b,o+4,none⟩=some (.bool c.st.under)/\w.cell? ⟨b,o+5,none⟩=some (.bool c.st.turned)/\w.cell? ⟨b,o+6,none⟩=some (.int .i64 c.part)
theorem Je.below {w w':World} {b o:Nat} {c:Ce} (h:Je w b o c) (hb:Below w.heap.size w w') (hlt:b<w.heap.size):Je w' b o c:=by
 have e:∀ k,w'.cell? ⟨b,k,none⟩=w.cell? ⟨b,k,none⟩:=fun k=>hb.cell (p:=⟨b,k,none⟩) hlt
 unfold Je;rw [e,e,e,e,e,e,e]
 exact h
def SlC (w:World) (v:Value) (xs:List Ce):Prop :=
 ∃ a c,v=.slice a xs.length c/\xs.length<=c/\(a=none->c=0)/\(xs=[]\/∃ b off,a=some ⟨b,off,none⟩/\b<w.heap.size/\∀ i,i<xs.length->Je w b (off+i*7) (atC xs i))
theorem SlC.below {w w':World} {v:Value} {xs:List Ce} (h:SlC w v xs) (hb:Below w.heap.size w w'):SlC w' v xs:=by
 obtain ⟨a,c,hv,hc,hn,h|⟨b,off,ha,hlt,hi⟩⟩:=h
 ·exact ⟨a,c,hv,hc,hn,.inl h⟩
 ·exact ⟨a,c,hv,hc,hn,.inr ⟨b,off,ha,Nat.lt_of_lt_of_le hlt hb.size,fun i h=>(hi i h).below hb hlt⟩⟩
def Xl (w:World) (base:Nat) (v:Value) (xs:List Ce):Prop:=w.ownsRow base 146 7 v xs.length (xs.flatMap ceL)
theorem Y6 (xs:List Ce):(xs.flatMap ceL).length=xs.length*7:=by
 induction xs with
 | nil=>rfl
 | cons c xs ih=>rw [List.flatMap_cons,List.length_append,ih,List.length_cons];simp [ceL];omega
theorem Uu (xs:List Ce):∀ (i k:Nat),i<xs.length->k<7->(xs.flatMap ceL)[i*7+k]?=(ceL (atC xs i))[k]?:=by
 induction xs with
 | nil=>intro i k h;simp at h
 | cons c xs ih =>
  intro i k h hk;rw [List.flatMap_cons]
  cases i with
  | zero =>
   rw [List.getElem?_append_left (by simp [ceL];omega)]
   simp [atC]
  | succ i =>
   have hl:(ceL c).length=7:=rfl;rw [List.getElem?_append_right (by rw [hl];omega),hl]
   have e:(i+1)*7+k-7=i*7+k:=by omega
   rw [e,ih i k (by simpa using h) hk]
   simp [atC]
theorem Xl.at {w:World} {base g n cap:Nat} {xs:List Ce} (h:Xl w base (.slice (some ⟨g,0,none⟩) n cap) xs) (hn:xs.length=n) (i:Nat) (hi:i<n):Je w g (i*7) (atC xs i):=by
 subst hn
 have hc:∀ k,k<7->w.cell? ⟨g,i*7+k,none⟩=(ceL (atC xs i))[k]?:=fun k hk=>by
  rw [h.cellAt (i*7+k) (by omega),Uu xs i k hi hk]
 exact ⟨hc 0 (by omega),hc 1 (by omega),hc 2 (by omega),hc 3 (by omega),hc 4 (by omega),hc 5 (by omega),hc 6 (by omega)⟩
theorem Xl.shape {w:World} {base:Nat} {v:Value} {xs:List Ce} (h:Xl w base v xs):(v=.slice none 0 0/\xs=[])\/∃ g cap,v=.slice (some ⟨g,0,none⟩) xs.length cap/\base<=g/\g<w.heap.size/\xs.length<=cap:=by
 rcases h.2 with ⟨h1,h2⟩|⟨g,cap,cur,hv,hb,hg,hn,_⟩
 ·exact .inl ⟨h1,List.eq_nil_of_length_eq_zero h2⟩
 ·exact .inr ⟨g,cap,hv,hb,(Array.getElem?_eq_some_iff.1 hg).1,hn⟩
theorem SlC.of_own {w:World} {base:Nat} {v:Value} {xs:List Ce} (h:Xl w base v xs):SlC w v xs:=by
 rcases h.shape with ⟨rfl,rfl⟩|⟨g,cap,rfl,hb,hg,hn⟩
 ·exact ⟨none,0,rfl,Nat.le_refl _,fun _=>rfl,.inl rfl⟩
 ·exact ⟨_,cap,rfl,hn,(fun h=>by cases h),.inr ⟨g,0,rfl,hg,fun i hi=>by rw [Nat.zero_add];exact h.at rfl i hi⟩⟩
theorem Xl.below {w w':World} {base:Nat} {v:Value} {xs:List Ce} (h:Xl w base v xs) (hb:Below w.heap.size w w'):Xl w' base v xs:=World.ownsRow.below (show w.ownsRow _ _ _ _ _ _ from h) hb
theorem Xl.low {w:World} {base base':Nat} {v:Value} {xs:List Ce} (h:Xl w base v xs) (hb:base'<=base):Xl w base' v xs:=by
 refine ⟨h.1,?_⟩;rcases h.2 with h2|⟨g,cap,cur,hv,hbg,r⟩
 ·exact .inl h2
 ·exact .inr ⟨g,cap,cur,hv,Nat.le_trans hb hbg,r⟩
theorem Xl.lt {w:World} {base:Nat} {v:Value} {xs:List Ce} (h:Xl w base v xs):∀ g,v.ownBlock=some g->base<=g/\g<w.heap.size:=World.ownsRow.lt (show w.ownsRow _ _ _ _ _ _ from h)
def YJ (w:World) (g o:Nat) (c:Ce):World :=
 ((((((w.setCell ⟨g,o,none⟩ (.int .i64 c.rune)).setCell ⟨g,o+1,none⟩ (.int .i64 c.st.fore)).setCell ⟨g,o+2,none⟩ (.int .i64 c.st.back)).setCell ⟨g,o+3,none⟩ (.bool c.st.bold)).setCell ⟨g,o+4,none⟩ (.bool c.st.under)).setCell ⟨g,o+5,none⟩ (.bool c.st.turned)).setCell ⟨g,o+6,none⟩ (.int .i64 c.part)
theorem Xgd (xs:List Ce) (c:Ce):∀ i,i<xs.length->((((((((xs.flatMap ceL).set (i*7) (.int .i64 c.rune)).set (i*7+1) (.int .i64 c.st.fore)).set (i*7+2) (.int .i64 c.st.back)).set (i*7+3) (.bool c.st.bold)).set (i*7+4) (.bool c.st.under)).set (i*7+5) (.bool c.st.turned)).set (i*7+6) (.int .i64 c.part))=(xs.set i c).flatMap ceL:=by
 induction xs with
 | nil=>intro i h;simp at h
 | cons d xs ih =>
  intro i h
  cases i with
  | zero=>simp [ceL]
  | succ i =>
   have e:∀ k,(i+1)*7+k=(i*7+k)+7:=fun k=>by omega
   have e0:(i+1)*7=(i*7)+7:=by omega
   rw [e 1,e 2,e 3,e 4,e 5,e 6,e0]
   have hs:∀ (m:Nat) (u:Value) (l:List Value),((ceL d++l).set (m+7) u)=ceL d++l.set m u:=fun m u l=>by
    rw [List.set_append,if_neg (by simp [ceL])]
    simp [ceL]
   rw [List.flatMap_cons,hs,hs,hs,hs,hs,hs,hs,ih i (by simpa using h),List.set_cons_succ,List.flatMap_cons]
theorem Xl.put {w:World} {base g n cap:Nat} {xs:List Ce} (h:Xl w base (.slice (some ⟨g,0,none⟩) n cap) xs) (hn:xs.length=n) (i:Nat) (hi:i<n) (c:Ce) :
  Xl (YJ w g (i*7) c) base (.slice (some ⟨g,0,none⟩) n cap) (xs.set i c)/\w.grownBy (YJ w g (i*7) c) (some g):=by
 subst hn;have h0:=World.ownsRow.stored h (i*7) (.int .i64 c.rune);have h1:=World.ownsRow.stored h0.1 (i*7+1) (.int .i64 c.st.fore);have h2:=World.ownsRow.stored h1.1 (i*7+2) (.int .i64 c.st.back);have h3:=World.ownsRow.stored h2.1 (i*7+3) (.bool c.st.bold);have h4:=World.ownsRow.stored h3.1 (i*7+4) (.bool c.st.under);have h5:=World.ownsRow.stored h4.1 (i*7+5) (.bool c.st.turned);have h6:=World.ownsRow.stored h5.1 (i*7+6) (.int .i64 c.part);refine ⟨?_,Xf (Xf (Xf (Xf (Xf (Xf h0.2 h1.2) h2.2) h3.2) h4.2) h5.2) h6.2⟩;have:=h6.1;rw [Xgd xs c i hi] at this
 unfold Xl YJ;rw [List.length_set]
 exact this
theorem Xl.frozen {w:World} {base g n cap:Nat} {xs:List Ce} (h:Xl w base (.slice (some ⟨g,0,none⟩) n cap) xs) (hn:xs.length=n) (j:Nat):w.frozen? ⟨g,j,none⟩=false:=by
 subst hn;exact World.ownsRow.frozenAt h j
theorem Kq:(Tryz.prog.info? 146).map (fun i=>(i.zero,i.size,i.bytes))=some (some (ceV Ce.zero),7,40):=by kernel_rfl
theorem Xes {w:World} {ops:Array Oper} {rest:List Oper} {o:Oper} {ac:Act} {Q:Exit->Act->World->Prop} (hgd:o.guard=none) (s x:Operand)
  (ho:o.op=.call { callee:=.builtin .append,args:=#[s,x],argTypes:=#[120,120] })
  (base:Nat) (v:Value) (L:List Ce) (c:Ce) (hs:ac.eval s=v) (k:Xl w base v L) (hb:base<=w.heap.size) (hl:L.length<2000000)
  (g:Nat) (hg0:w.heap.size=g) (hx:ac.eval x=.slice (some ⟨g,0,none⟩) 1 1)
  (h:∀ v' w',Xl w' base v' (L++[c])->(w.alloc (.cells #[.int .i64 c.rune,.int .i64 c.st.fore,.int .i64 c.st.back,.bool c.st.bold,.bool c.st.under,.bool c.st.turned,.int .i64 c.part] 146)).grownBy w' v.ownBlock->wpList Tryz.prog ops Q rest (ac.put o.dst v') w') :
  wpList Tryz.prog ops Q (o::rest) ac (w.alloc (.cells #[.int .i64 c.rune,.int .i64 c.st.fore,.int .i64 c.st.back,.bool c.st.bold,.bool c.st.under,.bool c.st.turned,.int .i64 c.part] 146)):=by
 subst hg0;obtain ⟨i0,hi,hz0,hz1,hz2⟩:=info_parts Kq;refine wpList_append_own _ hgd s x _ ho base 146 i0 (ceV Ce.zero) 7 40 Tryz.underlying120 hi hz0 hz1 hz2 rfl (by decide) v L.length _ hs (k.below (Xd _ _)) ⟨w.heap.size,0,none⟩ 1 1 (ceL c) hx rfl ?_ (by intro u hu;simp [ceL] at hu;rcases hu with rfl|rfl|rfl|rfl|rfl|rfl|rfl<;>rfl) (by unfold maxLen;omega) (by omega) (by simp;omega) (fun v' w' ho' hg' _=>?_)
 ·intro j u hj
  have e:(⟨w.heap.size,0,none⟩:Addr).add j=⟨w.heap.size,j,none⟩:=by unfold Addr.add;split<;>simp_all
  rw [e,cell_of_row _ w.heap.size j _ _ (0,0) (heap_alloc_new w _)]
  simpa [ceL] using hj
 ·refine h v' w' ?_ hg'
  unfold Xl;rw [List.length_append,List.flatMap_append]
  simpa using ho'
theorem Ug {w:World} {b off:Nat} {xs:List Ce} (hi:∀ i,i<xs.length->Je w b (off+i*7) (atC xs i)):∀ j u,(xs.flatMap ceL)[j]?=some u->w.cell? ⟨b,off+j,none⟩=some u:=by
 intro j u hj;have hlt:j<xs.length*7:=by have:=(List.getElem?_eq_some_iff.1 hj).1;rwa [Y6] at this
 have h1:j / 7<xs.length:=by omega
 have h2:j % 7<7:=Nat.mod_lt _ (by decide);have e:j=j / 7*7+j % 7:=by omega
 rw [e,Uu xs (j / 7) (j % 7) h1 h2] at hj
 obtain ⟨c0,c1,c2,c3,c4,c5,c6⟩:=hi (j / 7) h1;generalize hk:j % 7=k at *;have eo:off+j=off+j / 7*7+k:=by omega
 rw [eo]
 match k,h2,hj with
 | 0,_,hj=>simp [ceL] at hj;subst hj;exact c0
 | 1,_,hj=>simp [ceL] at hj;subst hj;exact c1
 | 2,_,hj=>simp [ceL] at hj;subst hj;exact c2
 | 3,_,hj=>simp [ceL] at hj;subst hj;exact c3
 | 4,_,hj=>simp [ceL] at hj;subst hj;exact c4
 | 5,_,hj=>simp [ceL] at hj;subst hj;exact c5
 | 6,_,hj=>simp [ceL] at hj;subst hj;exact c6
theorem Uv (xs:List Ce):∀ u∈xs.flatMap ceL,u.oneCell'=true:=by
 intro u hu;obtain ⟨c,_,hu⟩:=List.mem_flatMap.1 hu;simp [ceL] at hu;rcases hu with rfl|rfl|rfl|rfl|rfl|rfl|rfl<;>rfl
theorem Y9 {w:World} {ops:Array Oper} {rest:List Oper} {o:Oper} {ac:Act} {Q:Exit->Act->World->Prop} (hgd:o.guard=none) (s x:Operand)
  (ho:o.op=.call { callee:=.builtin .append,args:=#[s,x],argTypes:=#[120,120] })
  (base:Nat) (v:Value) (L:List Ce) (hs:ac.eval s=v) (k:Xl w base v L) (hb:base<=w.heap.size) (u:Value) (xs:List Ce) (hu:SlC w u xs) (hx:ac.eval x=u) (hl:L.length+xs.length<2000000)
  (h:∀ v' w',Xl w' base v' (L++xs)->w.grownBy w' v.ownBlock->wpList Tryz.prog ops Q rest (ac.put o.dst v') w') :
  wpList Tryz.prog ops Q (o::rest) ac w:=by
 obtain ⟨i0,hi,hz0,hz1,hz2⟩:=info_parts Kq;obtain ⟨a,c,rfl,hc,hn,hr⟩:=hu
 cases a with
 | none =>
  have hc0:c=0:=hn rfl;subst hc0
  have hx0:xs=[]:=by
   rcases hr with h|⟨b,off,h,_⟩
   ·exact h
   ·cases h
  subst hx0;refine wpList_append_own_none hgd s x _ ho base 146 i0 7 Tryz.underlying120 hi v L.length _ hs k hx ?_;refine h v w ?_ ⟨rfl,rfl,rfl,Nat.le_refl _,fun _ _ _=>rfl⟩;rw [List.append_nil];exact k
 | some ad =>
  refine wpList_append_own _ hgd s x _ ho base 146 i0 (ceV Ce.zero) 7 40 Tryz.underlying120 hi hz0 hz1 hz2 rfl (by decide) v L.length _ hs k ad xs.length c (xs.flatMap ceL) hx (Y6 xs) ?_ (Uv xs) (by unfold maxLen;omega) (by omega) hb (fun v' w' ho' hg' _=>?_)
  ·rcases hr with rfl|⟨b,off,e,_,hi⟩
   ·intro j u hj;simp at hj
   ·cases e
    intro j u hj;rw [Addr.add_mid]
    exact Ug hi j u hj
  ·refine h v' w' ?_ hg'
   unfold Xl;rw [List.length_append,List.flatMap_append]
   exact ho'
theorem KC (w:World) (base:Nat) (hb:base<=w.heap.size):Xl (w.alloc (.cells #[] 146)) base (.slice (some ⟨w.heap.size,0,none⟩) 0 0) []:=by
 have:=World.ownsRow_lit (base:=base) (e:=146) (size:=7) w #[] 0 hb (Nat.zero_le _) rfl
 simpa [Xl] using this
theorem JJ (s:St) (w:World) :
  Calls Tryz.prog 222 #[stV s] w fun e w'=>e=.returned (ceV (Xz s))/\Below w.heap.size w w':=by
 obtain ⟨f,b,bo,un,tu⟩:=s;unfold stV;simp only;go_enter Tryz.func222,Tryz.ntmps222;go_wp2;exact bodyPost_ret (v:=.agg #[.int .i64 32,.int .i64 f,.int .i64 b,.bool bo,.bool un,.bool tu,.int .i64 0]) (by simp [results,Tryz.results222,go_sem]) rfl ⟨rfl,((Below.refl _ _).alloc (Nat.le_refl _) _).alloc (by simp) _⟩
def OC (base:Nat) (v:Value) (L:List Ce) (w0 W:World):Prop:=Xl W base v L/\Below w0.heap.size w0 W/\base<=W.heap.size/\w0.heap.size<=base
theorem OC.below {base:Nat} {v:Value} {L:List Ce} {w0 W W':World} (k:OC base v L w0 W) (hb:Below W.heap.size W W'):OC base v L w0 W' :=
 ⟨k.1.below hb,k.2.1.trans (hb.mono k.2.1.size),Nat.le_trans k.2.2.1 hb.size,k.2.2.2⟩
theorem OC.own {base:Nat} {v v':Value} {L L':List Ce} {w0 W W':World} (k:OC base v L w0 W) (ho:Xl W' base v' L') (hg:W.grownBy W' v.ownBlock):OC base v' L' w0 W' :=
 ⟨ho,k.2.1.grown hg k.2.1.size (fun g e=>Nat.le_trans k.2.2.2 (k.1.lt g e).1),Nat.le_trans k.2.2.1 hg.size,k.2.2.2⟩
theorem XT.own {W W':World} {B base:Nat} {s:St} {v:Value} {L:List Ce} (h:XT W B s) (k:Xl W base v L) (hB:B<base) (hg:W.grownBy W' v.ownBlock):XT W' B s :=
 h.grown hg (fun e=>by have:=(k.lt B e).1;omega)
theorem JZ (n:Nat) (s:St) (w:World) (hn:n<=1000) :
  Calls Tryz.prog 160 #[.int .i64 n,stV s] w fun e w'=>∃ v,e=.returned v/\Xl w' w.heap.size v (X0 n s)/\Below w.heap.size w w':=by
 have h2:=XT.new w s 28;have hbA:=Xd w (Obj.cells #[.int .i64 s.fore,.int .i64 s.back,.bool s.bold,.bool s.under,.bool s.turned] 28);have hbl:=JJ s;unfold stV ceV Xz at *;simp only at hbl;go_enter Tryz.func160,Tryz.ntmps160;go_wp2
 have k0:OC (w.heap.size+1) (.slice (some ⟨w.heap.size+1,0,none⟩) 0 0) [] w ((w.alloc (Obj.cells #[.int .i64 s.fore,.int .i64 s.back,.bool s.bold,.bool s.under,.bool s.turned] 28)).alloc (Obj.cells #[] 146)):=by
  refine ⟨?_,hbA.trans ((Xd _ _).mono hbA.size),by simp,by omega⟩;have:=KC (w.alloc (Obj.cells #[.int .i64 s.fore,.int .i64 s.back,.bool s.bold,.bool s.under,.bool s.turned] 28)) (w.heap.size+1) (by simp)
  simpa using this
 have hs0:=h2.below (Xd _ (Obj.cells #[] 146));go_loopw [5,6] (fun u i wr=>∃ j:Nat,i=.int .i64 j/\j<=n/\OC (w.heap.size+1) u (X0 j s) w wr/\XT wr w.heap.size s) (fun _ i _=>n-(intOf i).toNat)
 case atStart=>exact ⟨0,rfl,Nat.zero_le _,k0,hs0⟩
 case round =>
  clear k0 hs0 h2 hbA;obtain ⟨j,rfl,hj,k,hs⟩:=hrel
  by_cases hlt:j<n
  ·have hji:(j:Int)<(n:Int):=by omega
   have hsn:Hid (X0 (j+1) s=X0 j s++[⟨32,s,0⟩]):=by show _=_;rw [X0,List.replicate_succ'];rfl
   have hl:(X0 j s).length<2000000:=by simp [X0];omega
   obtain ⟨_,⟨c0,c1,c2,c3,c4⟩,_⟩:=id hs;generalize X0 j s=L at *;go_wp2_with fail;refine (hbl _).mono ?_;rintro e w1 ⟨rfl,hb1⟩;have k1:=k.below hb1;have hs1:=hs.below hb1;clear k hs c0 c1 c2 c3 c4 hb1 hbl;go_wp2_with (at_builtin;refine Xes rfl _ _ rfl (w.heap.size+1) _ L ⟨32,s,0⟩ rfl (by exact k1.1) k1.2.2.1 hl _ (by simp) rfl ?_;intro v' w' ho' hg');have k2:=(k1.below (Xd _ _)).own ho' hg';have hs2:=(hs1.below (Xd _ _)).own (k1.below (Xd _ _)).1 (Nat.lt_succ_self _) hg';clear k1 hs1 ho' hg';go_wp2;go_roundw
   case rel=>exact ⟨j+1,by go_num,by omega,by rw [hsn.out];exact k2,hs2⟩
   case measure=>simp [intOf];omega
  ·have hjn:j=n:=by omega
   have hji:¬ (j:Int)<(n:Int):=by omega
   subst hjn;clear hbl hs;go_wp2;go_ret;exact ⟨_,rfl,k.1.low (by omega),k.2.1⟩
theorem QA (n:Nat) (s:St):(X0 n s).length=n:=by simp [X0]
end Go.Proofs.YtfpopnkhmjkdlaaGreatDoor
namespace Go.Proofs.YtfpopnkhmjkdlaaGreatDoor
def XV (l:List Ce) (i:Nat):Bool :=
 (atC l i).st.ok && (if (atC l i).part=0 then decide (wdV (atC l i).rune=1)
  else if (atC l i).part=1 then decide (wdV (atC l i).rune=2) && (decide (i+1<l.length) && (decide ((atC l (i+1)).part=2) && decide ((atC l (i+1)).st=(atC l i).st)))
  else if (atC l i).part=2 then decide ((atC l i).rune=0) && (decide (0<i) && decide ((atC l (i-1)).part=1))
  else false)
def Xu (l:List Ce):Bool:=decide (1<=l.length/\l.length<=60) && (List.range l.length).all (XV l)
theorem Zb (l:List Ce) (i:Nat) (hi:i<l.length) (h:XV l i=false):Xu l=false:=by
 unfold Xu
 have:(List.range l.length).all (XV l)=false:=by
  rw [List.all_eq_false]
  exact ⟨i,List.mem_range.2 hi,by simp [h]⟩
 rw [this,Bool.and_false]
theorem Uo (l:List Ce) (h:¬ (1<=l.length/\l.length<=60)):Xu l=false:=by
 unfold Xu;rw [decide_eq_false h,Bool.false_and]
theorem Xad (l:List Ce) (h:1<=l.length/\l.length<=60) (ha:∀ i,i<l.length->XV l i=true):Xu l=true:=by
 unfold Xu;rw [decide_eq_true h,Bool.true_and,List.all_eq_true]
 exact fun i hi=>ha i (List.mem_range.1 hi)
theorem XdS (l:List Ce):Xu l=true ↔ (1<=l.length/\l.length<=60)/\∀ i,i<l.length->XV l i=true:=by
 constructor
 ·intro h
  unfold Xu at h;rw [Bool.and_eq_true,decide_eq_true_eq,List.all_eq_true] at h
  exact ⟨h.1,fun i hi=>h.2 i (List.mem_range.2 hi)⟩
 ·rintro ⟨h1,h2⟩;exact Xad l h1 h2
def KV (cols:Int) (r:List Ce):Bool:=decide ((r.length:Int)=cols) && Xu r
def Xy (cols:Int) (rows:List (List Ce)):Bool:=decide (1<=cols/\cols<=60) && (decide (1<=rows.length/\rows.length<=30) && rows.all (KV cols))
theorem Xce {cols:Int} {rows:List (List Ce)} (h:¬ (1<=cols/\cols<=60)):Xy cols rows=false:=by
 unfold Xy;rw [decide_eq_false h,Bool.false_and]
theorem Uh {cols:Int} {rows:List (List Ce)} (h:¬ (1<=rows.length/\rows.length<=30)):Xy cols rows=false:=by
 unfold Xy;rw [decide_eq_false h,Bool.false_and,Bool.and_false]
theorem YU (cols:Int) (rows:List (List Ce)):Xy cols rows=true ↔ (1<=cols/\cols<=60)/\(1<=rows.length/\rows.length<=30)/\∀ i,i<rows.length->KV cols (rows.getD i [])=true:=by
 unfold Xy;rw [Bool.and_eq_true,Bool.and_eq_true,decide_eq_true_eq,decide_eq_true_eq,List.all_eq_true]
 constructor
 ·rintro ⟨h1,h2,h3⟩
  refine ⟨h1,h2,fun i hi=>h3 _ ?_⟩;have:rows.getD i []=rows[i]:=by simp [List.getD,hi]
  rw [this];exact List.getElem_mem hi
 ·rintro ⟨h1,h2,h3⟩
  refine ⟨h1,h2,fun r hr=>?_⟩;obtain ⟨i,hi,e⟩:=List.getElem_of_mem hr;have:=h3 i hi;have e2:rows.getD i []=rows[i]:=by simp [List.getD,hi]
  rw [e2,e] at this;exact this
theorem UT {cols:Int} {rows:List (List Ce)} {i:Nat} (hi:i<rows.length) (h:KV cols (rows.getD i [])=false):Xy cols rows=false:=by
 cases hg:Xy cols rows with
 | false=>rfl
 | true =>
  have:=((YU cols rows).1 hg).2.2 i hi;rw [h] at this;cases this
def XB (cols n:Nat):List (List Ce):=List.replicate n (X0 cols St.zero)
theorem Xfe (cols n:Nat):XB cols (n+1)=XB cols n++[X0 cols St.zero]:=by unfold XB;rw [List.replicate_succ']
def Zo (cols:Nat) (rows:List (List Ce)) (a b:Nat) (n:Int) (s:St):List (List Ce) :=
 (List.range rows.length).map fun i=>if a<=i/\i<=b then (if (a:Int)<=i+n/\(i:Int)+n<=b then rows.getD ((i:Int)+n).toNat [] else X0 cols s) else rows.getD i []
structure Pa where
 state:Int
 params:List Int
 mark:Int
 text:List Int
structure Ac where
 kind:Int
 rune:Int
 params:List Int
 mark:Int
 text:List Int
def Xid (ps:List Int) (m r:Int):Bool:=decide (r=63/\ps.length=0/\m=0\/48<=r/\r<=57\/r=59)
def XgZ (r:Int):Bool:=decide ((r<32\/r=127)/\r≠-1/\r≠24/\r≠26/\r≠27)
def XZ (l:List Int):Bool:=l.all Xh
def XX (l:List Int):Bool:=l.all (fun x=>decide (0<=x/\x<=9999))
def okV (p:Pa):Bool:=decide (1<=p.state/\p.state<=5/\p.params.length<=16/\(p.mark=0\/p.mark=63)/\p.text.length<=40/\(p.state=3\/p.params.length=0/\p.mark=0)/\(4<=p.state\/p.text.length=0)) && XZ p.text && XX p.params
theorem Xfo {l:List Int} (h:XZ l=true) (i:Nat) (hi:i<l.length):Xh (l.getD i 0)=true:=by
 have:l.getD i 0=l[i]:=by simp [List.getD,hi]
 rw [this];exact List.all_eq_true.1 h _ (List.getElem_mem hi)
theorem Xa2 {l:List Int} (i:Nat) (hi:i<l.length) (h:Xh (l.getD i 0)=false):XZ l=false:=by
 rw [Bool.eq_false_iff];intro hh
 rw [Xfo hh i hi] at h;cases h
theorem Xae {l:List Int} (h:∀ i,i<l.length->Xh (l.getD i 0)=true):XZ l=true:=by
 refine List.all_eq_true.2 fun x hx=>?_
 obtain ⟨i,hi,rfl⟩:=List.getElem_of_mem hx;have:=h i hi
 simpa [List.getD,hi] using this
theorem XdO {l:List Int} (h:XX l=true) (i:Nat) (hi:i<l.length):0<=l.getD i 0/\l.getD i 0<=9999:=by
 have:l.getD i 0=l[i]:=by simp [List.getD,hi]
 rw [this];exact of_decide_eq_true (List.all_eq_true.1 h _ (List.getElem_mem hi))
theorem KD {l:List Int} (i:Nat) (hi:i<l.length) (h:¬ (0<=l.getD i 0/\l.getD i 0<=9999)):XX l=false:=by
 rw [Bool.eq_false_iff];intro hh
 exact h (XdO hh i hi)
theorem Z6 {l:List Int} (h:∀ i,i<l.length->0<=l.getD i 0/\l.getD i 0<=9999):XX l=true:=by
 refine List.all_eq_true.2 fun x hx=>decide_eq_true ?_
 obtain ⟨i,hi,rfl⟩:=List.getElem_of_mem hx;have:=h i hi
 simpa [List.getD,hi] using this
open Go.ChangeShapes Go.WideShapes Go.ChangeAt Go.RowKit
theorem XcD {w:World} {base base':Nat} {e:TypeId} {size:Nat} {v:Value} {n:Nat} {xs:List Value} (h:w.ownsRow base e size v n xs) (hb:base'<=base):w.ownsRow base' e size v n xs:=by
 refine ⟨h.1,?_⟩;rcases h.2 with h2|⟨g,cap,cur,hv,hbg,r⟩
 ·exact .inl h2
 ·exact .inr ⟨g,cap,cur,hv,Nat.le_trans hb hbg,r⟩
def Yi (w:World) (base:Nat) (v:Value) (xs:List Int):Prop:=w.ownsRow base 2 1 v xs.length (xs.map (Value.int .i64))
theorem Yi.below {w w':World} {base:Nat} {v:Value} {xs:List Int} (h:Yi w base v xs) (hb:Below w.heap.size w w'):Yi w' base v xs:=World.ownsRow.below h hb
theorem Yi.kept {w w':World} {base:Nat} {v:Value} {xs:List Int} {row:Option Nat} (h:Yi w base v xs) (hg:w.grownBy w' row) (hne:v.ownBlock=none\/v.ownBlock≠row):Yi w' base v xs:=World.ownsRow.kept (show w.ownsRow _ _ _ _ _ _ from h) hg hne
theorem Yi.low {w:World} {base base':Nat} {v:Value} {xs:List Int} (h:Yi w base v xs) (hb:base'<=base):Yi w base' v xs:=XcD h hb
theorem Yi.lt {w:World} {base:Nat} {v:Value} {xs:List Int} (h:Yi w base v xs):∀ g,v.ownBlock=some g->base<=g/\g<w.heap.size:=fun g e=>World.ownsRow.lt h g e
theorem Yi.sl {w:World} {base:Nat} {v:Value} {xs:List Int} (h:Yi w base v xs):SlI w v xs:=SlI.of_own h
theorem Yi.shape {w:World} {base:Nat} {v:Value} {xs:List Int} (h:Yi w base v xs):∃ a n c,v=.slice a n c:=by
 obtain ⟨a,c,hv,_⟩:=h.sl;exact ⟨a,_,c,hv⟩
theorem XgM (w:World) (base:Nat):Yi w base (.slice none 0 0) []:=World.ownsRow_nil _ _ _ _
def ApV (u v:Value):Prop:=∀ g,u.ownBlock=some g->v.ownBlock≠some g
theorem ApV.symm {u v:Value} (h:ApV u v):ApV v u:=fun g e1 e2=>h g e2 e1
theorem ApV.nil_l (v:Value):ApV (.slice none 0 0) v:=fun g e=>by simp [Value.ownBlock] at e
theorem ApV.ne {u v:Value} (h:ApV u v):u.ownBlock=none\/u.ownBlock≠v.ownBlock:=by
 cases hu:u.ownBlock with
 | none=>exact .inl rfl
 | some g=>right;intro e;exact h g hu e.symm
def XS (w:World) (base:Nat) (L:List (Value×List Int)):Prop:=(∀ p∈L,Yi w base p.1 p.2)/\L.Pairwise fun p q=>ApV p.1 q.1
theorem XS.below {w w':World} {base:Nat} {L:List (Value×List Int)} (h:XS w base L) (hb:Below w.heap.size w w'):XS w' base L:=⟨fun p hp=>(h.1 p hp).below hb,h.2⟩
theorem XS.low {w:World} {base base':Nat} {L:List (Value×List Int)} (h:XS w base L) (hb:base'<=base):XS w base' L:=⟨fun p hp=>(h.1 p hp).low hb,h.2⟩
theorem XS.perm {w:World} {base:Nat} {L M:List (Value×List Int)} (h:XS w base L) (hp:L.Perm M):XS w base M :=
 ⟨fun _ hm=>h.1 _ (hp.mem_iff.2 hm),(hp.pairwise_iff (fun {_ _} h=>ApV.symm h)).1 h.2⟩
theorem XS.sub {w:World} {base:Nat} {L M:List (Value×List Int)} (h:XS w base L) (hp:M.Sublist L):XS w base M :=
 ⟨fun _ hm=>h.1 _ (hp.subset hm),h.2.sublist hp⟩
theorem XS.nil (w:World) (base:Nat):XS w base []:=⟨fun _ h=>absurd h (List.not_mem_nil),List.Pairwise.nil⟩
theorem XS.tail {w:World} {base:Nat} {x:Value×List Int} {L:List (Value×List Int)} (h:XS w base (x::L)):XS w base L:=h.sub (List.sublist_cons_self _ _)
theorem XS.head {w:World} {base:Nat} {x:Value×List Int} {L:List (Value×List Int)} (h:XS w base (x::L)):Yi w base x.1 x.2:=h.1 x (List.mem_cons_self)
theorem XS.nilc {w:World} {base:Nat} {L:List (Value×List Int)} (h:XS w base L):XS w base ((.slice none 0 0,[])::L) :=
 ⟨fun p hp=>by
  rcases List.mem_cons.1 hp with rfl|hp
  ·exact XgM _ _
  ·exact h.1 p hp,List.Pairwise.cons (fun q _=>ApV.nil_l _) h.2⟩
theorem XS.new {w w':World} {base:Nat} {L:List (Value×List Int)} (h:XS w base L) (hb:Below w.heap.size w w') {v:Value} {xs:List Int} (ho:Yi w' base v xs) (hn:∀ g,v.ownBlock=some g->w.heap.size<=g):XS w' base ((v,xs)::L) :=
 ⟨fun p hp=>by
  rcases List.mem_cons.1 hp with rfl|hp
  ·exact ho
  ·exact (h.1 p hp).below hb,List.Pairwise.cons (fun q hq g e1 e2=>by have:=hn g e1;have:=((h.1 q hq).lt g e2).2;omega) h.2⟩
theorem XS.grow {w w':World} {base:Nat} {v v':Value} {xs ys:List Int} {L:List (Value×List Int)} (h:XS w base ((v,xs)::L)) (hg:w.grownBy w' v.ownBlock) (ho:Yi w' base v' ys) (hat:∀ g,v'.ownBlock=some g->v.ownBlock=some g\/w.heap.size<=g):XS w' base ((v',ys)::L):=by
 have hp:=List.pairwise_cons.1 h.2;refine ⟨fun p hm=>?_,List.Pairwise.cons (fun q hq g e1 e2=>?_) hp.2⟩
 ·rcases List.mem_cons.1 hm with rfl|hm
  ·exact ho
  ·exact (h.1 p (List.mem_cons_of_mem _ hm)).kept hg ((hp.1 p hm).symm.ne)
 ·rcases hat g e1 with e|e
  ·exact hp.1 q hq g e e2
  ·have:=((h.1 q (List.mem_cons_of_mem _ hq)).lt g e2).2;omega
theorem XS.kept {w w':World} {base:Nat} {L:List (Value×List Int)} {row:Option Nat} (h:XS w base L) (hg:w.grownBy w' row) (hne:∀ p∈L,p.1.ownBlock=none\/p.1.ownBlock≠row):XS w' base L :=
 ⟨fun p hp=>(h.1 p hp).kept hg (hne p hp),h.2⟩
theorem Yi.not_block {w:World} {base:Nat} {v:Value} {xs:List Int} (h:Yi w base v xs) {B:Nat} {cs:Array Value} {t:TypeId} {fr:Nat×Nat} (hB:w.heap[B]?=some (.cells cs t fr)) (ht:t≠2):v.ownBlock≠some B:=by
 intro e;rcases h.2 with ⟨hv,_⟩|⟨g,cap,cur,hv,_,hg,_⟩
 ·rw [hv] at e;simp [Value.ownBlock] at e
 ·rw [hv] at e
  simp only [Value.ownBlock,Option.some.injEq] at e;subst e;rw [hB] at hg
  simp only [Option.some.injEq,Obj.cells.injEq] at hg;exact ht hg.2.1
structure Ax where
 a:Ac
 pv:Value
 tv:Value
def axV (x:Ax):Value:=.agg #[.int .i64 x.a.kind,.int .i64 x.a.rune,x.pv,.int .i64 x.a.mark,x.tv]
def paV (p:Pa) (pv tv:Value):Value:=.agg #[.int .i64 p.state,pv,.int .i64 p.mark,tv]
def PaC (w:World) (B:Nat) (s:Int) (pv:Value) (m:Int) (tv:Value):Prop :=
 B<w.heap.size/\(w.cell? ⟨B,0,none⟩=some (.int .i64 s)/\w.cell? ⟨B,1,none⟩=some pv/\w.cell? ⟨B,2,none⟩=some (.int .i64 m)/\w.cell? ⟨B,3,none⟩=some tv) /\
  (w.frozen? ⟨B,0,none⟩=false/\w.frozen? ⟨B,1,none⟩=false/\w.frozen? ⟨B,2,none⟩=false/\w.frozen? ⟨B,3,none⟩=false)
theorem PaC.grown {w w':World} {B:Nat} {s m:Int} {pv tv:Value} {row:Option Nat} (h:PaC w B s pv m tv) (hg:w.grownBy w' row) (hr:row≠some B):PaC w' B s pv m tv:=by
 have hb:=hg.block B h.1 (Ne.symm hr);have hc:∀ k,w'.cell? ⟨B,k,none⟩=w.cell? ⟨B,k,none⟩:=fun k=>World.cell?_of_block (w:=w) hb
 have hz:∀ k,w'.frozen? ⟨B,k,none⟩=w.frozen? ⟨B,k,none⟩:=fun k=>World.frozen?_of_block (w:=w) hb
 refine ⟨Nat.lt_of_lt_of_le h.1 hg.size,?_,?_⟩
 ·rw [hc,hc,hc,hc];exact h.2.1
 ·rw [hz,hz,hz,hz];exact h.2.2
theorem PaC.below {w w':World} {B:Nat} {s m:Int} {pv tv:Value} (h:PaC w B s pv m tv) (hb:Below w.heap.size w w'):PaC w' B s pv m tv:=h.grown (gbl hb none) (by simp)
theorem PaC.new (w:World) (s m:Int) (pv tv:Value) (t:TypeId):PaC (w.alloc (.cells #[.int .i64 s,pv,.int .i64 m,tv] t)) w.heap.size s pv m tv :=
 ⟨by simp,⟨by simp [go_sem],by simp [go_sem],by simp [go_sem],by simp [go_sem]⟩,⟨by simp [go_sem],by simp [go_sem],by simp [go_sem],by simp [go_sem]⟩⟩
theorem XhB {a b:Int} (h:a=b):Ending.returned (.int .i64 a)=.returned (.int .i64 b):=by rw [h]
theorem sWa (r:Int) (w:World) :
  Calls Tryz.prog 172 #[.int .i64 r] w fun e w'=>e=.returned (.int .i64 (wdV r))/\w'=w:=by
 by_cases hr:Xh r=true
 ·have hb:=(Xt r).1 hr
  have hw:Hid (wdV r=if r<32\/(127<=r/\r<=159)\/(768<=r/\r<=879) then 0 else if (4352<=r/\r<=4447)\/(12288<=r/\r<=55295)\/(127744<=r/\r<=131071) then 2 else 1):=by show _=_;simp [wdV,hr]
  go_enter Tryz.func172,Tryz.ntmps172;go_wp2_with (first|(go_at_call 140;refine (Yb _ _).mono ?_;rw [hr];rintro e w' ⟨rfl,rfl⟩)|(go_at_call 73;refine (XQ _ _ _ _).mono ?_;rintro e w' ⟨rfl,rfl⟩))
  all_goals
   go_ret;refine ⟨XhB ?_,rfl⟩;rw [hw.out]
   clear hw hr
   (try simp at *)
   omega
 ·have hr:Xh r=false:=by simpa using hr
  have hw:Hid (wdV r=0):=by show _=_;simp [wdV,hr]
  go_enter Tryz.func172,Tryz.ntmps172;go_wp2_with (first|(go_at_call 140;refine (Yb _ _).mono ?_;rw [hr];rintro e w' ⟨rfl,rfl⟩)|(go_at_call 73;refine (XQ _ _ _ _).mono ?_;rintro e w' ⟨rfl,rfl⟩))
  all_goals
   go_ret;exact ⟨XhB hw.out.symm,rfl⟩
def Zm:Array Value:=#[.int .i64 0,.int .i64 31,.int .i64 0,.int .i64 127,.int .i64 159,.int .i64 0,.int .i64 768,.int .i64 879,.int .i64 0,.int .i64 4352,.int .i64 4447,.int .i64 2,.int .i64 12288,.int .i64 55295,.int .i64 2,.int .i64 127744,.int .i64 131071,.int .i64 2]
def Xo (w:World):Prop:=∃ t fr,w.heap[0]?=some (.cells Zm t fr)
theorem Xo.below {B:Nat} {w w':World} (h:Xo w) (hb:Below B w w') (hB:0<B):Xo w':=by
 obtain ⟨t,fr,h⟩:=h;exact ⟨t,fr,by rw [hb.block _ hB];exact h⟩
theorem Xo.lt {w:World} (h:Xo w):0<w.heap.size:=by
 obtain ⟨t,fr,h⟩:=h;exact (Array.getElem?_eq_some_iff.1 h).1
theorem Kb:∀ w,(Instr.index 209 (.agg #[.int .i64 0,.int .i64 31,.int .i64 0,.int .i64 127,.int .i64 159,.int .i64 0,.int .i64 768,.int .i64 879,.int .i64 0,.int .i64 4352,.int .i64 4447,.int .i64 2,.int .i64 12288,.int .i64 55295,.int .i64 2,.int .i64 127744,.int .i64 131071,.int .i64 2]) (.int .i64 0)).run Tryz.prog w=.ok (.agg #[.int .i64 0,.int .i64 31,.int .i64 0]) w:=fun _=>by kernel_rfl
theorem Kc:∀ w,(Instr.index 209 (.agg #[.int .i64 0,.int .i64 31,.int .i64 0,.int .i64 127,.int .i64 159,.int .i64 0,.int .i64 768,.int .i64 879,.int .i64 0,.int .i64 4352,.int .i64 4447,.int .i64 2,.int .i64 12288,.int .i64 55295,.int .i64 2,.int .i64 127744,.int .i64 131071,.int .i64 2]) (.int .i64 1)).run Tryz.prog w=.ok (.agg #[.int .i64 127,.int .i64 159,.int .i64 0]) w:=fun _=>by kernel_rfl
theorem Kd:∀ w,(Instr.index 209 (.agg #[.int .i64 0,.int .i64 31,.int .i64 0,.int .i64 127,.int .i64 159,.int .i64 0,.int .i64 768,.int .i64 879,.int .i64 0,.int .i64 4352,.int .i64 4447,.int .i64 2,.int .i64 12288,.int .i64 55295,.int .i64 2,.int .i64 127744,.int .i64 131071,.int .i64 2]) (.int .i64 2)).run Tryz.prog w=.ok (.agg #[.int .i64 768,.int .i64 879,.int .i64 0]) w:=fun _=>by kernel_rfl
theorem Ke:∀ w,(Instr.index 209 (.agg #[.int .i64 0,.int .i64 31,.int .i64 0,.int .i64 127,.int .i64 159,.int .i64 0,.int .i64 768,.int .i64 879,.int .i64 0,.int .i64 4352,.int .i64 4447,.int .i64 2,.int .i64 12288,.int .i64 55295,.int .i64 2,.int .i64 127744,.int .i64 131071,.int .i64 2]) (.int .i64 3)).run Tryz.prog w=.ok (.agg #[.int .i64 4352,.int .i64 4447,.int .i64 2]) w:=fun _=>by kernel_rfl
theorem Kf:∀ w,(Instr.index 209 (.agg #[.int .i64 0,.int .i64 31,.int .i64 0,.int .i64 127,.int .i64 159,.int .i64 0,.int .i64 768,.int .i64 879,.int .i64 0,.int .i64 4352,.int .i64 4447,.int .i64 2,.int .i64 12288,.int .i64 55295,.int .i64 2,.int .i64 127744,.int .i64 131071,.int .i64 2]) (.int .i64 4)).run Tryz.prog w=.ok (.agg #[.int .i64 12288,.int .i64 55295,.int .i64 2]) w:=fun _=>by kernel_rfl
theorem Kg:∀ w,(Instr.index 209 (.agg #[.int .i64 0,.int .i64 31,.int .i64 0,.int .i64 127,.int .i64 159,.int .i64 0,.int .i64 768,.int .i64 879,.int .i64 0,.int .i64 4352,.int .i64 4447,.int .i64 2,.int .i64 12288,.int .i64 55295,.int .i64 2,.int .i64 127744,.int .i64 131071,.int .i64 2]) (.int .i64 5)).run Tryz.prog w=.ok (.agg #[.int .i64 127744,.int .i64 131071,.int .i64 2]) w:=fun _=>by kernel_rfl
theorem Xbj (r:Int) (w:World) (hr:Xh r=true) (hs:Xo w) (h0:r<=31) :
  Calls Tryz.prog 176 #[.int .i64 r] w fun e w'=>e=.returned (.int .i64 0)/\Below w.heap.size w w':=by
 have hb:=(Xt r).1 hr;obtain ⟨tt,fr,hg⟩:=hs;go_enter Tryz.func176,Tryz.ntmps176;go_wp2;go_step3;go_wp2_with (go_at_call 119;refine (iRo _ _).mono ?_;rw [hr];rintro e w' ⟨rfl,hw⟩;subst hw);go_step3;go_wp2_with (refine wpList_load_row rfl 209 _ rfl 0 rfl tt _ fr _ hg Tryz.underlying209 rfl (by kernel_rfl) ?_);unfold Zm;have i0:=Kb;have i1:=Kc;have i2:=Kd;have i3:=Ke;have i4:=Kf;have i5:=Kg;refine wp_loop_rounds 1 ?_;rw [rounds_succ]
 go_wp2;rw [Exit.noGoto_ret]
 go_ret;exact ⟨rfl,(by repeat (first|exact Below.refl _ _|refine Below.alloc ?_ (by simp<;>omega) _))⟩
theorem Xbk (r:Int) (w:World) (hr:Xh r=true) (hs:Xo w) (h0:31<r) (h1:r<127) :
  Calls Tryz.prog 176 #[.int .i64 r] w fun e w'=>e=.returned (.int .i64 1)/\Below w.heap.size w w':=by
 have hb:=(Xt r).1 hr;obtain ⟨tt,fr,hg⟩:=hs;go_enter Tryz.func176,Tryz.ntmps176;go_wp2;go_step3;go_wp2_with (go_at_call 119;refine (iRo _ _).mono ?_;rw [hr];rintro e w' ⟨rfl,hw⟩;subst hw);go_step3;go_wp2_with (refine wpList_load_row rfl 209 _ rfl 0 rfl tt _ fr _ hg Tryz.underlying209 rfl (by kernel_rfl) ?_);unfold Zm;have i0:=Kb;have i1:=Kc;have i2:=Kd;have i3:=Ke;have i4:=Kf;have i5:=Kg;refine wp_loop_rounds 2 ?_;rw [rounds_succ]
 go_wp2;rw [rounds_succ]
 go_wp2;rw [Exit.noGoto_ret]
 go_ret;exact ⟨rfl,(by repeat (first|exact Below.refl _ _|refine Below.alloc ?_ (by simp<;>omega) _))⟩
theorem Xbl (r:Int) (w:World) (hr:Xh r=true) (hs:Xo w) (h0:127<=r) (h1:r<=159) :
  Calls Tryz.prog 176 #[.int .i64 r] w fun e w'=>e=.returned (.int .i64 0)/\Below w.heap.size w w':=by
 have hb:=(Xt r).1 hr;obtain ⟨tt,fr,hg⟩:=hs;go_enter Tryz.func176,Tryz.ntmps176;go_wp2;go_step3;go_wp2_with (go_at_call 119;refine (iRo _ _).mono ?_;rw [hr];rintro e w' ⟨rfl,hw⟩;subst hw);go_step3;go_wp2_with (refine wpList_load_row rfl 209 _ rfl 0 rfl tt _ fr _ hg Tryz.underlying209 rfl (by kernel_rfl) ?_);unfold Zm;have i0:=Kb;have i1:=Kc;have i2:=Kd;have i3:=Ke;have i4:=Kf;have i5:=Kg;refine wp_loop_rounds 2 ?_;rw [rounds_succ]
 go_wp2;rw [rounds_succ]
 go_wp2;rw [Exit.noGoto_ret]
 go_ret;exact ⟨rfl,(by repeat (first|exact Below.refl _ _|refine Below.alloc ?_ (by simp<;>omega) _))⟩
theorem Xbm (r:Int) (w:World) (hr:Xh r=true) (hs:Xo w) (h0:159<r) (h1:r<768) :
  Calls Tryz.prog 176 #[.int .i64 r] w fun e w'=>e=.returned (.int .i64 1)/\Below w.heap.size w w':=by
 have hb:=(Xt r).1 hr;obtain ⟨tt,fr,hg⟩:=hs;go_enter Tryz.func176,Tryz.ntmps176;go_wp2;go_step3;go_wp2_with (go_at_call 119;refine (iRo _ _).mono ?_;rw [hr];rintro e w' ⟨rfl,hw⟩;subst hw);go_step3;go_wp2_with (refine wpList_load_row rfl 209 _ rfl 0 rfl tt _ fr _ hg Tryz.underlying209 rfl (by kernel_rfl) ?_);unfold Zm;have i0:=Kb;have i1:=Kc;have i2:=Kd;have i3:=Ke;have i4:=Kf;have i5:=Kg;refine wp_loop_rounds 3 ?_;rw [rounds_succ]
 go_wp2;rw [rounds_succ]
 go_wp2;rw [rounds_succ]
 go_wp2;rw [Exit.noGoto_ret]
 go_ret;exact ⟨rfl,(by repeat (first|exact Below.refl _ _|refine Below.alloc ?_ (by simp<;>omega) _))⟩
theorem Xbn (r:Int) (w:World) (hr:Xh r=true) (hs:Xo w) (h0:768<=r) (h1:r<=879) :
  Calls Tryz.prog 176 #[.int .i64 r] w fun e w'=>e=.returned (.int .i64 0)/\Below w.heap.size w w':=by
 have hb:=(Xt r).1 hr;obtain ⟨tt,fr,hg⟩:=hs;go_enter Tryz.func176,Tryz.ntmps176;go_wp2;go_step3;go_wp2_with (go_at_call 119;refine (iRo _ _).mono ?_;rw [hr];rintro e w' ⟨rfl,hw⟩;subst hw);go_step3;go_wp2_with (refine wpList_load_row rfl 209 _ rfl 0 rfl tt _ fr _ hg Tryz.underlying209 rfl (by kernel_rfl) ?_);unfold Zm;have i0:=Kb;have i1:=Kc;have i2:=Kd;have i3:=Ke;have i4:=Kf;have i5:=Kg;refine wp_loop_rounds 3 ?_;rw [rounds_succ]
 go_wp2;rw [rounds_succ]
 go_wp2;rw [rounds_succ]
 go_wp2;rw [Exit.noGoto_ret]
 go_ret;exact ⟨rfl,(by repeat (first|exact Below.refl _ _|refine Below.alloc ?_ (by simp<;>omega) _))⟩
theorem Xbo (r:Int) (w:World) (hr:Xh r=true) (hs:Xo w) (h0:879<r) (h1:r<4352) :
  Calls Tryz.prog 176 #[.int .i64 r] w fun e w'=>e=.returned (.int .i64 1)/\Below w.heap.size w w':=by
 have hb:=(Xt r).1 hr;obtain ⟨tt,fr,hg⟩:=hs;go_enter Tryz.func176,Tryz.ntmps176;go_wp2;go_step3;go_wp2_with (go_at_call 119;refine (iRo _ _).mono ?_;rw [hr];rintro e w' ⟨rfl,hw⟩;subst hw);go_step3;go_wp2_with (refine wpList_load_row rfl 209 _ rfl 0 rfl tt _ fr _ hg Tryz.underlying209 rfl (by kernel_rfl) ?_);unfold Zm;have i0:=Kb;have i1:=Kc;have i2:=Kd;have i3:=Ke;have i4:=Kf;have i5:=Kg;refine wp_loop_rounds 4 ?_;rw [rounds_succ]
 go_wp2;rw [rounds_succ]
 go_wp2;rw [rounds_succ]
 go_wp2;rw [rounds_succ]
 go_wp2;rw [Exit.noGoto_ret]
 go_ret;exact ⟨rfl,(by repeat (first|exact Below.refl _ _|refine Below.alloc ?_ (by simp<;>omega) _))⟩
theorem Xbp (r:Int) (w:World) (hr:Xh r=true) (hs:Xo w) (h0:4352<=r) (h1:r<=4447) :
  Calls Tryz.prog 176 #[.int .i64 r] w fun e w'=>e=.returned (.int .i64 2)/\Below w.heap.size w w':=by
 have hb:=(Xt r).1 hr;obtain ⟨tt,fr,hg⟩:=hs;go_enter Tryz.func176,Tryz.ntmps176;go_wp2;go_step3;go_wp2_with (go_at_call 119;refine (iRo _ _).mono ?_;rw [hr];rintro e w' ⟨rfl,hw⟩;subst hw);go_step3;go_wp2_with (refine wpList_load_row rfl 209 _ rfl 0 rfl tt _ fr _ hg Tryz.underlying209 rfl (by kernel_rfl) ?_);unfold Zm;have i0:=Kb;have i1:=Kc;have i2:=Kd;have i3:=Ke;have i4:=Kf;have i5:=Kg;refine wp_loop_rounds 4 ?_;rw [rounds_succ]
 go_wp2;rw [rounds_succ]
 go_wp2;rw [rounds_succ]
 go_wp2;rw [rounds_succ]
 go_wp2;rw [Exit.noGoto_ret]
 go_ret;exact ⟨rfl,(by repeat (first|exact Below.refl _ _|refine Below.alloc ?_ (by simp<;>omega) _))⟩
theorem Xbq (r:Int) (w:World) (hr:Xh r=true) (hs:Xo w) (h0:4447<r) (h1:r<12288) :
  Calls Tryz.prog 176 #[.int .i64 r] w fun e w'=>e=.returned (.int .i64 1)/\Below w.heap.size w w':=by
 have hb:=(Xt r).1 hr;obtain ⟨tt,fr,hg⟩:=hs;go_enter Tryz.func176,Tryz.ntmps176;go_wp2;go_step3;go_wp2_with (go_at_call 119;refine (iRo _ _).mono ?_;rw [hr];rintro e w' ⟨rfl,hw⟩;subst hw);go_step3;go_wp2_with (refine wpList_load_row rfl 209 _ rfl 0 rfl tt _ fr _ hg Tryz.underlying209 rfl (by kernel_rfl) ?_);unfold Zm;have i0:=Kb;have i1:=Kc;have i2:=Kd;have i3:=Ke;have i4:=Kf;have i5:=Kg;refine wp_loop_rounds 5 ?_;rw [rounds_succ]
 go_wp2;rw [rounds_succ]
 go_wp2;rw [rounds_succ]
 go_wp2;rw [rounds_succ]
 go_wp2;rw [rounds_succ]
 go_wp2;rw [Exit.noGoto_ret]
 go_ret;exact ⟨rfl,(by repeat (first|exact Below.refl _ _|refine Below.alloc ?_ (by simp<;>omega) _))⟩
theorem Xbr (r:Int) (w:World) (hr:Xh r=true) (hs:Xo w) (h0:12288<=r) (h1:r<=55295) :
  Calls Tryz.prog 176 #[.int .i64 r] w fun e w'=>e=.returned (.int .i64 2)/\Below w.heap.size w w':=by
 have hb:=(Xt r).1 hr;obtain ⟨tt,fr,hg⟩:=hs;go_enter Tryz.func176,Tryz.ntmps176;go_wp2;go_step3;go_wp2_with (go_at_call 119;refine (iRo _ _).mono ?_;rw [hr];rintro e w' ⟨rfl,hw⟩;subst hw);go_step3;go_wp2_with (refine wpList_load_row rfl 209 _ rfl 0 rfl tt _ fr _ hg Tryz.underlying209 rfl (by kernel_rfl) ?_);unfold Zm;have i0:=Kb;have i1:=Kc;have i2:=Kd;have i3:=Ke;have i4:=Kf;have i5:=Kg;refine wp_loop_rounds 5 ?_;rw [rounds_succ]
 go_wp2;rw [rounds_succ]
 go_wp2;rw [rounds_succ]
 go_wp2;rw [rounds_succ]
 go_wp2;rw [rounds_succ]
 go_wp2;rw [Exit.noGoto_ret]
 go_ret;exact ⟨rfl,(by repeat (first|exact Below.refl _ _|refine Below.alloc ?_ (by simp<;>omega) _))⟩
theorem Xbs (r:Int) (w:World) (hr:Xh r=true) (hs:Xo w) (h0:55295<r) (h1:r<127744) :
  Calls Tryz.prog 176 #[.int .i64 r] w fun e w'=>e=.returned (.int .i64 1)/\Below w.heap.size w w':=by
 have hb:=(Xt r).1 hr;obtain ⟨tt,fr,hg⟩:=hs;go_enter Tryz.func176,Tryz.ntmps176;go_wp2;go_step3;go_wp2_with (go_at_call 119;refine (iRo _ _).mono ?_;rw [hr];rintro e w' ⟨rfl,hw⟩;subst hw);go_step3;go_wp2_with (refine wpList_load_row rfl 209 _ rfl 0 rfl tt _ fr _ hg Tryz.underlying209 rfl (by kernel_rfl) ?_);unfold Zm;have i0:=Kb;have i1:=Kc;have i2:=Kd;have i3:=Ke;have i4:=Kf;have i5:=Kg;refine wp_loop_rounds 6 ?_;rw [rounds_succ]
 go_wp2;rw [rounds_succ]
 go_wp2;rw [rounds_succ]
 go_wp2;rw [rounds_succ]
 go_wp2;rw [rounds_succ]
 go_wp2;rw [rounds_succ]
 go_wp2;rw [Exit.noGoto_ret]
 go_ret;exact ⟨rfl,(by repeat (first|exact Below.refl _ _|refine Below.alloc ?_ (by simp<;>omega) _))⟩
theorem Xbt (r:Int) (w:World) (hr:Xh r=true) (hs:Xo w) (h0:127744<=r) (h1:r<=131071) :
  Calls Tryz.prog 176 #[.int .i64 r] w fun e w'=>e=.returned (.int .i64 2)/\Below w.heap.size w w':=by
 have hb:=(Xt r).1 hr;obtain ⟨tt,fr,hg⟩:=hs;go_enter Tryz.func176,Tryz.ntmps176;go_wp2;go_step3;go_wp2_with (go_at_call 119;refine (iRo _ _).mono ?_;rw [hr];rintro e w' ⟨rfl,hw⟩;subst hw);go_step3;go_wp2_with (refine wpList_load_row rfl 209 _ rfl 0 rfl tt _ fr _ hg Tryz.underlying209 rfl (by kernel_rfl) ?_);unfold Zm;have i0:=Kb;have i1:=Kc;have i2:=Kd;have i3:=Ke;have i4:=Kf;have i5:=Kg;refine wp_loop_rounds 6 ?_;rw [rounds_succ]
 go_wp2;rw [rounds_succ]
 go_wp2;rw [rounds_succ]
 go_wp2;rw [rounds_succ]
 go_wp2;rw [rounds_succ]
 go_wp2;rw [rounds_succ]
 go_wp2;rw [Exit.noGoto_ret]
 go_ret;exact ⟨rfl,(by repeat (first|exact Below.refl _ _|refine Below.alloc ?_ (by simp<;>omega) _))⟩
theorem Xbu (r:Int) (w:World) (hr:Xh r=true) (hs:Xo w) (h0:131071<r) :
  Calls Tryz.prog 176 #[.int .i64 r] w fun e w'=>e=.returned (.int .i64 1)/\Below w.heap.size w w':=by
 have hb:=(Xt r).1 hr;obtain ⟨tt,fr,hg⟩:=hs;go_enter Tryz.func176,Tryz.ntmps176;go_wp2;go_step3;go_wp2_with (go_at_call 119;refine (iRo _ _).mono ?_;rw [hr];rintro e w' ⟨rfl,hw⟩;subst hw);go_step3;go_wp2_with (refine wpList_load_row rfl 209 _ rfl 0 rfl tt _ fr _ hg Tryz.underlying209 rfl (by kernel_rfl) ?_);unfold Zm;have i0:=Kb;have i1:=Kc;have i2:=Kd;have i3:=Ke;have i4:=Kf;have i5:=Kg;refine wp_loop_rounds 7 ?_;rw [rounds_succ]
 go_wp2;rw [rounds_succ]
 go_wp2;rw [rounds_succ]
 go_wp2;rw [rounds_succ]
 go_wp2;rw [rounds_succ]
 go_wp2;rw [rounds_succ]
 go_wp2;rw [rounds_succ]
 go_wp2;rw [Exit.noGoto_ret]
 go_ret;exact ⟨rfl,(by repeat (first|exact Below.refl _ _|refine Below.alloc ?_ (by simp<;>omega) _))⟩
theorem Xbv (r:Int) (w:World) (hr:Xh r=false) :
  Calls Tryz.prog 176 #[.int .i64 r] w fun e w'=>e=.returned (.int .i64 0)/\Below w.heap.size w w':=by
 go_enter Tryz.func176,Tryz.ntmps176;go_wp2;go_step3;go_wp2_with (go_at_call 119;refine (iRo _ _).mono ?_;rw [hr];rintro e w' ⟨rfl,hw⟩;subst hw);rw [Exit.noGoto_ret]
 go_ret;exact ⟨rfl,Below.refl _ _⟩
theorem Yr (r:Int) (w:World) (hs:Xo w) :
  Calls Tryz.prog 176 #[.int .i64 r] w fun e w'=>e=.returned (.int .i64 (wdV r))/\Below w.heap.size w w':=by
 by_cases hr:Xh r=true
 ·have hb:=(Xt r).1 hr
  have hw:wdV r=if r<32\/(127<=r/\r<=159)\/(768<=r/\r<=879) then 0 else if (4352<=r/\r<=4447)\/(12288<=r/\r<=55295)\/(127744<=r/\r<=131071) then 2 else 1:=by simp [wdV,hr]
  have key:∀ c:Int,wdV r=c->(Calls Tryz.prog 176 #[.int .i64 r] w fun e w'=>e=.returned (.int .i64 c)/\Below w.heap.size w w')->Calls Tryz.prog 176 #[.int .i64 r] w fun e w'=>e=.returned (.int .i64 (wdV r))/\Below w.heap.size w w':=fun c e h=>by rw [e];exact h
  by_cases h1:r<=31
  ·exact key 0 (by rw [hw];omega) (Xbj r w hr hs h1)
  by_cases a2:r<127
  ·exact key 1 (by rw [hw];omega) (Xbk r w hr hs (by omega) a2)
  by_cases b2:r<=159
  ·exact key 0 (by rw [hw];omega) (Xbl r w hr hs (by omega) b2)
  by_cases a3:r<768
  ·exact key 1 (by rw [hw];omega) (Xbm r w hr hs (by omega) a3)
  by_cases b3:r<=879
  ·exact key 0 (by rw [hw];omega) (Xbn r w hr hs (by omega) b3)
  by_cases a4:r<4352
  ·exact key 1 (by rw [hw];omega) (Xbo r w hr hs (by omega) a4)
  by_cases b4:r<=4447
  ·exact key 2 (by rw [hw];omega) (Xbp r w hr hs (by omega) b4)
  by_cases a5:r<12288
  ·exact key 1 (by rw [hw];omega) (Xbq r w hr hs (by omega) a5)
  by_cases b5:r<=55295
  ·exact key 2 (by rw [hw];omega) (Xbr r w hr hs (by omega) b5)
  by_cases a6:r<127744
  ·exact key 1 (by rw [hw];omega) (Xbs r w hr hs (by omega) a6)
  by_cases b6:r<=131071
  ·exact key 2 (by rw [hw];omega) (Xbt r w hr hs (by omega) b6)
  exact key 1 (by rw [hw];omega) (Xbu r w hr hs (by omega))
 ·have hr:Xh r=false:=by simpa using hr
  have e:wdV r=0:=by simp [wdV,hr]
  rw [e]
  exact Xbv r w hr
end Go.Proofs.YtfpopnkhmjkdlaaGreatDoor
namespace Go.Proofs.YtfpopnkhmjkdlaaGreatDoor
theorem Z9 {l:List Ce} {i:Nat} (h:l.length<=i):atC l i=Ce.zero:=by simp [atC,List.getD,List.getElem?_eq_none h]
def XeE (n:Nat) (f:Nat->Ce):List Ce:=(List.range n).map f
theorem QK (n:Nat) (f:Nat->Ce):(XeE n f).length=n:=by simp [XeE]
theorem Xd9 (n:Nat) (f:Nat->Ce) (i:Nat) (h:i<n):atC (XeE n f) i=f i:=by
 rw [Jg (by rw [QK];exact h)];simp [XeE]
theorem YK (l:List Ce) (i:Nat):Yl l i=true ↔ ((atC l i).part=1/\(atC l (i+1)).part≠2)\/((atC l i).part=2/\(i=0\/(atC l (i-1)).part≠1)):=by
 unfold Yl
 by_cases h:i+1=l.length
 ·rw [Z9 (l:=l) (i:=i+1) (by omega)]
  simp [Ce.zero,h]
 ·simp [h]
theorem Zk (l:List Ce) (i:Nat):atC (Xs l) i=Z5 l i:=by
 by_cases h:i<l.length
 ·exact XgE l i h
 ·rw [Z9 (by rw [XC];omega),Z5,Z9 (by omega)]
  have:¬ Yl l i=true:=by rw [YK,Z9 (l:=l) (i:=i) (by omega)];simp [Ce.zero]
  rw [if_neg this]
def c1 (c:Ce):Prop:=c.st.ok=true/\((c.part=0/\wdV c.rune=1)\/(c.part=1/\wdV c.rune=2)\/(c.part=2/\c.rune=0))
def XK (l:List Ce):Prop :=
 (∀ i,i<l.length->c1 (atC l i))/\(∀ i,(atC l i).part=1->(atC l (i+1)).part=2/\(atC l (i+1)).st=(atC l i).st)/\(∀ i,(atC l i).part=2->0<i/\(atC l (i-1)).part=1)
def Qo (l:List Ce):Prop :=
 (∀ i,i<l.length->c1 (atC l i))/\(∀ i,(atC l i).part=1->(atC l (i+1)).part=2->(atC l (i+1)).st=(atC l i).st)
theorem XK.semi {l:List Ce} (h:XK l):Qo l:=⟨h.1,fun i h1 _=>(h.2.1 i h1).2⟩
theorem Jk {l:List Ce} {i:Nat} (h:(atC l i).part≠0):i<l.length:=by
 rcases Nat.lt_or_ge i l.length with h1|h1
 ·exact h1
 ·rw [Z9 h1] at h;exact absurd rfl h
theorem YN (l:List Ce):Xu l=true ↔ (1<=l.length/\l.length<=60)/\XK l:=by
 rw [XdS]
 constructor
 ·rintro ⟨hl,h⟩
  refine ⟨hl,?_,?_,?_⟩
  ·intro i hi
   have:=h i hi;unfold XV at this;rw [Bool.and_eq_true] at this
   refine ⟨this.1,?_⟩;have h2:=this.2
   by_cases h0:(atC l i).part=0
   ·rw [if_pos h0] at h2;exact .inl ⟨h0,by simpa using h2⟩
   ·rw [if_neg h0] at h2
    by_cases h1:(atC l i).part=1
    ·rw [if_pos h1] at h2;simp at h2;exact .inr (.inl ⟨h1,h2.1⟩)
    ·rw [if_neg h1] at h2
     by_cases h3:(atC l i).part=2
     ·rw [if_pos h3] at h2;simp at h2;exact .inr (.inr ⟨h3,h2.1⟩)
     ·rw [if_neg h3] at h2;cases h2
  ·intro i h1
   have hi:i<l.length:=Jk (by rw [h1];decide);have:=h i hi;unfold XV at this;rw [Bool.and_eq_true,if_neg (by rw [h1];decide),if_pos h1] at this
   have h2:=this.2;simp at h2;exact ⟨h2.2.2.1,h2.2.2.2⟩
  ·intro i h1
   have hi:i<l.length:=Jk (by rw [h1];decide);have:=h i hi;unfold XV at this;rw [Bool.and_eq_true,if_neg (by rw [h1];decide),if_neg (by rw [h1];decide),if_pos h1] at this
   have h2:=this.2;simp at h2;exact h2.2
 ·rintro ⟨hl,h1,h2,h3⟩
  refine ⟨hl,fun i hi=>?_⟩;have hc:=h1 i hi;unfold XV;rw [hc.1,Bool.true_and]
  rcases hc.2 with ⟨e,ew⟩|⟨e,ew⟩|⟨e,ew⟩
  ·rw [if_pos e,ew];rfl
  ·have:=h2 i e
   have hlt:i+1<l.length:=Jk (by rw [this.1];decide);rw [if_neg (by rw [e];decide),if_pos e,ew]
   simp [hlt,this.1,this.2]
  ·have:=h3 i e
   rw [if_neg (by rw [e];decide),if_neg (by rw [e];decide),if_pos e,ew]
   simp [this.1,this.2]
theorem Ur {s:St} (h:s.ok=true):c1 (Xz s):=⟨h,.inl ⟨rfl,by show wdV 32=1;decide⟩⟩
theorem Qo.mend {l:List Ce} (h:Qo l):XK (Xs l):=by
 have hp:∀ i,(atC (Xs l) i).part≠0->Yl l i=false/\atC (Xs l) i=atC l i:=by
  intro i hi;rw [Zk,Z5] at hi ⊢
  by_cases ha:Yl l i=true
  ·rw [if_pos ha] at hi;exact absurd rfl hi
  ·rw [if_neg ha];exact ⟨by simpa using ha,rfl⟩
 refine ⟨fun i hi=>?_,fun i h1=>?_,fun i h2=>?_⟩
 ·rw [XC] at hi
  rw [Zk,Z5]
  split
  ·exact Ur (h.1 i hi).1
  ·exact h.1 i hi
 ·obtain ⟨ha,e⟩:=hp i (by rw [h1];decide)
  rw [e] at h1
  have hn:(atC l (i+1)).part=2:=by
   apply Classical.byContradiction
   intro hc;have:=(YK l i).2 (.inl ⟨h1,hc⟩);rw [ha] at this;cases this
  have hb:Yl l (i+1)=false:=by
   apply Classical.byContradiction
   intro hc;rcases (YK l (i+1)).1 (by simpa using hc) with ⟨q,_⟩|⟨_,q⟩
   ·rw [hn] at q;exact absurd q (by decide)
   ·rcases q with q|q
    ·omega
    ·rw [Nat.add_sub_cancel] at q;exact q h1
  have e2:atC (Xs l) (i+1)=atC l (i+1):=by rw [Zk,Z5,if_neg (by rw [hb];decide)]
  rw [e2,e]
  exact ⟨hn,h.2 i h1 hn⟩
 ·obtain ⟨ha,e⟩:=hp i (by rw [h2];decide)
  rw [e] at h2
  have hn:¬ (i=0\/(atC l (i-1)).part≠1):=by
   intro hc;have:=(YK l i).2 (.inr ⟨h2,hc⟩);rw [ha] at this;cases this
  have h0:0<i:=by omega
  have h1:(atC l (i-1)).part=1:=by
   apply Classical.byContradiction
   intro hc;exact hn (.inr hc)
  have hb:Yl l (i-1)=false:=by
   apply Classical.byContradiction
   intro hc;rcases (YK l (i-1)).1 (by simpa using hc) with ⟨_,q⟩|⟨q,_⟩
   ·have:i-1+1=i:=by omega
    rw [this] at q;exact q h2
   ·rw [h1] at q;exact absurd q (by decide)
  have e2:atC (Xs l) (i-1)=atC l (i-1):=by rw [Zk,Z5,if_neg (by rw [hb];decide)]
  rw [e2];exact ⟨h0,h1⟩
theorem XK.alone {l:List Ce} (h:XK l) (i:Nat):Yl l i=false:=by
 apply Classical.byContradiction
 intro hc;rcases (YK l i).1 (by simpa using hc) with ⟨p,q⟩|⟨p,q⟩
 ·exact q (h.2.1 i p).1
 ·have:=h.2.2 i p
  rcases q with q|q
  ·omega
  ·exact q this.2
theorem XK.mend {l:List Ce} (h:XK l):Xs l=l:=YF _ _ (XC l) fun i _=>by
 rw [Zk,Z5,if_neg (by rw [h.alone];decide)]
theorem Zq (l:List Ce) (a b:Nat) (s:St) (i:Nat) (hb:b<=l.length):atC (XI l a b s) i=if a<=i/\i<b then Xz s else atC l i:=by
 by_cases h:i<l.length
 ·exact ZS l a b s i h
 ·rw [Z9 (by rw [Xq];omega),if_neg (by omega),Z9 (by omega)]
theorem Qo.fill {l:List Ce} (h:Qo l) (a b:Nat) (s:St) (hs:s.ok=true) (hb:b<=l.length):Qo (XI l a b s):=by
 refine ⟨fun i hi=>?_,fun i h1 h2=>?_⟩
 ·rw [Xq] at hi
  rw [Zq l a b s i hb]
  split
  ·exact Ur hs
  ·exact h.1 i hi
 ·rw [Zq l a b s _ hb] at h1 h2 ⊢
  rw [Zq l a b s _ hb]
  split at h1
  ·exact absurd h1 (by simp [Xz])
  ·split at h2
   ·exact absurd h2 (by simp [Xz])
   ·rename_i q1 q2
    rw [if_neg q2,if_neg q1]
    exact h.2 i h1 h2
theorem ZI {l:List Ce} (h:XK l) (a b:Nat) (s:St) (hs:s.ok=true) (hb:b<=l.length):XK (XU l a b s):=(h.semi.fill a b s hs hb).mend
theorem Qo.take {l:List Ce} (h:Qo l) (n:Nat):Qo (l.take n):=by
 have e:∀ i,atC (l.take n) i=if i<n then atC l i else Ce.zero:=fun i=>by
  by_cases hi:i<n
  ·rw [if_pos hi,Kw l n i hi]
  ·rw [if_neg hi,Z9 (by rw [List.length_take];omega)]
 refine ⟨fun i hi=>?_,fun i h1 h2=>?_⟩
 ·rw [List.length_take] at hi
  rw [e,if_pos (by omega)]
  exact h.1 i (by omega)
 ·rw [e] at h1 h2 ⊢
  rw [e]
  split at h1
  ·split at h2
   ·rename_i q1 q2
    rw [if_pos q2,if_pos q1]
    exact h.2 i h1 h2
   ·exact absurd h2 (by decide)
  ·exact absurd h1 (by decide)
theorem Qo.drop {l:List Ce} (h:Qo l) (n:Nat):Qo (l.drop n):=by
 refine ⟨fun i hi=>?_,fun i h1 h2=>?_⟩
 ·rw [List.length_drop] at hi
  rw [Y3];exact h.1 (n+i) (by omega)
 ·rw [Y3] at h1 h2 ⊢
  rw [Y3]
  have:=h.2 (n+i) h1 (by rw [Nat.add_assoc];exact h2)
  rwa [Nat.add_assoc] at this
theorem Zs (l m:List Ce) (i:Nat):atC (l++m) i=if i<l.length then atC l i else atC m (i-l.length):=by
 by_cases h:i<l.length
 ·rw [if_pos h,Qp l m i h]
 ·rw [if_neg h]
  have:=UN l m (i-l.length)
  rwa [show l.length+(i-l.length)=i by omega] at this
theorem XK.append {l m:List Ce} (h:XK l) (k:XK m):XK (l++m):=by
 refine ⟨fun i hi=>?_,fun i h1=>?_,fun i h2=>?_⟩
 ·rw [List.length_append] at hi
  rw [Zs]
  split
  ·rename_i q;exact h.1 i q
  ·exact k.1 _ (by omega)
 ·rw [Zs] at h1
  split at h1
  ·have:=h.2.1 i h1
   have hlt:i+1<l.length:=Jk (by rw [this.1];decide)
   rename_i q
   rw [Zs,Zs,if_pos hlt,if_pos q];exact this
  ·rename_i q
   have:=k.2.1 _ h1;rw [Zs,Zs,if_neg (by omega),if_neg q]
   rwa [show i+1-l.length=i-l.length+1 by omega]
 ·rw [Zs] at h2
  split at h2
  ·rename_i q
   have:=h.2.2 i h2;rw [Zs,if_pos (by omega)];exact this
  ·rename_i q
   have:=k.2.2 _ h2;rw [Zs,if_neg (by omega)]
   refine ⟨by omega,?_⟩;rw [show i-1-l.length=i-l.length-1 by omega];exact this.2
theorem J1 (n:Nat) (s:St) (i:Nat) (h:i<n):atC (X0 n s) i=Xz s:=by
 rw [Jg (by simp [X0];exact h)];simp [X0]
theorem KH (n:Nat) (s:St) (hs:s.ok=true):XK (X0 n s):=by
 have e:∀ i,(atC (X0 n s) i).part=0:=fun i=>by
  by_cases h:i<n
  ·rw [J1 n s i h];rfl
  ·rw [Z9 (by simp [X0];omega)];rfl
 refine ⟨fun i hi=>?_,fun i h1=>?_,fun i h1=>?_⟩
 ·rw [J1 n s i (by simpa [X0] using hi)];exact Ur hs
 ·rw [e] at h1;exact absurd h1 (by decide)
 ·rw [e] at h1;exact absurd h1 (by decide)
open Go.ChangeShapes Go.WideShapes Go.ChangeAt Go.RowKit
section
instance:Inhabited Ce:=⟨Ce.zero⟩
variable {H : Type} {enc : TypeId × Value → H} {w : World} {base : Nat} {spare : Nat → Bool} {held : Bool}
theorem Xak {fuel:Nat} {cs:List Value} {x:DataW H×List MemPlace} (hf:DataW.trod enc Tryz.prog w base spare held fuel 61 cs=some x) :
  ∃ s:St,cs=[.int .i64 s.fore,.int .i64 s.back,.bool s.bold,.bool s.under,.bool s.turned]:=by
 obtain ⟨xs,n,_,_,hl,hlen,hfs⟩:=DataW.trod_struct Tryz.underlying61 hf;have e:Tryz.prog.cellsOf 61=5:=by kernel_rfl
 have ei:Tryz.prog.cellsOf 2=1:=by kernel_rfl
 have eb:Tryz.prog.cellsOf 4=1:=by kernel_rfl
 match cs,hl.trans e,xs,hlen with
 | [c0,c1,c2,c3,c4],_,[x0,x1,x2,x3,x4],_ =>
  have h0:=hfs 0 _ rfl;have h1:=hfs 1 _ rfl;have h2:=hfs 2 _ rfl;have h3:=hfs 3 _ rfl;have h4:=hfs 4 _ rfl;simp [ei,eb] at h0 h1 h2 h3 h4;obtain ⟨k0,q0,_,_⟩:=DataW.trod_int Tryz.underlying2 h0;obtain ⟨k1,q1,_,_⟩:=DataW.trod_int Tryz.underlying2 h1;obtain ⟨k2,q2,_⟩:=DataW.trod_bool Tryz.underlying4 h2;obtain ⟨k3,q3,_⟩:=DataW.trod_bool Tryz.underlying4 h3;obtain ⟨k4,q4,_⟩:=DataW.trod_bool Tryz.underlying4 h4;simp at q0 q1 q2 q3 q4;subst q0;subst q1;subst q2;subst q3;subst q4;exact ⟨⟨k0,k1,k2,k3,k4⟩,rfl⟩
theorem Xha {fuel:Nat} {cs:List Value} {x:DataW H×List MemPlace} (hf:DataW.trod enc Tryz.prog w base spare held fuel 222 cs=some x) :
  ∃ c:Ce,cs=ceL c:=by
 obtain ⟨xs,n,_,_,hl,hlen,hfs⟩:=DataW.trod_struct Tryz.underlying222 hf;have e:Tryz.prog.cellsOf 222=7:=by kernel_rfl
 have es:Tryz.prog.cellsOf 61=5:=by kernel_rfl
 have ei:Tryz.prog.cellsOf 2=1:=by kernel_rfl
 match cs,hl.trans e,xs,hlen with
 | [c0,c1,c2,c3,c4,c5,c6],_,[x0,x1,x2],_ =>
  have h0:=hfs 0 _ rfl;have h1:=hfs 1 _ rfl;have h2:=hfs 2 _ rfl;simp [ei,es] at h0 h1 h2;obtain ⟨k0,q0,_,_⟩:=DataW.trod_int Tryz.underlying2 h0;obtain ⟨s,q1⟩:=Xak h1;obtain ⟨k2,q2,_,_⟩:=DataW.trod_int Tryz.underlying2 h2;simp at q0 q1 q2;obtain ⟨r1,r2,r3,r4,r5⟩:=q1;subst q0;subst r1;subst r2;subst r3;subst r4;subst r5;subst q2;exact ⟨⟨k0,s,k2⟩,rfl⟩
end
