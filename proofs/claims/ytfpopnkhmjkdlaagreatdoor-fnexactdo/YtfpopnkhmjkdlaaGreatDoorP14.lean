import Derived.Test.YtfpopnkhmjkdlaaGreatDoorP12
import Derived.Test.YtfpopnkhmjkdlaaGreatDoorP13
import Derived.Laws.Tables
set_option maxRecDepth 20000
set_option maxHeartbeats 16000000
namespace Go.Proofs.YtfpopnkhmjkdlaaGreatDoor
open Go.ChangeShapes Go.WideShapes Go.ChangeAt Go.RowKit
theorem KX {P:Program} {w:World} {ops:Array Oper} {rest:List Oper} {o:Oper} {a:Act} {Q:Exit->Act->World->Prop} (hgd:Region.wanted o (yielded ops a.tmps)=true) (t:TypeId) (x:Operand)
  (ho:o.op=.load t x) {e:TypeId} {B:Nat} {cs:Array Value} {fr:Nat×Nat} {d:TypeDesc} (hu:P.underlying t=some d) (hd:(match d with|.struct _|.array _ _=>true|_=>false)=true) (hi:(P.info? t).map (·.size)=some cs.size) (hb:w.heap[B]?=some (.cells cs e fr)) (hx:a.eval x=.pointer (some ⟨B,0,none⟩))
  (h:wpList P ops Q rest (a.put o.dst (.agg cs)) w):wpList P ops Q (o::rest) a w:=by
 refine wpList_step fun K hK=>?_
 rw [if_pos hgd]
 exact wp_load_row t x ho B hx e cs fr d hb hu hd hi (hK _ _ h)
theorem Jb (w:World) (g:Nat) (cs:Array Value):w.grownBy (w.setRow g cs) (some g):=by
 refine ⟨rfl,rfl,rfl,by simp,fun k _ hk=>?_⟩;have:¬ g=k:=fun e=>hk (by rw [e])
 simp only [World.setRow];rw [Array.getElem?_modify]
 simp [this]
theorem Yh {P:Program} {w:World} {ops:Array Oper} {rest:List Oper} {o:Oper} {a:Act} {Q:Exit->Act->World->Prop} (hgd:Region.wanted o (yielded ops a.tmps)=true) (t:TypeId) (x y:Operand)
  (ho:o.op=.store t x y) {e:TypeId} {B:Nat} {old cs:Array Value} (hi:(P.info? t).map (·.size)=some cs.size) (hold:old.size=cs.size) (h1:cs.toList.all (·.oneCell')=true) (hb:w.heap[B]?=some (.cells old e (0,0))) (hx:a.eval x=.pointer (some ⟨B,0,none⟩)) (hy:a.eval y=.agg cs)
  (h:∀ w',w.grownBy w' (some B)->w'.heap[B]?=some (.cells cs e (0,0))->w'.heap.size=w.heap.size->wpList P ops Q rest (a.put o.dst undef) w'):wpList P ops Q (o::rest) a w:=by
 refine wpList_step fun K hK=>?_
 rw [if_pos hgd]
 exact wp_store_row t x y ho B cs hx hy e old hb hi hold (by rw [<- Array.all_toList];exact h1) (hK _ _ (h _ (Jb w B cs) (setRow_heap w B old cs e (0,0) hb) (by simp)))
def Xfp (L:List Value):Nat->List Value->List Value
 | _,[]=>L
 | k,v::l=>Xfp (L.set k v) (k+1) l
theorem sCh (B:Nat) (e:TypeId):∀ (l:List Value) (k:Nat) (w:World) (L:List Value),w.heap[B]?=some (.cells L.toArray e (0,0))->(w.setCells B k l).heap[B]?=some (.cells (Xfp L k l).toArray e (0,0))
 | [],_,_,_,h=>h
 | v::l,k,w,_,h=>sCh B e l (k+1) _ _ (by rw [heap_setCell_same w B k _ _ v h];simp)
theorem sCg (B:Nat):∀ (l:List Value) (k:Nat) (w:World),w.grownBy (w.setCells B k l) (some B)
 | [],_,_=>World.grownBy.refl _ _
 | v::l,k,w=>Xf (sCc w B k v) (sCg B l (k+1) _)
theorem Ub (B:Nat):∀ (l:List Value) (k:Nat) (w:World),(w.setCells B k l).heap.size=w.heap.size
 | [],_,_=>rfl
 | v::l,k,w=>by rw [World.setCells,Ub B l];simp
def Xj (w:World) (B:Nat) (e:TypeId) (L:List Value):Prop:=w.heap[B]?=some (.cells L.toArray e (0,0))
theorem XD {P:Program} {w:World} {ops:Array Oper} {rest:List Oper} {o:Oper} {a:Act} {Q:Exit->Act->World->Prop} (hgd:Region.wanted o (yielded ops a.tmps)=true) (t:TypeId) (x y:Operand)
  (ho:o.op=.store t x y) {e:TypeId} {B k n:Nat} {cs:List Value} {v:Value} (hi:(P.info? t).map (·.size)=some n) (hb:Xj w B e cs) (hx:a.eval x=.pointer (some ⟨B,k,none⟩)) (hy:a.eval y=v) (hn:v.cells.size=n) (h1:v.cells.toList.all (·.oneCell')=true) (hk:Nat.ble (k+n) cs.length=true)
  (h:∀ w',w.grownBy w' (some B)->Xj w' B e (Xfp cs k v.cells.toList)->w'.heap.size=w.heap.size->wpList P ops Q rest (a.put o.dst undef) w'):wpList P ops Q (o::rest) a w:=by
 have hk:=Nat.le_of_ble_eq_true hk;rw [<- hn] at hi hk
 refine wpList_step fun K hK=>?_
 rw [if_pos hgd]
 have hs:=run_storeCells_cells (P:=P) B k v.cells.toList 0 w (fun j hj=>by
   rw [cell_of_row w B _ cs.toArray e (0,0) hb]
   simp at hj ⊢;omega) (fun j hj=>frozen_of_row w B _ _ _ hb) (fun u hu=>List.all_eq_true.1 h1 u hu)
 rw [Nat.add_zero] at hs
 unfold Oper.wp
 cases hq:P.info? t with
 | none=>simp [hq] at hi
 | some i =>
  have hsz:v.cells.size=i.size:=by simp [hq] at hi;omega
  simp [execOp,ho,hx,hy,Instr.storeAt,Instr.sureAddr,storeVar,sizeOf,typeInfo,hq,hsz,Result.andThen,hs];exact hK _ _ (h _ (sCg B _ _ w) (sCh B e _ _ w cs hb) (Ub B _ _ w))
def Zg (h:ByteArray):Bool:=if 0<h.size then decide (h.size<=3) && Jx h else true
theorem Xca (h:ByteArray) (h0:¬ 0<h.size):Zg h=true:=by simp [Zg,h0]
theorem Uf (h:ByteArray) (h0:¬ h.size<=3):Zg h=false:=by simp [Zg,h0];omega
theorem QI (h:ByteArray) (h0:0<h.size) (h1:h.size<=3):Zg h=Jx h:=by simp [Zg,h0,h1]
theorem UV (h:ByteArray) (w:World) :
  Calls Tryz.prog 70 #[.agg #[.string h]] w fun e w'=>e=.returned (.bool (Zg h))/\Below w.heap.size w w':=by
 have hy0:=fun o=>(Below.refl w.heap.size w).alloc (Nat.le_refl _) o
 by_cases h0:0<h.size
 ·have he:=YV h h0
  by_cases h1:h.size<=3
  ·have hf:Hid (Zg h=Jx h):=QI h h0 h1
   have hi:(h.size:Int)<=3:=by omega
   go_enter Tryz.func70,Tryz.ntmps70;go_wp2_with (go_at_call 150;refine (Xbd h _ h1).mono ?_;rintro e w1 ⟨rfl,hb⟩);go_ret;exact ⟨Xe hf.out.symm,(hy0 _).trans (hb.mono (by simp))⟩
  ·have hf:Hid (Zg h=false):=Uf h h1
   have hi:¬ (h.size:Int)<=3:=by omega
   go_enter Tryz.func70,Tryz.ntmps70;go_wp2;go_ret;exact ⟨Xe hf.out.symm,hy0 _⟩
 ·have he:=JI h h0
  have hf:Hid (Zg h=true):=Xca h h0;go_enter Tryz.func70,Tryz.ntmps70;go_wp2;go_ret;exact ⟨Xe hf.out.symm,hy0 _⟩
theorem Xdh (h:ByteArray) (w:World) (hs:h.size<=3) :
  Calls Tryz.prog 152 #[.string h] w fun e w'=>e=.returned (.bool (Zg h))/\Below w.heap.size w w':=by
 by_cases h0:0<h.size
 ·rw [QI h h0 hs]
  obtain ⟨n,hn,hn4⟩:∃ n:Nat,XO (h[0].toNat:Int)=n/\n<=4:=by
   have:0<=XO (h[0].toNat:Int)/\XO (h[0].toNat:Int)<=4:=by unfold XO;omega
   exact ⟨(XO (h[0].toNat:Int)).toNat,by omega,by omega⟩
  obtain ⟨s1,s2⟩:=XdU h h0 hs n hn
  by_cases hlt:h.size<n
  ·rw [s2 hlt];exact Xck h n w h0 hs ⟨hlt,hn4⟩ hn
  ·rw [s1 (by omega)];exact XeN h n w h0 (by omega) hn
 ·rw [Xca h h0];exact Xbx h w h0
theorem U3 (h:ByteArray) (w:World) :
  Calls Tryz.prog 77 #[.agg #[.string h]] w fun e w'=>e=.returned (.bool (Zg h))/\Below w.heap.size w w':=by
 have hy0:=fun o=>(Below.refl w.heap.size w).alloc (Nat.le_refl _) o
 by_cases h1:h.size<=3
 ·have hi:(h.size:Int)<=3:=by omega
  go_enter Tryz.func77,Tryz.ntmps77;go_wp2_with (go_at_call 152;refine (Xdh h _ h1).mono ?_;rintro e w1 ⟨rfl,hb⟩);go_ret;exact ⟨rfl,(hy0 _).trans (hb.mono (by simp))⟩
 ·have hf:Hid (Zg h=false):=Uf h h1
  have hi:¬ (h.size:Int)<=3:=by omega
  go_enter Tryz.func77,Tryz.ntmps77;go_wp2;go_ret;exact ⟨Xe hf.out.symm,hy0 _⟩
theorem Qn (cols:Int) (v:Value) (rows:List (List Ce)) (w:World) (hv:SlG w v rows) (hl:rows.length<=1073741824) (hx:∀ i,i<rows.length->(Xb rows i).length<=1073741824) :
  Calls Tryz.prog 91 #[Yp cols v] w fun e w'=>∃ u,e=.returned (Yp cols u)/\Yu w' w.heap.size w'.heap.size u rows/\Below w.heap.size w w':=by
 have hto:=fun W h=>Xd0 v rows W h hl hx
 have hG0:=GrN.new w cols v 60;have hb0:=Xd w (Obj.cells #[.int .i64 cols,v] 60);have e0:(w.alloc (Obj.cells #[.int .i64 cols,v] 60)).heap.size=w.heap.size+1:=by simp
 have hvv:=hv;obtain ⟨a,c,vs,rfl,_⟩:=id hv;have hv1:=hvv.below hb0;unfold Yp;generalize hw1:w.alloc (Obj.cells #[.int .i64 cols,.slice a rows.length c] 60)=w1 at *;have hR:=GrW.new w1 0 (.slice none 0 0) 26;have hb1:=Xd w1 (Obj.cells #[Value.int IntKind.i64 0,Value.slice none 0 0] 26);have e1:(w1.alloc (Obj.cells #[Value.int IntKind.i64 0,Value.slice none 0 0] 26)).heap.size=w.heap.size+2:=by simp;omega
 have hO:=GrW.new (w1.alloc (Obj.cells #[Value.int IntKind.i64 0,Value.slice none 0 0] 26)) cols (.slice none 0 0) 26;have hb2:=Xd (w1.alloc (Obj.cells #[Value.int IntKind.i64 0,Value.slice none 0 0] 26)) (Obj.cells #[Value.int IntKind.i64 cols,Value.slice none 0 0] 26);rw [e1] at hO
 rw [e0] at hR
 have hR2:=hR.below hb2;have hbb:=hb1.trans (hb2.mono hb1.size);have hv2:=hv1.below hbb;have e3:((w1.alloc (Obj.cells #[Value.int IntKind.i64 0,Value.slice none 0 0] 26)).alloc (Obj.cells #[Value.int IntKind.i64 cols,Value.slice none 0 0] 26)).heap.size=w.heap.size+3:=by simp;omega
 subst hw1;obtain ⟨_,g0,g1⟩:=id hG0;go_enter Tryz.func91,Tryz.ntmps91;go_wp2_with fail;refine (hto _ hv2).mono ?_;rintro e w4 ⟨u,rfl,hou,hb4⟩;have hR4:=hR2.below hb4;have hO4:=hO.below hb4;obtain ⟨ua,un,uc,rfl⟩:∃ a n c,u=Value.slice a n c:=by rcases hou.shape with ⟨h,_⟩|⟨_,_,h,_⟩<;>exact ⟨_,_,_,h⟩
 have hs4:=hb4.size;rw [e3] at hou hs4
 have hg5:=Xab w4 (w.heap.size+2) (.slice ua un uc);have hO5:=hO4.put (.slice ua un uc);have hR5:=hR4.grown hg5 (fun e=>by simp at e);have ho5:=(hou.kept hg5 (fun g e=>by cases e;omega)).up hg5.size;have hbase:=hb0.trans ((hbb.trans (hb4.mono hbb.size)).mono hb0.size);have hb5:=hbase.grown hg5 (by omega) (fun g e=>by cases e;omega);have hs5:=hg5.size;have hg6:=KQ (Um w4 (w.heap.size+2) (.slice ua un uc)) (w.heap.size+1) cols (.slice ua un uc);have kF:=(hR5.put2 cols (.slice ua un uc)).2.1;have ho6:=(ho5.kept hg6 (fun g e=>by cases e;omega)).up hg6.size;have hb6:=hb5.grown hg6 (by omega) (fun g e=>by cases e;omega);clear hG0 hb0 e0 hR hb1 e1 hO hb2 hR2 hbb hv1 hv2 hvv hto e3 hbase hb4 hs4 hs5 hg5 hg6 hb5 ho5 hou g0 g1;obtain ⟨_,⟨d0,d1⟩,⟨y0,y1⟩⟩:=hR4;obtain ⟨_,⟨c0,c1⟩,⟨z0,z1⟩⟩:=hO4;obtain ⟨_,⟨p0,p1⟩,⟨q0,q1⟩⟩:=hO5;obtain ⟨_,⟨r0,r1⟩,⟨s0,s1⟩⟩:=hR5;obtain ⟨f0,f1⟩:=kF;simp only [Um,Qj] at f0 f1 ho6 hb6 p0 p1 q0 q1 r0 r1 s0 s1;go_wp2;exact bodyPost_ret (v:=.agg #[.int .i64 cols,.slice ua un uc]) (by simp [results,Tryz.results91,go_sem,f0,f1]) rfl ⟨_,rfl,ho6.low (by omega),hb6⟩
theorem UY {rows:List (List Ce)} {left:Nat}:∀ {j m:Nat},Zx rows left j=some m->m+rows.length+Xx rows j=left
 | 0,m,h=>by
  rw [Zx] at h
  split at h
  ·cases h
  ·cases h;rw [Xx];omega
 | j+1,m,h=>by
  rw [Zx] at h
  split at h
  ·cases h
  ·rename_i q hq
   split at h
   ·cases h
   ·cases h
    have:=UY hq;rw [Xx];omega
theorem XbQ (rows:List (List Ce)) (m:Nat) (h:∀ i,i<rows.length->(Xb rows i).length<=m):∀ j,j<=rows.length->Xx rows j<=j*m
 | 0,_=>Nat.zero_le _
 | j+1,hj=>by
  have:=XbQ rows m h j (by omega);have:=h j (by omega);rw [Xx,Nat.add_mul];omega
theorem Jc {w:World} {v:Value} {rows:List (List Ce)} (h:SlG w v rows):∃ a n c,v=Value.slice a n c:=by
 obtain ⟨a,c,vs,rfl,_⟩:=h;exact ⟨_,_,_,rfl⟩
def PbB (w:World) (B:Nat) (s:Int) (pv:Value) (m:Int) (tv:Value):Prop:=w.heap[B]?=some (.cells #[.int .i64 s,pv,.int .i64 m,tv] 31 (0,0))
theorem PbB.lt {w:World} {B:Nat} {s m:Int} {pv tv:Value} (h:PbB w B s pv m tv):B<w.heap.size:=(Array.getElem?_eq_some_iff.1 h).1
theorem PbB.cells {w:World} {B:Nat} {s m:Int} {pv tv:Value} (h:PbB w B s pv m tv) :
  w.cell? ⟨B,0,none⟩=some (.int .i64 s)/\w.cell? ⟨B,1,none⟩=some pv/\w.cell? ⟨B,2,none⟩=some (.int .i64 m)/\w.cell? ⟨B,3,none⟩=some tv:=by
 refine ⟨?_,?_,?_,?_⟩<;>(rw [cell_of_row w B _ _ _ (0,0) h];rfl)
theorem PbB.frozen {w:World} {B:Nat} {s m:Int} {pv tv:Value} (h:PbB w B s pv m tv):w.frozen? ⟨B,0,none⟩=false/\w.frozen? ⟨B,1,none⟩=false/\w.frozen? ⟨B,2,none⟩=false/\w.frozen? ⟨B,3,none⟩=false :=
 ⟨frozen_of_row w B 0 _ _ h,frozen_of_row w B 1 _ _ h,frozen_of_row w B 2 _ _ h,frozen_of_row w B 3 _ _ h⟩
theorem PbB.set {w:World} {B:Nat} {s m:Int} {pv tv:Value} (h:PbB w B s pv m tv) (j:Nat) (u:Value):(w.setCell ⟨B,j,none⟩ u).heap[B]?=some (.cells ((#[.int .i64 s,pv,.int .i64 m,tv]:Array Value).setIfInBounds j u) 31 (0,0)):=heap_setCell_same w B j _ _ u h
theorem PbB.put {w:World} {B:Nat} {s m:Int} {pv tv:Value} (h:PbB w B s pv m tv) (s' m':Int) (pv' tv':Value):PbB (Xhq w B s' pv' m' tv') B s' pv' m' tv':=by
 have k0:PbB (w.setCell ⟨B,0,none⟩ (.int .i64 s')) B s' pv m tv:=h.set 0 _;have k1:PbB _ B s' pv' m tv:=k0.set 1 _;have k2:PbB _ B s' pv' m' tv:=k1.set 2 _;exact k2.set 3 _
theorem PbB.kept {w w':World} {B:Nat} {s m:Int} {pv tv:Value} {row:Option Nat} (h:PbB w B s pv m tv) (hg:w.grownBy w' row) (hne:row≠some B):PbB w' B s pv m tv:=by
 unfold PbB;rw [hg.block B h.lt (Ne.symm hne)]
 exact h
theorem PbB.below {w w':World} {B:Nat} {s m:Int} {pv tv:Value} (h:PbB w B s pv m tv) (hb:Below w.heap.size w w'):PbB w' B s pv m tv:=h.kept (gbl hb none) (by simp)
theorem PbB.new (w:World) (s m:Int) (pv tv:Value):PbB (w.alloc (.cells #[.int .i64 s,pv,.int .i64 m,tv] 31)) w.heap.size s pv m tv:=heap_alloc_new w _
theorem XF.setV {w:World} {base B g n cap:Nat} {vs:List Value} {rows:List (List Ce)} (h:XF w base B (.slice (some ⟨g,0,none⟩) n cap) vs rows) (hn:rows.length=n) (i:Nat) (hi:i<n) (r:Value) (xs:List Ce) (hr:Xl w base r xs) (hB:∀ q,r.ownBlock=some q->B<=q) :
  XF (w.setCell ⟨g,i,none⟩ r) base (w.setCell ⟨g,i,none⟩ r).heap.size (.slice (some ⟨g,0,none⟩) n cap) (vs.set i r) (rows.set i xs)/\w.grownBy (w.setCell ⟨g,i,none⟩ r) (some g):=by
 have h':=h;subst hn;obtain ⟨hvl,hown,hrs,hlt,hd⟩:=h;have h0:=World.ownsRow.stored hown i r;have hap:∀ {u:Value} {ys:List Ce},Xl w base u ys->Xl (w.setCell ⟨g,i,none⟩ r) base u ys:=fun hu=>hu.kept h0.2 (YG hown hu)
 refine ⟨h'.mixed (fun k=>if k=i then none else some k) _ _ (by simp [hvl]) (by simp) h0.1 (fun p hp=>hap (hrs p hp)) (fun k p hk e=>?_) (fun a b p hab hb e1 e2=>?_) (fun k hk e=>?_) (fun a b hab hb e1 e2=>?_),h0.2⟩
 ·by_cases c:k=i
  ·rw [if_pos c] at e;cases e
  ·rw [if_neg c] at e;cases e
   exact ⟨hk,by rw [Ja (by omega),if_neg c],by rw [KI hi,if_neg c]⟩
 ·by_cases c:a=i
  ·rw [if_pos c] at e1;cases e1
  ·by_cases d:b=i
   ·rw [if_pos d] at e2;cases e2
   ·rw [if_neg c] at e1;rw [if_neg d] at e2;cases e1;cases e2;omega
 ·by_cases c:k=i
  ·rw [Ja (by omega),if_pos c,KI hi,if_pos c];exact ⟨hap hr,hB⟩
  ·rw [if_neg c] at e;cases e
 ·by_cases c:a=i
  ·by_cases d:b=i
   ·omega
   ·rw [if_neg d] at e2;cases e2
  ·rw [if_neg c] at e1;cases e1
theorem Qd (v:Value) (rows:List (List Ce)) (w:World) (hv:SlG w v rows) (hl:rows.length<=1000) (hx:∀ i,i<rows.length->(Xb rows i).length<=1000) :
  Calls Tryz.prog 116 #[v] w fun e w'=>∃ vs,e=.returned (.slice (some ⟨w.heap.size,0,none⟩) rows.length rows.length)/\XF w' w.heap.size w'.heap.size (.slice (some ⟨w.heap.size,0,none⟩) rows.length rows.length) vs rows/\Below w.heap.size w w':=by
 obtain ⟨a,c,vs0,rfl,hcp,_,hr,hs⟩:=id hv;generalize hN:rows.length=n at *;go_enter Tryz.func116,Tryz.ntmps116;go_wp2_with (refine Xcv rfl _ _ rfl n rfl rfl (by omega) ?_;intro w1 ho1 hb1);obtain ⟨vs1,hv1⟩:=ho1.v
 have hst0:XF w1 w.heap.size w1.heap.size (.slice (some ⟨w.heap.size,0,none⟩) n n) vs1 (Z3 n fun i=>if i<0 then Xb rows i else []):=by
  have e:(Z3 n fun i=>if i<0 then Xb rows i else [])=List.replicate n []:=X7 _ _ (by rw [XM,List.length_replicate]) fun i hi=>by
   rw [XM] at hi
   rw [Yq _ _ _ hi,if_neg (Nat.not_lt_zero i),Zd (by simpa using hi)];simp
  rw [e];exact hv1
 clear ho1 hv1;go_wp2;go_loopw [4,5,11] (fun _ _ i wr=>∃ (j:Nat) (vs:List Value),i=.int .i64 j/\j<=n/\XF wr w.heap.size wr.heap.size (.slice (some ⟨w.heap.size,0,none⟩) n n) vs (Z3 n fun i=>if i<j then Xb rows i else [])/\Below w.heap.size w wr) (fun _ _ i _=>n-(intOf i).toNat)
 case atStart=>exact ⟨0,vs1,rfl,Nat.zero_le _,hst0,hb1⟩
 case round =>
  clear hst0 hb1;obtain ⟨j,vs,rfl,hj,k,kb⟩:=hrel;have hRl:(Z3 n fun i=>if i<j then Xb rows i else []).length=n:=XM _ _
  by_cases hlt:j<n
  ·have hji:(j:Int)<(n:Int):=by omega
   have hj0:(0:Int)<=(j:Int):=by omega
   rcases hr with h|⟨b,off,rfl,hbb,hrc⟩
   ·rw [h] at hN;simp at hN;omega
   have hst:Hid (((Z3 n fun i=>if i<j then Xb rows i else []).set j (List.replicate (Xb rows j).length Ce.zero)).set j (Xb rows j)=Z3 n fun i=>if i<j+1 then Xb rows i else []):=by
    show _=_
    rw [List.set_set]
    refine X7 _ _ (by rw [List.length_set,XM,XM]) fun i hi=>?_
    rw [List.length_set,XM] at hi
    rw [KI (by rw [XM];exact hlt),Yq _ _ _ hi,Yq _ _ _ hi]
    by_cases e:i=j
    ·rw [if_pos e,if_pos (by omega),e]
    ·rw [if_neg e]
     by_cases c:i<j
     ·rw [if_pos c,if_pos (by omega)]
     ·rw [if_neg c,if_neg (by omega)]
   generalize (Z3 n fun i=>if i<j then Xb rows i else [])=R at *;have hcj:=(kb.cell (p:=⟨b,off+j,none⟩) hbb).trans (hrc j hlt);have hsj:=hs j hlt;have hxj:=hx j (by omega);obtain ⟨aj,cj,ev,_⟩:=id hsj;rw [ev] at hcj hsj
   generalize Xb rows j=X at *;have hm:X.length<=1073741824:=by omega
   have hwin:Hid (YH (List.replicate X.length Ce.zero) 0 X=X):=by show _=_;simp [YH]
   have hmin:Hid (X.length=Nat.min X.length X.length):=(Nat.min_self _).symm;have hre:Hid ((List.replicate X.length Ce.zero).length=X.length):=by show _=_;simp
   clear hs hrc ev hx
   go_wp2_with (first
    | (
      refine Qy (by rfl) _ _ (by rfl) X.length (by rfl) (by rfl) hm ?_;intro w1 ho1 hb1;have kv1:=k.below hb1;have hcur:=kv1.cell hRl j hlt;have hfz:=kv1.frozen hRl j;have hsz:=kb.size;have hlt0:=(World.ownsRow.lt k.2.1 w.heap.size rfl).2;obtain ⟨hkv,hkg⟩:=kv1.setV hRl j hlt (.slice (some ⟨wr.heap.size,0,none⟩) X.length X.length) _ (ho1.low hsz) (fun q e=>by cases e;exact Nat.le_refl _);have hoz:=ho1.kept hkg (Or.inr (fun e=>Nat.ne_of_gt hlt0 (Option.some.inj e)));have hbj:=(kb.trans (hb1.mono hsz)).grown hkg (by have:=hb1.size;omega) (fun g e=>by cases e;exact Nat.le_refl _);have hsrc:=(hsj.below hbj).src)
    | (refine Xd7 (by rfl) _ _ (by rfl) wr.heap.size wr.heap.size X.length X.length 0 (List.replicate X.length Ce.zero) X hoz hre.out (some ⟨wr.heap.size,0,none⟩) aj X.length X.length X.length cj (by rfl) (by rfl) hmin.out (Nat.le_of_eq (Nat.zero_add _)) (fun h0=>⟨rfl,hsrc h0⟩) ?_;intro w2 ho2 hg2;rw [hwin.out] at ho2))
   have hvl:vs.length=n:=by rw [k.1];exact hRl
   have hrv:Xw (vs.set j (.slice (some ⟨wr.heap.size,0,none⟩) X.length X.length)) j=.slice (some ⟨wr.heap.size,0,none⟩) X.length X.length:=by rw [Ja (by omega),if_pos rfl]
   have hkk:=(hkv.rowset (j:=j) (by simp;omega) X (by rw [hrv];exact ho2.low hsz) (by rw [hrv];exact hg2)).up (B':=w2.heap.size) hg2.size;rw [hst.out] at hkk
   have hb2:=hbj.grown hg2 (by have:=hbj.size;omega) (fun g e=>by cases e;exact hsz);clear hst hrv hvl ho2 hg2 hsrc hbj hoz hkv hkg hlt0 hcur hfz kv1 ho1 hb1 k kb hRl;go_wp2;go_roundw
   case rel=>exact ⟨j+1,_,by go_num,by omega,hkk,hb2⟩
   case measure=>simp [intOf];omega
  ·have hjn:j=n:=by omega
   have hji:¬ (j:Int)<(n:Int):=by omega
   have hye:(Z3 n fun i=>if i<j then Xb rows i else [])=rows:=X7 _ _ (by rw [XM];exact hN.symm) fun i hi=>by
    rw [XM] at hi
    rw [Yq _ _ _ hi,if_pos (by omega)]
   rw [hye] at k
   subst hjn;clear hs hr hye hRl;go_wp2;go_ret;exact ⟨rfl,⟨_,k⟩,kb⟩
theorem Zl (cols:Nat) (rows:List (List Ce)) (a b:Nat) (n:Int) (s:St):(Zo cols rows a b n s).length=rows.length:=by simp [Zo]
theorem JM (cols:Nat) (rows:List (List Ce)) (a b:Nat) (n:Int) (s:St) (i:Nat) (hi:i<rows.length):Xb (Zo cols rows a b n s) i=if a<=i/\i<=b then (if (a:Int)<=i+n/\(i:Int)+n<=b then Xb rows ((i:Int)+n).toNat else X0 cols s) else Xb rows i:=by
 rw [Zd (by rw [Zl];exact hi)]
 simp only [Zo,List.getElem_map,List.getElem_range]
 rfl
def Uq (a b:Nat) (n:Int) (k:Nat):Option Nat:=if (a:Int)<=a+k+n/\(a:Int)+k+n<=b then some ((a:Int)+k+n).toNat else none
def XdV (a b:Nat) (n:Int) (i:Nat):Option Nat:=if a<=i/\i<=b then Uq a b n (i-a) else some i
theorem Ku {a b k p:Nat} {n:Int} (h:Uq a b n k=some p):(p:Int)=a+k+n/\a<=p/\p<=b:=by
 unfold Uq at h;split at h
 ·cases h;omega
 ·cases h
theorem XgV {a b i j p:Nat} {n:Int} (hi:XdV a b n i=some p) (hj:XdV a b n j=some p):i=j:=by
 unfold XdV at hi hj;split at hi
 ·have h1:=Ku hi
  split at hj
  ·have h2:=Ku hj;omega
  ·cases hj;omega
 ·cases hi
  split at hj
  ·have h2:=Ku hj;omega
  ·cases hj;rfl
def Q7 (vs us:List Value) (a j:Nat):List Value:=US vs.length fun i=>if a<=i/\i<a+j then Xw us (i-a) else Xw vs i
theorem ZN (vs us:List Value) (a j:Nat):(Q7 vs us a j).length=vs.length:=Y7 _ _
theorem Km (vs us:List Value) (a j i:Nat) (h:i<vs.length):Xw (Q7 vs us a j) i=if a<=i/\i<a+j then Xw us (i-a) else Xw vs i:=Uw _ _ _ h
theorem Xfd (vs us:List Value) (a:Nat):Q7 vs us a 0=vs:=Xb9 _ _ (ZN _ _ _ _) fun i hi=>by
 rw [ZN] at hi
 rw [Km _ _ _ _ _ hi,if_neg (by omega)]
theorem Xfc (vs us:List Value) (a j:Nat) (h:a+j<vs.length):Q7 vs us a (j+1)=(Q7 vs us a j).set (a+j) (Xw us j):=Xb9 _ _ (by rw [List.length_set,ZN,ZN]) fun i hi=>by
 rw [ZN] at hi
 rw [Ja (by rw [ZN];exact h),Km _ _ _ _ _ hi,Km _ _ _ _ _ hi]
 by_cases e:i=a+j
 ·subst e
  rw [if_pos (by omega),if_pos rfl,show a+j-a=j by omega]
 ·rw [if_neg e]
  by_cases c:a<=i/\i<a+j
  ·rw [if_pos c,if_pos (by omega)]
  ·rw [if_neg c,if_neg (by omega)]
theorem XdI {w1 w':World} {base B M cols:Nat} {v:Value} {vs us:List Value} {rows:List (List Ce)} {a b:Nat} {n:Int} {s:St} (h:XF w1 base B v vs rows) (hG:Gat w1 M vs (X0 cols s) (Uq a b n) us) (hus:us.length=b+1-a) (hab:a<=b) (hb:b<rows.length) (hM:base<=M) (hBM:B<=M)
  (ho:w'.ownsRow base 120 1 v rows.length (Q7 vs us a (b+1-a))) (hg:w1.grownBy w' v.ownBlock):XF w' base w'.heap.size v (Q7 vs us a (b+1-a)) (Zo cols rows a b n s):=by
 have hvl:=h.1;have hown:=h.2.1;refine h.mixed (XdV a b n) _ _ (by rw [ZN,Zl,hvl]) (Zl _ _ _ _ _ _) ho (fun p hp=>(h.2.2.1 p hp).kept hg (YG hown (h.2.2.1 p hp))) (fun i p hi e=>?_) (fun i j p hij _ e1 e2=>by have:=XgV e1 e2;omega) (fun i hi e=>?_) (fun i j hij hj e1 e2=>?_)
 ·unfold XdV at e
  rw [Km _ _ _ _ _ (by omega),JM _ _ _ _ _ _ _ hi]
  split at e
  ·rename_i c
   have hs:=Ku e;refine ⟨by omega,?_,?_⟩
   ·rw [if_pos (by omega)];exact hG.1 (i-a) p (by omega) e
   ·rw [if_pos c,if_pos (by omega),show ((i:Int)+n).toNat=p by omega]
  ·rename_i c
   cases e
   exact ⟨hi,by rw [if_neg (by omega)],by rw [if_neg c]⟩
 ·unfold XdV at e
  rw [Km _ _ _ _ _ (by omega),JM _ _ _ _ _ _ _ hi]
  split at e
  ·rename_i c
   have hr:=hG.2.1 (i-a) (by omega) e
   have hn:¬ ((a:Int)<=i+n/\(i:Int)+n<=b):=by
    unfold Uq at e;split at e
    ·cases e
    ·omega
   rw [if_pos (by omega),if_pos c,if_neg hn]
   exact ⟨(hr.kept hg (YG hown hr)).low hM,fun g e=>Nat.le_trans hBM (hr.lt g e).1⟩
  ·cases e
 ·unfold XdV at e1 e2
  split at e1
  ·split at e2
   ·rw [Km _ _ _ _ _ (by omega),Km _ _ _ _ _ (by omega),if_pos (by omega),if_pos (by omega)]
    exact hG.2.2 (i-a) (j-a) (by omega) (by omega) e1 e2
   ·cases e2
  ·cases e1
def MvK (M:Nat) (u:Value) (vs us:List Value) (X:List Ce) (σ:Nat->Option Nat) (s:St) (w0 W:World):Prop :=
 XT W M s/\W.ownsRow (M+1) 120 1 u us.length us/\Gat W M vs X σ us/\Below M w0 W
theorem MvK.below {M:Nat} {u:Value} {vs us:List Value} {X:List Ce} {σ:Nat->Option Nat} {s:St} {w0 W W':World} (k:MvK M u vs us X σ s w0 W) (hb:Below W.heap.size W W'):MvK M u vs us X σ s w0 W' :=
 ⟨k.1.below hb,World.ownsRow.below k.2.1 hb,k.2.2.1.below hb,k.2.2.2.trans (hb.mono (by have:=k.1.1;omega))⟩
theorem MvK.more {M:Nat} {u v':Value} {vs us:List Value} {X:List Ce} {σ:Nat->Option Nat} {s:St} {w0 W W':World} {r:Value} (k:MvK M u vs us X σ s w0 W) (hG:Gat W M vs X σ (us++[r])) (ho:W'.ownsRow (M+1) 120 1 v' (us.length+1) (us++[r])) (hg:(W.alloc (.cells #[r] 120)).grownBy W' u.ownBlock):MvK M v' vs (us++[r]) X σ s w0 W':=by
 have hba:=Xd W (Obj.cells #[r] 120);have h1:=hba.size;have h2:=k.1.1;have h3:=fun g e=>(k.2.1.lt g e).1
 refine ⟨(k.1.below hba).grown hg (fun e=>by have:=h3 M e;omega),by rw [List.length_append];exact ho,(hG.below hba).kept (World.ownsRow.below k.2.1 hba) hg,?_⟩;exact (k.2.2.2.trans (hba.mono (by omega))).grown hg (by omega) (fun g e=>by have:=h3 g e;omega)
theorem Xfg {w:World} {base n:Nat} {v:Value} {xs:List Value} (h:w.ownsRow base 120 1 v n xs):∃ a n c,v=Value.slice a n c:=by
 rcases h.2 with ⟨h1,_⟩|⟨g,cap,cur,hv,_⟩
 ·exact ⟨_,_,_,h1⟩
 ·exact ⟨_,_,_,hv⟩
theorem Js (v:Value) (xs:List Ce) (f t:Int) (s:St) (w:World) (hS:Xo w) (hv:SlC w v xs) (hl:xs.length<=1048576) :
  Calls Tryz.prog 229 #[v,.int .i64 f,.int .i64 t,stV s] w fun e w'=>∃ u,e=.returned u/\Xl w' w.heap.size u (X4 xs f t s)/\Below w.heap.size w w':=by
 have h2:=XT.new w s 28;have hbA:=Xd w (Obj.cells #[.int .i64 s.fore,.int .i64 s.back,.bool s.bold,.bool s.under,.bool s.turned] 28);have hOK:=Yc s;have hno:∀ W:World,Xl W w.heap.size (.slice none 0 0) []:=fun W=>ZX W _
 have hro:=KW v xs _ (hS.below hbA hS.lt) (hv.below hbA) hl;have hv1:=hv.below hbA;obtain ⟨a,c,rfl,hcp,_⟩:=id hv;unfold stV at *;go_enter Tryz.func229,Tryz.ntmps229;go_wp2_with fail;refine hro.mono ?_;rintro e w2 ⟨rfl,hb2⟩;have kb:=hbA.trans (hb2.mono hbA.size);have hs:=h2.below hb2;have hv2:=hv1.below hb2;clear hbA hb2 h2 hro hv1 hv
 cases hr:Xu xs
 ·have hV:Hid (X4 xs f t s=[]):=by show _=_;unfold X4;rw [if_neg (fun h=>by rw [hr] at h;exact absurd h.1 (by decide))]
  clear hOK;go_wp2;go_ret;exact ⟨_,rfl,by rw [hV.out];exact hno _,kb⟩
 ·obtain ⟨_,⟨c0,c1,c2,c3,c4⟩,_⟩:=id hs
  go_wp2_with fail;refine (hOK _).mono ?_;rintro e w3 ⟨rfl,hb3⟩;have kb:=kb.trans (hb3.mono kb.size);have hs:=hs.below hb3;have hv3:=hv2.below hb3;clear hb3 hOK hv2 c0 c1 c2 c3 c4
  cases ho:s.ok
  ·have hV:Hid (X4 xs f t s=[]):=by show _=_;unfold X4;rw [if_neg (fun h=>by rw [ho] at h;exact absurd h.2.1 (by decide))]
   go_wp2;go_ret;exact ⟨_,rfl,by rw [hV.out];exact hno _,kb⟩
  ·by_cases f0:f<0
   ·have hV:Hid (X4 xs f t s=[]):=by show _=_;unfold X4;rw [if_neg (fun h=>by have:=h.2.2.1;omega)]
    go_wp2;go_ret;exact ⟨_,rfl,by rw [hV.out];exact hno _,kb⟩
   ·by_cases ft:t<f
    ·have hV:Hid (X4 xs f t s=[]):=by show _=_;unfold X4;rw [if_neg (fun h=>by have:=h.2.2.1;omega)]
     go_wp2;go_ret;exact ⟨_,rfl,by rw [hV.out];exact hno _,kb⟩
    ·by_cases tl:(xs.length:Int)<t
     ·have hV:Hid (X4 xs f t s=[]):=by show _=_;unfold X4;rw [if_neg (fun h=>by have:=h.2.2.2;omega)]
      go_wp2;go_ret;exact ⟨_,rfl,by rw [hV.out];exact hno _,kb⟩
     ·obtain ⟨p,rfl⟩:∃ p:Nat,f=p:=⟨f.toNat,by omega⟩
      obtain ⟨q,rfl⟩:∃ q:Nat,t=q:=⟨t.toNat,by omega⟩;have hV:Hid (X4 xs p q s=XU xs p q s):=by show _=_;unfold X4;rw [if_pos ⟨hr,ho,by omega,by omega⟩];simp
      obtain ⟨hx60,hR⟩:=(YN xs).1 hr;have hcop:=Ue _ xs _ hv3 (by omega);have hlt3:=hs.1;clear hr ho;go_wp2_with fail;refine hcop.mono ?_;rintro e w4 ⟨g,rfl,ho4,hb4⟩;have kb4:=kb.trans (hb4.mono kb.size);have hs4:=hs.below hb4;have hgl:=(ho4.lt g rfl).1;have ho4:=ho4.low kb.size;have hBg:w.heap.size≠g:=by omega
      clear hcop hb4 hs hv3
      by_cases hpq:p<q
      ·have hpqi:(p:Int)<(q:Int):=by omega
       have hpa:=K4 w.heap.size g xs.length xs.length p xs w4 ho4 rfl hR (by omega) (by omega);have hpb:=fun W h=>K4 w.heap.size g xs.length xs.length q (Xp xs p) W h (Xv xs p) (Z7 hR p) (by omega) (by omega)
       have hcut:=fun W=>JX g xs.length xs.length p q W hpq (by omega) (Nat.le_refl _)
       have hfin:Hid (XI (Xp (Xp xs p) q) p (p+(q-p)) s=XU xs p q s):=by show _=_;rw [show p+(q-p)=q by omega];exact Xex hR p q s hpq (by omega)
       have hbo:=fun W h1 h2=>Jh w.heap.size w.heap.size g xs.length xs.length p (q-p) (q-p) (p*7) (Xp (Xp xs p) q) s W h1 hBg h2 (by rw [Xv,Xv]) (by omega) (by omega) (by omega) rfl
       clear hpq hR;go_wp2_with fail;refine hpa.mono ?_;clear hpa;rintro e w5 ⟨rfl,ho5,hg5⟩;have kb5:=kb4.grown hg5 kb4.size (fun k hk=>by cases hk;exact Nat.le_trans kb.size hgl);have hs5:=hs4.grown hg5 (by simpa using Ne.symm hBg);clear ho4 hg5 hs4;go_wp2_with fail;refine (hpb _ ho5).mono ?_;clear hpb;rintro e w6 ⟨rfl,ho6,hg6⟩;have kb6:=kb5.grown hg6 kb5.size (fun k hk=>by cases hk;exact Nat.le_trans kb.size hgl);have hs6:=hs5.grown hg6 (by simpa using Ne.symm hBg);clear ho5 hg6 hs5;have hod:=ho6.below (bdr w6);have hsd:=hs6.below (bdr w6);have hcd:w6.drew.cell? ⟨w.heap.size,0,none⟩=some (.int .i64 s.fore)/\w6.drew.cell? ⟨w.heap.size,1,none⟩=some (.int .i64 s.back)/\w6.drew.cell? ⟨w.heap.size,2,none⟩=some (.bool s.bold)/\w6.drew.cell? ⟨w.heap.size,3,none⟩=some (.bool s.under)/\w6.drew.cell? ⟨w.heap.size,4,none⟩=some (.bool s.turned):=hsd.2.1;have kbd:=kb6.trans ((bdr w6).mono kb6.size);obtain ⟨_,⟨c0,c1,c2,c3,c4⟩,_⟩:=id hs6;clear ho6 hs6;go_wp2;clear c0 c1 c2 c3 c4
       go_region_held3 (fun W=>W.cell? ⟨w.heap.size,0,none⟩=some (.int .i64 s.fore)/\W.cell? ⟨w.heap.size,1,none⟩=some (.int .i64 s.back)/\W.cell? ⟨w.heap.size,2,none⟩=some (.bool s.bold)/\W.cell? ⟨w.heap.size,3,none⟩=some (.bool s.under)/\W.cell? ⟨w.heap.size,4,none⟩=some (.bool s.turned)) (first|with_reducible assumption)
        (first
         | (go_at_call 219;refine (hcut _).mono ?_;rintro e wk ⟨rfl,hwk⟩;subst hwk)
         | (go_at_call 206;refine (hbo _ hsd hod).mono ?_;rintro e wz ⟨rfl,hcz,hoz,hgz⟩))
       go_wp2;go_ret;rw [hfin.out] at hoz
       exact ⟨_,rfl,by rw [hV.out];exact hoz,kbd.grown hgz kbd.size (fun k hk=>by cases hk;exact Nat.le_trans kb.size hgl)⟩
      ·have hpqi:¬ (p:Int)<(q:Int):=by omega
       have epq:q=p:=by omega
       have hV2:Hid (X4 xs p q s=xs):=by show _=_;rw [hV.out,epq];exact Ud hR p s
       clear hpq hR hV epq;go_wp2;go_ret;exact ⟨_,rfl,by rw [hV2.out];exact ho4,kb4⟩
def Ua (xs:List Ce) (f t:Int) (s:St):Bool:=Xu xs && (s.ok && (decide (0<=f) && (decide (f<xs.length) && (decide (0<=t) && decide (t<=xs.length)))))
theorem XaU (xs:List Ce) (f t:Int) (s:St):Ua xs f t s=true ↔ Xu xs=true/\s.ok=true/\(0<=f/\f<=xs.length-1)/\(0<=t/\t<=xs.length):=by
 unfold Ua;simp only [Bool.and_eq_true,decide_eq_true_eq]
 constructor
 ·rintro ⟨a,b,c,d,e,f⟩;exact ⟨a,b,⟨c,by omega⟩,e,f⟩
 ·rintro ⟨a,b,⟨c,d⟩,e,f⟩;exact ⟨a,b,c,by omega,e,f⟩
theorem Q8 (v:Value) (xs:List Ce) (f t:Int) (s:St) (w:World) (hS:Xo w) (hv:SlC w v xs) (hl:xs.length<=1048576) :
  Calls Tryz.prog 254 #[v,.int .i64 f,.int .i64 t,stV s] w fun e w'=>e=.returned (.bool (Ua xs f t s))/\Below w.heap.size w w':=by
 have h2:=XT.new w s 28;have hbA:=Xd w (Obj.cells #[.int .i64 s.fore,.int .i64 s.back,.bool s.bold,.bool s.under,.bool s.turned] 28);have hOK:=Yc s;have hro:=KW v xs _ (hS.below hbA hS.lt) (hv.below hbA) hl;have hM:Hid (Ua xs f t s=(Xu xs && (s.ok && (decide (0<=f) && (decide (f<xs.length) && (decide (0<=t) && decide (t<=xs.length))))))):=rfl;obtain ⟨a,c,rfl,hcp,_⟩:=id hv;clear hv;unfold stV at *;generalize Xu xs=rb at *;generalize s.ok=so at *;generalize xs.length=n at *;go_enter Tryz.func254,Tryz.ntmps254;go_wp2_with fail;refine hro.mono ?_;rintro e w2 ⟨rfl,hb2⟩;have kb:=hbA.trans (hb2.mono hbA.size);have hs:=h2.below hb2;clear hbA hb2 h2 hro
 cases rb
 ·clear hOK
  go_wp2;go_ret;exact ⟨by rw [hM.out];rfl,kb⟩
 ·obtain ⟨_,⟨c0,c1,c2,c3,c4⟩,_⟩:=id hs
  go_wp2_with fail;refine (hOK _).mono ?_;rintro e w3 ⟨rfl,hb3⟩;have kb:=kb.trans (hb3.mono kb.size);clear hb3 hOK c0 c1 c2 c3 c4 hs
  cases so
  ·go_wp2
   go_ret;exact ⟨by rw [hM.out];rfl,kb⟩
  ·by_cases h1:0<=f
   ·by_cases h2:f<(n:Int)
    ·by_cases h3:0<=t
     ·have hM2:Hid (Ua xs f t s=decide (t<=(n:Int))):=by show _=_;rw [hM.out,decide_eq_true h1,decide_eq_true h2,decide_eq_true h3];rfl
      clear hM;go_wp2;go_ret;exact ⟨by rw [hM2.out];first|rfl|(simp;done),kb⟩
     ·have hM2:Hid (Ua xs f t s=false):=by show _=_;rw [hM.out,decide_eq_true h1,decide_eq_true h2,decide_eq_false h3];rfl
      clear hM;go_wp2;go_ret;exact ⟨by rw [hM2.out];first|rfl|(simp;done),kb⟩
    ·have hM2:Hid (Ua xs f t s=false):=by show _=_;rw [hM.out,decide_eq_true h1,decide_eq_false h2];rfl
     clear hM;go_wp2;go_ret;exact ⟨by rw [hM2.out];first|rfl|(simp;done),kb⟩
   ·have hM2:Hid (Ua xs f t s=false):=by show _=_;rw [hM.out,decide_eq_false h1];rfl
    clear hM;go_wp2;go_ret;exact ⟨by rw [hM2.out];first|rfl|(simp;done),kb⟩
theorem Xa5 (Q:List Ce) (q p k:Nat) (h1:q+k<=Q.length) (h2:p+k<=Q.length):YH Q q ((Q.drop p).take k)=XcA Q q p k:=by
 have hl:((Q.drop p).take k).length=k:=by rw [List.length_take,List.length_drop];omega
 refine YF _ _ (by rw [ZZ _ _ _ (by rw [hl];exact h1),ZV]) fun i hi=>?_
 rw [ZZ _ _ _ (by rw [hl];exact h1)] at hi
 rw [XcW _ _ _ (by rw [hl];exact h1),JL _ _ _ _ _ hi,hl]
 by_cases c:q<=i/\i<q+k
 ·rw [if_pos c,if_pos c,Kw _ _ _ (by omega),Y3]
 ·rw [if_neg c,if_neg c]
section
variable {H : Type} {enc : TypeId × Value → H} {w : World} {base : Nat} {spare : Nat → Bool} {held : Bool}
theorem Xh2 {w:World} {x:Addr} {l c:Nat} {zs:List Int} (hl:l<=c) (hz:l<=zs.length) (hc:∀ i,i<zs.length->w.cell? (x.add i)=some (.int .i64 (zs.getD i 0))):SlN w (.slice (some x) l c) (zs.take l)/\(zs.take l).length=l:=by
 have hlen:(zs.take l).length=l:=by rw [List.length_take];omega
 refine ⟨⟨some x,c,by rw [hlen],by rw [hlen];exact hl,(fun e=>by cases e),?_⟩,hlen⟩
 by_cases h0:l=0
 ·left;subst h0;simp
 ·right
  obtain ⟨b,off,spot⟩:=x;have h1:=hc 0 (by omega);have hspot:spot=none:=by simpa [Addr.add] using World.cell?_spot h1
  subst hspot;refine ⟨b,off,rfl,World.block_lt_of_cell? w _ h1,fun i hi=>?_⟩;rw [hlen] at hi
  have h2:=hc i (by omega);have e:(zs.take l).getD i 0=zs.getD i 0:=by simp [List.getD,hi]
  rw [e,<- h2]
  by_cases hi0:i=0
  ·subst hi0;simp [Addr.add]
  ·simp [Addr.add,hi0]
theorem Uy {fuel:Nat} {cs:List Value} {y:DataW H×List MemPlace} (hf:DataW.trod enc Tryz.prog w base spare held fuel 29 cs=some y) :
  ∃ (v:Value) (xs:List Int),cs=[v]/\SlN w v xs/\xs.length<=maxLen:=by
 rcases open_ints Tryz.underlying29 Tryz.underlying2 (by kernel_rfl) hf with ⟨hcs,_⟩|⟨x,l,c,zs,hcs,_,hl,hm,hz,_,hcell,hwz⟩
 ·exact ⟨_,[],hcs,⟨none,0,rfl,Nat.le_refl _,fun _=>rfl,.inl rfl⟩,by simp⟩
 ·have:=Xh2 (w:=w) (x:=x) hl (by rw [hz];split<;>omega) hcell
  exact ⟨_,_,hcs,this.1,by rw [this.2];omega⟩
end
