import Derived.Test.YtfpopnkhmjkdlaaGreatDoorP15
import Derived.Lib.AppendStr
set_option maxRecDepth 20000
set_option maxHeartbeats 16000000
namespace Go.Proofs.YtfpopnkhmjkdlaaGreatDoor
open Go.ChangeShapes Go.WideShapes Go.ChangeAt Go.RowKit
def ZR (L:List Value) (q:Nat) (M:List Value):List Value:=L.take q++M++L.drop (q+M.length)
theorem U8 (L:List Value) (q:Nat) (M:List Value) (h:q+M.length<=L.length):(ZR L q M).length=L.length:=by unfold ZR;simp;omega
theorem XcX (L:List Value) (q:Nat) (M:List Value) (h:q+M.length<=L.length) (i:Nat) (_:i<L.length):Xw (ZR L q M) i=if q<=i/\i<q+M.length then Xw M (i-q) else Xw L i:=by
 have h1:(L.take q).length=q:=by rw [List.length_take];omega
 unfold Xw ZR;simp only [List.getD]
 by_cases c1:i<q
 ·rw [if_neg (by omega),List.append_assoc,List.getElem?_append_left (by omega),List.getElem?_take_of_lt c1]
 ·by_cases c2:i<q+M.length
  ·rw [if_pos (by omega),List.append_assoc,List.getElem?_append_right (by omega),h1,List.getElem?_append_left (by omega)]
  ·rw [if_neg (by omega),List.getElem?_append_right (by rw [List.length_append,h1];omega),List.length_append,h1,List.getElem?_drop,show q+M.length+(i-(q+M.length))=i by omega]
theorem XcN {w:World} (ty:TypeId) (base g n cap q:Nat) (xs cs:List Value) (h:w.ownsRow base 120 1 (.slice (some ⟨g,0,none⟩) n cap) n xs) (dp sp:Option Addr) (dLen dCap sLen sCap:Nat) (hM:cs.length=Nat.min sLen dLen) (hq:q+cs.length<=n)
  (hpos:0<cs.length->dp=some ⟨g,q,none⟩/\∃ ad,sp=some ad/\∀ j v,cs[j]?=some v->w.cell? (ad.add j)=some v) (h1:∀ v∈cs,v.oneCell'=true) :
  ∃ w',(Builtin.copy_ #[143,143] ty #[.slice dp dLen dCap,.slice sp sLen sCap]).run Tryz.prog w=.ok (goInt cs.length) w'/\w'.ownsRow base 120 1 (.slice (some ⟨g,0,none⟩) n cap) n (ZR xs q cs)/\w.grownBy w' (some g):=by
 obtain ⟨i0,hi,hz0,hz1,hz2⟩:=info_parts Z4;have hsz:(Tryz.prog.info? 120).map (·.size)=some 1:=by rw [hi];simp [hz1]
 have hxl:xs.length=n:=by have:=h.1;omega
 by_cases h0:cs.length=0
 ·obtain rfl:cs=[]:=List.eq_nil_of_length_eq_zero h0
  have hrun:=run_copy_none (P:=Tryz.prog) w 143 143 ty 120 dp sp dLen dCap sLen sCap ZH hsz (by simpa using hM.symm);refine ⟨w,hrun,?_,World.grownBy.refl _ _⟩;have e:ZR xs q []=xs:=by simp [ZR]
  rw [e];exact h
 ·obtain ⟨rfl,ad,rfl,hsrc⟩:=hpos (by omega)
  rcases h.2 with ⟨h',_⟩|⟨g',cap',cur,h',hb,hg,hnc,hcm,hcs,htake⟩
  ·simp at h'
  ·simp only [Value.slice.injEq,Option.some.injEq,Addr.mk.injEq,and_true,true_and] at h'
   obtain ⟨rfl,rfl⟩:=h';have hrun:=run_copy_row (P:=Tryz.prog) w 143 143 ty 120 g q dLen dCap ad sLen sCap cur 120 cs ZH hsz hg hM hsrc (by omega) h1;refine ⟨_,hrun,⟨by rw [U8 _ _ _ (by omega)];omega,.inr ⟨g,cap,_,rfl,hb,setRow_heap w g cur _ 120 _ hg,hnc,hcm,?_,?_⟩⟩,⟨rfl,rfl,rfl,by simp [World.setRow],fun k _ hk=>setRow_other w g k _ (fun e=>hk (by simp [e]))⟩⟩
   ·simp only [List.size_toArray,List.length_append,List.length_take,List.length_drop,Array.length_toList];omega
   ·have hx:xs=cur.toList.take n:=by rw [<- htake];simp
    have e1:cur.toList.take q=xs.take q:=by rw [hx,List.take_take,Nat.min_eq_left (by omega)]
    have e2:(cur.toList.drop (q+cs.length)).take (n-(q+cs.length))=xs.drop (q+cs.length):=by rw [hx,List.drop_take]
    unfold ZR;rw [<- e1,<- e2]
    have hl1:(cur.toList.take q++cs).length=q+cs.length:=by rw [List.length_append,List.length_take,Array.length_toList,hcs];omega
    simp only [Nat.mul_one];rw [List.take_append,List.take_of_length_le (by rw [hl1];omega),hl1]
theorem Jm {ops:Array Oper} {o:Oper} {ac:Act} {w:World} {K:Act->World->Prop} {Q:Exit->Act->World->Prop} {E:Prop} (hgd:o.guard=none) (d s:Operand)
  (ho:o.op=.call { callee:=.builtin .copy,args:=#[d,s],argTypes:=#[143,143] })
  (base g n cap q:Nat) (xs cs:List Value) (h:w.ownsRow base 120 1 (.slice (some ⟨g,0,none⟩) n cap) n xs) (dp sp:Option Addr) (dLen dCap sLen sCap:Nat) (hd:ac.eval d=.slice dp dLen dCap) (hs:ac.eval s=.slice sp sLen sCap) (hM:cs.length=Nat.min sLen dLen) (hq:q+cs.length<=n)
  (hpos:0<cs.length->dp=some ⟨g,q,none⟩/\∃ ad,sp=some ad/\∀ j v,cs[j]?=some v->w.cell? (ad.add j)=some v) (h1:∀ v∈cs,v.oneCell'=true)
  (hK:∀ w',w'.ownsRow base 120 1 (.slice (some ⟨g,0,none⟩) n cap) n (ZR xs q cs)->w.grownBy w' (some g)->K (ac.put o.dst (goInt cs.length)) w') :
  if Region.wanted o (yielded ops ac.tmps)=true then Oper.wp Tryz.prog o ac w K Q else E:=by
 have hw:Region.wanted o (yielded ops ac.tmps)=true:=by simp [Region.wanted,hgd]
 rw [if_pos hw]
 obtain ⟨w',hrun,h2,h3⟩:=XcN (w:=w) o.type base g n cap q xs cs h dp sp dLen dCap sLen sCap hM hq hpos h1;unfold Oper.wp;simp [execOp,ho,resolve,invoke,builtin,hd,hs,hrun,Result.andThen];exact hK w' h2 h3
def ZQ (a m k i:Nat):Nat:=if a<=i/\i<a+m then (if i+k<a+m then i+k else i+k-m) else i
def Z8 (rows:List (List Ce)) (a m k:Nat):List (List Ce):=Z3 rows.length fun i=>Xb rows (ZQ a m k i)
theorem Yv (rows:List (List Ce)) (a m k:Nat):(Z8 rows a m k).length=rows.length:=XM _ _
theorem KK (rows:List (List Ce)) (a m k i:Nat) (h:i<rows.length):Xb (Z8 rows a m k) i=Xb rows (ZQ a m k i):=Yq _ _ _ h
theorem Zj {a m k i n:Nat} (hk:k<=m) (ham:a+m<=n) (hi:i<n):ZQ a m k i<n:=by unfold ZQ;split<;>(try split)<;>omega
theorem XfL {a m k i j:Nat} (hk:k<=m) (h:ZQ a m k i=ZQ a m k j):i=j:=by
 unfold ZQ at h;split at h<;>split at h<;>(try split at h)<;>(try split at h)<;>omega
def Y8 (vs:List Value) (a m k:Nat):List Value:=US (m-k) (fun i=>Xw vs (a+k+i))++US k (fun i=>Xw vs (a+i))
theorem Kv (vs:List Value) (a m k:Nat) (hk:k<=m):(Y8 vs a m k).length=m:=by unfold Y8;rw [List.length_append,Y7,Y7];omega
theorem XgU (a b:List Value) (i:Nat):Xw (a++b) i=if i<a.length then Xw a i else Xw b (i-a.length):=by
 unfold Xw;simp only [List.getD]
 by_cases c:i<a.length
 ·rw [if_pos c,List.getElem?_append_left c]
 ·rw [if_neg c,List.getElem?_append_right (by omega)]
theorem UL (vs:List Value) (a m k i:Nat) (hk:k<=m) (hi:i<m):Xw (Y8 vs a m k) i=Xw vs (ZQ a m k (a+i)):=by
 unfold Y8 ZQ;rw [XgU,Y7,if_pos (show a<=a+i/\a+i<a+m by omega)]
 by_cases c:i<m-k
 ·rw [if_pos c,Uw _ _ _ c,if_pos (by omega)]
  congr 1;omega
 ·rw [if_neg c,Uw _ _ _ (by omega),if_neg (by omega)]
  congr 1;omega
theorem XF.turned {w w':World} {base B g n cap a m k:Nat} {vs:List Value} {rows:List (List Ce)} (h:XF w base B (.slice (some ⟨g,0,none⟩) n cap) vs rows) (hn:rows.length=n) (ham:a+m<=n) (hk:k<=m)
  (ho:w'.ownsRow base 120 1 (.slice (some ⟨g,0,none⟩) n cap) n (ZR vs a (Y8 vs a m k))) (hg:w.grownBy w' (some g)):XF w' base B (.slice (some ⟨g,0,none⟩) n cap) (ZR vs a (Y8 vs a m k)) (Z8 rows a m k):=by
 have hvl:=h.1;have hown:=h.2.1;have hl:=Kv vs a m k hk
 have hat:∀ i,i<rows.length->Xw (ZR vs a (Y8 vs a m k)) i=Xw vs (ZQ a m k i):=fun i hi=>by
  rw [XcX _ _ _ (by omega) _ (by omega),hl]
  by_cases c:a<=i/\i<a+m
  ·rw [if_pos c,UL _ _ _ _ _ hk (by omega),show a+(i-a)=i by omega]
  ·rw [if_neg c]
   unfold ZQ;rw [if_neg c]
 have key:XF w' base w'.heap.size (.slice (some ⟨g,0,none⟩) n cap) (ZR vs a (Y8 vs a m k)) (Z8 rows a m k):=by
  refine h.mixed (fun i=>some (ZQ a m k i)) _ _ (by rw [U8 _ _ _ (by omega),Yv,hvl]) (Yv _ _ _ _) (by rw [hn];exact ho) (fun p hp=>(h.2.2.1 p hp).kept hg (YG hown (h.2.2.1 p hp))) (fun i p hi e=>?_) (fun i j p hij _ e1 e2=>?_) (fun i _ e=>by cases e) (fun i j _ _ e _=>by cases e)
  ·cases e
   exact ⟨Zj hk (by omega) hi,hat i hi,KK _ _ _ _ _ hi⟩
  ·cases e1
   have:=XfL hk (Option.some.inj e2);omega
 refine ⟨key.1,key.2.1,key.2.2.1,fun i hi g' e=>?_,key.2.2.2.2⟩;rw [Yv] at hi
 rw [hat i hi] at e
 exact h.2.2.2.1 _ (by rw [hn];exact Zj hk (by omega) (by omega)) g' e
theorem KZ {L:List Value} (h:U9 L):∀ u∈L,u.oneCell'=true:=fun u hu=>by
 obtain ⟨i,hi,rfl⟩:=List.getElem_of_mem hu;obtain ⟨a,n,c,e⟩:=h i hi;rw [UH hi] at e
 rw [e];rfl
theorem Xbh {n:Nat} {f:Nat->Value} (h:∀ i,i<n->∃ a n' c,f i=Value.slice a n' c):U9 (US n f):=fun i hi=>by
 rw [Y7] at hi
 rw [Uw _ _ _ hi];exact h i hi
theorem U7 {w:World} {base n g cap q m c:Nat} {vs:List Value} (h:w.ownsRow base 120 1 (.slice (some ⟨g,0,none⟩) n cap) n vs) (hq:q+m<=n):Z1 w (.slice (some ⟨g,q,none⟩) m c) (US m fun i=>Xw vs (q+i)):=by
 have hl:vs.length=n:=by have:=h.1;omega
 refine .inr ⟨⟨g,q,none⟩,c,by rw [Y7],fun j x hx=>?_⟩;have hj:j<m:=by have:=(List.getElem?_eq_some_iff.1 hx).1;rw [Y7] at this;exact this
 rw [ZP (by rw [Y7];exact hj),Uw _ _ _ hj] at hx
 cases hx
 rw [Addr.add_mid,World.ownsRow.cellAt h (q+j) (by omega),ZP (by omega)]
theorem Xaa {w:World} {base n:Nat} {v:Value} {xs:List Value} (h:w.ownsRow base 120 1 v n xs) (hn:0<n):∃ gv cv,v=Value.slice (some ⟨gv,0,none⟩) n cv:=by
 rcases h.2 with ⟨_,h2⟩|⟨g,cap,cur,hv,_⟩
 ·omega
 ·exact ⟨_,_,hv⟩
theorem XhZ (t:Te) (v:Tv) (hg:∃ a n c,v.g=.slice a n c) (ho:∃ a n c,v.o=.slice a n c) (hti:∃ a n c,v.ti=.slice a n c) (hpp:∃ a n c,v.pp=.slice a n c) (hpt:∃ a n c,v.pt=.slice a n c):(Xg t v).toList.all (·.oneCell')=true:=by
 obtain ⟨vg,vo,vti,vpp,vpt⟩:=v;obtain ⟨_,_,_,h1⟩:=hg;obtain ⟨_,_,_,h2⟩:=ho;obtain ⟨_,_,_,h3⟩:=hti;obtain ⟨_,_,_,h4⟩:=hpp;obtain ⟨_,_,_,h5⟩:=hpt;simp only at h1 h2 h3 h4 h5;subst h1;subst h2;subst h3;subst h4;subst h5
 rfl
theorem SlT.one {w:World} {t:Te} {v:Tv} (h:SlT w t v):(Xg t v).toList.all (·.oneCell')=true:=by
 obtain ⟨h1,h2,h3,h4,h5⟩:=h;obtain ⟨_,_,e1⟩:=sGs h1;obtain ⟨_,_,e2⟩:=sGs h2;obtain ⟨_,_,e3⟩:=h3.shp;obtain ⟨_,_,e4⟩:=h4.shp;obtain ⟨_,_,e5⟩:=h5.shp;exact XhZ t v ⟨_,_,_,e1⟩ ⟨_,_,_,e2⟩ ⟨_,_,_,e3⟩ ⟨_,_,_,e4⟩ ⟨_,_,_,e5⟩
end Go.Proofs.YtfpopnkhmjkdlaaGreatDoor
namespace Go.Proofs.YtfpopnkhmjkdlaaGreatDoor
theorem XfN (L:List Ce) (q:Nat) (r:Int) (s:St) (hw:wdV r≠0) (hq:q+(wdV r).toNat<=L.length) (i:Nat) :
  atC (X6 L q r s) i=if wdV r=2/\i=q+1 then ⟨0,s,2⟩ else if i=q then ⟨r,s,wdV r-1⟩ else atC (XU L q (q+(wdV r).toNat) s) i:=by
 have hb:=XG r;have hl:=X9 L q (q+(wdV r).toNat) s;unfold X6
 by_cases h2:wdV r=2
 ·rw [if_pos h2,Kj,List.length_set,hl,Kj,hl]
  by_cases c:i=q+1
  ·have hlt:q+1<L.length:=by omega
   simp [h2,c,hlt]
  ·by_cases d:i=q
   ·have hlt:q<L.length:=by omega
    simp [h2,d,hlt]
   ·simp [c,d]
 ·rw [if_neg h2,Kj,hl]
  by_cases d:i=q
  ·have hlt:q<L.length:=by omega
   simp [h2,d,hlt]
  ·simp [h2,d]
theorem XbW {L:List Ce} (hR:XK L) (q:Nat) (r:Int) (s:St) (hs:s.ok=true) (hw:wdV r≠0) (hq:q+(wdV r).toNat<=L.length):XK (X6 L q r s):=by
 have hb:=XG r;have hC:=ZI hR q (q+(wdV r).toNat) s hs hq;have hCl:=X9 L q (q+(wdV r).toNat) s;have hin:=fun i h1 h2=>Xb1 (l:=L) q (q+(wdV r).toNat) s hq i h1 h2
 have hat:=fun i=>XfN L q r s hw hq i
 have hlen:=Xao L q r s;have h0:=hin q (Nat.le_refl _) (by omega);generalize XU L q (q+(wdV r).toNat) s=C at *;refine ⟨fun i hi=>?_,fun i h1=>?_,fun i h2=>?_⟩
 ·rw [hat i]
  split
  ·exact ⟨hs,.inr (.inr ⟨rfl,rfl⟩)⟩
  ·split
   ·rename_i h2 hi
    refine ⟨hs,?_⟩
    by_cases e:wdV r=2
    ·exact .inr (.inl ⟨by show wdV r-1=1;omega,e⟩)
    ·exact .inl ⟨by show wdV r-1=0;omega,by show wdV r=1;omega⟩
   ·exact hC.1 i (by omega)
 ·rw [hat i] at h1
  split at h1
  ·exact absurd h1 (by simp)
  ·rename_i n1
   split at h1
   ·rename_i e
    have hw2:wdV r=2:=by have:wdV r-1=1:=h1;omega
    rw [hat (i+1),if_pos ⟨hw2,by omega⟩,hat i,if_neg n1,if_pos e]
    exact ⟨rfl,rfl⟩
   ·rename_i n2
    have h3:=hC.2.1 i h1;have n3:¬ (i+1=q):=fun e=>by rw [e,h0] at h3;exact absurd h3.1 (by simp [Xz])
    have n4:¬ (wdV r=2/\i+1=q+1):=fun e=>n2 (by omega)
    rw [hat (i+1),if_neg n4,if_neg n3,hat i,if_neg n1,if_neg n2]
    exact h3
 ·rw [hat i] at h2
  split at h2
  ·rename_i e
   have n1:¬ (wdV r=2/\i-1=q+1):=by omega
   refine ⟨by omega,?_⟩;rw [hat (i-1),if_neg n1,if_pos (by omega)]
   show wdV r-1=1
   omega
  ·rename_i n1
   split at h2
   ·exfalso
    have:wdV r-1=2:=h2;omega
   ·rename_i n2
    have h3:=hC.2.2 i h2;have n3:¬ (i-1=q):=fun e=>by rw [e,h0] at h3;exact absurd h3.2 (by simp [Xz])
    have n4:¬ (wdV r=2/\i-1=q+1):=fun e=>by
     have:=hin (q+1) (by omega) (by omega);rw [e.2,this] at h3;exact absurd h3.2 (by simp [Xz])
    rw [hat (i-1),if_neg n4,if_neg n3]
    exact h3
open Go.ChangeShapes Go.WideShapes Go.ChangeAt Go.RowKit
theorem QV (gc r c:Int) (a:Option Addr) (n cp:Nat) (w:World) (_hn:n<=1048576) :
  Calls Tryz.prog 147 #[.agg #[.int .i64 gc,.slice a n cp],.int .i64 r,.int .i64 c] w fun e w'=>e=.returned (.bool (Y4 gc n r c))/\Below w.heap.size w w':=by
 have hb0:=Xd w (Obj.cells #[.int .i64 gc,.slice a n cp] 26);obtain ⟨rv,hrv⟩:∃ rv,Hid (rv=Y4 gc n r c):=⟨_,rfl⟩;rw [<- hrv.out]
 by_cases h1:0<=r
 case neg =>
  have hv:Hid (rv=false):=by show _=_;rw [hrv.out];unfold Y4;rw [decide_eq_false (by omega),Bool.false_and]
  go_enter Tryz.func147,Tryz.ntmps147;go_wp2;go_ret;exact ⟨by rw [hv.out];rfl,hb0⟩
 by_cases h2:r<(n:Int)
 case neg =>
  have hv:Hid (rv=false):=by show _=_;rw [hrv.out];unfold Y4;rw [decide_eq_false (by omega),Bool.false_and]
  go_enter Tryz.func147,Tryz.ntmps147;go_wp2;go_ret;exact ⟨by rw [hv.out];rfl,hb0⟩
 by_cases h3:0<=c
 case neg =>
  have hv:Hid (rv=false):=by show _=_;rw [hrv.out];unfold Y4;rw [decide_eq_false (p:=0<=c/\_) (by omega),Bool.and_false]
  go_enter Tryz.func147,Tryz.ntmps147;go_wp2;go_ret;exact ⟨by rw [hv.out];rfl,hb0⟩
 by_cases h4:c<gc
 case neg =>
  have hv:Hid (rv=false):=by show _=_;rw [hrv.out];unfold Y4;rw [decide_eq_false (p:=0<=c/\_) (by omega),Bool.and_false]
  go_enter Tryz.func147,Tryz.ntmps147;go_wp2;go_ret;exact ⟨by rw [hv.out];rfl,hb0⟩
 have hv:Hid (rv=true):=by show _=_;rw [hrv.out];unfold Y4;rw [decide_eq_true (by omega),decide_eq_true (by omega)];rfl
 go_enter Tryz.func147,Tryz.ntmps147;go_wp2;go_ret;exact ⟨by rw [hv.out];rfl,hb0⟩
theorem QP (t:Te) (v:Tv) (w:World) (h:SlT w t v) (hS:Xo w) (hz:SzT 1048576 t) :
  Calls Tryz.prog 64 #[teV t v] w fun e w'=>e=.returned (.bool (Xy t.gc t.g && (Xy t.oc t.o && (decide (t.gc=t.oc) && decide (t.g.length=t.o.length)))))/\Below w.heap.size w w':=by
 obtain ⟨vg,vo,vti,vpp,vpt⟩:=v;obtain ⟨hg,ho,hti,hpp,hpt⟩:=h;simp only at hg ho hti hpp hpt;obtain ⟨z1,z2,z3,z4,z5,z6,z7⟩:=hz;obtain ⟨rv,hrv⟩:∃ rv,Hid (rv=(Xy t.gc t.g && (Xy t.oc t.o && (decide (t.gc=t.oc) && decide (t.g.length=t.o.length))))):=⟨_,rfl⟩;rw [<- hrv.out]
 have hb0:=Xd w (Obj.cells (Xg t ⟨vg,vo,vti,vpp,vpt⟩) 35);have hB:=TeB.new w 35 t ⟨vg,vo,vti,vpp,vpt⟩;have cG:=fun W hS hW=>JH t.gc vg t.g W hS hW z1 z2
 have cO:=fun W hS hW=>JH t.oc vo t.o W hS hW z3 z4
 obtain ⟨bG,eG⟩:∃ b,Hid (Xy t.gc t.g=b):=⟨_,rfl⟩;obtain ⟨bO,eO⟩:∃ b,Hid (Xy t.oc t.o=b):=⟨_,rfl⟩;rw [eG.out] at cG
 rw [eO.out] at cO
 obtain ⟨ga,gp,hq1⟩:=sGs hg;obtain ⟨oa,op,hq2⟩:=sGs ho;obtain ⟨tia,tip,hq3⟩:=hti.shp;obtain ⟨ppa,ppp,hq4⟩:=hpp.shp;obtain ⟨pta,ptp,hq5⟩:=hpt.shp;subst hq1;subst hq2;subst hq3;subst hq4;subst hq5;unfold teV Yp at *;obtain ⟨w1,hw1⟩:∃ w1,w1=w.alloc (Obj.cells (Xg t ⟨.slice ga t.g.length gp,.slice oa t.o.length op,.slice tia t.ti.length tip,.slice ppa t.pa.params.length ppp,.slice pta t.pa.text.length ptp⟩) 35):=⟨_,rfl⟩;rw [<- hw1] at hB hb0
 replace hw1:=(show Hid _ from hw1);clear z1 z2 z3 z4 z5 z6 z7;go_enter Tryz.func64,Tryz.ntmps64;refine wp_seq_k (fun K hK=>?_);have hH:=(show Hid _ from hK);clear hK;go_wp2;refine hH.out _ _ ?_;rw [<- hw1.out]
 clear hH hw1;obtain ⟨c0,c1,c2,c3,c4,c5,c6,c7,c8,c9,c10,c11,c12,c13,c14,c15,c16,c17,c18,c19,c20,c21,c22,c23,c24,c25,c26,c27,c28,c29⟩:=hB.cells;go_wp2_with fail;refine (cG _ (hS.below hb0 hS.lt) (hg.below hb0)).mono ?_;rintro e w2 ⟨rfl,hb⟩;have hb1:=hb0.trans (hb.mono hb0.size);replace hB:=hB.below hb;clear c0 c1 c2 c3 c4 c5 c6 c7 c8 c9 c10 c11 c12 c13 c14 c15 c16 c17 c18 c19 c20 c21 c22 c23 c24 c25 c26 c27 c28 c29;clear hb hb0;obtain ⟨c0,c1,c2,c3,c4,c5,c6,c7,c8,c9,c10,c11,c12,c13,c14,c15,c16,c17,c18,c19,c20,c21,c22,c23,c24,c25,c26,c27,c28,c29⟩:=hB.cells
 cases bG
 case false =>
  have hv:Hid (rv=false):=by show _=_;rw [hrv.out];rw [eG.out];simp
  go_wp2;go_ret;exact ⟨by rw [hv.out];rfl,hb1⟩
 go_wp2_with fail;refine (cO _ (hS.below hb1 hS.lt) (ho.below hb1)).mono ?_;rintro e w3 ⟨rfl,hb⟩;have hb2:=hb1.trans (hb.mono hb1.size);replace hB:=hB.below hb;clear c0 c1 c2 c3 c4 c5 c6 c7 c8 c9 c10 c11 c12 c13 c14 c15 c16 c17 c18 c19 c20 c21 c22 c23 c24 c25 c26 c27 c28 c29;clear hb hb1;obtain ⟨c0,c1,c2,c3,c4,c5,c6,c7,c8,c9,c10,c11,c12,c13,c14,c15,c16,c17,c18,c19,c20,c21,c22,c23,c24,c25,c26,c27,c28,c29⟩:=hB.cells
 cases bO
 case false =>
  have hv:Hid (rv=false):=by show _=_;rw [hrv.out];rw [eO.out];simp
  go_wp2;go_ret;exact ⟨by rw [hv.out];rfl,hb2⟩
 by_cases q3:t.gc=t.oc
 case neg =>
  have hv:Hid (rv=false):=by show _=_;rw [hrv.out];simp [q3]
  have q3b:(t.gc==t.oc)=false:=by simp [q3]
  clear q3;go_wp2;go_ret;exact ⟨by rw [hv.out];rfl,hb2⟩
 have q3b:(t.gc==t.oc)=true:=by simp [q3]
 have q3h:=(show Hid _ from q3);clear q3
 by_cases q4:t.g.length=t.o.length
 case neg =>
  have hv:Hid (rv=false):=by show _=_;rw [hrv.out];simp [q4]
  have q4b:((t.g.length:Int)==(t.o.length:Int))=false:=by simp;omega
  clear q4;go_wp2;go_ret;exact ⟨by rw [hv.out];rfl,hb2⟩
 have hv:Hid (rv=true):=by show _=_;rw [hrv.out,eG.out,eO.out,decide_eq_true q3h.out,decide_eq_true q4];rfl
 have q4b:((t.g.length:Int)==(t.o.length:Int))=true:=by simp;omega
 clear q4;go_wp2;go_ret;exact ⟨by rw [hv.out];rfl,hb2⟩
theorem UX (t:Te) (v:Tv) (w:World) (h:SlT w t v) (hc1:1<=t.gc) (hc2:t.gc<=60) (hn:t.g.length<=30) :
  Calls Tryz.prog 65 #[teV t v] w fun e w'=>e=.returned (.bool ((Y4 t.gc t.g.length t.row t.col && Y4 t.gc t.g.length t.sr t.sc) && decide (t.full=true->t.col=t.gc-1)))/\Below w.heap.size w w':=by
 obtain ⟨vg,vo,vti,vpp,vpt⟩:=v;obtain ⟨hg,ho,hti,hpp,hpt⟩:=h;simp only at hg ho hti hpp hpt;obtain ⟨rv,hrv⟩:∃ rv,Hid (rv=((Y4 t.gc t.g.length t.row t.col && Y4 t.gc t.g.length t.sr t.sc) && decide (t.full=true->t.col=t.gc-1))):=⟨_,rfl⟩;rw [<- hrv.out]
 have hb0:=Xd w (Obj.cells (Xg t ⟨vg,vo,vti,vpp,vpt⟩) 35);have hB:=TeB.new w 35 t ⟨vg,vo,vti,vpp,vpt⟩;obtain ⟨ga,gp,hq1⟩:=sGs hg;obtain ⟨oa,op,hq2⟩:=sGs ho;obtain ⟨tia,tip,hq3⟩:=hti.shp;obtain ⟨ppa,ppp,hq4⟩:=hpp.shp;obtain ⟨pta,ptp,hq5⟩:=hpt.shp;subst hq1;subst hq2;subst hq3;subst hq4;subst hq5;unfold teV at *;obtain ⟨w1,hw1⟩:∃ w1,w1=w.alloc (Obj.cells (Xg t ⟨.slice ga t.g.length gp,.slice oa t.o.length op,.slice tia t.ti.length tip,.slice ppa t.pa.params.length ppp,.slice pta t.pa.text.length ptp⟩) 35):=⟨_,rfl⟩;rw [<- hw1] at hB hb0
 replace hw1:=(show Hid _ from hw1);have cC:=fun W=>QV t.gc t.row t.col ga t.g.length gp W (by omega)
 have cD:=fun W=>QV t.gc t.sr t.sc ga t.g.length gp W (by omega)
 obtain ⟨bC,eC⟩:∃ b,Hid (Y4 t.gc t.g.length t.row t.col=b):=⟨_,rfl⟩;obtain ⟨bD,eD⟩:∃ b,Hid (Y4 t.gc t.g.length t.sr t.sc=b):=⟨_,rfl⟩;rw [eC.out] at cC
 rw [eD.out] at cD
 go_enter Tryz.func65,Tryz.ntmps65;refine wp_seq_k (fun K hK=>?_);have hH:=(show Hid _ from hK);clear hK;go_wp2;refine hH.out _ _ ?_;rw [<- hw1.out]
 clear hH hw1;obtain ⟨c0,c1,c2,c3,c4,c5,c6,c7,c8,c9,c10,c11,c12,c13,c14,c15,c16,c17,c18,c19,c20,c21,c22,c23,c24,c25,c26,c27,c28,c29⟩:=hB.cells;go_wp2_with fail;refine (cC _).mono ?_;rintro e w2 ⟨rfl,hb⟩;have hb1:=hb0.trans (hb.mono hb0.size);replace hB:=hB.below hb;clear c0 c1 c2 c3 c4 c5 c6 c7 c8 c9 c10 c11 c12 c13 c14 c15 c16 c17 c18 c19 c20 c21 c22 c23 c24 c25 c26 c27 c28 c29;clear hb hb0;obtain ⟨c0,c1,c2,c3,c4,c5,c6,c7,c8,c9,c10,c11,c12,c13,c14,c15,c16,c17,c18,c19,c20,c21,c22,c23,c24,c25,c26,c27,c28,c29⟩:=hB.cells
 cases bC
 case false =>
  have hv:Hid (rv=false):=by show _=_;rw [hrv.out];rw [eC.out];simp
  go_wp2;go_ret;exact ⟨by rw [hv.out];rfl,hb1⟩
 go_wp2_with fail;refine (cD _).mono ?_;rintro e w3 ⟨rfl,hb⟩;have hb2:=hb1.trans (hb.mono hb1.size);replace hB:=hB.below hb;clear c0 c1 c2 c3 c4 c5 c6 c7 c8 c9 c10 c11 c12 c13 c14 c15 c16 c17 c18 c19 c20 c21 c22 c23 c24 c25 c26 c27 c28 c29;clear hb hb1;obtain ⟨c0,c1,c2,c3,c4,c5,c6,c7,c8,c9,c10,c11,c12,c13,c14,c15,c16,c17,c18,c19,c20,c21,c22,c23,c24,c25,c26,c27,c28,c29⟩:=hB.cells
 cases bD
 case false =>
  have hv:Hid (rv=false):=by show _=_;rw [hrv.out];rw [eD.out];simp
  go_wp2;go_ret;exact ⟨by rw [hv.out];rfl,hb2⟩
 obtain ⟨fu,hfu⟩:∃ fu,Hid (t.full=fu):=⟨_,rfl⟩;rw [hfu.out] at c13
 cases fu
 case false =>
  have hv:Hid (rv=true):=by show _=_;rw [hrv.out,eC.out,eD.out,decide_eq_true (fun h=>by rw [hfu.out] at h;cases h)];rfl
  go_wp2;go_ret;exact ⟨by rw [hv.out];rfl,hb2⟩
 by_cases q:t.col=t.gc-1
 case pos =>
  have hv:Hid (rv=true):=by show _=_;rw [hrv.out,eC.out,eD.out,decide_eq_true (fun _=>q)];rfl
  have qb:(t.col==t.gc-1)=true:=by simp [q]
  clear q;go_wp2;go_ret;exact ⟨by rw [hv.out];rfl,hb2⟩
 have hv:Hid (rv=false):=by show _=_;rw [hrv.out,eC.out,eD.out,decide_eq_false (fun h=>q (h hfu.out))];rfl
 have qb:(t.col==t.gc-1)=false:=by simp [q]
 clear q;go_wp2;go_ret;exact ⟨by rw [hv.out];rfl,hb2⟩
theorem Ux (t:Te) (v:Tv) (w:World) (h:SlT w t v) (hn1:1<=t.g.length) (hn:t.g.length<=30) :
  Calls Tryz.prog 66 #[teV t v] w fun e w'=>e=.returned (.bool (decide (0<=t.top/\t.top<=t.bot/\t.bot<=(t.g.length:Int)-1/\¬ (t.top=t.bot/\0<(t.g.length:Int)-1))))/\Below w.heap.size w w':=by
 obtain ⟨vg,vo,vti,vpp,vpt⟩:=v;obtain ⟨hg,ho,hti,hpp,hpt⟩:=h;simp only at hg ho hti hpp hpt;obtain ⟨rv,hrv⟩:∃ rv,Hid (rv=(decide (0<=t.top/\t.top<=t.bot/\t.bot<=(t.g.length:Int)-1/\¬ (t.top=t.bot/\0<(t.g.length:Int)-1)))):=⟨_,rfl⟩;rw [<- hrv.out]
 have hb0:=Xd w (Obj.cells (Xg t ⟨vg,vo,vti,vpp,vpt⟩) 35);have hB:=TeB.new w 35 t ⟨vg,vo,vti,vpp,vpt⟩;obtain ⟨ga,gp,hq1⟩:=sGs hg;obtain ⟨oa,op,hq2⟩:=sGs ho;obtain ⟨tia,tip,hq3⟩:=hti.shp;obtain ⟨ppa,ppp,hq4⟩:=hpp.shp;obtain ⟨pta,ptp,hq5⟩:=hpt.shp;subst hq1;subst hq2;subst hq3;subst hq4;subst hq5;unfold teV at *;obtain ⟨w1,hw1⟩:∃ w1,w1=w.alloc (Obj.cells (Xg t ⟨.slice ga t.g.length gp,.slice oa t.o.length op,.slice tia t.ti.length tip,.slice ppa t.pa.params.length ppp,.slice pta t.pa.text.length ptp⟩) 35):=⟨_,rfl⟩;rw [<- hw1] at hB hb0
 replace hw1:=(show Hid _ from hw1);go_enter Tryz.func66,Tryz.ntmps66;refine wp_seq_k (fun K hK=>?_);have hH:=(show Hid _ from hK);clear hK;go_wp2;refine hH.out _ _ ?_;rw [<- hw1.out]
 clear hH hw1;obtain ⟨c0,c1,c2,c3,c4,c5,c6,c7,c8,c9,c10,c11,c12,c13,c14,c15,c16,c17,c18,c19,c20,c21,c22,c23,c24,c25,c26,c27,c28,c29⟩:=hB.cells
 by_cases q1:t.g.length=1
 case pos =>
  have q1b:((t.g.length:Int)==1)=true:=by simp;omega
  by_cases q2:t.top=0
  case neg =>
   have q2b:(t.top==0)=false:=by simp [q2]
   have hv:Hid (rv=false):=by show _=_;rw [hrv.out];exact decide_eq_false (by omega)
   clear q1 q2;go_wp2;go_ret;exact ⟨by rw [hv.out];rfl,hb0⟩
  have q2b:(t.top==0)=true:=by simp [q2]
  by_cases q3:t.bot=0
  case neg =>
   have q3b:(t.bot==0)=false:=by simp [q3]
   have hv:Hid (rv=false):=by show _=_;rw [hrv.out];exact decide_eq_false (by omega)
   clear q1 q2 q3;go_wp2;go_ret;exact ⟨by rw [hv.out];rfl,hb0⟩
  have q3b:(t.bot==0)=true:=by simp [q3]
  have hv:Hid (rv=true):=by show _=_;rw [hrv.out];exact decide_eq_true (by omega)
  clear q1 q2 q3;go_wp2;go_ret;exact ⟨by rw [hv.out];rfl,hb0⟩
 have q1b:((t.g.length:Int)==1)=false:=by simp;omega
 have q1i:1<(t.g.length:Int):=by omega
 clear q1
 by_cases q2:0<=t.top
 case neg =>
  have hv:Hid (rv=false):=by show _=_;rw [hrv.out];exact decide_eq_false (by omega)
  go_wp2;go_ret;exact ⟨by rw [hv.out];rfl,hb0⟩
 by_cases q3:t.top<t.bot
 case neg =>
  have hv:Hid (rv=false):=by show _=_;rw [hrv.out];exact decide_eq_false (by omega)
  go_wp2;go_ret;exact ⟨by rw [hv.out];rfl,hb0⟩
 by_cases q4:t.bot<(t.g.length:Int)
 case neg =>
  have hv:Hid (rv=false):=by show _=_;rw [hrv.out];exact decide_eq_false (by omega)
  go_wp2;go_ret;exact ⟨by rw [hv.out];rfl,hb0⟩
 have hv:Hid (rv=true):=by show _=_;rw [hrv.out];exact decide_eq_true (by omega)
 go_wp2;go_ret;exact ⟨by rw [hv.out];rfl,hb0⟩
theorem QR (t:Te) (v:Tv) (w:World) (h:SlT w t v) (hS:Xo w) (hz:SzT 1048576 t) :
  Calls Tryz.prog 19 #[teV t v] w fun e w'=>e=.returned (.bool (Xk t))/\Below w.heap.size w w':=by
 have dS:=fun W hS h=>QP t v W h hS hz
 have dP:=fun W h=>UX t v W h
 have dM:=fun W h=>Ux t v W h
 have hh:=h;obtain ⟨z1,z2,z3,z4,z5,z6,z7⟩:=hz;obtain ⟨vg,vo,vti,vpp,vpt⟩:=v;obtain ⟨hg,ho,hti,hpp,hpt⟩:=h;simp only at hg ho hti hpp hpt;obtain ⟨rv,hrv⟩:∃ rv,Hid (rv=(Xk t)):=⟨_,rfl⟩;rw [<- hrv.out]
 have hb0:=Xd w (Obj.cells (Xg t ⟨vg,vo,vti,vpp,vpt⟩) 35);have hB:=TeB.new w 35 t ⟨vg,vo,vti,vpp,vpt⟩;have cS:=fun W=>Yc t.st W
 have cSs:=fun W=>Yc t.ss W
 have cT:=fun W hW=>JU vti t.ti W hW (by omega)
 have cP:=fun W h1 h2=>UW t.pa vpp vpt W h1 h2 (by omega) (by omega)
 have cF:=fun W=>UV t.fe W
 obtain ⟨bZ,eZ⟩:∃ b,Hid ((Xy t.gc t.g && (Xy t.oc t.o && (decide (t.gc=t.oc) && decide (t.g.length=t.o.length))))=b):=⟨_,rfl⟩;obtain ⟨bQ,eQ⟩:∃ b,Hid (((Y4 t.gc t.g.length t.row t.col && Y4 t.gc t.g.length t.sr t.sc) && decide (t.full=true->t.col=t.gc-1))=b):=⟨_,rfl⟩;obtain ⟨bM,eM⟩:∃ b,Hid (decide (0<=t.top/\t.top<=t.bot/\t.bot<=(t.g.length:Int)-1/\¬ (t.top=t.bot/\0<(t.g.length:Int)-1))=b):=⟨_,rfl⟩;obtain ⟨bS,eS⟩:∃ b,Hid (t.st.ok=b):=⟨_,rfl⟩;obtain ⟨bSs,eSs⟩:∃ b,Hid (t.ss.ok=b):=⟨_,rfl⟩;obtain ⟨bT,eT⟩:∃ b,Hid ((decide (t.ti.length<=40) && XZ t.ti)=b):=⟨_,rfl⟩;obtain ⟨bP,eP⟩:∃ b,Hid (okV t.pa=b):=⟨_,rfl⟩;obtain ⟨bF,eF⟩:∃ b,Hid (Zg t.fe=b):=⟨_,rfl⟩;rw [eZ.out] at dS
 rw [eQ.out] at dP
 rw [eM.out] at dM
 rw [eS.out] at cS
 rw [eSs.out] at cSs
 rw [eT.out] at cT
 rw [eP.out] at cP
 rw [eF.out] at cF
 obtain ⟨ga,gp,hq1⟩:=sGs hg;obtain ⟨oa,op,hq2⟩:=sGs ho;obtain ⟨tia,tip,hq3⟩:=hti.shp;obtain ⟨ppa,ppp,hq4⟩:=hpp.shp;obtain ⟨pta,ptp,hq5⟩:=hpt.shp;subst hq1;subst hq2;subst hq3;subst hq4;subst hq5;unfold teV stV paV at *;obtain ⟨w1,hw1⟩:∃ w1,w1=w.alloc (Obj.cells (Xg t ⟨.slice ga t.g.length gp,.slice oa t.o.length op,.slice tia t.ti.length tip,.slice ppa t.pa.params.length ppp,.slice pta t.pa.text.length ptp⟩) 35):=⟨_,rfl⟩;rw [<- hw1] at hB hb0
 replace hw1:=(show Hid _ from hw1);clear z1 z2 z3 z4 z5 z6 z7;go_enter Tryz.func19,Tryz.ntmps19;refine wp_seq_k (fun K hK=>?_);have hH:=(show Hid _ from hK);clear hK;go_wp2;refine hH.out _ _ ?_;rw [<- hw1.out]
 clear hH hw1;go_wp2_with (refine Yk hB (by rfl) _ (by rfl) (by rfl) ?_);refine (dS _ (hS.below hb0 hS.lt) (hh.below hb0)).mono ?_;rintro e w2 ⟨rfl,hb⟩;have hb1:=hb0.trans (hb.mono hb0.size);replace hB:=hB.below hb;clear hb hb0
 cases bZ
 case false =>
  have hv:Hid (rv=false):=by show _=_;rw [hrv.out];unfold Xk;rw [eZ.out];rfl
  go_wp2;go_ret;exact ⟨by rw [hv.out];rfl,hb1⟩
 obtain ⟨⟨hc1,hc2⟩,⟨hn1,hn2⟩,_⟩:=(YU t.gc t.g).1 (Bool.and_eq_true _ _ ▸ eZ.out).1;go_wp2_with (refine Yk hB (by rfl) _ (by rfl) (by rfl) ?_);refine (dP _ (hh.below hb1) hc1 hc2 hn2).mono ?_;rintro e w3 ⟨rfl,hb⟩;have hb2:=hb1.trans (hb.mono hb1.size);replace hB:=hB.below hb;clear hb hb1
 cases bQ
 case false =>
  have hv:Hid (rv=false):=by
   show _=_;rw [hrv.out];unfold Xk
   have:=eQ.out;rw [Bool.and_eq_false_iff] at this
   rcases this with this|this<;>(rw [this];simp)
  go_wp2;go_ret;exact ⟨by rw [hv.out];rfl,hb2⟩
 go_wp2_with (refine Yk hB (by rfl) _ (by rfl) (by rfl) ?_);refine (dM _ (hh.below hb2) hn1 hn2).mono ?_;rintro e w4 ⟨rfl,hb⟩;have hb3:=hb2.trans (hb.mono hb2.size);replace hB:=hB.below hb;clear hb hb2;obtain ⟨c0,c1,c2,c3,c4,c5,c6,c7,c8,c9,c10,c11,c12,c13,c14,c15,c16,c17,c18,c19,c20,c21,c22,c23,c24,c25,c26,c27,c28,c29⟩:=hB.cells
 cases bM
 case false =>
  have hv:Hid (rv=false):=by show _=_;rw [hrv.out];unfold Xk;rw [eM.out];simp
  go_wp2;go_ret;exact ⟨by rw [hv.out];rfl,hb3⟩
 go_wp2_with fail;refine (cS _).mono ?_;rintro e w5 ⟨rfl,hb⟩;have hb4:=hb3.trans (hb.mono hb3.size);replace hB:=hB.below hb;clear c0 c1 c2 c3 c4 c5 c6 c7 c8 c9 c10 c11 c12 c13 c14 c15 c16 c17 c18 c19 c20 c21 c22 c23 c24 c25 c26 c27 c28 c29;clear hb hb3;obtain ⟨c0,c1,c2,c3,c4,c5,c6,c7,c8,c9,c10,c11,c12,c13,c14,c15,c16,c17,c18,c19,c20,c21,c22,c23,c24,c25,c26,c27,c28,c29⟩:=hB.cells
 cases bS
 case false =>
  have hv:Hid (rv=false):=by show _=_;rw [hrv.out];unfold Xk;rw [eS.out];simp
  go_wp2;go_ret;exact ⟨by rw [hv.out];rfl,hb4⟩
 go_wp2_with fail;refine (cSs _).mono ?_;rintro e w6 ⟨rfl,hb⟩;have hb5:=hb4.trans (hb.mono hb4.size);replace hB:=hB.below hb;clear c0 c1 c2 c3 c4 c5 c6 c7 c8 c9 c10 c11 c12 c13 c14 c15 c16 c17 c18 c19 c20 c21 c22 c23 c24 c25 c26 c27 c28 c29;clear hb hb4;obtain ⟨c0,c1,c2,c3,c4,c5,c6,c7,c8,c9,c10,c11,c12,c13,c14,c15,c16,c17,c18,c19,c20,c21,c22,c23,c24,c25,c26,c27,c28,c29⟩:=hB.cells
 cases bSs
 case false =>
  have hv:Hid (rv=false):=by show _=_;rw [hrv.out];unfold Xk;rw [eSs.out];simp
  go_wp2;go_ret;exact ⟨by rw [hv.out];rfl,hb5⟩
 go_wp2_with fail;refine (cT _ (hti.below hb5).l.sl).mono ?_;rintro e w7 ⟨rfl,hw⟩;subst hw
 cases bT
 case false =>
  have hv:Hid (rv=false):=by show _=_;rw [hrv.out];unfold Xk;rw [eT.out];simp
  go_wp2;go_ret;exact ⟨by rw [hv.out];rfl,hb5⟩
 go_wp2_with fail;refine (cP _ (hpp.below hb5).l.sl (hpt.below hb5).l.sl).mono ?_;rintro e w8 ⟨rfl,hb⟩;have hb6:=hb5.trans (hb.mono hb5.size);replace hB:=hB.below hb;clear c0 c1 c2 c3 c4 c5 c6 c7 c8 c9 c10 c11 c12 c13 c14 c15 c16 c17 c18 c19 c20 c21 c22 c23 c24 c25 c26 c27 c28 c29;clear hb hb5;obtain ⟨c0,c1,c2,c3,c4,c5,c6,c7,c8,c9,c10,c11,c12,c13,c14,c15,c16,c17,c18,c19,c20,c21,c22,c23,c24,c25,c26,c27,c28,c29⟩:=hB.cells
 cases bP
 case false =>
  have hv:Hid (rv=false):=by show _=_;rw [hrv.out];unfold Xk;rw [eP.out];simp
  go_wp2;go_ret;exact ⟨by rw [hv.out];rfl,hb6⟩
 go_wp2_with fail;refine (cF _).mono ?_;rintro e w9 ⟨rfl,hb⟩;have hb7:=hb6.trans (hb.mono hb6.size)
 have hv:Hid (rv=bF):=by
  show _=_;rw [hrv.out];unfold Xk
  have:=eQ.out;rw [Bool.and_eq_true] at this
  rw [eZ.out,this.1,this.2,eM.out,eS.out,eSs.out,eT.out,eP.out,eF.out];simp
 go_wp2;go_ret;exact ⟨by rw [hv.out];rfl,hb7⟩
theorem Xer {n m left:Nat} (h:szP n m left<0):szP n m left=-1:=by
 unfold szP at *
 by_cases h1:left<n
 ·rw [if_pos h1]
 ·rw [if_neg h1] at h ⊢
  by_cases h2:left-n<m
  ·rw [if_pos h2]
  ·rw [if_neg h2] at h;omega
