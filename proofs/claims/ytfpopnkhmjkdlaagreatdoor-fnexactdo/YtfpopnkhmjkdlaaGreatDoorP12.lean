import Derived.Test.YtfpopnkhmjkdlaaGreatDoorP11
import Derived.ScopeJumps
import Derived.Laws.Bits128
set_option maxRecDepth 20000
set_option maxHeartbeats 16000000
namespace Go.Proofs.YtfpopnkhmjkdlaaGreatDoor
open Go.ChangeShapes Go.WideShapes Go.ChangeAt Go.RowKit
def US (n:Nat) (f:Nat->Value):List Value:=(List.range n).map f
theorem Y7 (n:Nat) (f:Nat->Value):(US n f).length=n:=by simp [US]
theorem Uw (n:Nat) (f:Nat->Value) (i:Nat) (h:i<n):Xw (US n f) i=f i:=by
 rw [UH (by rw [Y7];exact h)]
 simp [US]
theorem Xb9 (a b:List Value) (hl:a.length=b.length) (h:∀ i,i<a.length->Xw a i=Xw b i):a=b:=by
 apply List.ext_getElem hl
 intro i h1 h2;rw [<- UH h1,<- UH h2]
 exact h i h1
theorem Ja {vs:List Value} {j:Nat} (hj:j<vs.length) (r:Value) (i:Nat):Xw (vs.set j r) i=if i=j then r else Xw vs i:=by
 unfold Xw
 by_cases e:i=j
 ·subst e;rw [if_pos rfl];simp [List.getD,hj]
 ·rw [if_neg e];simp [List.getD,Ne.symm e]
theorem XF.mixed {w w':World} {base B:Nat} {v:Value} {vs:List Value} {rows:List (List Ce)} (h:XF w base B v vs rows) (σ:Nat->Option Nat) (vs':List Value) (rows':List (List Ce))
  (hl:vs'.length=rows'.length) (hn:rows'.length=rows.length) (ho:w'.ownsRow base 120 1 v rows.length vs')
  (hkeep:∀ p,p<rows.length->Xl w' base (Xw vs p) (Xb rows p))
  (hold:∀ i p,i<rows.length->σ i=some p->p<rows.length/\Xw vs' i=Xw vs p/\Xb rows' i=Xb rows p)
  (hinj:∀ i j p,i<j->j<rows.length->σ i=some p->σ j=some p->False)
  (hnew:∀ i,i<rows.length->σ i=none->Xl w' base (Xw vs' i) (Xb rows' i)/\∀ g,(Xw vs' i).ownBlock=some g->B<=g)
  (hnd:∀ i j,i<j->j<rows.length->σ i=none->σ j=none->∀ g,(Xw vs' i).ownBlock=some g->(Xw vs' j).ownBlock≠some g) :
  XF w' base w'.heap.size v vs' rows':=by
 have hrow:∀ i,i<rows.length->Xl w' base (Xw vs' i) (Xb rows' i):=fun i hi=>by
  cases e:σ i with
  | none=>exact (hnew i hi e).1
  | some p=>obtain ⟨hp,e1,e2⟩:=hold i p hi e;rw [e1,e2];exact hkeep p hp
 refine ⟨hl,by rw [hn];exact ho,fun i hi=>hrow i (by omega),fun i hi g e=>((hrow i (by omega)).lt g e).2,fun i j hij hj g e1 e2=>?_⟩;rw [hn] at hj
 cases ei:σ i with
 | none =>
  cases ej:σ j with
  | none=>exact hnd i j hij hj ei ej g e1 e2
  | some q =>
   obtain ⟨hq,eq1,_⟩:=hold j q hj ej;rw [eq1] at e2
   have:=h.2.2.2.1 q hq g e2;have:=(hnew i (by omega) ei).2 g e1;omega
 | some p =>
  obtain ⟨hp,ep1,_⟩:=hold i p (by omega) ei;rw [ep1] at e1
  cases ej:σ j with
  | none =>
   have:=h.2.2.2.1 p hp g e1;have:=(hnew j hj ej).2 g e2;omega
  | some q =>
   obtain ⟨hq,eq1,_⟩:=hold j q hj ej;rw [eq1] at e2
   rcases Nat.lt_trichotomy p q with c|c|c
   ·exact h.2.2.2.2 p q c hq g e1 e2
   ·subst c;exact hinj i j p hij hj ei ej
   ·exact h.2.2.2.2 q p c hp g e2 e1
def Gat (w:World) (base:Nat) (vs:List Value) (X:List Ce) (σ:Nat->Option Nat) (us:List Value):Prop :=
 (∀ k p,k<us.length->σ k=some p->Xw us k=Xw vs p)/\(∀ k,k<us.length->σ k=none->Xl w base (Xw us k) X) /\
 (∀ k l,k<l->l<us.length->σ k=none->σ l=none->∀ g,(Xw us k).ownBlock=some g->(Xw us l).ownBlock≠some g)
theorem Gat.nil (w:World) (base:Nat) (vs:List Value) (X:List Ce) (σ:Nat->Option Nat):Gat w base vs X σ [] :=
 ⟨fun k _ h=>absurd h (Nat.not_lt_zero k),fun k h=>absurd h (Nat.not_lt_zero k),fun _ l _ h=>absurd h (Nat.not_lt_zero l)⟩
theorem Gat.below {w w':World} {base:Nat} {vs:List Value} {X:List Ce} {σ:Nat->Option Nat} {us:List Value} (h:Gat w base vs X σ us) (hb:Below w.heap.size w w'):Gat w' base vs X σ us :=
 ⟨h.1,fun k hk e=>(h.2.1 k hk e).below hb,h.2.2⟩
theorem Gat.kept {w w':World} {base base2 n:Nat} {v:Value} {ys vs:List Value} {X:List Ce} {σ:Nat->Option Nat} {us:List Value} (h:Gat w base vs X σ us) (ho:w.ownsRow base2 120 1 v n ys) (hg:w.grownBy w' v.ownBlock):Gat w' base vs X σ us :=
 ⟨h.1,fun k hk e=>(h.2.1 k hk e).kept hg (YG ho (h.2.1 k hk e)),h.2.2⟩
theorem Gat.old {w:World} {base:Nat} {vs:List Value} {X:List Ce} {σ:Nat->Option Nat} {us:List Value} (h:Gat w base vs X σ us) (p:Nat) (e:σ us.length=some p):Gat w base vs X σ (us++[Xw vs p]):=by
 refine ⟨fun k q hk e2=>?_,fun k hk e2=>?_,fun k l hkl hl e1 e2=>?_⟩
 ·rw [List.length_append,List.length_singleton] at hk
  rw [YD]
  by_cases c:k<us.length
  ·rw [if_pos c];exact h.1 k q c e2
  ·have:k=us.length:=by omega
   subst this;rw [if_neg c,if_pos rfl]
   rw [e] at e2;cases e2;rfl
 ·rw [List.length_append,List.length_singleton] at hk
  rw [YD]
  by_cases c:k<us.length
  ·rw [if_pos c];exact h.2.1 k c e2
  ·have:k=us.length:=by omega
   subst this;rw [e] at e2;cases e2
 ·rw [List.length_append,List.length_singleton] at hl
  have c:l<us.length:=by
   apply Nat.lt_of_not_le;intro c
   have:l=us.length:=by omega
   subst this;rw [e] at e2;cases e2
  rw [YD,YD,if_pos c,if_pos (by omega)]
  exact h.2.2 k l hkl c e1 e2
theorem Gat.new {w w':World} {base:Nat} {vs:List Value} {X:List Ce} {σ:Nat->Option Nat} {us:List Value} (h:Gat w base vs X σ us) (e:σ us.length=none) (hb:Below w.heap.size w w') (r:Value) (hr:Xl w' w.heap.size r X) (hbase:base<=w.heap.size):Gat w' base vs X σ (us++[r]):=by
 have h2:=h.below hb;refine ⟨fun k q hk e2=>?_,fun k hk e2=>?_,fun k l hkl hl e1 e2=>?_⟩
 ·rw [List.length_append,List.length_singleton] at hk
  rw [YD]
  by_cases c:k<us.length
  ·rw [if_pos c];exact h.1 k q c e2
  ·have:k=us.length:=by omega
   subst this;rw [e] at e2;cases e2
 ·rw [List.length_append,List.length_singleton] at hk
  rw [YD]
  by_cases c:k<us.length
  ·rw [if_pos c];exact h2.2.1 k c e2
  ·rw [if_neg c,if_pos (by omega)]
   exact hr.low hbase
 ·rw [List.length_append,List.length_singleton] at hl
  rw [YD,YD,if_pos (show k<us.length by omega)]
  by_cases c:l<us.length
  ·rw [if_pos c];exact h.2.2 k l hkl c e1 e2
  ·rw [if_neg c,if_pos (by omega)]
   intro g g1 g2;have:=((h.2.1 k (by omega) e1).lt g g1).2;have:=(hr.lt g g2).1;omega
def U9 (vs:List Value):Prop:=∀ i,i<vs.length->∃ a n c,Xw vs i=Value.slice a n c
theorem Xl.isSl {w:World} {base:Nat} {v:Value} {xs:List Ce} (h:Xl w base v xs):∃ a n c,v=Value.slice a n c:=by
 rcases h.shape with ⟨h,_⟩|⟨_,_,h,_⟩<;>exact ⟨_,_,_,h⟩
theorem XF.areSl {w:World} {base B:Nat} {v:Value} {vs:List Value} {rows:List (List Ce)} (h:XF w base B v vs rows):U9 vs:=fun i hi=>(h.2.2.1 i (by rw [<- h.1];exact hi)).isSl
theorem Gat.areSl {w:World} {base:Nat} {vs:List Value} {X:List Ce} {σ:Nat->Option Nat} {us:List Value} (h:Gat w base vs X σ us) (hv:U9 vs) (hp:∀ k p,k<us.length->σ k=some p->p<vs.length):U9 us:=fun k hk=>by
 cases e:σ k with
 | none=>exact (h.2.1 k hk e).isSl
 | some p=>rw [h.1 k p hk e];exact hv p (hp k p hk e)
theorem Xet {w:World} {ops:Array Oper} {rest:List Oper} {o:Oper} {ac:Act} {Q:Exit->Act->World->Prop} (hgd:o.guard=none) (s x:Operand)
  (ho:o.op=.call { callee:=.builtin .append,args:=#[s,x],argTypes:=#[24,24] })
  (base n:Nat) (v:Value) (us:List Value) (r:Value) (hs:ac.eval s=v) (k:w.ownsRow base 120 1 v n us) (hr:∃ a n c,r=Value.slice a n c) (hb:base<=w.heap.size) (hl:n<2000000)
  (g:Nat) (hg0:w.heap.size=g) (hx:ac.eval x=.slice (some ⟨g,0,none⟩) 1 1)
  (h:∀ v' w',w'.ownsRow base 120 1 v' (n+1) (us++[r])->(w.alloc (.cells #[r] 120)).grownBy w' v.ownBlock->wpList Tryz.prog ops Q rest (ac.put o.dst v') w') :
  wpList Tryz.prog ops Q (o::rest) ac (w.alloc (.cells #[r] 120)):=by
 subst hg0;obtain ⟨i0,hi,hz0,hz1,hz2⟩:=info_parts Z4;have hba:=Xd w (Obj.cells #[r] 120);have hown2:=World.ownsRow.below k hba;obtain ⟨ra,rn,rc,rfl⟩:=hr;refine wpList_append_own _ hgd s x _ ho base 120 i0 (.slice none 0 0) 1 24 Jq hi hz0 hz1 hz2 rfl (by decide) v n us hs hown2 ⟨w.heap.size,0,none⟩ 1 1 [_] hx rfl ?_ ?_ (by unfold maxLen;omega) (by omega) (by simp;omega) (fun v' w' ho' hg' _=>h v' w' ho' hg')
 ·intro j u hj
  match j,hj with
  | 0,hj=>simp at hj;subst hj;simp [Addr.add,go_sem]
 ·intro u hu
  simp at hu;subst hu
  rfl
theorem Xaj {w:World} {ops:Array Oper} {o:Oper} {ac:Act} {K:Act->World->Prop} {Q:Exit->Act->World->Prop} {E:Prop} (hgd:o.guard=none) (s x:Operand)
  (ho:o.op=.call { callee:=.builtin .append,args:=#[s,x],argTypes:=#[24,24] })
  (base n:Nat) (v:Value) (us:List Value) (r:Value) (hs:ac.eval s=v) (k:w.ownsRow base 120 1 v n us) (hr:∃ a n c,r=Value.slice a n c) (hb:base<=w.heap.size) (hl:n<2000000)
  (g:Nat) (hg0:w.heap.size=g) (hx:ac.eval x=.slice (some ⟨g,0,none⟩) 1 1)
  (h:∀ v' w',w'.ownsRow base 120 1 v' (n+1) (us++[r])->(w.alloc (.cells #[r] 120)).grownBy w' v.ownBlock->K (ac.put o.dst v') w') :
  if Region.wanted o (yielded ops ac.tmps)=true then Oper.wp Tryz.prog o ac (w.alloc (.cells #[r] 120)) K Q else E:=by
 have hw:Region.wanted o (yielded ops ac.tmps)=true:=by simp [Region.wanted,hgd]
 rw [if_pos hw]
 subst hg0;obtain ⟨i0,hi,hz0,hz1,hz2⟩:=info_parts Z4;have hba:=Xd w (Obj.cells #[r] 120);have hown2:=World.ownsRow.below k hba;obtain ⟨ra,rn,rc,rfl⟩:=hr;refine wp_append_own _ s x _ ho base 120 i0 (.slice none 0 0) 1 24 Jq hi hz0 hz1 hz2 rfl (by decide) v n us hs hown2 ⟨w.heap.size,0,none⟩ 1 1 [_] hx rfl ?_ ?_ (by unfold maxLen;omega) (by omega) (by simp;omega) (fun v' w' ho' hg' _=>h v' w' ho' hg')
 ·intro j u hj
  match j,hj with
  | 0,hj=>simp at hj;subst hj;simp [Addr.add,go_sem]
 ·intro u hu
  simp at hu;subst hu
  rfl
def SlN (w:World) (v:Value) (xs:List Int):Prop :=
 ∃ a c,v=.slice a xs.length c/\xs.length<=c/\(a=none->c=0)/\(xs=[]\/∃ b off,a=some ⟨b,off,none⟩/\b<w.heap.size/\∀ i,i<xs.length->w.cell? ⟨b,off+i,none⟩=some (.int .i64 (xs.getD i 0)))
theorem SlN.l {w:World} {v:Value} {xs:List Int} (h:SlN w v xs):SlL w v xs:=by
 obtain ⟨a,c,hv,hc,_,hr⟩:=h;exact ⟨a,c,hv,hc,hr⟩
theorem SlN.below {w w':World} {v:Value} {xs:List Int} (h:SlN w v xs) (hb:Below w.heap.size w w'):SlN w' v xs:=by
 obtain ⟨a,c,hv,hc0,hn,h|⟨b,off,ha,hlt,hc⟩⟩:=h
 ·exact ⟨a,c,hv,hc0,hn,.inl h⟩
 ·exact ⟨a,c,hv,hc0,hn,.inr ⟨b,off,ha,Nat.lt_of_lt_of_le hlt hb.size,fun i hi=>(hb.cell (p:=⟨b,off+i,none⟩) hlt).trans (hc i hi)⟩⟩
theorem SlN.of_own {w:World} {base:Nat} {v:Value} {xs:List Int} (h:Yi w base v xs):SlN w v xs:=by
 rcases h.2 with ⟨rfl,h2⟩|⟨g,cap,cur,rfl,hb,hg,hn,hr⟩
 ·exact ⟨none,0,by rw [h2],by omega,fun _=>rfl,.inl (List.eq_nil_of_length_eq_zero h2)⟩
 ·refine ⟨_,cap,rfl,hn,(fun e=>by cases e),.inr ⟨g,0,rfl,(Array.getElem?_eq_some_iff.1 hg).1,fun i hi=>?_⟩⟩
  have:=World.ownsRow.cellAt h i (by omega);rw [Nat.zero_add,this]
  simp [hi]
theorem SlN.shp {w:World} {v:Value} {xs:List Int} (h:SlN w v xs):∃ a c,v=.slice a xs.length c:=h.l.sl.shp
theorem SlN.reads {w:World} {v:Value} {xs:List Int} (h:SlN w v xs):Z1 w v (xs.map (Value.int .i64)):=by
 obtain ⟨a,c,hv,hc,hn,hr⟩:=h
 cases a with
 | none =>
  have hc0:=hn rfl;subst hc0;have hx:xs=[]:=List.eq_nil_of_length_eq_zero (by omega);subst hx;exact .inl ⟨hv,rfl⟩
 | some ad =>
  refine .inr ⟨ad,c,by rw [hv,List.length_map],fun j x hj=>?_⟩
  have hjl:j<xs.length:=by
   have:=(List.getElem?_eq_some_iff.1 hj).1
   simpa using this
  rcases hr with h|⟨b,off,ha,_,hcl⟩
  ·rw [h] at hjl;simp at hjl
  ·cases ha
   rw [Addr.add_mid,hcl j hjl,<- hj]
   simp [hjl]
theorem Xgr (xs:List Int):∀ u∈xs.map (Value.int .i64),u.oneCell'=true:=by
 intro u hu;obtain ⟨x,_,rfl⟩:=List.mem_map.1 hu
 rfl
theorem Xf5 {w:World} {ops:Array Oper} {rest:List Oper} {o:Oper} {ac:Act} {Q:Exit->Act->World->Prop} (hgd:o.guard=none) (s x:Operand)
  (ho:o.op=.call { callee:=.builtin .append,args:=#[s,x],argTypes:=#[29,29] })
  (v:Value) (xs:List Int) (hs:ac.eval s=.slice (some ⟨w.heap.size,0,none⟩) 0 0) (k:SlN w v xs) (hl:xs.length<=1073741824) (hx:ac.eval x=v)
  (h:∀ v' w',Yi w' w.heap.size v' xs->Below w.heap.size w w'->wpList Tryz.prog ops Q rest (ac.put o.dst v') w') :
  wpList Tryz.prog ops Q (o::rest) ac (w.alloc (.cells #[] 2)):=by
 obtain ⟨i0,hi,hz0,hz1,hz2⟩:=info_parts Xcj;have hba:=Xd w (Obj.cells #[] 2)
 have hown:(w.alloc (.cells #[] 2)).ownsRow w.heap.size 2 1 (.slice (some ⟨w.heap.size,0,none⟩) 0 0) 0 []:=by
  have:=World.ownsRow_lit (base:=w.heap.size) (e:=2) (size:=1) w #[] 0 (Nat.le_refl _) (Nat.zero_le _) rfl
  simpa using this
 refine Uc hgd s x _ ho w.heap.size 2 i0 (.int .i64 0) 8 Xd4 hi hz0 hz1 hz2 rfl _ 0 [] hs hown v (xs.map (Value.int .i64)) hx (k.reads.below hba) (Xgr xs) (by unfold maxLen;simp;omega) (by simp;omega) (by simp) (fun v' w' ho' hg'=>?_);have e:0+(xs.map (Value.int .i64)).length=xs.length:=by simp
 rw [e] at ho'
 refine h v' w' (by simpa [Yi] using ho') (hba.grown hg' (by simp) (fun q e=>by simp [Value.ownBlock] at e;omega))
theorem Zc (v:Value) (xs:List Int) (w:World) (hv:SlN w v xs) (hl:xs.length<=1073741824) :
  Calls Tryz.prog 117 #[v] w fun e w'=>∃ u,e=.returned u/\Yi w' w.heap.size u xs/\Below w.heap.size w w':=by
 obtain ⟨a,c,rfl⟩:=hv.shp;go_enter Tryz.func117,Tryz.ntmps117;go_wp2_with (refine Xf5 (by rfl) _ _ (by rfl) _ xs (by rfl) hv hl (by rfl) ?_;intro v' w1 ho hb);go_wp2;go_ret;exact ⟨_,rfl,ho,hb⟩
def Xhq (w:World) (B:Nat) (s:Int) (pv:Value) (m:Int) (tv:Value):World:=(((w.setCell ⟨B,0,none⟩ (.int .i64 s)).setCell ⟨B,1,none⟩ pv).setCell ⟨B,2,none⟩ (.int .i64 m)).setCell ⟨B,3,none⟩ tv
theorem Xac (w:World) (B:Nat) (s:Int) (pv:Value) (m:Int) (tv:Value):w.grownBy (Xhq w B s pv m tv) (some B) :=
 Xf (Xf (Xf (sCc w B 0 _) (sCc _ B 1 _)) (sCc _ B 2 _)) (sCc _ B 3 _)
end Go.Proofs.YtfpopnkhmjkdlaaGreatDoor
namespace Go.Proofs.YtfpopnkhmjkdlaaGreatDoor
theorem XcC (a b:ByteArray):XN (a++b)=XN a++XN b:=by simp [XN,ByteArray.data_append]
theorem QD (h:ByteArray):Jx h=true ↔ ((dec (XN h++[128])).2=(h.size:Int)+1\/(dec (XN h++[191])).2=(h.size:Int)+1\/(dec (XN h++[128,128])).2=(h.size:Int)+2\/(dec (XN h++[191,191])).2=(h.size:Int)+2\/(dec (XN h++[128,128,128])).2=(h.size:Int)+3\/(dec (XN h++[191,191,191])).2=(h.size:Int)+3):=by
 have e0:XN T0=[128]:=rfl;have e1:XN T1=[191]:=rfl;have e2:XN T2=[128,128]:=rfl;have e3:XN T3=[191,191]:=rfl;have e4:XN T4=[128,128,128]:=rfl;have e5:XN T5=[191,191,191]:=rfl;simp only [Jx,XP,XcC,e0,e1,e2,e3,e4,e5,Bool.or_eq_true,beq_iff_eq,or_assoc]
theorem UR (h:ByteArray) (n:Nat):KM h n=true ↔ ((dec (XN h++[128,128,128].take (n-h.size))).2=n\/(dec (XN h++[160,128,128].take (n-h.size))).2=n\/(dec (XN h++[144,128,128].take (n-h.size))).2=n\/(dec (XN h++[191,191,191].take (n-h.size))).2=n\/(dec (XN h++[159,191,191].take (n-h.size))).2=n\/(dec (XN h++[143,191,191].take (n-h.size))).2=n):=by
 have e0:XN ⟨#[128,128,128]⟩=[128,128,128]:=rfl;have e1:XN ⟨#[160,128,128]⟩=[160,128,128]:=rfl;have e2:XN ⟨#[144,128,128]⟩=[144,128,128]:=rfl;have e3:XN ⟨#[191,191,191]⟩=[191,191,191]:=rfl;have e4:XN ⟨#[159,191,191]⟩=[159,191,191]:=rfl;have e5:XN ⟨#[143,191,191]⟩=[143,191,191]:=rfl;simp only [KM,XP,XcC,ZO,e0,e1,e2,e3,e4,e5,List.drop_zero,Bool.or_eq_true,beq_iff_eq,or_assoc]
theorem no5 (b0:Int) (t:List Int) (hb:0<=b0) (k:Int) (hk:4<k):¬ (dec (b0::t)).2=k:=by
 have:=Xhb b0 t hb;omega
theorem or6 {a b c d e f:Prop}:(a\/b\/c\/d\/e\/f) ↔ ((a\/b)\/(c\/d)\/(e\/f)):=by simp only [or_assoc]
theorem Xh6 (h:ByteArray) (b0:Int) (hd:XN h=[b0]) (hz:h.size=1):Jx h=true ↔ (194<=b0/\b0<245):=by
 rw [QD,hd,hz]
 simp only [List.cons_append,List.nil_append,Int.cast_ofNat_Int,Int.reduceAdd,Xf7,Xbe,UP,Int.reduceLE,Int.reduceLT,and_true];rw [or6,Xek,Xem]
 omega
theorem XhL (h:ByteArray) (b0:Int) (n:Nat) (hd:XN h=[b0]) (hz:h.size=1) (hn:XO b0=n) (h1:1<n):KM h n=true ↔ (194<=b0/\b0<245):=by
 rw [UR,hd,hz]
 have hc:n=2\/n=3\/n=4:=by unfold XO at hn;omega
 rcases hc with rfl|rfl|rfl
 ·simp only [Nat.reduceSub,List.take_succ_cons,List.take_zero,List.cons_append,List.nil_append,Int.cast_ofNat_Int,Xf7,Int.reduceLE,Int.reduceLT,and_true]
  unfold XO at hn;omega
 ·simp only [Nat.reduceSub,List.take_succ_cons,List.take_zero,List.cons_append,List.nil_append,Int.cast_ofNat_Int,Xbe,Int.reduceLE,Int.reduceLT,and_true]
  rw [Xhl]
  unfold XO at hn;omega
 ·simp only [Nat.reduceSub,List.take_succ_cons,List.take_zero,List.cons_append,List.nil_append,Int.cast_ofNat_Int,UP,Int.reduceLE,Int.reduceLT,and_true]
  rw [Xhm]
  unfold XO at hn;omega
theorem Xh7 (h:ByteArray) (b0 b1:Int) (hb:0<=b0) (hd:XN h=[b0,b1]) (hz:h.size=2):Jx h=true ↔ (p3 b0 b1\/p4 b0 b1):=by
 rw [QD,hd,hz]
 simp only [List.cons_append,List.nil_append,Int.cast_ofNat_Int,Int.reduceAdd,Xbe,UP,Int.reduceLE,Int.reduceLT,and_true,no5 b0 _ hb 5 (by omega),or_false,or_self];simp only [<- or_assoc,or_self]
theorem XhM (h:ByteArray) (b0 b1:Int) (n:Nat) (hd:XN h=[b0,b1]) (hz:h.size=2) (hn:XO b0=n) (h1:2<n):KM h n=true ↔ (p3 b0 b1\/p4 b0 b1):=by
 rw [UR,hd,hz]
 have hc:n=3\/n=4:=by unfold XO at hn;omega
 rcases hc with rfl|rfl
 ·simp only [Nat.reduceSub,List.take_succ_cons,List.take_zero,List.cons_append,List.nil_append,Int.cast_ofNat_Int,Xbe,Int.reduceLE,Int.reduceLT,and_true,or_self]
  constructor
  ·exact .inl
  ·rintro (h|h)
   ·exact h
   ·have:=XbH _ _ h;omega
 ·simp only [Nat.reduceSub,List.take_succ_cons,List.take_zero,List.cons_append,List.nil_append,Int.cast_ofNat_Int,UP,Int.reduceLE,Int.reduceLT,and_true,or_self]
  constructor
  ·exact .inr
  ·rintro (h|h)
   ·have:=Xel _ _ h;omega
   ·exact h
theorem Xh8 (h:ByteArray) (b0 b1 b2:Int) (hb:0<=b0) (hd:XN h=[b0,b1,b2]) (hz:h.size=3):Jx h=true ↔ (p4 b0 b1/\128<=b2/\b2<192):=by
 rw [QD,hd,hz]
 simp only [List.cons_append,List.nil_append,Int.cast_ofNat_Int,Int.reduceAdd,UP,Int.reduceLE,Int.reduceLT,and_true,no5 b0 _ hb 5 (by omega),no5 b0 _ hb 6 (by omega),or_false,or_self]
theorem XhN (h:ByteArray) (b0 b1 b2:Int) (n:Nat) (hd:XN h=[b0,b1,b2]) (hz:h.size=3) (hn:XO b0=n) (h1:3<n):KM h n=true ↔ (p4 b0 b1/\128<=b2/\b2<192):=by
 rw [UR,hd,hz]
 have hc:n=4:=by unfold XO at hn;omega
 subst hc;simp only [Nat.reduceSub,List.take_succ_cons,List.take_zero,List.cons_append,List.nil_append,Int.cast_ofNat_Int,UP,Int.reduceLE,Int.reduceLT,and_true,or_self]
theorem UQ {a b:Bool} {p:Prop} (ha:a=true ↔ p) (hb:b=true ↔ p):a=b:=by rw [Bool.eq_iff_iff,ha,hb]
theorem U1 {a:Bool} {p:Prop} (ha:a=true ↔ p) (hp:¬ p):a=false:=by
 cases a
 ·rfl
 ·exact absurd (ha.1 rfl) hp
theorem XdU (h:ByteArray) (h0:0<h.size) (hs:h.size<=3) (n:Nat) (hn:XO ((h[0]'h0).toNat:Int)=n) :
  (n<=h.size->Jx h=false)/\(h.size<n->Jx h=KM h n):=by
 have hl:=Yx h;have g0:=YM h 0 h0;have hbd:=Xei h;generalize ((h[0]'h0).toNat:Int)=x0 at *
 match hd:XN h with
 | []=>rw [hd] at hl;simp at hl;omega
 | [b0] =>
  rw [hd] at hl g0 hbd
  simp at g0;subst g0;have hz:h.size=1:=by simpa using hl.symm
  have hc:=Xh6 h b0 hd hz;refine ⟨fun h1=>U1 hc ?_,fun h1=>UQ hc (XhL h b0 n hd hz hn (by omega))⟩;unfold XO at hn;omega
 | [b0,b1] =>
  rw [hd] at hl g0 hbd
  simp at g0;subst g0;have hz:h.size=2:=by simpa using hl.symm
  have hc:=Xh7 h b0 b1 (hbd b0 (by simp)).1 hd hz;refine ⟨fun h1=>U1 hc ?_,fun h1=>UQ hc (XhM h b0 b1 n hd hz hn (by omega))⟩;rintro (h|h)
  ·have:=Xel _ _ h;omega
  ·have:=XbH _ _ h;omega
 | [b0,b1,b2] =>
  rw [hd] at hl g0 hbd
  simp at g0;subst g0;have hz:h.size=3:=by simpa using hl.symm
  have hc:=Xh8 h b0 b1 b2 (hbd b0 (by simp)).1 hd hz;refine ⟨fun h1=>U1 hc ?_,fun h1=>UQ hc (XhN h b0 b1 b2 n hd hz hn (by omega))⟩;rintro ⟨h,_⟩;have:=XbH _ _ h;omega
 | b0::b1::b2::b3::t=>rw [hd] at hl;simp at hl;omega
open Go.ChangeShapes Go.WideShapes Go.ChangeAt Go.RowKit
def Xx (rows:List (List Ce)):Nat->Nat
 | 0=>0
 | j+1=>Xx rows j+(Xb rows j).length
theorem U6 (rows:List (List Ce)) {i j:Nat} (h:i<=j):Xx rows i<=Xx rows j:=by
 induction h with
 | refl=>exact Nat.le_refl _
 | step _ ih=>exact Nat.le_trans ih (Nat.le_add_right _ _)
theorem UJ (rows:List (List Ce)) {i j:Nat} (h:i<j):(Xb rows i).length<=Xx rows j:=by
 have:=U6 rows (show i+1<=j from h);have e:Xx rows (i+1)=Xx rows i+(Xb rows i).length:=rfl;omega
def Y0 (k:Nat) (rows:List (List Ce)) (j:Nat):List (List Ce):=Z3 rows.length fun i=>if i<j then ZM (k+7*Xx rows i) (Xb rows i).length else Xb rows i
def ZU (k:Nat) (rows:List (List Ce)):List (List Ce):=Y0 k rows rows.length
theorem YQ (k:Nat) (rows:List (List Ce)) (j:Nat):(Y0 k rows j).length=rows.length:=XM _ _
theorem XbG (k:Nat) (rows:List (List Ce)):Y0 k rows 0=rows:=X7 _ _ (YQ _ _ _) fun i hi=>by
 rw [YQ] at hi
 unfold Y0;rw [Yq _ _ _ hi,if_neg (Nat.not_lt_zero i)]
theorem XbF (k:Nat) (rows:List (List Ce)) (j:Nat) (hj:j<rows.length):Y0 k rows (j+1)=(Y0 k rows j).set j (ZM (k+7*Xx rows j) (Xb rows j).length):=X7 _ _ (by rw [List.length_set,YQ,YQ]) fun i hi=>by
 rw [YQ] at hi
 rw [Xfl (by rw [YQ];exact hj)]
 unfold Y0;rw [Yq _ _ _ hi,Yq _ _ _ hi]
 by_cases e:i=j
 ·rw [if_pos (by omega),if_pos e,e]
 ·rw [if_neg e]
  by_cases c:i<j
  ·rw [if_pos c,if_pos (by omega)]
  ·rw [if_neg c,if_neg (by omega)]
theorem Q6 (k:Nat) (rows:List (List Ce)) (j i:Nat) (hi:i<rows.length):Xb (Y0 k rows j) i=if i<j then ZM (k+7*Xx rows i) (Xb rows i).length else Xb rows i:=by
 unfold Y0;rw [Yq _ _ _ hi]
theorem Xfa (k:Nat) (rows:List (List Ce)) (i:Nat) (hi:i<rows.length):Xb (ZU k rows) i=ZM (k+7*Xx rows i) (Xb rows i).length:=by
 unfold ZU;rw [Q6 _ _ _ _ hi,if_pos hi]
theorem XaB (v:Value) (k:Nat) (rows:List (List Ce)) (w:World) (hv:SlG w v (ZU k rows)) (hk:k<=1048576) (hl:Xx rows rows.length<=1048576) (hn:rows.length<=1048576) :
  Calls Tryz.prog 165 #[v,.int .i64 k] w fun e w'=>e=.returned (.int .i64 ((k+7*Xx rows rows.length:Nat):Int))/\w'=w:=by
 obtain ⟨a,c,vs,rfl,hcp,_,hr,hs⟩:=hv;have hlen:(ZU k rows).length=rows.length:=YQ _ _ _;rw [hlen] at hr hs hcp ⊢
 generalize hN:rows.length=n at *;go_enter Tryz.func165,Tryz.ntmps165;go_wp2;go_loop [1,5] (fun q i=>∃ j:Nat,j<=n/\i=.int .i64 j/\q=.int .i64 ((k+7*Xx rows j:Nat):Int)) (fun _ i=>n-(intOf i).toNat)
 case atStart=>exact ⟨0,Nat.zero_le _,rfl,rfl⟩
 case round =>
  obtain ⟨j,hj,rfl,rfl⟩:=hrel
  by_cases hlt:j<n
  ·have hji:(j:Int)<(n:Int):=by omega
   have hj0:(0:Int)<=(j:Int):=by omega
   rcases hr with h|⟨b,off,rfl,hbb,hrc⟩
   ·rw [h] at hlen;simp at hlen;omega
   have hsj:=hs j hlt;have hcj:=hrc j hlt;rw [Xfa k rows j (by omega)] at hsj
   obtain ⟨aj,cj,ev,_⟩:=id hsj;rw [ev] at hcj hsj
   have hs1:=U6 rows (show j<=n by omega);have hs2:=UJ rows hlt;have hm:=Xcg _ (k+7*Xx rows j) (Xb rows j).length w hsj (by omega) (by omega);have hsum:Hid ((k+7*Xx rows j)+7*(Xb rows j).length=k+7*Xx rows (j+1)):=by show _=_;rw [Xx];omega
   rw [hsum.out] at hm
   have hnn:¬ (((k+7*Xx rows (j+1):Nat):Int)<0):=by omega
   clear hs hrc ev hsj hs1 hs2 hsum hlen;rw [KA] at hm hcj
   generalize (Xb rows j).length=m at *;go_wp2_with fail;refine hm.mono ?_;rintro e w2 ⟨rfl,hw⟩;subst hw;go_wp2;go_round
   case rel=>exact ⟨j+1,by omega,by go_num,rfl⟩
   case measure=>simp [intOf];omega
  ·have hjn:j=n:=by omega
   have hji:¬ (j:Int)<(n:Int):=by omega
   subst hjn;clear hs hr;go_wp2;go_ret;exact ⟨rfl,rfl⟩
theorem JF (cols:Int) (v:Value) (k:Nat) (rows:List (List Ce)) (w:World) (hv:SlG w v (ZU k rows)) (hk:k<=1048576) (hl:Xx rows rows.length<=1048576) (hn:rows.length<=1048576) :
  Calls Tryz.prog 104 #[Yp cols v,.int .i64 k] w fun e w'=>e=.returned (.int .i64 ((k+7*Xx rows rows.length:Nat):Int))/\Below w.heap.size w w':=by
 have hb0:=Xd w (Obj.cells #[.int .i64 cols,v] 26);have hG0:=GrN.new w cols v 26;have hm:=XaB v k rows _ (hv.below hb0) hk hl hn;obtain ⟨a,c,vs,rfl,_⟩:=hv;unfold Yp;obtain ⟨_,g0,g1⟩:=id hG0;have hnn:¬ (((k+7*Xx rows rows.length:Nat):Int)<0):=by omega
 generalize k+7*Xx rows rows.length=q at *;go_enter Tryz.func104,Tryz.ntmps104;go_wp2_with fail;refine hm.mono ?_;rintro e w2 ⟨rfl,hw⟩;subst hw;go_wp2;go_ret;exact ⟨rfl,hb0⟩
theorem XeF {cols:Int} {rows:List (List Ce)} (hn:1<=rows.length/\rows.length<=30) (h:∀ i,i<rows.length->KV cols (Xb rows i)=true):Xy cols rows=true:=by
 rw [YU]
 refine ⟨?_,hn,h⟩;have h0:=h 0 (by omega);unfold KV at h0;rw [Bool.and_eq_true,decide_eq_true_eq] at h0
 have:=((YN _).1 h0.2).1;omega
theorem JH (cols:Int) (v:Value) (rows:List (List Ce)) (w:World) (hS:Xo w) (hv:SlG w v rows) (hl:rows.length<=1048576) (hx:∀ i,i<rows.length->(Xb rows i).length<=1048576) :
  Calls Tryz.prog 81 #[Yp cols v] w fun e w'=>e=.returned (.bool (Xy cols rows))/\Below w.heap.size w w':=by
 have hb0:=Xd w (Obj.cells #[.int .i64 cols,v] 26);have hG0:=GrN.new w cols v 26;obtain ⟨a,c,vs,rfl,hcp,_,hr,hs⟩:=id hv;unfold Yp;obtain ⟨_,g0,g1⟩:=id hG0
 by_cases hn1:rows.length<1
 ·have hn1i:(rows.length:Int)<1:=by omega
  have hV:Hid (Xy cols rows=false):=Uh (by omega);clear hs hr;go_enter Tryz.func81,Tryz.ntmps81;go_wp2;go_ret;exact ⟨by rw [hV.out];rfl,hb0⟩
 ·have hn1i:¬ (rows.length:Int)<1:=by omega
  by_cases hn2:30<rows.length
  ·have hn2i:30<(rows.length:Int):=by omega
   have hV:Hid (Xy cols rows=false):=Uh (by omega);clear hs hr;go_enter Tryz.func81,Tryz.ntmps81;go_wp2;go_ret;exact ⟨by rw [hV.out];rfl,hb0⟩
  ·have hn2i:¬ 30<(rows.length:Int):=by omega
   rcases hr with h|⟨b,off,rfl,hbb,hrc⟩
   ·rw [h] at hn1;simp at hn1
   go_enter Tryz.func81,Tryz.ntmps81;go_wp2;go_loopw [4,18] (fun _ i wr=>∃ j:Nat,i=.int .i64 j/\j<=rows.length/\Hid (∀ k,k<j->KV cols (Xb rows k)=true)/\GrN wr w.heap.size cols (.slice (some ⟨b,off,none⟩) rows.length c)/\Below w.heap.size w wr) (fun _ i _=>rows.length-(intOf i).toNat)
   case atStart=>exact ⟨0,rfl,Nat.zero_le _,(fun k hk=>absurd hk (Nat.not_lt_zero k)),hG0,hb0⟩
   case round =>
    clear hG0 hb0;obtain ⟨j,rfl,hj,hall,hG,kb⟩:=hrel;obtain ⟨_,g0,g1⟩:=id hG
    by_cases hlt:j<rows.length
    ·have hji:(j:Int)<(rows.length:Int):=by omega
     have hj0:(0:Int)<=(j:Int):=by omega
     have hcj:=(kb.cell (p:=⟨b,off+j,none⟩) hbb).trans (hrc j hlt);have hsj:=(hs j hlt).below kb;obtain ⟨aj,cj,ev,_⟩:=id hsj;rw [ev] at hcj hsj
     have hno:KV cols (Xb rows j)=false->Hid (Xy cols rows=false):=fun h=>UT hlt h
     have hstep:KV cols (Xb rows j)=true->Hid (∀ k,k<j+1->KV cols (Xb rows k)=true):=fun h=>(show ∀ k,k<j+1->KV cols (Xb rows k)=true from fun k hk=>by
      by_cases e:k=j
      ·rw [e];exact h
      ·exact hall.out k (by omega))
     have hok:=KW _ _ wr (hS.below kb hS.lt) hsj (hx j hlt);have hfit:KV cols (Xb rows j)=(decide (((Xb rows j).length:Int)=cols) && Xu (Xb rows j)):=rfl;clear hs hrc ev hsj hall
     by_cases hc:((Xb rows j).length:Int)=cols
     ·have hcb:(((Xb rows j).length:Int) != cols)=false:=by simp [hc]
      rw [decide_eq_true hc,Bool.true_and] at hfit
      rw [hfit] at hno hstep
      clear hfit;generalize Xu (Xb rows j)=ok at *;clear hc;go_wp2_with fail;refine hok.mono ?_;rintro e w2 ⟨rfl,hb2⟩;have hG2:=hG.below hb2;have kb2:=kb.trans (hb2.mono kb.size);clear hG kb hb2 hok g0 g1
      cases ok
      ·have hV:=hno rfl
       clear hno hstep;go_wp2;go_ret;exact ⟨by rw [hV.out];rfl,kb2⟩
      ·have hall2:=hstep rfl
       clear hno hstep;go_wp2;go_roundw
       case rel=>exact ⟨j+1,by go_num,by omega,hall2,hG2,kb2⟩
       case measure=>simp [intOf];omega
     ·have hcb:(((Xb rows j).length:Int) != cols)=true:=by simp [hc]
      rw [decide_eq_false hc,Bool.false_and] at hfit
      have hV:=hno hfit;clear hok hno hstep hfit hc;go_wp2;go_ret;exact ⟨by rw [hV.out];rfl,kb⟩
    ·have hjn:j=rows.length:=by omega
     have hji:¬ (j:Int)<(rows.length:Int):=by omega
     have hV:Hid (Xy cols rows=true):=XeF ⟨by omega,by omega⟩ (by rw [<- hjn];exact hall.out);subst hjn;clear hs hrc hall;go_wp2;go_ret;exact ⟨by rw [hV.out];rfl,kb⟩
theorem ZH:Tryz.prog.underlying 143=some (.slice 120):=by kernel_rfl
theorem Xcv {w:World} {ops:Array Oper} {rest:List Oper} {o:Oper} {ac:Act} {Q:Exit->Act->World->Prop} (hgd:o.guard=none) (x y:Operand)
  (ho:o.op=Op.makeSlice 143 x y) (n:Nat) (hx:ac.eval x=.int .i64 (n:Int)) (hy:ac.eval y=.int .i64 (n:Int)) (hn:n<=1073741824)
  (h:∀ w',Yu w' w.heap.size w'.heap.size (.slice (some ⟨w.heap.size,0,none⟩) n n) (List.replicate n [])->Below w.heap.size w w'->wpList Tryz.prog ops Q rest (ac.put o.dst (.slice (some ⟨w.heap.size,0,none⟩) n n)) w') :
  wpList Tryz.prog ops Q (o::rest) ac w:=by
 obtain ⟨i0,hi,hz0,hz1,hz2⟩:=info_parts Z4;refine wpList_make_full _ hgd x y 143 ho w.heap.size 120 i0 (.slice none 0 0) 1 ZH hi hz0 hz1 .i64 .i64 (n:Int) (n:Int) n hx hy rfl rfl (by rw [hz2];omega) (by unfold maxLen;omega) (Nat.le_refl _) (fun w' ho' hg=>?_);rw [XaS] at ho'
 have hv:∀ i,Xw (List.replicate n (Value.slice none 0 0)) i=.slice none 0 0:=fun i=>by
  unfold Xw;by_cases hi:i<n<;>simp [List.getD,hi]
 have hr:∀ i,Xb (List.replicate n ([]:List Ce)) i=[]:=fun i=>by
  unfold Xb;by_cases hi:i<n<;>simp [List.getD,hi]
 have hG:Yu w' w.heap.size w'.heap.size (.slice (some ⟨w.heap.size,0,none⟩) n n) (List.replicate n []) :=
  ⟨List.replicate n (.slice none 0 0),by simp,by rw [List.length_replicate];exact ho',fun i _=>by rw [hv,hr];exact ZX _ _,(fun i _ g e=>by rw [hv] at e;cases e),(fun i j _ _ g e=>by rw [hv] at e;cases e)⟩
 exact h w' hG ((Below.refl _ _).grown hg (Nat.le_refl _) (fun k hk=>by cases hk))
theorem XcB (cols n:Nat):(XB cols n).length=n:=by simp [XB]
theorem Xhj (cols n i:Nat) (h:i<n):Xb (XB cols n) i=X0 cols St.zero:=by rw [Zd (by rw [XcB];exact h)];simp [XB]
theorem Qq (cols n:Int) (w:World) :
  Calls Tryz.prog 55 #[.int .i64 cols,.int .i64 n] w fun e w'=>∃ u,e=.returned (.tuple #[Yp (if KB cols n then cols else 0) u,.bool (decide (KB cols n))])/\Yu w' w.heap.size w'.heap.size u (if KB cols n then XB cols.toNat n.toNat else [])/\Below w.heap.size w w':=by
 have hG:=GrW.new w 0 (.slice none 0 0) 26;have hb1:=Xd w (Obj.cells #[Value.int IntKind.i64 0,Value.slice none 0 0] 26);have e1:(w.alloc (Obj.cells #[Value.int IntKind.i64 0,Value.slice none 0 0] 26)).heap.size=w.heap.size+1:=by simp
 by_cases hok:KB cols n
 ·have hd:decide (KB cols n)=true:=decide_eq_true hok
  rw [if_pos hok,if_pos hok,hd]
  obtain ⟨⟨h1,h2⟩,h3,h4⟩:=hok;obtain ⟨cn,rfl⟩:∃ k:Nat,cols=k:=⟨cols.toNat,by omega⟩;obtain ⟨nn,rfl⟩:∃ k:Nat,n=k:=⟨n.toNat,by omega⟩;rw [Int.toNat_natCast,Int.toNat_natCast]
  have n1:¬ (cn:Int)<1:=by omega
  have n2:¬ (60:Int)<(cn:Int):=by omega
  have n3:¬ (nn:Int)<1:=by omega
  have n4:¬ (30:Int)<(nn:Int):=by omega
  have hnn:nn<=1073741824:=by omega
  have hbl:=fun W=>XaC (cn:Int) St.zero W
  have hbv:Kx (cn:Int) St.zero=X0 cn St.zero:=by
   unfold Kx;rw [if_pos ⟨by omega,by omega,rfl⟩]
   simp
  rw [hbv] at hbl
  obtain ⟨X,hX⟩:∃ X,X=X0 cn St.zero:=⟨_,rfl⟩;rw [<- hX] at hbl
  have HX:Hid (X=X0 cn St.zero):=hX;unfold stV at hbl;simp only [St.zero] at hbl;clear hbv hd hX;go_enter Tryz.func55,Tryz.ntmps55;go_wp2_with (refine Xcv rfl _ _ rfl nn rfl rfl hnn ?_;intro w1 ho1 hb2);have kG1:=hG.below hb2;have kb1:=hb1.trans (hb2.mono hb1.size);rw [e1] at ho1
  have hR0:Hid (List.replicate nn ([]:List Ce)=Z3 nn fun i=>if i<0 then X else []):=by
   show _=_
   refine X7 _ _ (by simp [XM]) fun i hi=>?_
   have hi':i<nn:=by simpa using hi
   rw [Yq _ _ _ hi',if_neg (Nat.not_lt_zero i),Zd hi];simp
  rw [hR0.out] at ho1
  clear hG hb1 hb2 hR0 e1;go_wp2;go_loopw [7,27] (fun _ i wr=>∃ j:Nat,i=.int .i64 j/\j<=nn/\Yu wr (w.heap.size+1) wr.heap.size (.slice (some ⟨w.heap.size+1,0,none⟩) nn nn) (Z3 nn fun i=>if i<j then X else [])/\GrW wr w.heap.size 0 (.slice none 0 0)/\Below w.heap.size w wr) (fun _ i _=>nn-(intOf i).toNat)
  case atStart=>exact ⟨0,rfl,Nat.zero_le _,ho1,kG1,kb1⟩
  case round =>
   clear ho1 kG1 kb1;obtain ⟨j,rfl,hj,k,kG,kb⟩:=hrel;have hRl:(Z3 nn fun i=>if i<j then X else []).length=nn:=XM _ _
   by_cases hlt:j<nn
   ·have hji:(j:Int)<(nn:Int):=by omega
    have hj0:(0:Int)<=(j:Int):=by omega
    have hst:Hid ((Z3 nn fun i=>if i<j+1 then X else [])=(Z3 nn fun i=>if i<j then X else []).set j (X)):=by
     show _=_
     refine X7 _ _ (by rw [List.length_set,XM,XM]) fun i hi=>?_
     rw [XM] at hi
     rw [Yq _ _ _ hi,KI (by rw [XM];exact hlt),Yq _ _ _ hi]
     by_cases e:i=j
     ·rw [if_pos (by omega),if_pos e]
     ·rw [if_neg e]
      by_cases c:i<j
      ·rw [if_pos c,if_pos (by omega)]
      ·rw [if_neg c,if_neg (by omega)]
    generalize (Z3 nn fun i=>if i<j then X else [])=R at *;go_wp2_with fail;refine (hbl _).mono ?_;rintro e w2 ⟨r,rfl,hor,hb2⟩;have hs2:=hb2.size;have kG2:=kG.below hb2;have kb2:=kb.trans (hb2.mono kb.size);have k2:=k.below hb2;have hsz:=kG.1;have hk2:=k2.set hRl j hlt r _ (hor.low (by omega)) (fun q e=>(hor.lt q e).1);obtain ⟨vs2,hv2⟩:=k2.v;have hcur:=hv2.cell hRl j hlt;have hfz:=hv2.frozen hRl j;have kb3:=kb2.grown hk2.2 (by omega) (fun g e=>by cases e;omega);have kG3:=kG2.grown hk2.2 (by simp);have kk:=hk2.1;rw [<- hst.out] at kk
    obtain ⟨ra,rn,rc,rfl⟩:∃ a n c,r=Value.slice a n c:=by rcases hor.shape with ⟨h,_⟩|⟨_,_,h,_⟩<;>exact ⟨_,_,_,h⟩
    clear k kG kb hor hb2 hs2 kG2 kb2 k2 hk2 hv2 hst hRl hsz;go_wp2;go_roundw
    case rel=>exact ⟨j+1,by go_num,by omega,kk,kG3,kb3⟩
    case measure=>simp [intOf];omega
   ·have hjn:j=nn:=by omega
    have hji:¬ (j:Int)<(nn:Int):=by omega
    subst hjn
    have hye:(Z3 j fun i=>if i<j then X else [])=XB cn j:=X7 _ _ (by rw [XM,XcB]) fun i hi=>by
     rw [XM] at hi
     rw [Yq _ _ _ hi,if_pos hi,Xhj _ _ _ hi,HX.out]
    rw [hye] at k
    clear hRl hye hbl;have kF:=(kG.put2 cn (.slice (some ⟨w.heap.size+1,0,none⟩) j j)).2.1;have hgF:=KQ wr w.heap.size cn (.slice (some ⟨w.heap.size+1,0,none⟩) j j);have hoF:=(k.kept hgF (fun g e=>by cases e;omega)).up hgF.size;have hsz:=kG.1;have hbF:=kb.grown hgF (by omega) (fun g e=>by cases e;omega);obtain ⟨_,⟨d0,d1⟩,⟨y0,y1⟩⟩:=kG;obtain ⟨f0,f1⟩:=kF;simp only [Qj] at f0 f1 hoF hbF;clear hgF k kb;go_wp2;exact bodyPost_ret (v:=.tuple #[.agg #[.int .i64 cn,.slice (some ⟨w.heap.size+1,0,none⟩) j j],.bool true]) (by simp [results,Tryz.results55,go_sem,f0,f1]) rfl ⟨_,rfl,hoF.low (by omega),hbF⟩
 ·rw [if_neg hok,if_neg hok,decide_eq_false hok]
  by_cases c1:cols<1
  ·clear hok
   go_enter Tryz.func55,Tryz.ntmps55;go_wp2;exact bodyPost_ret (v:=.tuple #[.agg #[.int .i64 0,.slice none 0 0],.bool false]) (by simp [results,Tryz.results55,go_sem]) rfl ⟨_,rfl,ZY _ _ _,hb1⟩
  ·by_cases c2:60<cols
   ·clear hok
    go_enter Tryz.func55,Tryz.ntmps55;go_wp2;exact bodyPost_ret (v:=.tuple #[.agg #[.int .i64 0,.slice none 0 0],.bool false]) (by simp [results,Tryz.results55,go_sem]) rfl ⟨_,rfl,ZY _ _ _,hb1⟩
   ·by_cases c3:n<1
    ·clear hok
     go_enter Tryz.func55,Tryz.ntmps55;go_wp2;exact bodyPost_ret (v:=.tuple #[.agg #[.int .i64 0,.slice none 0 0],.bool false]) (by simp [results,Tryz.results55,go_sem]) rfl ⟨_,rfl,ZY _ _ _,hb1⟩
    ·have c4:30<n:=by
      apply Int.not_le.1;intro h;exact hok ⟨⟨by omega,by omega⟩,by omega,h⟩
     clear hok;go_enter Tryz.func55,Tryz.ntmps55;go_wp2;exact bodyPost_ret (v:=.tuple #[.agg #[.int .i64 0,.slice none 0 0],.bool false]) (by simp [results,Tryz.results55,go_sem]) rfl ⟨_,rfl,ZY _ _ _,hb1⟩
theorem KJ {w:World} {ops:Array Oper} {o:Oper} {ac:Act} {K:Act->World->Prop} {Q:Exit->Act->World->Prop} {E:Prop} (hgd:o.guard=none) (s x:Operand)
  (ho:o.op=.call { callee:=.builtin .append,args:=#[s,x],argTypes:=#[120,120] })
  (base:Nat) (v:Value) (L:List Ce) (hs:ac.eval s=v) (k:Xl w base v L) (hb:base<=w.heap.size) (u:Value) (xs:List Ce) (hu:SlC w u xs) (hne:xs≠[]) (hx:ac.eval x=u) (hl:L.length+xs.length<2000000)
  (h:∀ v' w',Xl w' base v' (L++xs)->w.grownBy w' v.ownBlock->K (ac.put o.dst v') w') :
  if Region.wanted o (yielded ops ac.tmps)=true then Oper.wp Tryz.prog o ac w K Q else E:=by
 have hw:Region.wanted o (yielded ops ac.tmps)=true:=by simp [Region.wanted,hgd]
 rw [if_pos hw]
 obtain ⟨i0,hi,hz0,hz1,hz2⟩:=info_parts Kq;obtain ⟨a,c,rfl,hc,hn,hr⟩:=hu;rcases hr with hr|⟨b,off,rfl,_,hi2⟩
 ·exact absurd hr hne
 ·refine wp_append_own _ s x _ ho base 146 i0 (ceV Ce.zero) 7 40 Tryz.underlying120 hi hz0 hz1 hz2 rfl (by decide) v L.length _ hs k ⟨b,off,none⟩ xs.length c (xs.flatMap ceL) hx (Y6 xs) ?_ (Uv xs) (by unfold maxLen;omega) (by omega) hb (fun v' w' ho' hg' _=>?_)
  ·intro j u hj
   rw [Addr.add_mid]
   exact Ug hi2 j u hj
  ·refine h v' w' ?_ hg'
   unfold Xl;rw [List.length_append,List.flatMap_append]
   exact ho'
theorem Yu.kept2 {w w':World} {base B:Nat} {v:Value} {rows:List (List Ce)} {row:Option Nat} (h:Yu w base B v rows) (hg:w.grownBy w' row) (hne:∀ g,row=some g->B<=g) (hu:∀ g,v.ownBlock=some g->g<B):Yu w' base B v rows:=by
 obtain ⟨vs,hl,ho,hr,hB,hd⟩:=h;refine ⟨vs,hl,World.ownsRow.kept ho hg ?_,fun i hi=>(hr i hi).kept hg ?_,hB,hd⟩
 ·cases hv:v.ownBlock with
  | none=>exact .inl rfl
  | some q=>right;intro e;have:=hne q e.symm;have:=hu q hv;omega
 ·cases hv:(Xw vs i).ownBlock with
  | none=>exact .inl rfl
  | some q=>right;intro e;have:=hne q e.symm;have:=hB i hi q hv;omega
theorem NG.kept2 {M B:Nat} {cols:Int} {u:Value} {rows:List (List Ce)} {w0 W W':World} {row:Option Nat} (k:NG M B cols u rows w0 W) (hg:W.grownBy W' row) (hne:∀ g,row=some g->B<=g/\M+2<=g) (hu:∀ g,u.ownBlock=some g->g<B):NG M B cols u rows w0 W':=by
 have h3:=k.2.2.2.1;refine ⟨k.1.grown hg (fun e=>by have:=(hne _ e).2;omega),k.2.1.grown hg (fun e=>by have:=(hne _ e).2;omega),k.2.2.1.kept2 hg (fun g e=>(hne g e).1) hu,Nat.le_trans h3 hg.size,Nat.le_trans k.2.2.2.2.1 hg.size,?_⟩;exact k.2.2.2.2.2.grown hg (by omega) (fun g e=>by have:=(hne g e).2;omega)
theorem QW (cols:Int) (v:Value) (rows:List (List Ce)) (w:World) (hv:SlG w v rows) (hl:rows.length<=1000) (h1:1<=rows.length) (hx:∀ i,i<rows.length->(Xb rows i).length<=1000) (hne:∀ i,i<rows.length->Xb rows i≠[]) :
  Calls Tryz.prog 139 #[Yp cols v] w fun e w'=>∃ u,e=.returned (Yp cols u)/\Yu w' w.heap.size w'.heap.size u rows/\Below w.heap.size w w':=by
 obtain ⟨a,c,vs,rfl,hcp,_,hr,hs⟩:=id hv;rcases hr with h|⟨b,off,rfl,hbb,hrc⟩
 ·rw [h] at h1;simp at h1
 have hb0:=Xd w (Obj.cells #[.int .i64 cols,.slice (some ⟨b,off,none⟩) rows.length c] 26);have hG0:=GrN.new w cols (.slice (some ⟨b,off,none⟩) rows.length c) 26;have e0:(w.alloc (Obj.cells #[.int .i64 cols,.slice (some ⟨b,off,none⟩) rows.length c] 26)).heap.size=w.heap.size+1:=by simp
 have k0:NG (w.heap.size+1) (((w.alloc (Obj.cells #[.int .i64 cols,.slice (some ⟨b,off,none⟩) rows.length c] 26)).alloc (Obj.cells #[Value.int IntKind.i64 0,Value.slice none 0 0] 26)).alloc (Obj.cells #[Value.int IntKind.i64 cols,Value.slice none 0 0] 26)).heap.size cols (.slice none 0 0) [] (w.alloc (Obj.cells #[.int .i64 cols,.slice (some ⟨b,off,none⟩) rows.length c] 26)) (((w.alloc (Obj.cells #[.int .i64 cols,.slice (some ⟨b,off,none⟩) rows.length c] 26)).alloc (Obj.cells #[Value.int IntKind.i64 0,Value.slice none 0 0] 26)).alloc (Obj.cells #[Value.int IntKind.i64 cols,Value.slice none 0 0] 26)):=by
  generalize w.alloc (Obj.cells #[.int .i64 cols,.slice (some ⟨b,off,none⟩) rows.length c] 26)=w1 at *;have h1:=GrW.new w1 0 (.slice none 0 0) 26;have h2:=GrW.new (w1.alloc (Obj.cells #[Value.int IntKind.i64 0,Value.slice none 0 0] 26)) cols (.slice none 0 0) 26;have hb1:=Xd w1 (Obj.cells #[Value.int IntKind.i64 0,Value.slice none 0 0] 26);have e:(w1.alloc (Obj.cells #[Value.int IntKind.i64 0,Value.slice none 0 0] 26)).heap.size=w1.heap.size+1:=by simp
  rw [e] at h2
  rw [<- e0]
  exact ⟨h1.below (Xd _ _),h2,ZY _ _ _,by simp,Nat.le_refl _,hb1.trans ((Xd _ _).mono (by simp))⟩
 unfold Yp;go_enter Tryz.func139,Tryz.ntmps139;go_wp2;go_loopw [4] (fun i wr=>∃ j:Nat,i=.int .i64 j/\j<=rows.length/\∃ u,NG (w.heap.size+1) wr.heap.size cols u (rows.take j) (w.alloc (Obj.cells #[.int .i64 cols,.slice (some ⟨b,off,none⟩) rows.length c] 26)) wr) (fun i _=>rows.length-(intOf i).toNat)
 case atStart=>exact ⟨0,rfl,Nat.zero_le _,_,k0⟩
 case round =>
  clear k0;obtain ⟨j,rfl,hj,u,k⟩:=hrel;obtain ⟨ua,un,uc,rfl⟩:∃ a n c,u=Value.slice a n c:=by rcases k.2.2.1.shape with ⟨h,_⟩|⟨_,_,h,_⟩<;>exact ⟨_,_,_,h⟩
  have hsb:wr.cell? ⟨w.heap.size,1,none⟩=some (.slice (some ⟨b,off,none⟩) rows.length c):=(k.2.2.2.2.2.cell (p:=⟨w.heap.size,1,none⟩) (Nat.lt_succ_self _)).trans hG0.2.2
  by_cases hlt:j<rows.length
  ·have hji:(j:Int)<(rows.length:Int):=by omega
   have hj0:(0:Int)<=(j:Int):=by omega
   have hsn:Hid (rows.take (j+1)=rows.take j++[Xb rows j]):=by show _=_;rw [Zd hlt,List.take_succ_eq_append_getElem hlt]
   have hlr:(rows.take j).length<2000000:=by rw [List.length_take];omega
   have hxj:=hx j hlt;obtain ⟨aj,cj,ev,hjc,_,_⟩:=id (hs j hlt)
   have hS:∀ W,Below (w.heap.size+1) (w.alloc (Obj.cells #[.int .i64 cols,.slice (some ⟨b,off,none⟩) rows.length c] 26)) W->(W.cell? ⟨w.heap.size,1,none⟩=some (.slice (some ⟨b,off,none⟩) rows.length c)/\W.cell? ⟨b,off+j,none⟩=some (.slice aj (Xb rows j).length cj)/\Below (w.heap.size+1) (w.alloc (Obj.cells #[.int .i64 cols,.slice (some ⟨b,off,none⟩) rows.length c] 26)) W) :=
    fun W hW=>⟨(hW.cell (p:=⟨w.heap.size,1,none⟩) (Nat.lt_succ_self _)).trans hG0.2.2,((hW.cell (p:=⟨b,off+j,none⟩) (show b<_ by omega)).trans (hb0.cell (p:=⟨b,off+j,none⟩) hbb)).trans (by rw [hrc j hlt,ev]),hW⟩
   have hsrc:∀ W,Below (w.heap.size+1) (w.alloc (Obj.cells #[.int .i64 cols,.slice (some ⟨b,off,none⟩) rows.length c] 26)) W->SlC W (.slice aj (Xb rows j).length cj) (Xb rows j):=fun W hW=>by
    have:=((hs j hlt).below hb0).below (by rw [e0];exact hW)
    rwa [ev] at this
   have hu:∀ g,(Value.slice ua un uc).ownBlock=some g->g<wr.heap.size:=fun g e=>(k.2.2.1.lt g e).2
   have hMB:w.heap.size+1+2<=wr.heap.size:=k.2.2.2.1;clear hs hrc ev hv hG0 hb0 e0;generalize hBB:wr.heap.size=B at k hu hMB;generalize rows.take j=R at *;obtain ⟨⟨_,⟨d0,d1⟩,⟨y0,y1⟩⟩,⟨_,⟨c0,c1⟩,⟨z0,z1⟩⟩,_⟩:=id k;go_wp2;refine wp_region_noPanic ?_;refine wp_region_held_drew (S:=(fun W=>W.cell? ⟨w.heap.size,1,none⟩=some (.slice (some ⟨b,off,none⟩) rows.length c)/\W.cell? ⟨b,off+j,none⟩=some (.slice aj (Xb rows j).length cj)/\Below (w.heap.size+1) (w.alloc (Obj.cells #[.int .i64 cols,.slice (some ⟨b,off,none⟩) rows.length c] 26)) W)) (by kernel_rfl) (hS _ k.drew.2.2.2.2.2) (fun Hh=>?_);refine tK 0 ?_;refine tK 3 ?_;refine tK 4 ?_;refine tK 5 ?_;refine tK 6 ?_;refine tk 7 ?_;refine rd2 1 2 (fun K hK=>?_) fun K hK=>?_
   ·go_simp
    refine hK.out _ _ (by exact Hh) (fun Hh=>?_);clear hK K;refine rd 2 fun K hK=>?_
    go_simp;have kE:=(k.below (Xd wr (Obj.cells #[] 146))).drew;have hoE:=(KC wr B (by omega)).below (bdr _);rw [hBB] at hoE
    clear k;clear d0 d1 y0 y1 c0 c1 z0 z1;obtain ⟨⟨_,⟨d0,d1⟩,⟨y0,y1⟩⟩,⟨_,⟨c0,c1⟩,⟨z0,z1⟩⟩,_⟩:=id kE;refine hK.out _ _ (hS _ kE.2.2.2.2.2) (fun Hh=>?_);clear hK K;refine rd 8 fun K hK=>?_
    refine KJ (by rfl) _ _ (by rfl) B (.slice (some ⟨B,0,none⟩) 0 0) [] (by rfl) (by exact hoE) (by simp;omega) _ (Xb rows j) (hsrc _ Hh.2.2) (hne j hlt) (by rfl) (by simp;omega) ?_;intro r w2 ho2 hg2;have k2:=kE.kept2 hg2 (fun g e=>by simp [Value.ownBlock] at e;omega) hu;have hor2:Xl w2 B r (Xb rows j):=by simpa using ho2
    clear kE ho2 hg2 hoE;clear d0 d1 y0 y1 c0 c1 z0 z1;obtain ⟨⟨_,⟨d0,d1⟩,⟨y0,y1⟩⟩,⟨_,⟨c0,c1⟩,⟨z0,z1⟩⟩,_⟩:=id k2;obtain ⟨ra,rn,rc,rfl⟩:∃ a n c,r=Value.slice a n c:=by rcases hor2.shape with ⟨h,_⟩|⟨_,_,h,_⟩<;>exact ⟨_,_,_,h⟩
    refine hK.out _ _ (hS _ k2.2.2.2.2.2) (fun Hh=>?_);clear hK K;refine rd 9 fun K hK=>?_
    go_simp;refine hK.out _ _ (hS _ (k2.below (Xd _ _)).2.2.2.2.2) (fun Hh=>?_);clear hK K;refine rd 10 fun K hK=>?_
    refine Yz (by rfl) _ _ (by rfl) (w.heap.size+1+2) B _ _ _ _ (by rfl) k2.2.2.1 (hor2.low hMB) (fun g e=>(hor2.lt g e).1) k2.2.2.2.1 hlr _ rfl (by rfl) ?_;intro v' w' ho' hg';have k4:=(k2.below (Xd _ _)).more ho' hg';clear k2 ho' hg' hor2;clear d0 d1 y0 y1 c0 c1 z0 z1;obtain ⟨⟨_,⟨d0,d1⟩,⟨y0,y1⟩⟩,⟨_,⟨c0,c1⟩,⟨z0,z1⟩⟩,_⟩:=id k4;obtain ⟨va,vn,vc,rfl⟩:∃ a n c,v'=Value.slice a n c:=by rcases k4.2.2.1.shape with ⟨h,_⟩|⟨_,_,h,_⟩<;>exact ⟨_,_,_,h⟩
    refine hK.out _ _ (hS _ k4.2.2.2.2.2) (fun Hh=>?_);clear hK K;refine tk 11 ?_;refine rd 12 fun K hK=>?_
    go_simp;have k5:=Ul k4;simp only [Um] at k5;refine hK.out _ _ (hS _ k5.2.2.2.2.2) (fun Hh=>?_);clear hK K
    (try simp only [Act.put,ZA,ZB,ZC,ZD,ZE,ZF])
    refine dn ?_;clear k4 Hh d0 d1 y0 y1 c0 c1 z0 z1;go_wp2;go_roundw
    case rel=>exact ⟨j+1,by go_num,by omega,_,by rw [hsn.out];exact k5⟩
    case measure=>simp [intOf];omega
   ·go_simp
    have kE:=(k.below (Xd wr (Obj.cells #[] 146))).drew;have hoE:=(KC wr B (by omega)).below (bdr _);rw [hBB] at hoE
    clear k;clear d0 d1 y0 y1 c0 c1 z0 z1;obtain ⟨⟨_,⟨d0,d1⟩,⟨y0,y1⟩⟩,⟨_,⟨c0,c1⟩,⟨z0,z1⟩⟩,_⟩:=id kE;refine hK.out _ _ (hS _ kE.2.2.2.2.2) (fun Hh=>?_);clear hK K;refine rd2 1 8 (fun K hK=>?_) fun K hK=>?_
    ·go_simp
     refine hK.out _ _ (by exact Hh) (fun Hh=>?_);clear hK K;refine rd 8 fun K hK=>?_
     refine KJ (by rfl) _ _ (by rfl) B (.slice (some ⟨B,0,none⟩) 0 0) [] (by rfl) (by exact hoE) (by simp;omega) _ (Xb rows j) (hsrc _ Hh.2.2) (hne j hlt) (by rfl) (by simp;omega) ?_;intro r w2 ho2 hg2;have k2:=kE.kept2 hg2 (fun g e=>by simp [Value.ownBlock] at e;omega) hu;have hor2:Xl w2 B r (Xb rows j):=by simpa using ho2
     clear kE ho2 hg2 hoE;clear d0 d1 y0 y1 c0 c1 z0 z1;obtain ⟨⟨_,⟨d0,d1⟩,⟨y0,y1⟩⟩,⟨_,⟨c0,c1⟩,⟨z0,z1⟩⟩,_⟩:=id k2;obtain ⟨ra,rn,rc,rfl⟩:∃ a n c,r=Value.slice a n c:=by rcases hor2.shape with ⟨h,_⟩|⟨_,_,h,_⟩<;>exact ⟨_,_,_,h⟩
     refine hK.out _ _ (hS _ k2.2.2.2.2.2) (fun Hh=>?_);clear hK K;refine rd 9 fun K hK=>?_
     go_simp;refine hK.out _ _ (hS _ (k2.below (Xd _ _)).2.2.2.2.2) (fun Hh=>?_);clear hK K;refine rd 10 fun K hK=>?_
     refine Yz (by rfl) _ _ (by rfl) (w.heap.size+1+2) B _ _ _ _ (by rfl) k2.2.2.1 (hor2.low hMB) (fun g e=>(hor2.lt g e).1) k2.2.2.2.1 hlr _ rfl (by rfl) ?_;intro v' w' ho' hg';have k4:=(k2.below (Xd _ _)).more ho' hg';clear k2 ho' hg' hor2;clear d0 d1 y0 y1 c0 c1 z0 z1;obtain ⟨⟨_,⟨d0,d1⟩,⟨y0,y1⟩⟩,⟨_,⟨c0,c1⟩,⟨z0,z1⟩⟩,_⟩:=id k4;obtain ⟨va,vn,vc,rfl⟩:∃ a n c,v'=Value.slice a n c:=by rcases k4.2.2.1.shape with ⟨h,_⟩|⟨_,_,h,_⟩<;>exact ⟨_,_,_,h⟩
     refine hK.out _ _ (hS _ k4.2.2.2.2.2) (fun Hh=>?_);clear hK K;refine tk 11 ?_;refine rd 12 fun K hK=>?_
     go_simp;have k5:=Ul k4;simp only [Um] at k5;refine hK.out _ _ (hS _ k5.2.2.2.2.2) (fun Hh=>?_);clear hK K
     (try simp only [Act.put,ZA,ZB,ZC,ZD,ZE,ZF])
     refine dn ?_;clear k4 Hh d0 d1 y0 y1 c0 c1 z0 z1;go_wp2;go_roundw
     case rel=>exact ⟨j+1,by go_num,by omega,_,by rw [hsn.out];exact k5⟩
     case measure=>simp [intOf];omega
    ·refine KJ (by rfl) _ _ (by rfl) B (.slice (some ⟨B,0,none⟩) 0 0) [] (by rfl) (by exact hoE) (by simp;omega) _ (Xb rows j) (hsrc _ Hh.2.2) (hne j hlt) (by rfl) (by simp;omega) ?_
     intro r w2 ho2 hg2;have k2:=kE.kept2 hg2 (fun g e=>by simp [Value.ownBlock] at e;omega) hu;have hor2:Xl w2 B r (Xb rows j):=by simpa using ho2
     clear kE ho2 hg2 hoE;clear d0 d1 y0 y1 c0 c1 z0 z1;obtain ⟨⟨_,⟨d0,d1⟩,⟨y0,y1⟩⟩,⟨_,⟨c0,c1⟩,⟨z0,z1⟩⟩,_⟩:=id k2;obtain ⟨ra,rn,rc,rfl⟩:∃ a n c,r=Value.slice a n c:=by rcases hor2.shape with ⟨h,_⟩|⟨_,_,h,_⟩<;>exact ⟨_,_,_,h⟩
     refine hK.out _ _ (hS _ k2.2.2.2.2.2) (fun Hh=>?_);clear hK K;refine rd2 1 9 (fun K hK=>?_) fun K hK=>?_
     ·go_simp
      refine hK.out _ _ (by exact Hh) (fun Hh=>?_);clear hK K;refine rd 9 fun K hK=>?_
      go_simp;refine hK.out _ _ (hS _ (k2.below (Xd _ _)).2.2.2.2.2) (fun Hh=>?_);clear hK K;refine rd 10 fun K hK=>?_
      refine Yz (by rfl) _ _ (by rfl) (w.heap.size+1+2) B _ _ _ _ (by rfl) k2.2.2.1 (hor2.low hMB) (fun g e=>(hor2.lt g e).1) k2.2.2.2.1 hlr _ rfl (by rfl) ?_;intro v' w' ho' hg';have k4:=(k2.below (Xd _ _)).more ho' hg';clear k2 ho' hg' hor2;clear d0 d1 y0 y1 c0 c1 z0 z1;obtain ⟨⟨_,⟨d0,d1⟩,⟨y0,y1⟩⟩,⟨_,⟨c0,c1⟩,⟨z0,z1⟩⟩,_⟩:=id k4;obtain ⟨va,vn,vc,rfl⟩:∃ a n c,v'=Value.slice a n c:=by rcases k4.2.2.1.shape with ⟨h,_⟩|⟨_,_,h,_⟩<;>exact ⟨_,_,_,h⟩
      refine hK.out _ _ (hS _ k4.2.2.2.2.2) (fun Hh=>?_);clear hK K;refine tk 11 ?_;refine rd 12 fun K hK=>?_
      go_simp;have k5:=Ul k4;simp only [Um] at k5;refine hK.out _ _ (hS _ k5.2.2.2.2.2) (fun Hh=>?_);clear hK K
      (try simp only [Act.put,ZA,ZB,ZC,ZD,ZE,ZF])
      refine dn ?_;clear k4 Hh d0 d1 y0 y1 c0 c1 z0 z1;go_wp2;go_roundw
      case rel=>exact ⟨j+1,by go_num,by omega,_,by rw [hsn.out];exact k5⟩
      case measure=>simp [intOf];omega
     ·go_simp
      refine hK.out _ _ (hS _ (k2.below (Xd _ _)).2.2.2.2.2) (fun Hh=>?_);clear hK K;refine rd 1 fun K hK=>?_
      go_simp;refine hK.out _ _ (by exact Hh) (fun Hh=>?_);clear hK K;refine rd 10 fun K hK=>?_
      refine Yz (by rfl) _ _ (by rfl) (w.heap.size+1+2) B _ _ _ _ (by rfl) k2.2.2.1 (hor2.low hMB) (fun g e=>(hor2.lt g e).1) k2.2.2.2.1 hlr _ rfl (by rfl) ?_;intro v' w' ho' hg';have k4:=(k2.below (Xd _ _)).more ho' hg';clear k2 ho' hg' hor2;clear d0 d1 y0 y1 c0 c1 z0 z1;obtain ⟨⟨_,⟨d0,d1⟩,⟨y0,y1⟩⟩,⟨_,⟨c0,c1⟩,⟨z0,z1⟩⟩,_⟩:=id k4;obtain ⟨va,vn,vc,rfl⟩:∃ a n c,v'=Value.slice a n c:=by rcases k4.2.2.1.shape with ⟨h,_⟩|⟨_,_,h,_⟩<;>exact ⟨_,_,_,h⟩
      refine hK.out _ _ (hS _ k4.2.2.2.2.2) (fun Hh=>?_);clear hK K;refine tk 11 ?_;refine rd 12 fun K hK=>?_
      go_simp;have k5:=Ul k4;simp only [Um] at k5;refine hK.out _ _ (hS _ k5.2.2.2.2.2) (fun Hh=>?_);clear hK K
      (try simp only [Act.put,ZA,ZB,ZC,ZD,ZE,ZF])
      refine dn ?_;clear k4 Hh d0 d1 y0 y1 c0 c1 z0 z1;go_wp2;go_roundw
      case rel=>exact ⟨j+1,by go_num,by omega,_,by rw [hsn.out];exact k5⟩
      case measure=>simp [intOf];omega
  ·have hjn:j=rows.length:=by omega
   have hji:¬ (j:Int)<(rows.length:Int):=by omega
   subst hjn;rw [List.take_length] at k
   obtain ⟨⟨_,⟨d0,d1⟩,⟨y0,y1⟩⟩,⟨_,⟨c0,c1⟩,⟨z0,z1⟩⟩,_⟩:=id k;have h3:=k.2.2.2.1;have kF:=(k.1.put2 cols (.slice ua un uc)).2.1;have hgF:=KQ wr (w.heap.size+1) cols (.slice ua un uc);have hoF:=((k.2.2.1).kept hgF (fun g e=>by cases e;omega)).up hgF.size;have hbF:=(hb0.trans (k.2.2.2.2.2.mono (by omega))).grown hgF (by omega) (fun g e=>by cases e;omega);obtain ⟨f0,f1⟩:=kF;simp only [Qj] at f0 f1 hoF hbF;clear hgF hs hrc;go_wp2;exact bodyPost_ret (v:=.agg #[.int .i64 cols,.slice ua un uc]) (by simp [results,Tryz.results139,go_sem,f0,f1]) rfl ⟨_,rfl,hoF.low (by omega),hbF⟩
theorem XaQ (a b:Int) (w:World) :
  Calls Tryz.prog 157 #[.int .i64 a,.int .i64 b] w fun e w'=>e=.returned (.int .i64 (max a b))/\w'=w:=by
 by_cases h:b<a
 ·have hm:Hid (max a b=a):=by show _=_;omega
  go_enter Tryz.func157,Tryz.ntmps157;go_wp2;go_ret;exact ⟨by rw [hm.out];rfl,rfl⟩
 ·have hm:Hid (max a b=b):=by show _=_;omega
  go_enter Tryz.func157,Tryz.ntmps157;go_wp2;go_ret;exact ⟨by rw [hm.out];rfl,rfl⟩
