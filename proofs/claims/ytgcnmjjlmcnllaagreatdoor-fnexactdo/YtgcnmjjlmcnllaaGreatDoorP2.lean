/- Parts of the proof. -/
import Derived.Test.YtgcnmjjlmcnllaaGreatDoorP1
import Derived.Laws.Strings
import Derived.Deep.RegionHeld3
namespace Go.Proofs.YtgcnmjjlmcnllaaGreatDoor
set_option maxRecDepth 20000
set_option maxHeartbeats 16000000
open Go.ChangeShapes Go.WideShapes Go.ChangeAt Go.RowKit
def rowV (vs:List Value) (i:Nat):Value:=vs.getD i (.slice none 0 0)
def rowX (rows:List (List Ce)) (i:Nat):List Ce:=rows.getD i []
theorem rowV_lt {vs:List Value} {i:Nat} (h:i<vs.length):rowV vs i=vs[i]:=by simp [rowV,List.getD,h]
theorem rowX_lt {rows:List (List Ce)} {i:Nat} (h:i<rows.length):rowX rows i=rows[i]:=by simp [rowX,List.getD,h]
theorem rowV_get {vs:List Value} {i:Nat} (h:i<vs.length):vs[i]?=some (rowV vs i):=by rw [rowV_lt h];exact List.getElem?_eq_getElem h
theorem rowV_snoc (vs:List Value) (r:Value) (i:Nat):rowV (vs++[r]) i=if i<vs.length then rowV vs i else if i=vs.length then r else .slice none 0 0:=by
 unfold rowV
 by_cases h:i<vs.length
 ·rw [if_pos h];simp [List.getD,List.getElem?_append_left h]
 ·rw [if_neg h]
  by_cases e:i=vs.length
  ·rw [if_pos e,e];simp [List.getD]
  ·rw [if_neg e]
   have:(vs++[r])[i]?=none:=List.getElem?_eq_none (by simp;omega);simp [List.getD,this]
theorem rowX_snoc (rows:List (List Ce)) (x:List Ce) (i:Nat):rowX (rows++[x]) i=if i<rows.length then rowX rows i else if i=rows.length then x else []:=by
 unfold rowX
 by_cases h:i<rows.length
 ·rw [if_pos h];simp [List.getD,List.getElem?_append_left h]
 ·rw [if_neg h]
  by_cases e:i=rows.length
  ·rw [if_pos e,e];simp [List.getD]
  ·rw [if_neg e]
   have:(rows++[x])[i]?=none:=List.getElem?_eq_none (by simp;omega);simp [List.getD,this]
def SlG (w:World) (v:Value) (rows:List (List Ce)):Prop :=
 ∃ a c vs,v=.slice a rows.length c/\rows.length<=c/\(a=none->c=0)/\(rows=[]\/∃ b off,a=some ⟨b,off,none⟩/\b<w.heap.size/\∀ i,i<rows.length->w.cell? ⟨b,off+i,none⟩=some (rowV vs i))/\∀ i,i<rows.length->SlC w (rowV vs i) (rowX rows i)
theorem SlG.below {w w':World} {v:Value} {rows:List (List Ce)} (h:SlG w v rows) (hb:Below w.heap.size w w'):SlG w' v rows:=by
 obtain ⟨a,c,vs,hv,hc,hn,hr,hs⟩:=h;refine ⟨a,c,vs,hv,hc,hn,?_,fun i hi=>(hs i hi).below hb⟩;rcases hr with hr|⟨b,off,ha,hlt,hi⟩
 ·exact .inl hr
 ·exact .inr ⟨b,off,ha,Nat.lt_of_lt_of_le hlt hb.size,fun i h=>(hb.cell (p:=⟨b,off+i,none⟩) hlt).trans (hi i h)⟩
def OwnG (w:World) (base B:Nat) (v:Value) (rows:List (List Ce)):Prop :=
 ∃ vs:List Value,vs.length=rows.length/\w.ownsRow base 120 1 v rows.length vs/\(∀ i,i<rows.length->OwnC w base (rowV vs i) (rowX rows i)) /\
  (∀ i,i<rows.length->∀ g,(rowV vs i).ownBlock=some g->g<B)/\(∀ i j,i<j->j<rows.length->∀ g,(rowV vs i).ownBlock=some g->(rowV vs j).ownBlock≠some g)
theorem OwnG.below {w w':World} {base B:Nat} {v:Value} {rows:List (List Ce)} (h:OwnG w base B v rows) (hb:Below w.heap.size w w'):OwnG w' base B v rows:=by
 obtain ⟨vs,hl,ho,hr,hB,hd⟩:=h;exact ⟨vs,hl,World.ownsRow.below ho hb,fun i hi=>(hr i hi).below hb,hB,hd⟩
theorem OwnG.low {w:World} {base base' B:Nat} {v:Value} {rows:List (List Ce)} (h:OwnG w base B v rows) (hb:base'<=base):OwnG w base' B v rows:=by
 obtain ⟨vs,hl,ho,hr,hB,hd⟩:=h;refine ⟨vs,hl,⟨ho.1,?_⟩,fun i hi=>(hr i hi).low hb,hB,hd⟩;rcases ho.2 with h2|⟨g,cap,cur,hv,hbg,r⟩
 ·exact .inl h2
 ·exact .inr ⟨g,cap,cur,hv,Nat.le_trans hb hbg,r⟩
theorem ownG_none (w:World) (base B:Nat):OwnG w base B (.slice none 0 0) [] :=
 ⟨[],rfl,⟨rfl,.inl ⟨rfl,rfl⟩⟩,fun i h=>absurd h (Nat.not_lt_zero i),fun i h=>absurd h (Nat.not_lt_zero i),fun _ j _ h=>absurd h (Nat.not_lt_zero j)⟩
theorem OwnG.shape {w:World} {base B:Nat} {v:Value} {rows:List (List Ce)} (h:OwnG w base B v rows):(v=.slice none 0 0/\rows=[])\/∃ g cap,v=.slice (some ⟨g,0,none⟩) rows.length cap/\base<=g/\g<w.heap.size/\rows.length<=cap:=by
 obtain ⟨vs,hl,ho,_⟩:=h;rcases ho.2 with ⟨h1,h2⟩|⟨g,cap,cur,hv,hb,hg,hn,_⟩
 ·exact .inl ⟨h1,List.eq_nil_of_length_eq_zero h2⟩
 ·exact .inr ⟨g,cap,hv,hb,(Array.getElem?_eq_some_iff.1 hg).1,hn⟩
theorem SlG.of_own {w:World} {base B:Nat} {v:Value} {rows:List (List Ce)} (h:OwnG w base B v rows):SlG w v rows:=by
 obtain ⟨vs,hl,ho,hr,hB,hd⟩:=h;rcases ho.2 with ⟨h1,h2⟩|⟨g,cap,cur,hv,hb,hg,hn,_,_,ht⟩
 ·have:rows=[]:=List.eq_nil_of_length_eq_zero h2
  subst this;exact ⟨none,0,vs,h1,Nat.le_refl _,fun _=>rfl,.inl rfl,fun i hi=>absurd hi (Nat.not_lt_zero i)⟩
 ·subst hv
  refine ⟨_,cap,vs,rfl,hn,(fun e=>by cases e),.inr ⟨g,0,rfl,(Array.getElem?_eq_some_iff.1 hg).1,fun i hi=>?_⟩,fun i hi=>SlC.of_own (hr i hi)⟩;rw [Nat.zero_add,World.ownsRow.cellAt ho i (by omega),rowV_get (by omega)]
theorem outer_apart {w:World} {base base' n:Nat} {v r:Value} {vs:List Value} {xs:List Ce} (ho:w.ownsRow base 120 1 v n vs) (hr:OwnC w base' r xs):r.ownBlock=none\/r.ownBlock≠v.ownBlock:=by
 rcases ho.2 with ⟨h1,_⟩|⟨g,cap,cur,hv,_,hg,_⟩
 ·cases hb:r.ownBlock with
  | none=>exact .inl rfl
  | some q=>right;rw [h1];simp [Value.ownBlock]
 ·rcases hr.2 with ⟨h1,_⟩|⟨g',cap',cur',hv',_,hg',_⟩
  ·left;rw [h1];rfl
  ·right
   rw [hv,hv']
   intro e;simp only [Value.ownBlock,Option.some.injEq] at e;subst e;rw [hg] at hg'
   simp only [Option.some.injEq,Obj.cells.injEq] at hg';exact absurd hg'.2.1 (by decide)
theorem OwnC.kept {w w':World} {base:Nat} {r:Value} {xs:List Ce} {row:Option Nat} (h:OwnC w base r xs) (hg:w.grownBy w' row) (hne:r.ownBlock=none\/r.ownBlock≠row):OwnC w' base r xs:=World.ownsRow.kept (show w.ownsRow _ _ _ _ _ _ from h) hg hne
theorem info_row:(Tryz.prog.info? 120).map (fun i=>(i.zero,i.size,i.bytes))=some (some (.slice none 0 0),1,24):=by kernel_rfl
theorem under_rows:Tryz.prog.underlying 24=some (.slice 120):=by kernel_rfl
theorem og_after {w w':World} {base B:Nat} {v v':Value} {rows:List (List Ce)} {vs:List Value} {r:Value} {xs:List Ce} (hvl:vs.length=rows.length) (hown:w.ownsRow base 120 1 v rows.length vs)
  (hrs:∀ i,i<rows.length->OwnC w base (rowV vs i) (rowX rows i)) (hlt:∀ i,i<rows.length->∀ g,(rowV vs i).ownBlock=some g->g<B) (hd:∀ i j,i<j->j<rows.length->∀ g,(rowV vs i).ownBlock=some g->(rowV vs j).ownBlock≠some g)
  (hr:OwnC w base r xs) (hB:∀ g,r.ownBlock=some g->B<=g) (ho':w'.ownsRow base 120 1 v' (rows.length+1) (vs++[r])) (hg':w.grownBy w' v.ownBlock):OwnG w' base w'.heap.size v' (rows++[xs]):=by
 have hs2:=hg'.size;refine ⟨vs++[r],by simp [hvl],by simpa using ho',fun i hi=>?_,fun i hi g e=>?_,fun i j hij hj g e=>?_⟩
 ·rw [List.length_append,List.length_singleton] at hi
  rw [rowV_snoc,rowX_snoc,hvl]
  by_cases c:i<rows.length
  ·rw [if_pos c,if_pos c]
   exact (hrs i c).kept hg' (outer_apart hown (hrs i c))
  ·have e:i=rows.length:=by omega
   rw [if_neg c,if_neg c,if_pos e,if_pos e]
   exact hr.kept hg' (outer_apart hown hr)
 ·rw [List.length_append,List.length_singleton] at hi
  rw [rowV_snoc,hvl] at e
  by_cases c:i<rows.length
  ·rw [if_pos c] at e
   have:=((hrs i c).lt g e).2;omega
  ·rw [if_neg c,if_pos (by omega)] at e
   have:=(hr.lt g e).2;omega
 ·rw [List.length_append,List.length_singleton] at hj
  rw [rowV_snoc,hvl,if_pos (by omega)] at e
  rw [rowV_snoc,hvl]
  by_cases c:j<rows.length
  ·rw [if_pos c];exact hd i j hij c g e
  ·rw [if_neg c,if_pos (by omega)]
   intro e2;have h1:=hlt i (by omega) g e;have h2:=hB g e2;omega
end Go.Proofs.YtgcnmjjlmcnllaaGreatDoor
namespace Go.Proofs.YtgcnmjjlmcnllaaGreatDoor
set_option maxRecDepth 20000
set_option maxHeartbeats 16000000
theorem nums_inj {a b:ByteArray} (h:nums a=nums b):a=b:=by rw [<- str_nums a,<- str_nums b,h]
theorem like_iff (a b:ByteArray):(a.toList==b.toList)=decide (nums a=nums b):=by
 rw [ByteArray.toList_eq,ByteArray.toList_eq]
 by_cases h:a=b
 ·subst h;simp
 ·have h1:¬ nums a=nums b:=fun e=>h (nums_inj e)
  have h2:(a.data.toList==b.data.toList)=false:=by
   apply Bool.eq_false_iff.2
   intro e;have e:=eq_of_beq e;apply h;cases a;cases b;simp at e;rw [e]
  rw [h2];simp [h1]
theorem nums_extract (s:ByteArray) (a b:Nat):nums (s.extract a b)=((nums s).take b).drop a:=by
 simp [nums,ByteArray.data_extract,List.drop_take]

def pref (s p:ByteArray):Bool:=decide (p.size<=s.size) && ((s.extract 0 p.size).toList==p.toList)
theorem pref_iff (s p:ByteArray):pref s p=true ↔ ∃ u,nums s=nums p++u:=by
 simp only [pref,Bool.and_eq_true,decide_eq_true_eq,like_iff,nums_extract,List.drop_zero]
 constructor
 ·rintro ⟨_,h⟩
  exact ⟨(nums s).drop p.size,by rw [<- h,List.take_append_drop]⟩
 ·rintro ⟨u,h⟩
  have hl:=congrArg List.length h;simp only [List.length_append,nums_len] at hl;refine ⟨by omega,?_⟩;rw [h,<- nums_len p,List.take_left']
  rfl

theorem putL_bd (r:Int) (h:runeOk r=true):∀ x∈putL r,0<=x/\x<256:=by
 have hb:=runeOk_bd r h;intro x hx;unfold putL at hx;split at hx
 ·simp at hx;omega
 ·split at hx
  ·simp at hx;omega
  ·split at hx
   ·simp at hx;omega
   ·simp at hx;omega
theorem nums_putS (r:Int) (h:runeOk r=true):nums (putS r)=putL r:=by
 rw [putS_ok r h,nums_str _ (putL_bd r h)]
theorem putS_size (r:Int) (h:runeOk r=true):(putS r).size=(putL r).length:=by
 rw [<- nums_len,nums_putS r h]
def getV (s:ByteArray):Int×Int:=dec (nums s)

theorem getV_cases (s:ByteArray) (h:0<s.size) :
  (runeOk (getV s).1=true/\pref s (putS (getV s).1)=true/\(getV s).2=((putS (getV s).1).size:Int)) \/
  (getV s=(65533,1)/\∀ r,runeOk r=true->pref s (putS r)=false):=by
 have hl:=nums_len s;unfold getV
 match hn:nums s with
 | []=>rw [hn] at hl;simp at hl;omega
 | b0::t =>
  have hb:0<=b0:=by have:=nums_bd s b0 (by rw [hn];simp);omega
  rcases put_dec b0 t hb with ⟨h1,⟨u,h2⟩,h3⟩|⟨h1,h2⟩
  ·left
   refine ⟨h1,?_,?_⟩
   ·rw [pref_iff];exact ⟨u,by rw [nums_putS _ h1,hn];exact h2⟩
   ·rw [putS_size _ h1];exact h3
  ·by_cases hp:∃ r,runeOk r=true/\pref s (putS r)=true
   ·obtain ⟨r,hr,hq⟩:=hp
    rw [pref_iff] at hq
    obtain ⟨u,hu⟩:=hq;rw [nums_putS r hr,hn] at hu
    have hd:=dec_put r u hr;rw [<- hu,h1] at hd
    simp only [Prod.mk.injEq] at hd;obtain ⟨e1,e2⟩:=hd;subst e1;simp [putL] at e2
   ·right
    refine ⟨h1,fun r hr=>?_⟩
    cases hq:pref s (putS r)
    ·rfl
    ·exact absurd ⟨r,hr,hq⟩ hp
theorem getV_of_pref (s:ByteArray) (r:Int) (hr:runeOk r=true) (h:pref s (putS r)=true):getV s=(r,((putS r).size:Int)):=by
 rw [pref_iff] at h
 obtain ⟨u,hu⟩:=h;unfold getV;rw [hu,nums_putS r hr,dec_put r u hr,putS_size r hr]
def longV (b:Int):Int:=if b<128 then 1 else if 192<=b/\b<224 then 2 else if 224<=b/\b<240 then 3 else if 240<=b/\b<248 then 4 else 0
def rV (l:List Int):Int :=
 match l with
 | [b0]=>b0
 | [b0,b1]=>b0 % 32*64+b1 % 64
 | [b0,b1,b2]=>(b0 % 16*64+b1 % 64)*64+b2 % 64
 | [b0,b1,b2,b3]=>((b0 % 8*64+b1 % 64)*64+b2 % 64)*64+b3 % 64
 | _=>0
theorem long_put (c:Int) (h:runeOk c=true):∃ b0 t,putL c=b0::t/\longV b0=((putL c).length:Int)/\rV (putL c)=c:=by
 have hb:=runeOk_bd c h;unfold putL
 by_cases h1:c<128
 ·rw [if_pos h1];exact ⟨_,_,rfl,by simp [longV,h1],rfl⟩
 ·rw [if_neg h1]
  by_cases h2:c<2048
  ·rw [if_pos h2];refine ⟨_,_,rfl,?_,?_⟩
   ·unfold longV;simp only [List.length_cons,List.length_nil];omega
   ·simp only [rV];omega
  ·rw [if_neg h2]
   by_cases h3:c<65536
   ·rw [if_pos h3];refine ⟨_,_,rfl,?_,?_⟩
    ·unfold longV;simp only [List.length_cons,List.length_nil];omega
    ·simp only [rV];omega
   ·rw [if_neg h3];refine ⟨_,_,rfl,?_,?_⟩
    ·unfold longV;simp only [List.length_cons,List.length_nil];omega
    ·simp only [rV];omega
theorem nums_get (s:ByteArray) (i:Nat) (h:i<s.size):(nums s)[i]?=some ((s[i]'h).toNat:Int):=by
 have h':i<s.data.size:=h;simp only [nums,List.getElem?_map,Array.getElem?_toList,Array.getElem?_eq_getElem h',Option.map_some]
 rfl
theorem getV_short (s:ByteArray) (h:0<s.size) (hn:longV ((s[0]'h).toNat:Int)=0\/(s.size:Int)<longV ((s[0]'h).toNat:Int)):getV s=(65533,1):=by
 rcases getV_cases s h with ⟨h1,h2,_⟩|⟨h1,_⟩
 ·exfalso
  rw [pref_iff] at h2
  obtain ⟨u,hu⟩:=h2;rw [nums_putS _ h1] at hu
  obtain ⟨b0,t,e1,e2,_⟩:=long_put _ h1;have g0:=nums_get s 0 h;have hl:=congrArg List.length hu;rw [nums_len,List.length_append] at hl
  rw [hu,e1] at g0
  simp at g0;subst g0;have:=putL_len (getV s).1;omega
 ·exact h1
theorem getV_long (s:ByteArray) (h:0<s.size) (n:Nat) (r:Int) (hn:longV ((s[0]'h).toNat:Int)=n) (h1:1<=n) (hs:n<=s.size) (hr:rV ((nums s).take n)=r) :
  getV s=if ((putS r).toList==(s.extract 0 n).toList)=true then (r,(n:Int)) else (65533,1):=by
 have hsz:(nums (s.extract 0 n)).length=n:=by rw [nums_extract];simp [nums_len];omega
 by_cases hp:((putS r).toList==(s.extract 0 n).toList)=true
 ·rw [if_pos hp]
  have hq:=hp;rw [like_iff,decide_eq_true_eq] at hq
  have hk:runeOk r=true:=by
   cases hk:runeOk r
   ·rw [putS_no r hk] at hq
    have:=congrArg List.length hq;rw [hsz] at this
    simp [nums] at this;omega
   ·rfl
  have hz:(putS r).size=n:=by rw [<- nums_len,hq,hsz]
  rw [<- hz]
  apply getV_of_pref s r hk
  rw [pref_iff,hq,nums_extract,List.drop_zero]
  exact ⟨_,(List.take_append_drop n _).symm⟩
 ·rw [if_neg hp]
  rcases getV_cases s h with ⟨k1,k2,_⟩|⟨k1,_⟩
  ·exfalso
   apply hp
   rw [pref_iff] at k2
   obtain ⟨u,hu⟩:=k2;rw [nums_putS _ k1] at hu
   obtain ⟨b0,t,e1,e2,e3⟩:=long_put _ k1;have g0:=nums_get s 0 h;rw [hu,e1] at g0
   simp at g0;subst g0;have hL:(putL (getV s).1).length=n:=by omega
   have ht:(nums s).take n=putL (getV s).1:=by rw [hu,<- hL];exact List.take_left
   rw [ht,e3] at hr
   rw [like_iff,decide_eq_true_eq,<- hr,nums_putS _ k1,nums_extract,ht];rfl
  ·exact k1
theorem nums_take1 (s:ByteArray) (h:0<s.size):(nums s).take 1=[((s[0]'(by omega)).toNat:Int)]:=by
 have hl:=nums_len s;have g0:=nums_get s 0 (by omega)
 match hd:nums s with
 | []=>rw [hd] at hl;simp at hl;omega
 | b0::t =>
  rw [hd] at g0
  simp at g0;subst g0
  rfl
theorem nums_take2 (s:ByteArray) (h:1<s.size):(nums s).take 2=[((s[0]'(by omega)).toNat:Int),((s[1]'(by omega)).toNat:Int)]:=by
 have hl:=nums_len s;have g0:=nums_get s 0 (by omega);have g1:=nums_get s 1 (by omega)
 match hd:nums s with
 | []=>rw [hd] at hl;simp at hl;omega
 | [b0]=>rw [hd] at hl;simp at hl;omega
 | b0::b1::t =>
  rw [hd] at g0 g1
  simp at g0 g1;subst g0 g1
  rfl
theorem nums_take3 (s:ByteArray) (h:2<s.size):(nums s).take 3=[((s[0]'(by omega)).toNat:Int),((s[1]'(by omega)).toNat:Int),((s[2]'(by omega)).toNat:Int)]:=by
 have hl:=nums_len s;have g0:=nums_get s 0 (by omega);have g1:=nums_get s 1 (by omega);have g2:=nums_get s 2 (by omega)
 match hd:nums s with
 | []=>rw [hd] at hl;simp at hl;omega
 | [b0]=>rw [hd] at hl;simp at hl;omega
 | [b0,b1]=>rw [hd] at hl;simp at hl;omega
 | b0::b1::b2::t =>
  rw [hd] at g0 g1 g2
  simp at g0 g1 g2;subst g0 g1 g2
  rfl
theorem nums_take4 (s:ByteArray) (h:3<s.size):(nums s).take 4=[((s[0]'(by omega)).toNat:Int),((s[1]'(by omega)).toNat:Int),((s[2]'(by omega)).toNat:Int),((s[3]'(by omega)).toNat:Int)]:=by
 have hl:=nums_len s;have g0:=nums_get s 0 (by omega);have g1:=nums_get s 1 (by omega);have g2:=nums_get s 2 (by omega);have g3:=nums_get s 3 (by omega)
 match hd:nums s with
 | []=>rw [hd] at hl;simp at hl;omega
 | [b0]=>rw [hd] at hl;simp at hl;omega
 | [b0,b1]=>rw [hd] at hl;simp at hl;omega
 | [b0,b1,b2]=>rw [hd] at hl;simp at hl;omega
 | b0::b1::b2::b3::t =>
  rw [hd] at g0 g1 g2 g3
  simp at g0 g1 g2 g3;subst g0 g1 g2 g3
  rfl
def wdV (r:Int):Int :=
 if r<32\/runeOk r=false\/(127<=r/\r<=159)\/(768<=r/\r<=879) then 0
 else if (4352<=r/\r<=4447)\/(12288<=r/\r<=55295)\/(127744<=r/\r<=131071) then 2 else 1
theorem widthV_bd (r:Int):0<=wdV r/\wdV r<=2:=by unfold wdV;split;omega;split<;>omega
def cellOkB (l:List Ce) (i:Nat):Bool :=
 (atC l i).st.ok && (if (atC l i).part=0 then decide (wdV (atC l i).rune=1)
  else if (atC l i).part=1 then decide (wdV (atC l i).rune=2) && (decide (i+1<l.length) && (decide ((atC l (i+1)).part=2) && decide ((atC l (i+1)).st=(atC l i).st)))
  else if (atC l i).part=2 then decide ((atC l i).rune=0) && (decide (0<i) && decide ((atC l (i-1)).part=1))
  else false)
def rowOkB (l:List Ce):Bool:=decide (1<=l.length/\l.length<=60) && (List.range l.length).all (cellOkB l)
theorem rowOkB_no (l:List Ce) (i:Nat) (hi:i<l.length) (h:cellOkB l i=false):rowOkB l=false:=by
 unfold rowOkB
 have:(List.range l.length).all (cellOkB l)=false:=by
  rw [List.all_eq_false]
  exact ⟨i,List.mem_range.2 hi,by simp [h]⟩
 rw [this,Bool.and_false]
theorem rowOkB_len (l:List Ce) (h:¬ (1<=l.length/\l.length<=60)):rowOkB l=false:=by
 unfold rowOkB;rw [decide_eq_false h,Bool.false_and]
theorem rowOkB_yes (l:List Ce) (h:1<=l.length/\l.length<=60) (ha:∀ i,i<l.length->cellOkB l i=true):rowOkB l=true:=by
 unfold rowOkB;rw [decide_eq_true h,Bool.true_and,List.all_eq_true]
 exact fun i hi=>ha i (List.mem_range.1 hi)
theorem rowOkB_iff (l:List Ce):rowOkB l=true ↔ (1<=l.length/\l.length<=60)/\∀ i,i<l.length->cellOkB l i=true:=by
 constructor
 ·intro h
  unfold rowOkB at h;rw [Bool.and_eq_true,decide_eq_true_eq,List.all_eq_true] at h
  exact ⟨h.1,fun i hi=>h.2 i (List.mem_range.2 hi)⟩
 ·rintro ⟨h1,h2⟩;exact rowOkB_yes l h1 h2
def fitB (cols:Int) (r:List Ce):Bool:=decide ((r.length:Int)=cols) && rowOkB r
def gridOkB (cols:Int) (rows:List (List Ce)):Bool:=decide (1<=cols/\cols<=60) && (decide (1<=rows.length/\rows.length<=30) && rows.all (fitB cols))
theorem gridOk_cols {cols:Int} {rows:List (List Ce)} (h:¬ (1<=cols/\cols<=60)):gridOkB cols rows=false:=by
 unfold gridOkB;rw [decide_eq_false h,Bool.false_and]
theorem gridOk_len {cols:Int} {rows:List (List Ce)} (h:¬ (1<=rows.length/\rows.length<=30)):gridOkB cols rows=false:=by
 unfold gridOkB;rw [decide_eq_false h,Bool.false_and,Bool.and_false]
theorem gridOk_iff (cols:Int) (rows:List (List Ce)):gridOkB cols rows=true ↔ (1<=cols/\cols<=60)/\(1<=rows.length/\rows.length<=30)/\∀ i,i<rows.length->fitB cols (rows.getD i [])=true:=by
 unfold gridOkB;rw [Bool.and_eq_true,Bool.and_eq_true,decide_eq_true_eq,decide_eq_true_eq,List.all_eq_true]
 constructor
 ·rintro ⟨h1,h2,h3⟩
  refine ⟨h1,h2,fun i hi=>h3 _ ?_⟩;have:rows.getD i []=rows[i]:=by simp [List.getD,hi]
  rw [this];exact List.getElem_mem hi
 ·rintro ⟨h1,h2,h3⟩
  refine ⟨h1,h2,fun r hr=>?_⟩;obtain ⟨i,hi,e⟩:=List.getElem_of_mem hr;have:=h3 i hi;have e2:rows.getD i []=rows[i]:=by simp [List.getD,hi]
  rw [e2,e] at this;exact this
theorem gridOk_no {cols:Int} {rows:List (List Ce)} {i:Nat} (hi:i<rows.length) (h:fitB cols (rows.getD i [])=false):gridOkB cols rows=false:=by
 cases hg:gridOkB cols rows with
 | false=>rfl
 | true =>
  have:=((gridOk_iff cols rows).1 hg).2.2 i hi;rw [h] at this;cases this
def newR (cols n:Nat):List (List Ce):=List.replicate n (rowL cols St.zero)
theorem newR_snoc (cols n:Nat):newR cols (n+1)=newR cols n++[rowL cols St.zero]:=by unfold newR;rw [List.replicate_succ']
def moveR (cols:Nat) (rows:List (List Ce)) (a b:Nat) (n:Int) (s:St):List (List Ce) :=
 (List.range rows.length).map fun i=>if a<=i/\i<=b then (if (a:Int)<=i+n/\(i:Int)+n<=b then rows.getD ((i:Int)+n).toNat [] else rowL cols s) else rows.getD i []
open Go.ChangeShapes Go.WideShapes Go.ChangeAt Go.RowKit
def gridV (cols:Int) (v:Value):Value:=.agg #[.int .i64 cols,v]
def GrN (w:World) (B:Nat) (cols:Int) (v:Value):Prop:=B<w.heap.size/\w.cell? ⟨B,0,none⟩=some (.int .i64 cols)/\w.cell? ⟨B,1,none⟩=some v
theorem GrN.new (w:World) (cols:Int) (v:Value) (t:TypeId):GrN (w.alloc (.cells #[.int .i64 cols,v] t)) w.heap.size cols v:=⟨by simp,by simp [go_sem],by simp [go_sem]⟩
theorem GrN.below {w w':World} {B:Nat} {cols:Int} {v:Value} (h:GrN w B cols v) (hb:Below w.heap.size w w'):GrN w' B cols v :=
 ⟨Nat.lt_of_lt_of_le h.1 hb.size,(hb.cell (p:=⟨B,0,none⟩) h.1).trans h.2.1,(hb.cell (p:=⟨B,1,none⟩) h.1).trans h.2.2⟩
def GrW (w:World) (B:Nat) (cols:Int) (v:Value):Prop :=
 B<w.heap.size/\(w.cell? ⟨B,0,none⟩=some (.int .i64 cols)/\w.cell? ⟨B,1,none⟩=some v)/\(w.frozen? ⟨B,0,none⟩=false/\w.frozen? ⟨B,1,none⟩=false)
theorem GrW.grown {w w':World} {B:Nat} {cols:Int} {v:Value} {row:Option Nat} (h:GrW w B cols v) (hg:w.grownBy w' row) (hr:row≠some B):GrW w' B cols v:=by
 have hb:=hg.block B h.1 (Ne.symm hr);have hc:∀ k,w'.cell? ⟨B,k,none⟩=w.cell? ⟨B,k,none⟩:=fun k=>World.cell?_of_block (w:=w) hb
 have hz:∀ k,w'.frozen? ⟨B,k,none⟩=w.frozen? ⟨B,k,none⟩:=fun k=>World.frozen?_of_block (w:=w) hb
 refine ⟨Nat.lt_of_lt_of_le h.1 hg.size,?_,?_⟩
 ·rw [hc,hc];exact h.2.1
 ·rw [hz,hz];exact h.2.2
theorem GrW.below {w w':World} {B:Nat} {cols:Int} {v:Value} (h:GrW w B cols v) (hb:Below w.heap.size w w'):GrW w' B cols v:=h.grown (gbl hb none) (by simp)
theorem GrW.new (w:World) (cols:Int) (v:Value) (t:TypeId):GrW (w.alloc (.cells #[.int .i64 cols,v] t)) w.heap.size cols v :=
 ⟨by simp,⟨by simp [go_sem],by simp [go_sem]⟩,⟨by simp [go_sem],by simp [go_sem]⟩⟩
def putG (w:World) (B:Nat) (v:Value):World:=w.setCell ⟨B,1,none⟩ v
theorem putG_grown (w:World) (B:Nat) (v:Value):w.grownBy (putG w B v) (some B):=sCc w B 1 _
theorem GrW.put {w:World} {B:Nat} {cols:Int} {v:Value} (h:GrW w B cols v) (v':Value):GrW (putG w B v') B cols v':=by
 obtain ⟨hlt,⟨c0,c1⟩,⟨z0,z1⟩⟩:=h;refine ⟨by simpa [putG] using hlt,⟨?_,?_⟩,⟨?_,?_⟩⟩
 all_goals simp only [putG]
 ·rw [setCell_ne' _ _ _ _ _ (by decide)];exact c0
 ·simp [go_sem,c1]
 ·simp [go_sem,z0]
 ·simp [go_sem,z1]
def putG2 (w:World) (B:Nat) (cols:Int) (v:Value):World:=(w.setCell ⟨B,0,none⟩ (.int .i64 cols)).setCell ⟨B,1,none⟩ v
theorem putG2_grown (w:World) (B:Nat) (cols:Int) (v:Value):w.grownBy (putG2 w B cols v) (some B):=grown_tr (sCc w B 0 _) (sCc _ B 1 _)
theorem GrW.put2 {w:World} {B:Nat} {cols:Int} {v:Value} (h:GrW w B cols v) (cols':Int) (v':Value):GrW (putG2 w B cols' v') B cols' v':=by
 obtain ⟨hlt,⟨c0,c1⟩,⟨z0,z1⟩⟩:=h;refine ⟨by simpa [putG2] using hlt,⟨?_,?_⟩,⟨?_,?_⟩⟩
 all_goals simp only [putG2]
 ·rw [setCell_ne' _ _ _ _ _ (by decide)];simp [go_sem,c0]
 ·simp [go_sem,c1]
 ·simp [go_sem,z0]
 ·simp [go_sem,z1]
theorem OwnG.kept {w w':World} {base B:Nat} {v:Value} {rows:List (List Ce)} {row:Option Nat} (h:OwnG w base B v rows) (hg:w.grownBy w' row) (hne:∀ g,row=some g->g<base):OwnG w' base B v rows:=by
 obtain ⟨vs,hl,ho,hr,hB,hd⟩:=h;refine ⟨vs,hl,World.ownsRow.kept ho hg ?_,fun i hi=>(hr i hi).kept hg ?_,hB,hd⟩
 ·cases hv:v.ownBlock with
  | none=>exact .inl rfl
  | some q=>right;intro e;have:=hne q e.symm;have:=(ho.lt q hv).1;omega
 ·cases hv:(rowV vs i).ownBlock with
  | none=>exact .inl rfl
  | some q=>right;intro e;have:=hne q e.symm;have:=((hr i hi).lt q hv).1;omega
theorem OwnG.lt {w:World} {base B:Nat} {v:Value} {rows:List (List Ce)} (h:OwnG w base B v rows):∀ g,v.ownBlock=some g->base<=g/\g<w.heap.size:=by
 obtain ⟨vs,hl,ho,_⟩:=h;exact fun g e=>ho.lt g e
theorem OwnG.up {w:World} {base B B':Nat} {v:Value} {rows:List (List Ce)} (h:OwnG w base B v rows) (hb:B<=B'):OwnG w base B' v rows:=by
 obtain ⟨vs,hl,ho,hr,hB,hd⟩:=h;exact ⟨vs,hl,ho,hr,fun i hi g e=>Nat.lt_of_lt_of_le (hB i hi g e) hb,hd⟩
theorem step_append_og {w:World} {ops:Array Oper} {o:Oper} {ac:Act} {K:Act->World->Prop} {Q:Exit->Act->World->Prop} {E:Prop} (hgd:o.guard=none) (s x:Operand)
  (ho:o.op=.call { callee:=.builtin .append,args:=#[s,x],argTypes:=#[24,24] })
  (base B:Nat) (v:Value) (rows:List (List Ce)) (r:Value) (xs:List Ce) (hs:ac.eval s=v) (k:OwnG w base B v rows) (hr:OwnC w base r xs) (hB:∀ g,r.ownBlock=some g->B<=g) (hb:base<=w.heap.size) (hl:rows.length<2000000)
  (g:Nat) (hg0:w.heap.size=g) (hx:ac.eval x=.slice (some ⟨g,0,none⟩) 1 1)
  (h:∀ v' w',OwnG w' base w'.heap.size v' (rows++[xs])->(w.alloc (.cells #[r] 120)).grownBy w' v.ownBlock->K (ac.put o.dst v') w') :
  if Region.wanted o (yielded ops ac.tmps)=true then Oper.wp Tryz.prog o ac (w.alloc (.cells #[r] 120)) K Q else E:=by
 have hw:Region.wanted o (yielded ops ac.tmps)=true:=by simp [Region.wanted,hgd]
 rw [if_pos hw]
 subst hg0;obtain ⟨i0,hi,hz0,hz1,hz2⟩:=info_parts info_row;obtain ⟨vs,hvl,hown,hrs,hlt,hd⟩:=k;have hba:=bal' w (Obj.cells #[r] 120);have hown2:=World.ownsRow.below hown hba;refine wp_append_own _ s x _ ho base 120 i0 (.slice none 0 0) 1 24 under_rows hi hz0 hz1 hz2 rfl (by decide) v rows.length vs hs hown2 ⟨w.heap.size,0,none⟩ 1 1 [r] hx rfl ?_ ?_ (by unfold maxLen;omega) (by omega) (by simp;omega) (fun v' w' ho' hg' _=>h v' w' (og_after hvl hown2 (fun i hi=>(hrs i hi).below hba) hlt hd (hr.below hba) hB ho' hg') hg')
 ·intro j u hj
  match j,hj with
  | 0,hj=>simp at hj;subst hj;simp [Addr.add,go_sem]
 ·intro u hu
  simp at hu;subst hu;rcases hr.shape with ⟨rfl,_⟩|⟨g,cap,rfl,_⟩<;>rfl
def GrB (lo hi:Nat) (w w':World):Prop:=w'.os=w.os/\w'.tape=w.tape/\w'.output=w.output/\w.heap.size<=w'.heap.size/\∀ k,k<w.heap.size->(k<lo\/hi<=k)->w'.heap[k]?=w.heap[k]?
theorem _root_.Go.World.ownsRow.gr {lo hi:Nat} {w w':World} {base:Nat} {e:TypeId} {size:Nat} {v:Value} {n:Nat} {xs:List Value} (h:w.ownsRow base e size v n xs) (hg:GrB lo hi w w') (hne:∀ g,v.ownBlock=some g->g<lo\/hi<=g):w'.ownsRow base e size v n xs:=by
 refine ⟨h.1,?_⟩;rcases h.2 with h2|⟨g,cap,cur,hv,hbg,hgg,r⟩
 ·exact .inl h2
 ·exact .inr ⟨g,cap,cur,hv,hbg,by rw [hg.2.2.2.2 g (Array.getElem?_eq_some_iff.1 hgg).1 (hne g (by rw [hv];rfl))];exact hgg,r⟩
def OwnV (w:World) (base B:Nat) (v:Value) (vs:List Value) (rows:List (List Ce)):Prop :=
 vs.length=rows.length/\w.ownsRow base 120 1 v rows.length vs/\(∀ i,i<rows.length->OwnC w base (rowV vs i) (rowX rows i)) /\
  (∀ i,i<rows.length->∀ g,(rowV vs i).ownBlock=some g->g<B)/\(∀ i j,i<j->j<rows.length->∀ g,(rowV vs i).ownBlock=some g->(rowV vs j).ownBlock≠some g)
theorem OwnG.v {w:World} {base B:Nat} {v:Value} {rows:List (List Ce)} (h:OwnG w base B v rows):∃ vs,OwnV w base B v vs rows:=h
theorem OwnV.g {w:World} {base B:Nat} {v:Value} {vs:List Value} {rows:List (List Ce)} (h:OwnV w base B v vs rows):OwnG w base B v rows:=⟨vs,h⟩
theorem OwnV.apart {w:World} {base B:Nat} {v:Value} {vs:List Value} {rows:List (List Ce)} (h:OwnV w base B v vs rows) {i j:Nat} (hi:i<rows.length) (hj:j<rows.length) (hij:i≠j):(rowV vs i).ownBlock=none\/(rowV vs i).ownBlock≠(rowV vs j).ownBlock:=by
 cases hv:(rowV vs i).ownBlock with
 | none=>exact .inl rfl
 | some g =>
  right
  intro e;rcases Nat.lt_or_gt_of_ne hij with c|c
  ·exact h.2.2.2.2 i j c hj g hv e.symm
  ·exact h.2.2.2.2 j i c hi g e.symm hv
theorem apart_comm {a b:Option Nat} (h:a=none\/a≠b):b=none\/b≠a:=by
 cases b with
 | none=>exact .inl rfl
 | some g=>right;intro e;rcases h with h|h<;>rw [<- e] at h<;>simp at h
theorem OwnV.below {w w':World} {base B:Nat} {v:Value} {vs:List Value} {rows:List (List Ce)} (h:OwnV w base B v vs rows) (hb:Below w.heap.size w w'):OwnV w' base B v vs rows :=
 ⟨h.1,World.ownsRow.below h.2.1 hb,fun i hi=>(h.2.2.1 i hi).below hb,h.2.2.2.1,h.2.2.2.2⟩
theorem OwnV.up {w:World} {base B B':Nat} {v:Value} {vs:List Value} {rows:List (List Ce)} (h:OwnV w base B v vs rows) (hb:B<=B'):OwnV w base B' v vs rows :=
 ⟨h.1,h.2.1,h.2.2.1,fun i hi g e=>Nat.lt_of_lt_of_le (h.2.2.2.1 i hi g e) hb,h.2.2.2.2⟩
theorem OwnV.rowset {w w':World} {base B:Nat} {v:Value} {vs:List Value} {rows:List (List Ce)} (h:OwnV w base B v vs rows) {j:Nat} (hj:j<rows.length) (ys:List Ce) (ho:OwnC w' base (rowV vs j) ys) (hg:w.grownBy w' (rowV vs j).ownBlock):OwnV w' base B v vs (rows.set j ys):=by
 have hx:∀ i,i<rows.length->rowX (rows.set j ys) i=if i=j then ys else rowX rows i:=fun i hi=>by
  unfold rowX
  by_cases e:i=j
  ·subst e;rw [if_pos rfl];simp [List.getD,hi]
  ·rw [if_neg e];simp [List.getD,Ne.symm e]
 refine ⟨by rw [List.length_set];exact h.1,?_,fun i hi=>?_,fun i hi=>?_,fun a b hab hb=>?_⟩
 ·rw [List.length_set]
  exact World.ownsRow.kept h.2.1 hg (apart_comm (outer_apart h.2.1 (h.2.2.1 j hj)))
 ·rw [List.length_set] at hi
  rw [hx i hi]
  by_cases e:i=j
  ·subst e;rw [if_pos rfl];exact ho
  ·rw [if_neg e];exact (h.2.2.1 i hi).kept hg (h.apart hi hj e)
 ·rw [List.length_set] at hi;exact h.2.2.2.1 i hi
 ·rw [List.length_set] at hb;exact h.2.2.2.2 a b hab hb
theorem OwnV.shape {w:World} {base B:Nat} {v:Value} {vs:List Value} {rows:List (List Ce)} (h:OwnV w base B v vs rows):(v=.slice none 0 0/\rows=[])\/∃ g cap,v=.slice (some ⟨g,0,none⟩) rows.length cap/\base<=g/\g<w.heap.size/\rows.length<=cap:=h.g.shape
theorem OwnV.cell {w:World} {base B g n cap:Nat} {vs:List Value} {rows:List (List Ce)} (h:OwnV w base B (.slice (some ⟨g,0,none⟩) n cap) vs rows) (hn:rows.length=n) (i:Nat) (hi:i<n):w.cell? ⟨g,i,none⟩=some (rowV vs i):=by
 subst hn;rw [World.ownsRow.cellAt h.2.1 i (by have:=h.1;omega),rowV_get (by have:=h.1;omega)]
theorem OwnV.frozen {w:World} {base B g n cap:Nat} {vs:List Value} {rows:List (List Ce)} (h:OwnV w base B (.slice (some ⟨g,0,none⟩) n cap) vs rows) (hn:rows.length=n) (i:Nat):w.frozen? ⟨g,i,none⟩=false:=by
 subst hn;exact World.ownsRow.frozenAt h.2.1 i
def OwnR (w:World) (lo hi:Nat) (v:Value) (rows:List (List Ce)):Prop:=OwnG w lo hi v rows/\(∀ g,v.ownBlock=some g->g<hi)/\hi<=w.heap.size
theorem OwnR.of {w:World} {lo:Nat} {v:Value} {rows:List (List Ce)} (h:OwnG w lo w.heap.size v rows):OwnR w lo w.heap.size v rows:=⟨h,fun g e=>(h.lt g e).2,Nat.le_refl _⟩
theorem OwnR.below {base B:Nat} {w w':World} {v:Value} {rows:List (List Ce)} (h:OwnR w base B v rows) (hb:Below w.heap.size w w'):OwnR w' base B v rows:=⟨h.1.below hb,h.2.1,Nat.le_trans h.2.2 hb.size⟩
theorem OwnR.sl {base B:Nat} {w:World} {v:Value} {rows:List (List Ce)} (h:OwnR w base B v rows):SlG w v rows:=SlG.of_own h.1
def genR (n:Nat) (f:Nat->List Ce):List (List Ce):=(List.range n).map f
theorem genR_len (n:Nat) (f:Nat->List Ce):(genR n f).length=n:=by simp [genR]
theorem genR_at (n:Nat) (f:Nat->List Ce) (i:Nat) (h:i<n):rowX (genR n f) i=f i:=by
 rw [rowX_lt (by rw [genR_len];exact h)]
 simp [genR]
theorem ext_rowX (a b:List (List Ce)) (hl:a.length=b.length) (h:∀ i,i<a.length->rowX a i=rowX b i):a=b:=by
 apply List.ext_getElem hl
 intro i h1 h2;rw [<- rowX_lt h1,<- rowX_lt h2]
 exact h i h1
theorem rowX_set' {rows:List (List Ce)} {j:Nat} (hj:j<rows.length) (ys:List Ce) (i:Nat):rowX (rows.set j ys) i=if i=j then ys else rowX rows i:=by
 unfold rowX
 by_cases e:i=j
 ·subst e;rw [if_pos rfl];simp [List.getD,hj]
 ·rw [if_neg e];simp [List.getD,Ne.symm e]
def genV (n:Nat) (f:Nat->Value):List Value:=(List.range n).map f
theorem genV_len (n:Nat) (f:Nat->Value):(genV n f).length=n:=by simp [genV]
theorem genV_at (n:Nat) (f:Nat->Value) (i:Nat) (h:i<n):rowV (genV n f) i=f i:=by
 rw [rowV_lt (by rw [genV_len];exact h)]
 simp [genV]
theorem ext_rowV (a b:List Value) (hl:a.length=b.length) (h:∀ i,i<a.length->rowV a i=rowV b i):a=b:=by
 apply List.ext_getElem hl
 intro i h1 h2;rw [<- rowV_lt h1,<- rowV_lt h2]
 exact h i h1
theorem rowV_setV {vs:List Value} {j:Nat} (hj:j<vs.length) (r:Value) (i:Nat):rowV (vs.set j r) i=if i=j then r else rowV vs i:=by
 unfold rowV
 by_cases e:i=j
 ·subst e;rw [if_pos rfl];simp [List.getD,hj]
 ·rw [if_neg e];simp [List.getD,Ne.symm e]
theorem OwnV.mixed {w w':World} {base B:Nat} {v:Value} {vs:List Value} {rows:List (List Ce)} (h:OwnV w base B v vs rows) (σ:Nat->Option Nat) (vs':List Value) (rows':List (List Ce))
  (hl:vs'.length=rows'.length) (hn:rows'.length=rows.length) (ho:w'.ownsRow base 120 1 v rows.length vs')
  (hkeep:∀ p,p<rows.length->OwnC w' base (rowV vs p) (rowX rows p))
  (hold:∀ i p,i<rows.length->σ i=some p->p<rows.length/\rowV vs' i=rowV vs p/\rowX rows' i=rowX rows p)
  (hinj:∀ i j p,i<j->j<rows.length->σ i=some p->σ j=some p->False)
  (hnew:∀ i,i<rows.length->σ i=none->OwnC w' base (rowV vs' i) (rowX rows' i)/\∀ g,(rowV vs' i).ownBlock=some g->B<=g)
  (hnd:∀ i j,i<j->j<rows.length->σ i=none->σ j=none->∀ g,(rowV vs' i).ownBlock=some g->(rowV vs' j).ownBlock≠some g) :
  OwnV w' base w'.heap.size v vs' rows':=by
 have hrow:∀ i,i<rows.length->OwnC w' base (rowV vs' i) (rowX rows' i):=fun i hi=>by
  cases e:σ i with
  | none=>exact (hnew i hi e).1
  | some p=>obtain ⟨hp,e1,e2⟩:=hold i p hi e;rw [e1,e2];exact hkeep p hp
 refine ⟨hl,by rw [hn];exact ho,fun i hi=>hrow i (by omega),fun i hi g e=>((hrow i (by omega)).lt g e).2,fun i j hij hj g e1 e2=>?_⟩;rw [hn] at hj
 cases ei:σ i with
 | none =>
  cases ej:σ j with
  | none=>exact hnd i j hij hj ei ej g e1 e2
  | some q =>
   obtain ⟨hq,eq1,_⟩:=hold j q hj ej;rw [eq1] at e2
   have:=h.2.2.2.1 q hq g e2;have:=(hnew i (by omega) ei).2 g e1;omega
 | some p =>
  obtain ⟨hp,ep1,_⟩:=hold i p (by omega) ei;rw [ep1] at e1
  cases ej:σ j with
  | none =>
   have:=h.2.2.2.1 p hp g e1;have:=(hnew j hj ej).2 g e2;omega
  | some q =>
   obtain ⟨hq,eq1,_⟩:=hold j q hj ej;rw [eq1] at e2
   rcases Nat.lt_trichotomy p q with c|c|c
   ·exact h.2.2.2.2 p q c hq g e1 e2
   ·subst c;exact hinj i j p hij hj ei ej
   ·exact h.2.2.2.2 q p c hp g e2 e1
def Gat (w:World) (base:Nat) (vs:List Value) (X:List Ce) (σ:Nat->Option Nat) (us:List Value):Prop :=
 (∀ k p,k<us.length->σ k=some p->rowV us k=rowV vs p)/\(∀ k,k<us.length->σ k=none->OwnC w base (rowV us k) X) /\
 (∀ k l,k<l->l<us.length->σ k=none->σ l=none->∀ g,(rowV us k).ownBlock=some g->(rowV us l).ownBlock≠some g)
theorem Gat.nil (w:World) (base:Nat) (vs:List Value) (X:List Ce) (σ:Nat->Option Nat):Gat w base vs X σ [] :=
 ⟨fun k _ h=>absurd h (Nat.not_lt_zero k),fun k h=>absurd h (Nat.not_lt_zero k),fun _ l _ h=>absurd h (Nat.not_lt_zero l)⟩
theorem Gat.below {w w':World} {base:Nat} {vs:List Value} {X:List Ce} {σ:Nat->Option Nat} {us:List Value} (h:Gat w base vs X σ us) (hb:Below w.heap.size w w'):Gat w' base vs X σ us :=
 ⟨h.1,fun k hk e=>(h.2.1 k hk e).below hb,h.2.2⟩
theorem Gat.kept {w w':World} {base base2 n:Nat} {v:Value} {ys vs:List Value} {X:List Ce} {σ:Nat->Option Nat} {us:List Value} (h:Gat w base vs X σ us) (ho:w.ownsRow base2 120 1 v n ys) (hg:w.grownBy w' v.ownBlock):Gat w' base vs X σ us :=
 ⟨h.1,fun k hk e=>(h.2.1 k hk e).kept hg (outer_apart ho (h.2.1 k hk e)),h.2.2⟩
theorem Gat.old {w:World} {base:Nat} {vs:List Value} {X:List Ce} {σ:Nat->Option Nat} {us:List Value} (h:Gat w base vs X σ us) (p:Nat) (e:σ us.length=some p):Gat w base vs X σ (us++[rowV vs p]):=by
 refine ⟨fun k q hk e2=>?_,fun k hk e2=>?_,fun k l hkl hl e1 e2=>?_⟩
 ·rw [List.length_append,List.length_singleton] at hk
  rw [rowV_snoc]
  by_cases c:k<us.length
  ·rw [if_pos c];exact h.1 k q c e2
  ·have:k=us.length:=by omega
   subst this;rw [if_neg c,if_pos rfl]
   rw [e] at e2;cases e2;rfl
 ·rw [List.length_append,List.length_singleton] at hk
  rw [rowV_snoc]
  by_cases c:k<us.length
  ·rw [if_pos c];exact h.2.1 k c e2
  ·have:k=us.length:=by omega
   subst this;rw [e] at e2;cases e2
 ·rw [List.length_append,List.length_singleton] at hl
  have c:l<us.length:=by
   apply Nat.lt_of_not_le;intro c
   have:l=us.length:=by omega
   subst this;rw [e] at e2;cases e2
  rw [rowV_snoc,rowV_snoc,if_pos c,if_pos (by omega)]
  exact h.2.2 k l hkl c e1 e2
theorem Gat.new {w w':World} {base:Nat} {vs:List Value} {X:List Ce} {σ:Nat->Option Nat} {us:List Value} (h:Gat w base vs X σ us) (e:σ us.length=none) (hb:Below w.heap.size w w') (r:Value) (hr:OwnC w' w.heap.size r X) (hbase:base<=w.heap.size):Gat w' base vs X σ (us++[r]):=by
 have h2:=h.below hb;refine ⟨fun k q hk e2=>?_,fun k hk e2=>?_,fun k l hkl hl e1 e2=>?_⟩
 ·rw [List.length_append,List.length_singleton] at hk
  rw [rowV_snoc]
  by_cases c:k<us.length
  ·rw [if_pos c];exact h.1 k q c e2
  ·have:k=us.length:=by omega
   subst this;rw [e] at e2;cases e2
 ·rw [List.length_append,List.length_singleton] at hk
  rw [rowV_snoc]
  by_cases c:k<us.length
  ·rw [if_pos c];exact h2.2.1 k c e2
  ·rw [if_neg c,if_pos (by omega)]
   exact hr.low hbase
 ·rw [List.length_append,List.length_singleton] at hl
  rw [rowV_snoc,rowV_snoc,if_pos (show k<us.length by omega)]
  by_cases c:l<us.length
  ·rw [if_pos c];exact h.2.2 k l hkl c e1 e2
  ·rw [if_neg c,if_pos (by omega)]
   intro g g1 g2;have:=((h.2.1 k (by omega) e1).lt g g1).2;have:=(hr.lt g g2).1;omega
def AreSl (vs:List Value):Prop:=∀ i,i<vs.length->∃ a n c,rowV vs i=Value.slice a n c
theorem OwnC.isSl {w:World} {base:Nat} {v:Value} {xs:List Ce} (h:OwnC w base v xs):∃ a n c,v=Value.slice a n c:=by
 rcases h.shape with ⟨h,_⟩|⟨_,_,h,_⟩<;>exact ⟨_,_,_,h⟩
theorem OwnV.areSl {w:World} {base B:Nat} {v:Value} {vs:List Value} {rows:List (List Ce)} (h:OwnV w base B v vs rows):AreSl vs:=fun i hi=>(h.2.2.1 i (by rw [<- h.1];exact hi)).isSl
theorem Gat.areSl {w:World} {base:Nat} {vs:List Value} {X:List Ce} {σ:Nat->Option Nat} {us:List Value} (h:Gat w base vs X σ us) (hv:AreSl vs) (hp:∀ k p,k<us.length->σ k=some p->p<vs.length):AreSl us:=fun k hk=>by
 cases e:σ k with
 | none=>exact (h.2.1 k hk e).isSl
 | some p=>rw [h.1 k p hk e];exact hv p (hp k p hk e)
theorem append_ov {w:World} {ops:Array Oper} {rest:List Oper} {o:Oper} {ac:Act} {Q:Exit->Act->World->Prop} (hgd:o.guard=none) (s x:Operand)
  (ho:o.op=.call { callee:=.builtin .append,args:=#[s,x],argTypes:=#[24,24] })
  (base n:Nat) (v:Value) (us:List Value) (r:Value) (hs:ac.eval s=v) (k:w.ownsRow base 120 1 v n us) (hr:∃ a n c,r=Value.slice a n c) (hb:base<=w.heap.size) (hl:n<2000000)
  (g:Nat) (hg0:w.heap.size=g) (hx:ac.eval x=.slice (some ⟨g,0,none⟩) 1 1)
  (h:∀ v' w',w'.ownsRow base 120 1 v' (n+1) (us++[r])->(w.alloc (.cells #[r] 120)).grownBy w' v.ownBlock->wpList Tryz.prog ops Q rest (ac.put o.dst v') w') :
  wpList Tryz.prog ops Q (o::rest) ac (w.alloc (.cells #[r] 120)):=by
 subst hg0;obtain ⟨i0,hi,hz0,hz1,hz2⟩:=info_parts info_row;have hba:=bal' w (Obj.cells #[r] 120);have hown2:=World.ownsRow.below k hba;obtain ⟨ra,rn,rc,rfl⟩:=hr;refine wpList_append_own _ hgd s x _ ho base 120 i0 (.slice none 0 0) 1 24 under_rows hi hz0 hz1 hz2 rfl (by decide) v n us hs hown2 ⟨w.heap.size,0,none⟩ 1 1 [_] hx rfl ?_ ?_ (by unfold maxLen;omega) (by omega) (by simp;omega) (fun v' w' ho' hg' _=>h v' w' ho' hg')
 ·intro j u hj
  match j,hj with
  | 0,hj=>simp at hj;subst hj;simp [Addr.add,go_sem]
 ·intro u hu
  simp at hu;subst hu
  rfl
theorem step_append_ov {w:World} {ops:Array Oper} {o:Oper} {ac:Act} {K:Act->World->Prop} {Q:Exit->Act->World->Prop} {E:Prop} (hgd:o.guard=none) (s x:Operand)
  (ho:o.op=.call { callee:=.builtin .append,args:=#[s,x],argTypes:=#[24,24] })
  (base n:Nat) (v:Value) (us:List Value) (r:Value) (hs:ac.eval s=v) (k:w.ownsRow base 120 1 v n us) (hr:∃ a n c,r=Value.slice a n c) (hb:base<=w.heap.size) (hl:n<2000000)
  (g:Nat) (hg0:w.heap.size=g) (hx:ac.eval x=.slice (some ⟨g,0,none⟩) 1 1)
  (h:∀ v' w',w'.ownsRow base 120 1 v' (n+1) (us++[r])->(w.alloc (.cells #[r] 120)).grownBy w' v.ownBlock->K (ac.put o.dst v') w') :
  if Region.wanted o (yielded ops ac.tmps)=true then Oper.wp Tryz.prog o ac (w.alloc (.cells #[r] 120)) K Q else E:=by
 have hw:Region.wanted o (yielded ops ac.tmps)=true:=by simp [Region.wanted,hgd]
 rw [if_pos hw]
 subst hg0;obtain ⟨i0,hi,hz0,hz1,hz2⟩:=info_parts info_row;have hba:=bal' w (Obj.cells #[r] 120);have hown2:=World.ownsRow.below k hba;obtain ⟨ra,rn,rc,rfl⟩:=hr;refine wp_append_own _ s x _ ho base 120 i0 (.slice none 0 0) 1 24 under_rows hi hz0 hz1 hz2 rfl (by decide) v n us hs hown2 ⟨w.heap.size,0,none⟩ 1 1 [_] hx rfl ?_ ?_ (by unfold maxLen;omega) (by omega) (by simp;omega) (fun v' w' ho' hg' _=>h v' w' ho' hg')
 ·intro j u hj
  match j,hj with
  | 0,hj=>simp at hj;subst hj;simp [Addr.add,go_sem]
 ·intro u hu
  simp at hu;subst hu
  rfl
end Go.Proofs.YtgcnmjjlmcnllaaGreatDoor
