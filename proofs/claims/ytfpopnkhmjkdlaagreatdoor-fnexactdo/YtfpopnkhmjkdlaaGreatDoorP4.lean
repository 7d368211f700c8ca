import Derived.Test.YtfpopnkhmjkdlaaGreatDoorP2
import Derived.Test.YtfpopnkhmjkdlaaGreatDoorP3
import Derived.LoopTactic
import Derived.Maps.OwnSet
set_option maxRecDepth 20000
set_option maxHeartbeats 16000000
namespace Go.Proofs.YtfpopnkhmjkdlaaGreatDoor
open Go.ChangeShapes Go.WideShapes Go.ChangeAt Go.RowKit
def Xw (vs:List Value) (i:Nat):Value:=vs.getD i (.slice none 0 0)
def Xb (rows:List (List Ce)) (i:Nat):List Ce:=rows.getD i []
theorem UH {vs:List Value} {i:Nat} (h:i<vs.length):Xw vs i=vs[i]:=by simp [Xw,List.getD,h]
theorem Zd {rows:List (List Ce)} {i:Nat} (h:i<rows.length):Xb rows i=rows[i]:=by simp [Xb,List.getD,h]
theorem ZP {vs:List Value} {i:Nat} (h:i<vs.length):vs[i]?=some (Xw vs i):=by rw [UH h];exact List.getElem?_eq_getElem h
theorem YD (vs:List Value) (r:Value) (i:Nat):Xw (vs++[r]) i=if i<vs.length then Xw vs i else if i=vs.length then r else .slice none 0 0:=by
 unfold Xw
 by_cases h:i<vs.length
 ·rw [if_pos h];simp [List.getD,List.getElem?_append_left h]
 ·rw [if_neg h]
  by_cases e:i=vs.length
  ·rw [if_pos e,e];simp [List.getD]
  ·rw [if_neg e]
   have:(vs++[r])[i]?=none:=List.getElem?_eq_none (by simp;omega);simp [List.getD,this]
theorem Xfm (rows:List (List Ce)) (x:List Ce) (i:Nat):Xb (rows++[x]) i=if i<rows.length then Xb rows i else if i=rows.length then x else []:=by
 unfold Xb
 by_cases h:i<rows.length
 ·rw [if_pos h];simp [List.getD,List.getElem?_append_left h]
 ·rw [if_neg h]
  by_cases e:i=rows.length
  ·rw [if_pos e,e];simp [List.getD]
  ·rw [if_neg e]
   have:(rows++[x])[i]?=none:=List.getElem?_eq_none (by simp;omega);simp [List.getD,this]
def SlG (w:World) (v:Value) (rows:List (List Ce)):Prop :=
 ∃ a c vs,v=.slice a rows.length c/\rows.length<=c/\(a=none->c=0)/\(rows=[]\/∃ b off,a=some ⟨b,off,none⟩/\b<w.heap.size/\∀ i,i<rows.length->w.cell? ⟨b,off+i,none⟩=some (Xw vs i))/\∀ i,i<rows.length->SlC w (Xw vs i) (Xb rows i)
theorem SlG.below {w w':World} {v:Value} {rows:List (List Ce)} (h:SlG w v rows) (hb:Below w.heap.size w w'):SlG w' v rows:=by
 obtain ⟨a,c,vs,hv,hc,hn,hr,hs⟩:=h;refine ⟨a,c,vs,hv,hc,hn,?_,fun i hi=>(hs i hi).below hb⟩;rcases hr with hr|⟨b,off,ha,hlt,hi⟩
 ·exact .inl hr
 ·exact .inr ⟨b,off,ha,Nat.lt_of_lt_of_le hlt hb.size,fun i h=>(hb.cell (p:=⟨b,off+i,none⟩) hlt).trans (hi i h)⟩
def Yu (w:World) (base B:Nat) (v:Value) (rows:List (List Ce)):Prop :=
 ∃ vs:List Value,vs.length=rows.length/\w.ownsRow base 120 1 v rows.length vs/\(∀ i,i<rows.length->Xl w base (Xw vs i) (Xb rows i)) /\
  (∀ i,i<rows.length->∀ g,(Xw vs i).ownBlock=some g->g<B)/\(∀ i j,i<j->j<rows.length->∀ g,(Xw vs i).ownBlock=some g->(Xw vs j).ownBlock≠some g)
theorem Yu.below {w w':World} {base B:Nat} {v:Value} {rows:List (List Ce)} (h:Yu w base B v rows) (hb:Below w.heap.size w w'):Yu w' base B v rows:=by
 obtain ⟨vs,hl,ho,hr,hB,hd⟩:=h;exact ⟨vs,hl,World.ownsRow.below ho hb,fun i hi=>(hr i hi).below hb,hB,hd⟩
theorem Yu.low {w:World} {base base' B:Nat} {v:Value} {rows:List (List Ce)} (h:Yu w base B v rows) (hb:base'<=base):Yu w base' B v rows:=by
 obtain ⟨vs,hl,ho,hr,hB,hd⟩:=h;refine ⟨vs,hl,⟨ho.1,?_⟩,fun i hi=>(hr i hi).low hb,hB,hd⟩;rcases ho.2 with h2|⟨g,cap,cur,hv,hbg,r⟩
 ·exact .inl h2
 ·exact .inr ⟨g,cap,cur,hv,Nat.le_trans hb hbg,r⟩
theorem ZY (w:World) (base B:Nat):Yu w base B (.slice none 0 0) [] :=
 ⟨[],rfl,⟨rfl,.inl ⟨rfl,rfl⟩⟩,fun i h=>absurd h (Nat.not_lt_zero i),fun i h=>absurd h (Nat.not_lt_zero i),fun _ j _ h=>absurd h (Nat.not_lt_zero j)⟩
theorem Yu.shape {w:World} {base B:Nat} {v:Value} {rows:List (List Ce)} (h:Yu w base B v rows):(v=.slice none 0 0/\rows=[])\/∃ g cap,v=.slice (some ⟨g,0,none⟩) rows.length cap/\base<=g/\g<w.heap.size/\rows.length<=cap:=by
 obtain ⟨vs,hl,ho,_⟩:=h;rcases ho.2 with ⟨h1,h2⟩|⟨g,cap,cur,hv,hb,hg,hn,_⟩
 ·exact .inl ⟨h1,List.eq_nil_of_length_eq_zero h2⟩
 ·exact .inr ⟨g,cap,hv,hb,(Array.getElem?_eq_some_iff.1 hg).1,hn⟩
theorem SlG.of_own {w:World} {base B:Nat} {v:Value} {rows:List (List Ce)} (h:Yu w base B v rows):SlG w v rows:=by
 obtain ⟨vs,hl,ho,hr,hB,hd⟩:=h;rcases ho.2 with ⟨h1,h2⟩|⟨g,cap,cur,hv,hb,hg,hn,_,_,ht⟩
 ·have:rows=[]:=List.eq_nil_of_length_eq_zero h2
  subst this;exact ⟨none,0,vs,h1,Nat.le_refl _,fun _=>rfl,.inl rfl,fun i hi=>absurd hi (Nat.not_lt_zero i)⟩
 ·subst hv
  refine ⟨_,cap,vs,rfl,hn,(fun e=>by cases e),.inr ⟨g,0,rfl,(Array.getElem?_eq_some_iff.1 hg).1,fun i hi=>?_⟩,fun i hi=>SlC.of_own (hr i hi)⟩;rw [Nat.zero_add,World.ownsRow.cellAt ho i (by omega),ZP (by omega)]
theorem YG {w:World} {base base' n:Nat} {v r:Value} {vs:List Value} {xs:List Ce} (ho:w.ownsRow base 120 1 v n vs) (hr:Xl w base' r xs):r.ownBlock=none\/r.ownBlock≠v.ownBlock:=by
 rcases ho.2 with ⟨h1,_⟩|⟨g,cap,cur,hv,_,hg,_⟩
 ·cases hb:r.ownBlock with
  | none=>exact .inl rfl
  | some q=>right;rw [h1];simp [Value.ownBlock]
 ·rcases hr.2 with ⟨h1,_⟩|⟨g',cap',cur',hv',_,hg',_⟩
  ·left;rw [h1];rfl
  ·right
   rw [hv,hv']
   intro e;simp only [Value.ownBlock,Option.some.injEq] at e;subst e;rw [hg] at hg'
   simp only [Option.some.injEq,Obj.cells.injEq] at hg';exact absurd hg'.2.1 (by decide)
theorem Xl.kept {w w':World} {base:Nat} {r:Value} {xs:List Ce} {row:Option Nat} (h:Xl w base r xs) (hg:w.grownBy w' row) (hne:r.ownBlock=none\/r.ownBlock≠row):Xl w' base r xs:=World.ownsRow.kept (show w.ownsRow _ _ _ _ _ _ from h) hg hne
theorem Z4:(Tryz.prog.info? 120).map (fun i=>(i.zero,i.size,i.bytes))=some (some (.slice none 0 0),1,24):=by kernel_rfl
theorem Jq:Tryz.prog.underlying 24=some (.slice 120):=by kernel_rfl
theorem XgL {w w':World} {base B:Nat} {v v':Value} {rows:List (List Ce)} {vs:List Value} {r:Value} {xs:List Ce} (hvl:vs.length=rows.length) (hown:w.ownsRow base 120 1 v rows.length vs)
  (hrs:∀ i,i<rows.length->Xl w base (Xw vs i) (Xb rows i)) (hlt:∀ i,i<rows.length->∀ g,(Xw vs i).ownBlock=some g->g<B) (hd:∀ i j,i<j->j<rows.length->∀ g,(Xw vs i).ownBlock=some g->(Xw vs j).ownBlock≠some g)
  (hr:Xl w base r xs) (hB:∀ g,r.ownBlock=some g->B<=g) (ho':w'.ownsRow base 120 1 v' (rows.length+1) (vs++[r])) (hg':w.grownBy w' v.ownBlock):Yu w' base w'.heap.size v' (rows++[xs]):=by
 have hs2:=hg'.size;refine ⟨vs++[r],by simp [hvl],by simpa using ho',fun i hi=>?_,fun i hi g e=>?_,fun i j hij hj g e=>?_⟩
 ·rw [List.length_append,List.length_singleton] at hi
  rw [YD,Xfm,hvl]
  by_cases c:i<rows.length
  ·rw [if_pos c,if_pos c]
   exact (hrs i c).kept hg' (YG hown (hrs i c))
  ·have e:i=rows.length:=by omega
   rw [if_neg c,if_neg c,if_pos e,if_pos e]
   exact hr.kept hg' (YG hown hr)
 ·rw [List.length_append,List.length_singleton] at hi
  rw [YD,hvl] at e
  by_cases c:i<rows.length
  ·rw [if_pos c] at e
   have:=((hrs i c).lt g e).2;omega
  ·rw [if_neg c,if_pos (by omega)] at e
   have:=(hr.lt g e).2;omega
 ·rw [List.length_append,List.length_singleton] at hj
  rw [YD,hvl,if_pos (by omega)] at e
  rw [YD,hvl]
  by_cases c:j<rows.length
  ·rw [if_pos c];exact hd i j hij c g e
  ·rw [if_neg c,if_pos (by omega)]
   intro e2;have h1:=hlt i (by omega) g e;have h2:=hB g e2;omega
theorem SlI.cons {w:World} {v:Value} {xs:List Int} (h:SlI w v xs):∃ a c,v=.slice a xs.length c/\∀ j,j<xs.length->∃ b off,a=some ⟨b,off,none⟩/\w.cell? ⟨b,off+j,none⟩=some (.int .i64 (xs.getD j 0)):=by
 obtain ⟨a,c,hv,h|⟨b,off,ha,hlt,hc⟩⟩:=h
 ·exact ⟨a,c,hv,fun j hj=>by rw [h] at hj;simp at hj⟩
 ·exact ⟨a,c,hv,fun j hj=>⟨b,off,ha,hc j hj⟩⟩
theorem SlI.shp {w:World} {v:Value} {xs:List Int} (h:SlI w v xs):∃ a c,v=.slice a xs.length c:=by
 obtain ⟨a,c,hv,_⟩:=h;exact ⟨a,c,hv⟩
theorem Zh (v:Value) (xs:List Int) (most:Nat) (w:World) (hv:SlI w v xs) (_hl:xs.length<=1073741824) (_hm:most<=1073741824) :
  Calls Tryz.prog 75 #[v,.int .i64 most] w fun e w'=>e=.returned (.bool (decide (xs.length<=most) && XZ xs))/\w'=w:=by
 obtain ⟨a,c,rfl,hc⟩:=hv.cons;clear hv
 by_cases h:most<xs.length
 ·have hi:(most:Int)<(xs.length:Int):=by omega
  have hV:Hid ((decide (xs.length<=most) && XZ xs)=false):=by show _=_;rw [decide_eq_false (by omega),Bool.false_and]
  clear hc;go_enter Tryz.func75,Tryz.ntmps75;go_wp2;go_ret;exact ⟨by rw [hV.out];rfl,rfl⟩
 ·have hi:¬ (most:Int)<(xs.length:Int):=by omega
  have hV:Hid ((decide (xs.length<=most) && XZ xs)=XZ xs):=by show _=_;rw [decide_eq_true (by omega),Bool.true_and]
  rw [hV.out]
  clear hV;go_enter Tryz.func75,Tryz.ntmps75;go_wp2;go_loop [5] (fun i=>∃ j:Nat,i=.int .i64 j/\j<=xs.length/\Hid (∀ k,k<j->Xh (xs.getD k 0)=true)) (fun i=>xs.length-(intOf i).toNat)
  case atStart=>exact ⟨0,rfl,Nat.zero_le _,(fun k hk=>absurd hk (Nat.not_lt_zero k))⟩
  case round =>
   obtain ⟨j,rfl,hj,hall⟩:=hrel
   by_cases hlt:j<xs.length
   ·have hji:(j:Int)<(xs.length:Int):=by omega
    have hj0:(0:Int)<=(j:Int):=by omega
    obtain ⟨b,off,rfl,hcj⟩:=hc j hlt;have hno:Xh (xs.getD j 0)=false->Hid (XZ xs=false):=fun h=>Xa2 j hlt h
    have hstep:Xh (xs.getD j 0)=true->Hid (∀ k,k<j+1->Xh (xs.getD k 0)=true):=fun h=>(show ∀ k,k<j+1->Xh (xs.getD k 0)=true from fun k hk=>by
     by_cases e:k=j
     ·rw [e];exact h
     ·exact hall.out k (by omega))
    have hok:=Yb (xs.getD j 0) w;clear hc hall;generalize xs.getD j 0=x at *;generalize Xh x=ok at *;go_wp2_with fail;refine hok.mono ?_;rintro e w2 ⟨rfl,hw⟩;subst hw;clear hok
    cases ok
    ·have hV:=hno rfl
     clear hno hstep;go_wp2;go_ret;exact ⟨by rw [hV.out];rfl,rfl⟩
    ·have hall2:=hstep rfl
     clear hno hstep;go_wp2;go_round
     case rel=>exact ⟨j+1,by go_num,by omega,hall2⟩
     case measure=>simp [intOf];omega
   ·have hjn:j=xs.length:=by omega
    have hji:¬ (j:Int)<(xs.length:Int):=by omega
    have hV:Hid (XZ xs=true):=Xae (by rw [<- hjn];exact hall.out);clear hc hall;subst hjn;go_wp2;go_ret;exact ⟨by rw [hV.out];rfl,rfl⟩
theorem Qu (s:Int) (ps ts:List Int) (pv tv:Value) (w:World) (hp:SlI w pv ps) (ht:SlI w tv ts) (hpl:ps.length<=1073741824) (htl:ts.length<=1073741824)
  (h1a:1<=s) (h1b:s<=5) (h2:ps.length<=16) (hrt:(decide (ts.length<=40) && XZ ts)=true) :
  Calls Tryz.prog 76 #[paV ⟨s,ps,0,ts⟩ pv tv] w fun e w'=>e=.returned (.bool (XX ps && (decide (s=3) || decide (ps.length=0) && decide ((0:Int)=0)) && (decide (4<=s) || decide (ts.length=0))))/\Below w.heap.size w w':=by
 have hb0:=Xd w (Obj.cells #[.int .i64 s,pv,.int .i64 0,tv] 31);have hP:=PaC.new w s 0 pv tv 31;have hp1:=hp.below hb0;have ht1:=ht.below hb0;have hR1:=Zh tv ts 40 _ ht1 htl (by decide);rw [hrt] at hR1
 obtain ⟨pa,pc,rfl,hpc⟩:=hp1.cons;obtain ⟨ta,tc,rfl⟩:=ht1.shp;have h2i:¬ (16:Int)<(ps.length:Int):=by omega
 obtain ⟨rv,hrv⟩:∃ rv,Hid (rv=(XX ps && (decide (s=3) || decide (ps.length=0) && decide ((0:Int)=0)) && (decide (4<=s) || decide (ts.length=0)))):=⟨_,rfl⟩;rw [<- hrv.out]
 unfold paV;obtain ⟨_,⟨c0,c1,c2,c3⟩,_⟩:=id hP;clear hP hp ht hp1 ht1 hrt hpl htl;go_enter Tryz.func76,Tryz.ntmps76;go_wp2_with (first|(go_at_call 73;refine (XQ _ _ _ _).mono ?_;rintro e w' ⟨rfl,rfl⟩)|(go_at_call 75;refine hR1.mono ?_;rintro e w' ⟨rfl,rfl⟩));clear hR1;go_loop [3] (fun i=>∃ j:Nat,i=.int .i64 j/\j<=ps.length/\Hid (∀ k,k<j->0<=ps.getD k 0/\ps.getD k 0<=9999)) (fun i=>ps.length-(intOf i).toNat)
 case atStart=>exact ⟨0,rfl,Nat.zero_le _,(fun k hk=>absurd hk (Nat.not_lt_zero k))⟩
 case round =>
  obtain ⟨j,rfl,hj,hall⟩:=hrel
  by_cases hlt:j<ps.length
  ·have hji:(j:Int)<(ps.length:Int):=by omega
   have hj0:(0:Int)<=(j:Int):=by omega
   obtain ⟨b,off,rfl,hcj⟩:=hpc j hlt;have hno:¬ (0<=ps.getD j 0/\ps.getD j 0<=9999)->Hid (XX ps=false):=fun h=>KD j hlt h
   have hstep:(0<=ps.getD j 0/\ps.getD j 0<=9999)->Hid (∀ k,k<j+1->0<=ps.getD k 0/\ps.getD k 0<=9999):=fun h=>(show ∀ k,k<j+1->0<=ps.getD k 0/\ps.getD k 0<=9999 from fun k hk=>by
    by_cases e:k=j
    ·rw [e];exact h
    ·exact hall.out k (by omega))
   have hin:=fun W=>XQ (ps.getD j 0) 0 9999 W
   clear hpc hall;generalize ps.getD j 0=x at *
   by_cases hx:0<=x/\x<=9999
   ·have hall2:=hstep hx
    rw [decide_eq_true hx] at hin
    clear hno hstep hx;go_wp2_with (go_at_call 73;refine (hin _).mono ?_;rintro e w' ⟨rfl,rfl⟩);go_round
    case rel=>exact ⟨j+1,by go_num,by omega,hall2⟩
    case measure=>simp [intOf];omega
   ·have hV:Hid (rv=false):=by show _=_;rw [hrv.out,(hno hx).out,Bool.false_and,Bool.false_and]
    rw [decide_eq_false hx] at hin
    clear hno hstep hx;go_wp2_with (go_at_call 73;refine (hin _).mono ?_;rintro e w' ⟨rfl,rfl⟩);go_ret;exact ⟨by rw [hV.out];rfl,hb0⟩
  ·have hjn:j=ps.length:=by omega
   have hji:¬ (j:Int)<(ps.length:Int):=by omega
   have hV:Hid (XX ps=true):=Z6 (by rw [<- hjn];exact hall.out);have hr1:Hid (rv=((decide (s=3) || decide (ps.length=0) && decide ((0:Int)=0)) && (decide (4<=s) || decide (ts.length=0)))):=by show _=_;rw [hrv.out,hV.out,Bool.true_and];try simp
   clear hpc hall hjn hrv hV;generalize ps.length=np at *;generalize ts.length=nt at *
   by_cases q1:s=3
   ·subst q1
    by_cases q3:nt=0
    ·subst q3
     have hv:Hid (rv=true):=by show _=_;rw [hr1.out];rfl
     clear hr1;go_wp2;go_ret;exact ⟨by rw [hv.out];first|rfl|simp [*],hb0⟩
    ·have q3i:((nt:Int)==0)=false:=by simp;omega
     have hv:Hid (rv=false):=by show _=_;rw [hr1.out,decide_eq_false q3];rfl
     clear hr1 q3;go_wp2;go_ret;exact ⟨by rw [hv.out];first|rfl|simp [*],hb0⟩
   ·have q1i:(s==3)=false:=by simp [q1]
    have hr2:Hid (rv=((decide (np=0) && decide ((0:Int)=0)) && (decide (4<=s) || decide (nt=0)))):=by show _=_;rw [hr1.out,decide_eq_false q1,Bool.false_or]
    clear hr1 q1
    by_cases q2:np=0
    ·subst q2
     by_cases q4:4<=s
     ·have hv:Hid (rv=decide ((0:Int)=0)):=by show _=_;rw [hr2.out,decide_eq_true q4];rfl
      clear hr2;go_wp2;go_ret;exact ⟨by rw [hv.out];first|rfl|simp [*],hb0⟩
     ·have q4i:s<4:=by omega
      have q4b:decide (4<=s)=false:=decide_eq_false q4
      by_cases q3:nt=0
      ·subst q3
       have hv:Hid (rv=decide ((0:Int)=0)):=by show _=_;rw [hr2.out,decide_eq_false q4];rfl
       clear hr2 q4;go_wp2;go_ret;exact ⟨by rw [hv.out];first|rfl|simp [*],hb0⟩
      ·have q3i:((nt:Int)==0)=false:=by simp;omega
       have hv:Hid (rv=false):=by show _=_;rw [hr2.out,decide_eq_false q4,decide_eq_false q3];rfl
       clear hr2 q3 q4;go_wp2;go_ret;exact ⟨by rw [hv.out];first|rfl|simp [*],hb0⟩
    ·have q2i:((np:Int)==0)=false:=by simp;omega
     have hv:Hid (rv=false):=by show _=_;rw [hr2.out,decide_eq_false q2];rfl
     clear hr2 q2
     by_cases q4:4<=s
     ·go_wp2
      go_ret;exact ⟨by rw [hv.out];first|rfl|simp [*],hb0⟩
     ·have q4i:s<4:=by omega
      have q4b:decide (4<=s)=false:=decide_eq_false q4
      by_cases q3:nt=0
      ·subst q3
       go_wp2;go_ret;exact ⟨by rw [hv.out];first|rfl|simp [*],hb0⟩
      ·have q3i:((nt:Int)==0)=false:=by simp;omega
       clear q3;go_wp2;go_ret;exact ⟨by rw [hv.out];first|rfl|simp [*],hb0⟩
theorem U5 (s:Int) (ps ts:List Int) (pv tv:Value) (w:World) (hp:SlI w pv ps) (ht:SlI w tv ts) (hpl:ps.length<=1073741824) (htl:ts.length<=1073741824)
  (h1a:1<=s) (h1b:s<=5) (h2:ps.length<=16) (hrt:(decide (ts.length<=40) && XZ ts)=true) :
  Calls Tryz.prog 76 #[paV ⟨s,ps,63,ts⟩ pv tv] w fun e w'=>e=.returned (.bool (XX ps && (decide (s=3) || decide (ps.length=0) && decide ((63:Int)=0)) && (decide (4<=s) || decide (ts.length=0))))/\Below w.heap.size w w':=by
 have hb0:=Xd w (Obj.cells #[.int .i64 s,pv,.int .i64 63,tv] 31);have hP:=PaC.new w s 63 pv tv 31;have hp1:=hp.below hb0;have ht1:=ht.below hb0;have hR1:=Zh tv ts 40 _ ht1 htl (by decide);rw [hrt] at hR1
 obtain ⟨pa,pc,rfl,hpc⟩:=hp1.cons;obtain ⟨ta,tc,rfl⟩:=ht1.shp;have h2i:¬ (16:Int)<(ps.length:Int):=by omega
 obtain ⟨rv,hrv⟩:∃ rv,Hid (rv=(XX ps && (decide (s=3) || decide (ps.length=0) && decide ((63:Int)=0)) && (decide (4<=s) || decide (ts.length=0)))):=⟨_,rfl⟩;rw [<- hrv.out]
 unfold paV;obtain ⟨_,⟨c0,c1,c2,c3⟩,_⟩:=id hP;clear hP hp ht hp1 ht1 hrt hpl htl;go_enter Tryz.func76,Tryz.ntmps76;go_wp2_with (first|(go_at_call 73;refine (XQ _ _ _ _).mono ?_;rintro e w' ⟨rfl,rfl⟩)|(go_at_call 75;refine hR1.mono ?_;rintro e w' ⟨rfl,rfl⟩));clear hR1;go_loop [3] (fun i=>∃ j:Nat,i=.int .i64 j/\j<=ps.length/\Hid (∀ k,k<j->0<=ps.getD k 0/\ps.getD k 0<=9999)) (fun i=>ps.length-(intOf i).toNat)
 case atStart=>exact ⟨0,rfl,Nat.zero_le _,(fun k hk=>absurd hk (Nat.not_lt_zero k))⟩
 case round =>
  obtain ⟨j,rfl,hj,hall⟩:=hrel
  by_cases hlt:j<ps.length
  ·have hji:(j:Int)<(ps.length:Int):=by omega
   have hj0:(0:Int)<=(j:Int):=by omega
   obtain ⟨b,off,rfl,hcj⟩:=hpc j hlt;have hno:¬ (0<=ps.getD j 0/\ps.getD j 0<=9999)->Hid (XX ps=false):=fun h=>KD j hlt h
   have hstep:(0<=ps.getD j 0/\ps.getD j 0<=9999)->Hid (∀ k,k<j+1->0<=ps.getD k 0/\ps.getD k 0<=9999):=fun h=>(show ∀ k,k<j+1->0<=ps.getD k 0/\ps.getD k 0<=9999 from fun k hk=>by
    by_cases e:k=j
    ·rw [e];exact h
    ·exact hall.out k (by omega))
   have hin:=fun W=>XQ (ps.getD j 0) 0 9999 W
   clear hpc hall;generalize ps.getD j 0=x at *
   by_cases hx:0<=x/\x<=9999
   ·have hall2:=hstep hx
    rw [decide_eq_true hx] at hin
    clear hno hstep hx;go_wp2_with (go_at_call 73;refine (hin _).mono ?_;rintro e w' ⟨rfl,rfl⟩);go_round
    case rel=>exact ⟨j+1,by go_num,by omega,hall2⟩
    case measure=>simp [intOf];omega
   ·have hV:Hid (rv=false):=by show _=_;rw [hrv.out,(hno hx).out,Bool.false_and,Bool.false_and]
    rw [decide_eq_false hx] at hin
    clear hno hstep hx;go_wp2_with (go_at_call 73;refine (hin _).mono ?_;rintro e w' ⟨rfl,rfl⟩);go_ret;exact ⟨by rw [hV.out];rfl,hb0⟩
  ·have hjn:j=ps.length:=by omega
   have hji:¬ (j:Int)<(ps.length:Int):=by omega
   have hV:Hid (XX ps=true):=Z6 (by rw [<- hjn];exact hall.out);have hr1:Hid (rv=((decide (s=3) || decide (ps.length=0) && decide ((63:Int)=0)) && (decide (4<=s) || decide (ts.length=0)))):=by show _=_;rw [hrv.out,hV.out,Bool.true_and];try simp
   clear hpc hall hjn hrv hV;generalize ps.length=np at *;generalize ts.length=nt at *
   by_cases q1:s=3
   ·subst q1
    by_cases q3:nt=0
    ·subst q3
     have hv:Hid (rv=true):=by show _=_;rw [hr1.out];rfl
     clear hr1;go_wp2;go_ret;exact ⟨by rw [hv.out];first|rfl|simp [*],hb0⟩
    ·have q3i:((nt:Int)==0)=false:=by simp;omega
     have hv:Hid (rv=false):=by show _=_;rw [hr1.out,decide_eq_false q3];rfl
     clear hr1 q3;go_wp2;go_ret;exact ⟨by rw [hv.out];first|rfl|simp [*],hb0⟩
   ·have q1i:(s==3)=false:=by simp [q1]
    have hr2:Hid (rv=((decide (np=0) && decide ((63:Int)=0)) && (decide (4<=s) || decide (nt=0)))):=by show _=_;rw [hr1.out,decide_eq_false q1,Bool.false_or]
    clear hr1 q1
    by_cases q2:np=0
    ·subst q2
     by_cases q4:4<=s
     ·have hv:Hid (rv=decide ((63:Int)=0)):=by show _=_;rw [hr2.out,decide_eq_true q4];rfl
      clear hr2;go_wp2;go_ret;exact ⟨by rw [hv.out];first|rfl|simp [*],hb0⟩
     ·have q4i:s<4:=by omega
      have q4b:decide (4<=s)=false:=decide_eq_false q4
      by_cases q3:nt=0
      ·subst q3
       have hv:Hid (rv=decide ((63:Int)=0)):=by show _=_;rw [hr2.out,decide_eq_false q4];rfl
       clear hr2 q4;go_wp2;go_ret;exact ⟨by rw [hv.out];first|rfl|simp [*],hb0⟩
      ·have q3i:((nt:Int)==0)=false:=by simp;omega
       have hv:Hid (rv=false):=by show _=_;rw [hr2.out,decide_eq_false q4,decide_eq_false q3];rfl
       clear hr2 q3 q4;go_wp2;go_ret;exact ⟨by rw [hv.out];first|rfl|simp [*],hb0⟩
    ·have q2i:((np:Int)==0)=false:=by simp;omega
     have hv:Hid (rv=false):=by show _=_;rw [hr2.out,decide_eq_false q2];rfl
     clear hr2 q2
     by_cases q4:4<=s
     ·go_wp2
      go_ret;exact ⟨by rw [hv.out];first|rfl|simp [*],hb0⟩
     ·have q4i:s<4:=by omega
      have q4b:decide (4<=s)=false:=decide_eq_false q4
      by_cases q3:nt=0
      ·subst q3
       go_wp2;go_ret;exact ⟨by rw [hv.out];first|rfl|simp [*],hb0⟩
      ·have q3i:((nt:Int)==0)=false:=by simp;omega
       clear q3;go_wp2;go_ret;exact ⟨by rw [hv.out];first|rfl|simp [*],hb0⟩
theorem U4 (p:Pa) (pv tv:Value) (w:World) (hp:SlI w pv p.params) (ht:SlI w tv p.text) (hpl:p.params.length<=1073741824) (htl:p.text.length<=1073741824) :
  Calls Tryz.prog 76 #[paV p pv tv] w fun e w'=>e=.returned (.bool (okV p))/\Below w.heap.size w w':=by
 obtain ⟨s,ps,m,ts⟩:=p;have hb0:=Xd w (Obj.cells #[.int .i64 s,pv,.int .i64 m,tv] 31);have hP:=PaC.new w s m pv tv 31;have hp1:=hp.below hb0;have ht1:=ht.below hb0;have hR:=fun W h=>Zh tv ts 40 W h htl (by decide)
 obtain ⟨pa,pc,rfl,hpc⟩:=hp1.cons;obtain ⟨ta,tc,rfl⟩:=ht1.shp;simp only at *
 have hval:∀ b,b=(decide (1<=s/\s<=5) && decide (ps.length<=16) && decide (m=0\/m=63) && (decide (ts.length<=40) && XZ ts) && XX ps && (decide (s=3) || decide (ps.length=0) && decide (m=0)) && (decide (4<=s) || decide (ts.length=0)))->Hid (okV ⟨s,ps,m,ts⟩=b):=fun b h=>by
  show _=_
  rw [h]
  unfold okV;rw [Bool.eq_iff_iff]
  simp only [Bool.and_eq_true,Bool.or_eq_true,decide_eq_true_eq]
  constructor
  ·rintro ⟨⟨⟨a1,a2,a3,a4,a5,a6,a7⟩,a8⟩,a9⟩;exact ⟨⟨⟨⟨⟨⟨⟨a1,a2⟩,a3⟩,a4⟩,a5,a8⟩,a9⟩,a6⟩,a7⟩
  ·rintro ⟨⟨⟨⟨⟨⟨⟨a1,a2⟩,a3⟩,a4⟩,a5,a8⟩,a9⟩,a6⟩,a7⟩;exact ⟨⟨⟨a1,a2,a3,a4,a5,a6,a7⟩,a8⟩,a9⟩
 unfold paV at *;obtain ⟨_,⟨c0,c1,c2,c3⟩,_⟩:=id hP;clear hP hp1;have hR1:=hR _ ht1;clear hR ht1;generalize hrt0:(decide (ts.length<=40) && XZ ts)=rt at *
 by_cases h1:1<=s/\s<=5
 ·obtain ⟨h1a,h1b⟩:=h1
  by_cases h2:ps.length<=16
  ·have h2i:¬ (16:Int)<(ps.length:Int):=by omega
   by_cases h3:m=0\/m=63
   ·have hm:∃ x:Bool,(m != 0)=x:=⟨_,rfl⟩
    cases rt
    ·have hV:=hval false (by simp)
     clear hval hpc;go_enter Tryz.func76,Tryz.ntmps76;rcases h3 with rfl|rfl
     all_goals
      go_wp2_with (first|(go_at_call 73;refine (XQ _ _ _ _).mono ?_;rintro e w' ⟨rfl,rfl⟩)|(go_at_call 75;refine hR1.mono ?_;rintro e w' ⟨rfl,rfl⟩));go_ret;exact ⟨by rw [hV.out];rfl,hb0⟩
    ·have hv2:∀ b,b=(XX ps && (decide (s=3) || decide (ps.length=0) && decide (m=0)) && (decide (4<=s) || decide (ts.length=0)))->Hid (okV ⟨s,ps,m,ts⟩=b):=fun b h=>hval b (by rw [h,decide_eq_true (show 1<=s/\s<=5 from ⟨h1a,h1b⟩),decide_eq_true h2,decide_eq_true h3];try simp)
     have hrt:(decide (ts.length<=40) && XZ ts)=true:=hrt0.symm ▸ rfl;rcases h3 with rfl|rfl
     ·exact (Qu s ps ts _ _ w hp ht hpl htl h1a h1b h2 hrt).mono fun _ _ ⟨he,hb⟩=>⟨by rw [he,(hv2 _ rfl).out],hb⟩
     ·exact (U5 s ps ts _ _ w hp ht hpl htl h1a h1b h2 hrt).mono fun _ _ ⟨he,hb⟩=>⟨by rw [he,(hv2 _ rfl).out],hb⟩
   ·have hV:=hval false (by rw [decide_eq_false h3];simp)
    have h3a:¬ m=0:=fun e=>h3 (.inl e)
    have h3b:¬ m=63:=fun e=>h3 (.inr e)
    clear hval hpc h3;go_enter Tryz.func76,Tryz.ntmps76;go_wp2_with (go_at_call 73;refine (XQ _ _ _ _).mono ?_;rintro e w' ⟨rfl,rfl⟩)
    all_goals go_ret
    exact ⟨by rw [hV.out];rfl,hb0⟩
  ·have h2i:(16:Int)<(ps.length:Int):=by omega
   have hV:=hval false (by rw [decide_eq_false h2];simp);clear hval hpc;go_enter Tryz.func76,Tryz.ntmps76;go_wp2_with (go_at_call 73;refine (XQ _ _ _ _).mono ?_;rintro e w' ⟨rfl,rfl⟩);go_ret;exact ⟨by rw [hV.out];rfl,hb0⟩
 ·have hV:=hval false (by rw [decide_eq_false h1];simp)
  have h1i:Hid ((decide (1<=s/\s<=5))=false):=decide_eq_false h1;clear hval hpc;have hin:=fun W=>XQ s 1 5 W
  rw [h1i.out] at hin
  clear h1;go_enter Tryz.func76,Tryz.ntmps76;go_wp2_with (go_at_call 73;refine (hin _).mono ?_;rintro e w' ⟨rfl,rfl⟩);go_ret;exact ⟨by rw [hV.out];rfl,hb0⟩
end Go.Proofs.YtfpopnkhmjkdlaaGreatDoor
namespace Go.Proofs.YtfpopnkhmjkdlaaGreatDoor
def Xp (l:List Ce) (p:Nat):List Ce:=if (atC l p).part=2 then XI l (p-1) (p+1) (atC l p).st else l
theorem Xv (l:List Ce) (p:Nat):(Xp l p).length=l.length:=by unfold Xp;split;exact Xq _ _ _ _;rfl
theorem XK.two {l:List Ce} (h:XK l) {p:Nat} (h2:(atC l p).part=2):0<p/\p<l.length/\(atC l (p-1)).part=1/\(atC l p).st=(atC l (p-1)).st:=by
 have:=h.2.2 p h2;have h3:=(h.2.1 (p-1) this.2).2;rw [show p-1+1=p by omega] at h3
 exact ⟨this.1,Jk (by rw [h2];decide),this.2,h3⟩
theorem KE {l:List Ce} (h:XK l) (p i:Nat):atC (Xp l p) i=if (atC l p).part=2/\(i+1=p\/i=p) then Xz (atC l i).st else atC l i:=by
 unfold Xp
 by_cases h2:(atC l p).part=2
 ·obtain ⟨h0,hl,h1,hst⟩:=h.two h2
  rw [if_pos h2,Zq _ _ _ _ _ (by omega)]
  by_cases e:i+1=p\/i=p
  ·rw [if_pos (by omega),if_pos ⟨h2,e⟩]
   rcases e with e|e
   ·rw [hst,show p-1=i by omega]
   ·rw [e]
  ·rw [if_neg (by omega),if_neg (fun q=>e q.2)]
 ·rw [if_neg h2,if_neg (fun q=>h2 q.1)]
theorem Z7 {l:List Ce} (h:XK l) (p:Nat):XK (Xp l p):=by
 by_cases h2:(atC l p).part=2
 ·obtain ⟨h0,hl,hp,hst⟩:=h.two h2
  have e:=KE h p;refine ⟨fun i hi=>?_,fun i h1=>?_,fun i h1=>?_⟩
  ·rw [Xv] at hi
   rw [e]
   split
   ·exact Ur (h.1 i hi).1
   ·exact h.1 i hi
  ·rw [e] at h1
   split at h1
   ·exact absurd h1 (by simp [Xz])
   ·rename_i q
    have hq:¬ (i+1=p\/i=p):=fun c=>q ⟨h2,c⟩
    have:=h.2.1 i h1
    have hn:¬ ((atC l p).part=2/\(i+1+1=p\/i+1=p)):=by
     rintro ⟨_,c|c⟩
     ·have e1:p-1=i+1:=by omega
      rw [e1] at hp;rw [hp] at this;exact absurd this.1 (by decide)
     ·exact hq (.inl c)
    rw [e,e,if_neg hn,if_neg q]
    exact this
  ·rw [e] at h1
   split at h1
   ·exact absurd h1 (by simp [Xz])
   ·rename_i q
    have hq:¬ (i+1=p\/i=p):=fun c=>q ⟨h2,c⟩
    have:=h.2.2 i h1
    have hn:¬ ((atC l p).part=2/\(i-1+1=p\/i-1=p)):=by
     rintro ⟨_,c|c⟩
     ·exact hq (.inr (by omega))
     ·rw [c] at this;rw [h2] at this;exact absurd this.2 (by decide)
    rw [e,if_neg hn]
    exact this
 ·unfold Xp;rw [if_neg h2];exact h
theorem Xex {l:List Ce} (h:XK l) (a b:Nat) (s:St) (hab:a<b) (hb:b<=l.length):XI (Xp (Xp l a) b) a b s=XU l a b s:=by
 refine YF _ _ (by rw [Xq,Xv,Xv,X9]) fun i hi=>?_
 rw [Xq,Xv,Xv] at hi
 rw [Zq _ _ _ _ _ (by rw [Xv,Xv];exact hb),XU,Zk,Z5]
 by_cases hin:a<=i/\i<b
 ·rw [if_pos hin]
  have:¬ Yl (XI l a b s) i=true:=by
   rw [YK,Zq _ _ _ _ _ hb,if_pos hin];simp [Xz]
  rw [if_neg this,Zq _ _ _ _ _ hb,if_pos hin]
 ·rw [if_neg hin,KE (Z7 h a),KE h a b,KE h a i]
  have hF:=fun j=>Zq l a b s j hb
  have eb:¬ ((atC l a).part=2/\(b+1=a\/b=a)):=by omega
  rw [if_neg eb]
  have hal:Yl (XI l a b s) i=true ↔ (((atC l a).part=2/\i+1=a)\/((atC l b).part=2/\i=b)):=by
   rw [YK,hF i,if_neg hin]
   constructor
   ·rintro (⟨q1,q2⟩|⟨q1,q2⟩)
    ·left
     have:=(h.2.1 i q1).1;rw [hF] at q2
     by_cases c:a<=i+1/\i+1<b
     ·have:i+1=a:=by omega
      rw [<- this];exact ⟨(h.2.1 i q1).1,rfl⟩
     ·rw [if_neg c] at q2;exact absurd this q2
    ·right
     have:=h.2.2 i q1;rcases q2 with q2|q2
     ·omega
     ·rw [hF] at q2
      by_cases c:a<=i-1/\i-1<b
      ·have:i=b:=by omega
       rw [<- this];exact ⟨q1,rfl⟩
      ·rw [if_neg c] at q2;exact absurd this.2 q2
   ·rintro (⟨q1,q2⟩|⟨q1,q2⟩)
    ·left
     have:=h.two q1;have e:a-1=i:=by omega
     rw [e] at this
     refine ⟨this.2.2.1,?_⟩;rw [hF,if_pos (by omega)];simp [Xz]
    ·right
     rw [q2]
     refine ⟨q1,.inr ?_⟩;rw [hF,if_pos (by omega)];simp [Xz]
  by_cases ha:(((atC l a).part=2/\i+1=a)\/((atC l b).part=2/\i=b))
  ·rw [if_pos (hal.2 ha),hF i,if_neg hin]
   rcases ha with ⟨q1,q2⟩|⟨q1,q2⟩
   ·have c1:¬ ((atC l b).part=2/\(i+1=b\/i=b)):=by omega
    rw [if_neg c1,if_pos ⟨q1,.inl q2⟩]
   ·have c1:¬ ((atC l a).part=2/\(i+1=a\/i=a)):=by omega
    rw [if_pos ⟨q1,.inr q2⟩,if_neg c1]
  ·rw [if_neg (fun c=>ha (hal.1 c)),hF i,if_neg hin]
   have c1:¬ ((atC l b).part=2/\(i+1=b\/i=b)):=by
    rintro ⟨q1,q2⟩;apply ha;right;exact ⟨q1,by omega⟩
   have c2:¬ ((atC l a).part=2/\(i+1=a\/i=a)):=by
    rintro ⟨q1,q2⟩;apply ha;left;exact ⟨q1,by omega⟩
   rw [if_neg c1,if_neg c2]
theorem Ud {l:List Ce} (h:XK l) (a:Nat) (s:St):XU l a a s=l:=by rw [XU,JE,h.mend]
def XcA (l:List Ce) (q p n:Nat):List Ce:=XeE l.length fun i=>if q<=i/\i<q+n then atC l (p+(i-q)) else atC l i
theorem ZV (l:List Ce) (q p n:Nat):(XcA l q p n).length=l.length:=QK _ _
theorem JL (l:List Ce) (q p n i:Nat) (h:i<l.length):atC (XcA l q p n) i=if q<=i/\i<q+n then atC l (p+(i-q)) else atC l i:=Xd9 _ _ _ h
theorem XaY {l:List Ce} (h:XK l) (p q i:Nat) (hpq:p<=q) :
  atC (Xp (Xp l p) q) i=if ((atC l p).part=2/\(i+1=p\/i=p))\/((atC l q).part=2/\(i+1=q\/i=q)) then Xz (atC l i).st else atC l i:=by
 have hq:(atC (Xp l p) q).part=2 ↔ (atC l q).part=2/\¬ ((atC l p).part=2/\q=p):=by
  rw [KE h p q]
  by_cases c:(atC l p).part=2/\(q+1=p\/q=p)
  ·rw [if_pos c]
   constructor
   ·intro x;exact absurd x (by simp [Xz])
   ·intro x;exact absurd ⟨c.1,by omega⟩ x.2
  ·rw [if_neg c]
   constructor
   ·intro x;exact ⟨x,fun y=>c ⟨y.1,.inr y.2⟩⟩
   ·intro x;exact x.1
 rw [KE (Z7 h p) q i,KE h p i]
 by_cases c2:(atC (Xp l p) q).part=2/\(i+1=q\/i=q)
 ·have c3:((atC l p).part=2/\(i+1=p\/i=p))\/((atC l q).part=2/\(i+1=q\/i=q)):=.inr ⟨(hq.1 c2.1).1,c2.2⟩
  rw [if_pos c2,if_pos c3]
  split<;>rfl
 ·rw [if_neg c2]
  by_cases c1:(atC l p).part=2/\(i+1=p\/i=p)
  ·rw [if_pos c1,if_pos (.inl c1)]
  ·rw [if_neg c1,if_neg]
   rintro (x|x)
   ·exact c1 x
   ·apply c2
    refine ⟨hq.2 ⟨x.1,fun y=>c1 ⟨y.1,?_⟩⟩,x.2⟩;have:=x.2;have:=y.2;omega
theorem XgD {l:List Ce} (h:XK l) (p i:Nat) (hi:i<p):atC (Xs (l.take p)) i=if (atC l p).part=2/\i+1=p then Xz (atC l i).st else atC l i:=by
 have ht:∀ j,atC (l.take p) j=if j<p then atC l j else Ce.zero:=fun j=>by
  by_cases hj:j<p
  ·rw [if_pos hj,Kw l p j hj]
  ·rw [if_neg hj,Z9 (by rw [List.length_take];omega)]
 rw [Zk,Z5,ht i,if_pos hi]
 have hal:Yl (l.take p) i=true ↔ (atC l p).part=2/\i+1=p:=by
  rw [YK,ht i,if_pos hi]
  constructor
  ·rintro (⟨q1,q2⟩|⟨q1,q2⟩)
   ·have:=h.2.1 i q1
    rw [ht] at q2
    by_cases c:i+1<p
    ·rw [if_pos c] at q2;exact absurd this.1 q2
    ·have e:i+1=p:=by omega
     rw [<- e];exact ⟨this.1,rfl⟩
   ·have:=h.2.2 i q1
    rcases q2 with q2|q2
    ·omega
    ·rw [ht,if_pos (by omega)] at q2;exact absurd this.2 q2
  ·rintro ⟨q1,q2⟩
   left
   have:=h.two q1;rw [show p-1=i by omega] at this
   refine ⟨this.2.2.1,?_⟩;rw [ht,if_neg (by omega)];decide
 by_cases c:(atC l p).part=2/\i+1=p
 ·rw [if_pos c,if_pos (hal.2 c)]
 ·rw [if_neg c,if_neg (fun x=>c (hal.1 x))]
theorem XhA {l:List Ce} (h:XK l) (p i:Nat):atC (Xs (l.drop p)) i=if (atC l p).part=2/\i=0 then Xz (atC l p).st else atC l (p+i):=by
 rw [Zk,Z5,Y3]
 have hal:Yl (l.drop p) i=true ↔ (atC l p).part=2/\i=0:=by
  rw [YK,Y3,Y3]
  constructor
  ·rintro (⟨q1,q2⟩|⟨q1,q2⟩)
   ·have:=h.2.1 (p+i) q1
    rw [Nat.add_assoc] at this;exact absurd this.1 q2
   ·have:=h.2.2 (p+i) q1
    rcases q2 with q2|q2
    ·subst q2;exact ⟨q1,rfl⟩
    ·by_cases c:i=0
     ·subst c;exact ⟨q1,rfl⟩
     ·rw [Y3,show p+(i-1)=p+i-1 by omega] at q2;exact absurd this.2 q2
  ·rintro ⟨q1,q2⟩
   subst q2;exact .inr ⟨q1,.inl rfl⟩
 by_cases c:(atC l p).part=2/\i=0
 ·rw [if_pos c,if_pos (hal.2 c),c.2,Nat.add_zero]
 ·rw [if_neg c,if_neg (fun x=>c (hal.1 x))]
theorem KF (n:Nat) (s:St):(X0 n s).length=n:=by simp [X0]
def Ju (xs:List Ce) (p n:Nat) (s:St):List Ce:=if n=0 then xs else Xs ((Xs (xs.take p)++X0 n s++Xs (xs.drop p)).take xs.length)
def Jt (xs:List Ce) (p n:Nat) (s:St):List Ce:=if min n (xs.length-p)=0 then xs else Xs (xs.take p)++Xs (xs.drop (p+min n (xs.length-p)))++X0 (min n (xs.length-p)) s
theorem Xg0 {l:List Ce} (h:XK l) (p m:Nat) (s:St) (hp:p<=l.length) (i:Nat) :
  atC (Xs (l.take p)++X0 m s++Xs (l.drop p)) i =
   if i<p then (if (atC l p).part=2/\i+1=p then Xz (atC l i).st else atC l i)
   else if i<p+m then Xz s else (if (atC l p).part=2/\i=p+m then Xz (atC l p).st else atC l (i-m)):=by
 have h1:(Xs (l.take p)).length=p:=by rw [XC,List.length_take];omega
 rw [Zs,Zs,List.length_append,h1,KF]
 by_cases c1:i<p
 ·rw [if_pos c1,if_pos (by omega),if_pos c1,XgD h p i c1]
 ·rw [if_neg c1,if_neg c1]
  by_cases c2:i<p+m
  ·rw [if_pos c2,if_pos c2,J1 _ _ _ (by omega)]
  ·rw [if_neg c2,if_neg c2,XhA h p]
   by_cases c3:(atC l p).part=2/\i=p+m
   ·rw [if_pos c3,if_pos ⟨c3.1,by omega⟩]
   ·rw [if_neg c3,if_neg (fun x=>c3 ⟨x.1,by omega⟩),show p+(i-(p+m))=i-m by omega]
theorem Qm {l:List Ce} (h:XK l) (p m:Nat) (s:St) (hs:s.ok=true):XK (Xs (l.take p)++X0 m s++Xs (l.drop p)) :=
 ((h.semi.take p).mend.append (KH m s hs)).append (h.semi.drop p).mend
theorem XcG {l:List Ce} (h:XK l) (p n:Nat) (s:St) (hs:s.ok=true):XK (Ju l p n s):=by
 unfold Ju;split
 ·exact h
 ·exact ((Qm h p n s hs).semi.take _).mend
theorem Xa0 (l:List Ce) (p n:Nat) (s:St):(Ju l p n s).length=l.length:=by
 unfold Ju;split
 ·rfl
 ·rw [XC,List.length_take,List.length_append,List.length_append,XC,XC,KF,List.length_take,List.length_drop];omega
theorem XcF {l:List Ce} (h:XK l) (p n:Nat) (s:St) (hs:s.ok=true):XK (Jt l p n s):=by
 unfold Jt;split
 ·exact h
 ·exact ((h.semi.take p).mend.append (h.semi.drop _).mend).append (KH _ s hs)
theorem XaZ (l:List Ce) (p n:Nat) (s:St) (hp:p<=l.length):(Jt l p n s).length=l.length:=by
 unfold Jt;split
 ·rfl
 ·rw [List.length_append,List.length_append,XC,XC,KF,List.length_take,List.length_drop];omega
theorem XgP {l:List Ce} (h:XK l) (p n:Nat) (s:St) (hs:s.ok=true) (hp:p<l.length) (hn:n≠0) (i:Nat) (hi:i<l.length) :
  atC (Ju l p n s) i =
   if i<p then (if (atC l p).part=2/\i+1=p then Xz (atC l i).st else atC l i)
   else if i<p+n then Xz s
   else (if ((atC l p).part=2/\i=p+n)\/((atC l (i-n)).part=1/\i+1=l.length) then Xz (atC l (i-n)).st else atC l (i-n)):=by
 have hR:=Qm h p n s hs;have hA:=fun j=>Xg0 h p n s (by omega:p<=l.length) j
 unfold Ju;rw [if_neg hn]
 generalize Xs (l.take p)++X0 n s++Xs (l.drop p)=Z at *;rw [XgD hR l.length i hi,hA i]
 by_cases c1:i<p
 ·rw [if_pos c1,if_pos c1]
  have:¬ ((atC Z l.length).part=2/\i+1=l.length):=by omega
  rw [if_neg this]
 ·rw [if_neg c1,if_neg c1]
  by_cases c2:i<p+n
  ·rw [if_pos c2,if_pos c2]
   have:¬ ((atC Z l.length).part=2/\i+1=l.length):=by
    rintro ⟨q1,q2⟩;have:=hR.two q1;rw [show l.length-1=i by omega,hA i,if_neg c1,if_pos c2] at this
    exact absurd this.2.2.1 (by simp [Xz])
   rw [if_neg this]
  ·rw [if_neg c2,if_neg c2]
   have e:(atC Z l.length).part=2/\i+1=l.length ↔ (atC l (i-n)).part=1/\i+1=l.length/\¬ ((atC l p).part=2/\i=p+n):=by
    constructor
    ·rintro ⟨q1,q2⟩
     have:=hR.two q1;rw [show l.length-1=i by omega,hA i,if_neg c1,if_neg c2] at this
     by_cases c3:(atC l p).part=2/\i=p+n
     ·rw [if_pos c3] at this;exact absurd this.2.2.1 (by simp [Xz])
     ·rw [if_neg c3] at this;exact ⟨this.2.2.1,q2,c3⟩
    ·rintro ⟨q1,q2,q3⟩
     have:(atC Z i).part=1:=by rw [hA i,if_neg c1,if_neg c2,if_neg q3];exact q1
     have:=hR.2.1 i this;rw [q2] at this;exact ⟨this.1,q2⟩
   by_cases c3:(atC l p).part=2/\i=p+n
   ·have e2:¬ ((atC Z l.length).part=2/\i+1=l.length):=fun x=>(e.1 x).2.2 c3
    rw [if_neg e2,if_pos c3,if_pos (.inl c3),show i-n=p by omega]
   ·by_cases c4:(atC l (i-n)).part=1/\i+1=l.length
    ·have c5:((atC l p).part=2/\i=p+n)\/((atC l (i-n)).part=1/\i+1=l.length):=.inr c4
     rw [if_pos (e.2 ⟨c4.1,c4.2,c3⟩),if_pos c5,if_neg c3]
    ·have e2:¬ ((atC Z l.length).part=2/\i+1=l.length):=fun x=>c4 ⟨(e.1 x).1,(e.1 x).2.1⟩
     rw [if_neg e2,if_neg c3,if_neg (by rintro (x|x);exact c3 x;exact c4 x)]
theorem XgQ {l:List Ce} (h:XK l) (p n m:Nat) (s:St) (hs:s.ok=true) (hp:p<l.length) (hn:n≠0) (hm:m=min n (l.length-p)) :
  XI (XcA (Xp (Xp l p) (l.length-m)) (p+m) p (l.length-m-p)) p (p+m) s=Ju l p n s:=by
 refine YF _ _ (by rw [Xq,ZV,Xv,Xv,Xa0]) fun i hi=>?_
 rw [Xq,ZV,Xv,Xv] at hi
 have hQ:∀ j,atC (Xp (Xp l p) (l.length-m)) j=_:=fun j=>XaY h p (l.length-m) j (by omega)
 have hQl:(Xp (Xp l p) (l.length-m)).length=l.length:=by rw [Xv,Xv]
 rw [Zq _ _ _ _ _ (by rw [ZV,hQl];omega),XgP h p n s hs hp hn i hi]
 by_cases c1:i<p
 ·rw [if_neg (by omega),if_pos c1,JL _ _ _ _ _ (by rw [hQl];exact hi),if_neg (by omega),hQ i]
  by_cases c2:(atC l p).part=2/\i+1=p
  ·rw [if_pos c2,if_pos (.inl ⟨c2.1,.inl c2.2⟩)]
  ·have:¬ (((atC l p).part=2/\(i+1=p\/i=p))\/((atC l (l.length-m)).part=2/\(i+1=l.length-m\/i=l.length-m))):=by
    rintro (⟨x,y⟩|⟨x,y⟩)
    ·exact c2 ⟨x,by omega⟩
    ·have e:l.length-m=p:=by omega
     rw [e] at x;exact c2 ⟨x,by omega⟩
   rw [if_neg c2,if_neg this]
 ·rw [if_neg c1]
  by_cases c2:i<p+n
  ·by_cases c3:i<p+m
   ·rw [if_pos ⟨by omega,c3⟩,if_pos c2]
   ·omega
  ·rw [if_neg c2,if_neg (by omega),JL _ _ _ _ _ (by rw [hQl];exact hi),if_pos (by omega),hQ]
   have em:m=n:=by omega
   subst em;have e1:p+(i-(p+m))=i-m:=by omega
   rw [e1]
   have e2:(((atC l p).part=2/\(i-m+1=p\/i-m=p))\/((atC l (l.length-m)).part=2/\(i-m+1=l.length-m\/i-m=l.length-m))) ↔ (((atC l p).part=2/\i=p+m)\/((atC l (i-m)).part=1/\i+1=l.length)):=by
    constructor
    ·rintro (⟨x,y⟩|⟨x,y⟩)
     ·left;exact ⟨x,by omega⟩
     ·right
      have e3:i-m+1=l.length-m:=by omega
      have:=h.two x;rw [show l.length-m-1=i-m by omega] at this
      exact ⟨this.2.2.1,by omega⟩
    ·rintro (⟨x,y⟩|⟨x,y⟩)
     ·left;exact ⟨x,by omega⟩
     ·right
      have:=h.2.1 _ x;rw [show i-m+1=l.length-m by omega] at this
      exact ⟨this.1,by omega⟩
   by_cases c4:((atC l p).part=2/\i=p+m)\/((atC l (i-m)).part=1/\i+1=l.length)
   ·rw [if_pos c4,if_pos (e2.2 c4)]
   ·rw [if_neg c4,if_neg (fun x=>c4 (e2.1 x))]
theorem XgN {l:List Ce} (h:XK l) (p n m:Nat) (s:St) (hp:p<l.length) (hn:n≠0) (hm:m=min n (l.length-p)) (i:Nat) (hi:i<l.length) :
  atC (Jt l p n s) i =
   if i<p then (if (atC l p).part=2/\i+1=p then Xz (atC l i).st else atC l i)
   else if i<l.length-m then (if (atC l (p+m)).part=2/\i=p then Xz (atC l (p+m)).st else atC l (i+m))
   else Xz s:=by
 unfold Jt;rw [<- hm,if_neg (by omega)]
 have h1:(Xs (l.take p)).length=p:=by rw [XC,List.length_take];omega
 have h2:(Xs (l.drop (p+m))).length=l.length-(p+m):=by rw [XC,List.length_drop]
 rw [Zs,Zs,List.length_append,h1,h2]
 by_cases c1:i<p
 ·rw [if_pos c1,if_pos (by omega),if_pos c1,XgD h p i c1]
 ·rw [if_neg c1,if_neg c1]
  by_cases c2:i<l.length-m
  ·rw [if_pos c2,if_pos (by omega),XhA h (p+m)]
   by_cases c3:(atC l (p+m)).part=2/\i=p
   ·rw [if_pos c3,if_pos ⟨c3.1,by omega⟩]
   ·rw [if_neg c3,if_neg (fun x=>c3 ⟨x.1,by omega⟩),show p+m+(i-p)=i+m by omega]
  ·rw [if_neg c2,if_neg (by omega),J1 _ _ _ (by omega)]
theorem XgO {l:List Ce} (h:XK l) (p n m:Nat) (s:St) (hp:p<l.length) (hn:n≠0) (hm:m=min n (l.length-p)) :
  XI (XcA (Xp (Xp l p) (p+m)) p (p+m) (l.length-m-p)) (l.length-m) l.length s=Jt l p n s:=by
 refine YF _ _ (by rw [Xq,ZV,Xv,Xv,XaZ l p n s (by omega)]) fun i hi=>?_
 rw [Xq,ZV,Xv,Xv] at hi
 have hQ:∀ j,atC (Xp (Xp l p) (p+m)) j=_:=fun j=>XaY h p (p+m) j (by omega)
 have hQl:(Xp (Xp l p) (p+m)).length=l.length:=by rw [Xv,Xv]
 rw [Zq _ _ _ _ _ (by rw [ZV,hQl];exact Nat.le_refl _),XgN h p n m s hp hn hm i hi]
 by_cases c1:i<p
 ·rw [if_neg (by omega),if_pos c1,JL _ _ _ _ _ (by rw [hQl];exact hi),if_neg (by omega),hQ i]
  by_cases c2:(atC l p).part=2/\i+1=p
  ·rw [if_pos c2,if_pos (.inl ⟨c2.1,.inl c2.2⟩)]
  ·have:¬ (((atC l p).part=2/\(i+1=p\/i=p))\/((atC l (p+m)).part=2/\(i+1=p+m\/i=p+m))):=by
    rintro (⟨x,y⟩|⟨x,y⟩)
    ·exact c2 ⟨x,by omega⟩
    ·omega
   rw [if_neg c2,if_neg this]
 ·rw [if_neg c1]
  by_cases c2:i<l.length-m
  ·rw [if_pos c2,if_neg (by omega),JL _ _ _ _ _ (by rw [hQl];exact hi),if_pos (by omega),hQ]
   have e1:p+m+(i-p)=i+m:=by omega
   rw [e1]
   by_cases c3:(atC l (p+m)).part=2/\i=p
   ·rw [if_pos c3,if_pos (.inr ⟨c3.1,.inr (by omega)⟩),c3.2]
   ·have:¬ (((atC l p).part=2/\(i+m+1=p\/i+m=p))\/((atC l (p+m)).part=2/\(i+m+1=p+m\/i+m=p+m))):=by
     rintro (⟨x,y⟩|⟨x,y⟩)
     ·omega
     ·exact c3 ⟨x,by omega⟩
    rw [if_neg c3,if_neg this]
  ·rw [if_neg c2,if_pos (by omega)]
open Go.ChangeShapes Go.WideShapes Go.ChangeAt Go.RowKit
theorem YW (v:Value) (xs:List Ce) (w:World) (hv:SlC w v xs) (hl:xs.length<=1000000) :
  Calls Tryz.prog 159 #[v] w fun e w'=>∃ u,e=.returned u/\Xl w' w.heap.size u (Xs xs)/\Below w.heap.size w w':=by
 have hbl:=fun s W=>JJ s W
 obtain ⟨a,c,rfl,hr⟩:=id hv;have k00:=KC w w.heap.size (Nat.le_refl _);have hv0:=hv.below (Xd w (Obj.cells #[] 146));go_enter Tryz.func159,Tryz.ntmps159;go_wp2_with (at_builtin;refine Y9 rfl _ _ rfl w.heap.size _ [] rfl (by exact k00) (by simp) _ xs hv0 rfl (by simp;omega) ?_;intro u w1 ho1 hg1)
 have k1:OC w.heap.size u xs w w1:=by
  have k:OC w.heap.size (.slice (some ⟨w.heap.size,0,none⟩) 0 0) [] w (w.alloc (Obj.cells #[] 146)):=⟨k00,Xd _ _,by simp,Nat.le_refl _⟩;exact k.own (by simpa using ho1) hg1
 clear k00 hv0 ho1 hg1;rcases k1.1.shape with ⟨rfl,rfl⟩|⟨g,cap,rfl,hbg,hlg,hcap⟩
 ·clear hr
  go_wp2;refine wp_loop_rounds 1 ?_;rw [rounds_succ]
  go_wp2;go_ret;exact ⟨_,rfl,k1.1,k1.2.1⟩
 ·go_wp2
  go_loopw [4] (fun i wr=>∃ j:Nat,i=.int .i64 j/\j<=xs.length/\OC w.heap.size (.slice (some ⟨g,0,none⟩) xs.length cap) (Y1 xs j) w wr) (fun i _=>xs.length-(intOf i).toNat)
  case atStart=>exact ⟨0,rfl,Nat.zero_le _,by rw [Xcy];exact k1⟩
  case round =>
   clear k1;obtain ⟨j,rfl,hj,k⟩:=hrel
   by_cases hlt:j<xs.length
   ·have hji:(j:Int)<(xs.length:Int):=by omega
    have hj0:(0:Int)<=(j:Int):=by omega
    have hat:=k.1.at (Yo xs j) j hlt;rw [Zy xs j j hlt,if_neg (Nat.lt_irrefl j)] at hat
    have hsz:(Y1 xs j).length=xs.length:=Yo xs j
    have hsrc:∀ i,i<xs.length->∃ b off,a=some ⟨b,off,none⟩/\Je wr b (off+i*7) (atC xs i):=by
     intro i hi;rcases hr.2.2 with h|⟨b,off,ha,hlt,hc⟩
     ·rw [h] at hi;simp at hi
     ·exact ⟨b,off,ha,(hc i hi).below k.2.1 hlt⟩
    have hkeep:Yl xs j=false->OC w.heap.size (.slice (some ⟨g,0,none⟩) xs.length cap) (Y1 xs (j+1)) w wr:=fun h=>by rw [Xcw xs j hlt h];exact k
    have hstep:Yl xs j=true->Y1 xs (j+1)=(Y1 xs j).set j (Xz (atC xs j).st):=fun h=>by rw [Xcx xs j hlt,Z5,if_pos h]
    have hal:Yl xs j=(((atC xs j).part==1 && (decide (j+1=xs.length) || (atC xs (j+1)).part != 2)) || ((atC xs j).part==2 && (decide (j=0) || (atC xs (j-1)).part != 1))):=rfl
    have hnext:j+1<xs.length->Je wr g ((j+1)*7) (atC xs (j+1)):=fun h=>by
     have:=k.1.at (Yo xs j) (j+1) h
     rwa [Zy xs j (j+1) h,if_neg (by omega)] at this
    obtain ⟨p0,p1,p2,p3,p4,p5,p6⟩:=id hat
    by_cases e1:(atC xs j).part=1
    ·have b1:((atC xs j).part==1)=true:=by simp [e1]
     by_cases e2:j+1=xs.length
     ·have e2i:((j:Int)+1==(xs.length:Int))=true:=by simp;omega
      have ha:Yl xs j=true:=by rw [hal];simp [e1,e2]
      have hst:=hstep ha;clear hkeep hstep hal ha hsrc hnext hv hr;obtain ⟨c0,c1,c2,c3,c4,c5,c6⟩:=id hat;have hb1:=hbl (atC xs j).st;unfold stV ceV Xz at hb1;simp only at hb1;go_wp2_with fail;refine (hb1 _).mono ?_;rintro e w2 ⟨rfl,hb2⟩;have k2:=k.below hb2;have hat2:=hat.below hb2 (by have:=k.1.lt g rfl;exact this.2);have hp:=k2.1.put hsz j hlt ⟨32,(atC xs j).st,0⟩;have kk:OC w.heap.size (.slice (some ⟨g,0,none⟩) xs.length cap) (Y1 xs (j+1)) w (YJ w2 g (j*7) ⟨32,(atC xs j).st,0⟩):=by rw [hst];exact k2.own hp.1 hp.2
      have f0:=k2.1.frozen hsz (j*7);have f1:=k2.1.frozen hsz (j*7+1);have f2:=k2.1.frozen hsz (j*7+2);have f3:=k2.1.frozen hsz (j*7+3);have f4:=k2.1.frozen hsz (j*7+4);have f5:=k2.1.frozen hsz (j*7+5);have f6:=k2.1.frozen hsz (j*7+6);clear hp hat k hb1 hb2 hbl hst c0 c1 c2 c3 c4 c5 c6;obtain ⟨c0,c1,c2,c3,c4,c5,c6⟩:=hat2;clear k2;simp only [YJ] at kk;go_wp2;go_roundw
      case rel=>exact ⟨j+1,by go_num,by omega,kk⟩
      case measure=>simp [intOf];omega
     ·have e2i:((j:Int)+1==(xs.length:Int))=false:=by simp;omega
      have hj1:j+1<xs.length:=by omega
      have hj1i:(j:Int)+1<(xs.length:Int):=by omega
      obtain ⟨q0,q1,q2,q3,q4,q5,q6⟩:=hnext hj1
      by_cases e3:(atC xs (j+1)).part=2
      ·have b3:((atC xs (j+1)).part != 2)=false:=by simp [e3]
       have b4:((atC xs j).part==2)=false:=by simp [e1]
       have ha:Yl xs j=false:=by rw [hal];simp [e1,e2,e3]
       have kk:=hkeep ha;clear hkeep hstep hal ha hsrc hnext hbl k hv hr;go_wp2;go_roundw
       case rel=>exact ⟨j+1,by go_num,by omega,kk⟩
       case measure=>simp [intOf];omega
      ·have b3:((atC xs (j+1)).part != 2)=true:=by simp [e3]
       have ha:Yl xs j=true:=by rw [hal];simp [e1,e3]
       have hst:=hstep ha;clear hkeep hstep hal ha hsrc hnext hv hr;obtain ⟨c0,c1,c2,c3,c4,c5,c6⟩:=id hat;have hb1:=hbl (atC xs j).st;unfold stV ceV Xz at hb1;simp only at hb1;go_wp2_with fail;refine (hb1 _).mono ?_;rintro e w2 ⟨rfl,hb2⟩;have k2:=k.below hb2;have hat2:=hat.below hb2 (by have:=k.1.lt g rfl;exact this.2);have hp:=k2.1.put hsz j hlt ⟨32,(atC xs j).st,0⟩;have kk:OC w.heap.size (.slice (some ⟨g,0,none⟩) xs.length cap) (Y1 xs (j+1)) w (YJ w2 g (j*7) ⟨32,(atC xs j).st,0⟩):=by rw [hst];exact k2.own hp.1 hp.2
       have f0:=k2.1.frozen hsz (j*7);have f1:=k2.1.frozen hsz (j*7+1);have f2:=k2.1.frozen hsz (j*7+2);have f3:=k2.1.frozen hsz (j*7+3);have f4:=k2.1.frozen hsz (j*7+4);have f5:=k2.1.frozen hsz (j*7+5);have f6:=k2.1.frozen hsz (j*7+6);clear hp hat k hb1 hb2 hbl hst c0 c1 c2 c3 c4 c5 c6;obtain ⟨c0,c1,c2,c3,c4,c5,c6⟩:=hat2;clear k2;simp only [YJ] at kk;go_wp2;go_roundw
       case rel=>exact ⟨j+1,by go_num,by omega,kk⟩
       case measure=>simp [intOf];omega
    ·have b1:((atC xs j).part==1)=false:=by simp [e1]
     by_cases e2:(atC xs j).part=2
     ·have b2:((atC xs j).part==2)=true:=by simp [e2]
      by_cases e3:j=0
      ·have e3i:((j:Int)==0)=true:=by simp [e3]
       have ha:Yl xs j=true:=by rw [hal];rw [show decide (j=0)=true from decide_eq_true e3];simp [e2]
       clear e3;have hst:=hstep ha;clear hkeep hstep hal ha hsrc hnext hv hr;obtain ⟨c0,c1,c2,c3,c4,c5,c6⟩:=id hat;have hb1:=hbl (atC xs j).st;unfold stV ceV Xz at hb1;simp only at hb1;go_wp2_with fail;refine (hb1 _).mono ?_;rintro e w2 ⟨rfl,hb2⟩;have k2:=k.below hb2;have hat2:=hat.below hb2 (by have:=k.1.lt g rfl;exact this.2);have hp:=k2.1.put hsz j hlt ⟨32,(atC xs j).st,0⟩;have kk:OC w.heap.size (.slice (some ⟨g,0,none⟩) xs.length cap) (Y1 xs (j+1)) w (YJ w2 g (j*7) ⟨32,(atC xs j).st,0⟩):=by rw [hst];exact k2.own hp.1 hp.2
       have f0:=k2.1.frozen hsz (j*7);have f1:=k2.1.frozen hsz (j*7+1);have f2:=k2.1.frozen hsz (j*7+2);have f3:=k2.1.frozen hsz (j*7+3);have f4:=k2.1.frozen hsz (j*7+4);have f5:=k2.1.frozen hsz (j*7+5);have f6:=k2.1.frozen hsz (j*7+6);clear hp hat k hb1 hb2 hbl hst c0 c1 c2 c3 c4 c5 c6;obtain ⟨c0,c1,c2,c3,c4,c5,c6⟩:=hat2;clear k2;simp only [YJ] at kk;go_wp2;go_roundw
       case rel=>exact ⟨j+1,by go_num,by omega,kk⟩
       case measure=>simp [intOf];omega
      ·obtain ⟨m,rfl⟩:∃ m,j=m+1:=⟨j-1,by omega⟩
       obtain ⟨b,off,rfl,q0,q1,q2,q3,q4,q5,q6⟩:=hsrc m (by omega);have e3i:((m:Int)+1==0)=false:=by simp;omega
       have hmi:(m:Int)<(xs.length:Int):=by omega
       by_cases e4:(atC xs m).part=1
       ·have b4:((atC xs m).part != 1)=false:=by simp [e4]
        have ha:Yl xs (m+1)=false:=by rw [hal];simp [e2,e4]
        have kk:=hkeep ha;clear hkeep hstep hal ha hsrc hnext hbl k hv hr;go_wp2;go_roundw
        case rel=>exact ⟨m+1+1,by go_num,by omega,kk⟩
        case measure=>simp [intOf];omega
       ·have b4:((atC xs m).part != 1)=true:=by simp [e4]
        have ha:Yl xs (m+1)=true:=by rw [hal];simp [e2,e4]
        have hst:=hstep ha;clear hkeep hstep hal ha hsrc hnext hv hr;obtain ⟨c0,c1,c2,c3,c4,c5,c6⟩:=id hat;have hb1:=hbl (atC xs (m+1)).st;unfold stV ceV Xz at hb1;simp only at hb1;go_wp2_with fail;refine (hb1 _).mono ?_;rintro e w2 ⟨rfl,hb2⟩;have k2:=k.below hb2;have hat2:=hat.below hb2 (by have:=k.1.lt g rfl;exact this.2);have hp:=k2.1.put hsz (m+1) hlt ⟨32,(atC xs (m+1)).st,0⟩;have kk:OC w.heap.size (.slice (some ⟨g,0,none⟩) xs.length cap) (Y1 xs ((m+1)+1)) w (YJ w2 g ((m+1)*7) ⟨32,(atC xs (m+1)).st,0⟩):=by rw [hst];exact k2.own hp.1 hp.2
        have f0:=k2.1.frozen hsz ((m+1)*7);have f1:=k2.1.frozen hsz ((m+1)*7+1);have f2:=k2.1.frozen hsz ((m+1)*7+2);have f3:=k2.1.frozen hsz ((m+1)*7+3);have f4:=k2.1.frozen hsz ((m+1)*7+4);have f5:=k2.1.frozen hsz ((m+1)*7+5);have f6:=k2.1.frozen hsz ((m+1)*7+6);clear hp hat k hb1 hb2 hbl hst c0 c1 c2 c3 c4 c5 c6;obtain ⟨c0,c1,c2,c3,c4,c5,c6⟩:=hat2;clear k2;simp only [YJ] at kk;go_wp2;go_roundw
        case rel=>exact ⟨m+1+1,by go_num,by omega,kk⟩
        case measure=>simp [intOf];omega
     ·have b2:((atC xs j).part==2)=false:=by simp [e2]
      have ha:Yl xs j=false:=by rw [hal];simp [e1,e2]
      have kk:=hkeep ha;clear hkeep hstep hal ha hsrc hnext hbl k hv hr;go_wp2;go_roundw
      case rel=>exact ⟨j+1,by go_num,by omega,kk⟩
      case measure=>simp [intOf];omega
   ·have hjn:j=xs.length:=by omega
    have hji:¬ (j:Int)<(xs.length:Int):=by omega
    subst hjn;clear hbl hv hr;go_wp2;go_ret;exact ⟨_,rfl,k.1,k.2.1⟩
def KR (s:St) (xs:List Int):St:=if xs=[] then St.zero else X8 s xs
theorem Xby (s:St) (v:Value) (xs:List Int) (w:World) (hv:SlI w v xs) (hl:xs.length<=1048576) :
  Calls Tryz.prog 218 #[stV s,v] w fun e w'=>e=.returned (stV (KR s xs))/\Below w.heap.size w w':=by
 by_cases hne:xs=[]
 ·have hs:Hid (KR s xs=St.zero):=by show _=_;simp [KR,hne]
  subst hne;obtain ⟨f,b,bo,un,tu⟩:=s;obtain ⟨a,c,rfl,_⟩:=hv;rw [hs.out]
  unfold stV;simp only;go_enter Tryz.func218,Tryz.ntmps218;go_wp2;exact bodyPost_ret (v:=.agg #[.int .i64 0,.int .i64 0,.bool false,.bool false,.bool false]) (by simp [results,Tryz.results218,go_sem]) rfl ⟨rfl,((Below.refl _ _).alloc (Nat.le_refl _) _).alloc (by simp) _⟩
 ·have:=Xbz s v xs w hv hl hne
  simpa [KR,hne] using this
end Go.Proofs.YtfpopnkhmjkdlaaGreatDoor
namespace Go.Proofs.YtfpopnkhmjkdlaaGreatDoor
open Go.ChangeShapes Go.WideShapes Go.ChangeAt Go.RowKit
open Go.Maps (Keyed)
theorem XT.fore {w:World} {B:Nat} {s:St} (h:XT w B s) (x:Int):XT (w.setCell ⟨B,0,none⟩ (.int .i64 x)) B { s with fore:=x }:=by
 obtain ⟨hlt,⟨c0,c1,c2,c3,c4⟩,⟨z0,z1,z2,z3,z4⟩⟩:=h;exact ⟨by simpa using hlt,⟨by simp [go_sem,c0],by rw [Xc _ _ _ _ _ (by decide)];exact c1,by rw [Xc _ _ _ _ _ (by decide)];exact c2,by rw [Xc _ _ _ _ _ (by decide)];exact c3,by rw [Xc _ _ _ _ _ (by decide)];exact c4⟩,⟨by simp [go_sem,z0],by simp [go_sem,z1],by simp [go_sem,z2],by simp [go_sem,z3],by simp [go_sem,z4]⟩⟩
theorem XT.back {w:World} {B:Nat} {s:St} (h:XT w B s) (x:Int):XT (w.setCell ⟨B,1,none⟩ (.int .i64 x)) B { s with back:=x }:=by
 obtain ⟨hlt,⟨c0,c1,c2,c3,c4⟩,⟨z0,z1,z2,z3,z4⟩⟩:=h;exact ⟨by simpa using hlt,⟨by rw [Xc _ _ _ _ _ (by decide)];exact c0,by simp [go_sem,c1],by rw [Xc _ _ _ _ _ (by decide)];exact c2,by rw [Xc _ _ _ _ _ (by decide)];exact c3,by rw [Xc _ _ _ _ _ (by decide)];exact c4⟩,⟨by simp [go_sem,z0],by simp [go_sem,z1],by simp [go_sem,z2],by simp [go_sem,z3],by simp [go_sem,z4]⟩⟩
theorem XT.bold {w:World} {B:Nat} {s:St} (h:XT w B s) (x:Bool):XT (w.setCell ⟨B,2,none⟩ (.bool x)) B { s with bold:=x }:=by
 obtain ⟨hlt,⟨c0,c1,c2,c3,c4⟩,⟨z0,z1,z2,z3,z4⟩⟩:=h;exact ⟨by simpa using hlt,⟨by rw [Xc _ _ _ _ _ (by decide)];exact c0,by rw [Xc _ _ _ _ _ (by decide)];exact c1,by simp [go_sem,c2],by rw [Xc _ _ _ _ _ (by decide)];exact c3,by rw [Xc _ _ _ _ _ (by decide)];exact c4⟩,⟨by simp [go_sem,z0],by simp [go_sem,z1],by simp [go_sem,z2],by simp [go_sem,z3],by simp [go_sem,z4]⟩⟩
theorem XT.under {w:World} {B:Nat} {s:St} (h:XT w B s) (x:Bool):XT (w.setCell ⟨B,3,none⟩ (.bool x)) B { s with under:=x }:=by
 obtain ⟨hlt,⟨c0,c1,c2,c3,c4⟩,⟨z0,z1,z2,z3,z4⟩⟩:=h;exact ⟨by simpa using hlt,⟨by rw [Xc _ _ _ _ _ (by decide)];exact c0,by rw [Xc _ _ _ _ _ (by decide)];exact c1,by rw [Xc _ _ _ _ _ (by decide)];exact c2,by simp [go_sem,c3],by rw [Xc _ _ _ _ _ (by decide)];exact c4⟩,⟨by simp [go_sem,z0],by simp [go_sem,z1],by simp [go_sem,z2],by simp [go_sem,z3],by simp [go_sem,z4]⟩⟩
theorem XT.turned {w:World} {B:Nat} {s:St} (h:XT w B s) (x:Bool):XT (w.setCell ⟨B,4,none⟩ (.bool x)) B { s with turned:=x }:=by
 obtain ⟨hlt,⟨c0,c1,c2,c3,c4⟩,⟨z0,z1,z2,z3,z4⟩⟩:=h;exact ⟨by simpa using hlt,⟨by rw [Xc _ _ _ _ _ (by decide)];exact c0,by rw [Xc _ _ _ _ _ (by decide)];exact c1,by rw [Xc _ _ _ _ _ (by decide)];exact c2,by rw [Xc _ _ _ _ _ (by decide)];exact c3,by simp [go_sem,c4]⟩,⟨by simp [go_sem,z0],by simp [go_sem,z1],by simp [go_sem,z2],by simp [go_sem,z3],by simp [go_sem,z4]⟩⟩
def Chg (f B:Nat) (n:Int) (g:St->St):Prop:=∀ (s:St) (w:World),XT w B s ->
 Calls Tryz.prog f #[.int .i64 n,.pointer (some ⟨B,0,none⟩)] w fun e w'=>e=.returned (.tuple #[])/\XT w' B (g s)/\w.grownBy w' (some B)
theorem XfY (B:Nat) (n:Int) (hn:30<=n/\n<=37):Chg 255 B n (fun s=>{ s with fore:=n-29 }):=by
 intro s w k;obtain ⟨h1,h2⟩:=hn;have k':=k.fore (n-30+1);obtain ⟨_,⟨c0,c1,c2,c3,c4⟩,⟨z0,z1,z2,z3,z4⟩⟩:=k;have e:n-30+1=n-29:=by omega
 go_enter Tryz.func255,Tryz.ntmps255;go_wp2;go_end0;exact ⟨rfl,by rw [<- e];exact k',sCc _ _ _ _⟩
theorem XfW (B:Nat) (n:Int) (hn:40<=n/\n<=47):Chg 256 B n (fun s=>{ s with back:=n-39 }):=by
 intro s w k;obtain ⟨h1,h2⟩:=hn;have k':=k.back (n-40+1);obtain ⟨_,⟨c0,c1,c2,c3,c4⟩,⟨z0,z1,z2,z3,z4⟩⟩:=k;have e:n-40+1=n-39:=by omega
 go_enter Tryz.func256,Tryz.ntmps256;go_wp2;go_end0;exact ⟨rfl,by rw [<- e];exact k',sCc _ _ _ _⟩
theorem XfZ (B:Nat) (n:Int):Chg 257 B n (fun _=>St.zero):=by
 intro s w k;have k':=k.put St.zero;have g':=Zz w B St.zero;obtain ⟨_,⟨c0,c1,c2,c3,c4⟩,⟨z0,z1,z2,z3,z4⟩⟩:=k;simp only [UG,St.zero] at k' g';go_enter Tryz.func257,Tryz.ntmps257;go_wp2;go_end0;exact ⟨rfl,k',g'⟩
theorem XfX (B:Nat) (n:Int):Chg 258 B n (fun s=>{ s with bold:=true }):=by
 intro s w k;have k':=k.bold true;obtain ⟨_,⟨c0,c1,c2,c3,c4⟩,⟨z0,z1,z2,z3,z4⟩⟩:=k;go_enter Tryz.func258,Tryz.ntmps258;go_wp2;go_end0;exact ⟨rfl,k',sCc _ _ _ _⟩
theorem Xc3 (B:Nat) (n:Int):Chg 259 B n (fun s=>{ s with bold:=false }):=by
 intro s w k;have k':=k.bold false;obtain ⟨_,⟨c0,c1,c2,c3,c4⟩,⟨z0,z1,z2,z3,z4⟩⟩:=k;go_enter Tryz.func259,Tryz.ntmps259;go_wp2;go_end0;exact ⟨rfl,k',sCc _ _ _ _⟩
theorem Xew (B:Nat) (n:Int):Chg 260 B n (fun s=>{ s with under:=true }):=by
 intro s w k;have k':=k.under true;obtain ⟨_,⟨c0,c1,c2,c3,c4⟩,⟨z0,z1,z2,z3,z4⟩⟩:=k;go_enter Tryz.func260,Tryz.ntmps260;go_wp2;go_end0;exact ⟨rfl,k',sCc _ _ _ _⟩
theorem Xb0 (B:Nat) (n:Int):Chg 261 B n (fun s=>{ s with under:=false }):=by
 intro s w k;have k':=k.under false;obtain ⟨_,⟨c0,c1,c2,c3,c4⟩,⟨z0,z1,z2,z3,z4⟩⟩:=k;go_enter Tryz.func261,Tryz.ntmps261;go_wp2;go_end0;exact ⟨rfl,k',sCc _ _ _ _⟩
theorem Xc2 (B:Nat) (n:Int):Chg 262 B n (fun s=>{ s with turned:=true }):=by
 intro s w k;have k':=k.turned true;obtain ⟨_,⟨c0,c1,c2,c3,c4⟩,⟨z0,z1,z2,z3,z4⟩⟩:=k;go_enter Tryz.func262,Tryz.ntmps262;go_wp2;go_end0;exact ⟨rfl,k',sCc _ _ _ _⟩
theorem Xba (B:Nat) (n:Int):Chg 263 B n (fun s=>{ s with turned:=false }):=by
 intro s w k;have k':=k.turned false;obtain ⟨_,⟨c0,c1,c2,c3,c4⟩,⟨z0,z1,z2,z3,z4⟩⟩:=k;go_enter Tryz.func263,Tryz.ntmps263;go_wp2;go_end0;exact ⟨rfl,k',sCc _ _ _ _⟩
theorem Xev (B:Nat) (n:Int):Chg 264 B n (fun s=>{ s with fore:=0 }):=by
 intro s w k;have k':=k.fore 0;obtain ⟨_,⟨c0,c1,c2,c3,c4⟩,⟨z0,z1,z2,z3,z4⟩⟩:=k;go_enter Tryz.func264,Tryz.ntmps264;go_wp2;go_end0;exact ⟨rfl,k',sCc _ _ _ _⟩
theorem Xeu (B:Nat) (n:Int):Chg 265 B n (fun s=>{ s with back:=0 }):=by
 intro s w k;have k':=k.back 0;obtain ⟨_,⟨c0,c1,c2,c3,c4⟩,⟨z0,z1,z2,z3,z4⟩⟩:=k;go_enter Tryz.func265,Tryz.ntmps265;go_wp2;go_end0;exact ⟨rfl,k',sCc _ _ _ _⟩
/-! ### the map -/
def clo (f B:Nat):Value:=.func (.func f) #[] #[.pointer (some ⟨B,0,none⟩)]
def Xgk (v:Value):Option (DataW Value×List MemPlace):=some (.held v,[])
def CH:List (Int×Nat):=[(0,257),(1,258),(22,259),(4,260),(24,261),(7,262),(27,263),
 (30,255),(31,255),(32,255),(33,255),(34,255),(35,255),(36,255),(37,255),(39,264),
 (40,256),(41,256),(42,256),(43,256),(44,256),(45,256),(46,256),(47,256),(49,265)]
def XdF (B:Nat) (l:List (Int×Nat)):DataW Value:=l.foldl (fun D p=>D.put (.int .i64 p.1) (.held (clo p.2 B))) (.map [])
theorem Xe7 (B:Nat) (l:List (Int×Nat)) (n:Int) (f:Nat):XdF B (l++[(n,f)])=(XdF B l).put (.int .i64 n) (.held (clo f B)):=by simp [XdF,List.foldl_append]
theorem XaP (B:Nat) (n:Int) (l:List (Int×Nat)):∀ D:DataW Value,(∀ p∈l,n≠p.1) ->
  Maps.has (l.foldl (fun D p=>D.put (.int .i64 p.1) (.held (clo p.2 B))) D) (.int .i64 n)=Maps.has D (.int .i64 n)/\∀ z,(l.foldl (fun D p=>D.put (.int .i64 p.1) (.held (clo p.2 B))) D).atKey (.int .i64 n) z=D.atKey (.int .i64 n) z:=by
 induction l with
 | nil=>intro D _;exact ⟨rfl,fun _=>rfl⟩
 | cons p l ih =>
  intro D h;have hne:Lit.int .i64 n≠Lit.int .i64 p.1:=fun e=>h p (by simp) (by injection e)
  obtain ⟨h1,h2⟩:=ih (D.put (.int .i64 p.1) (.held (clo p.2 B))) (fun q hq=>h q (by simp [hq]));exact ⟨h1.trans (Maps.has_put_other hne _),fun z=>(h2 z).trans (Maps.atKey_put_other hne _ z)⟩
theorem Xhw (w:World):(zeroValue 226).run Tryz.prog w=.ok .nilFunc w:=by kernel_rfl
def XfP (B:Nat) (n:Int) (v:Value) (b:Bool):Prop:=Maps.has (XdF B CH) (.int .i64 n)=b/\(XdF B CH).atKey (.int .i64 n) (.held .nilFunc)=.held v
theorem Xe5 (B:Nat) (n:Int) (h:∀ p∈CH,n≠p.1):XfP B n .nilFunc false:=by
 obtain ⟨h1,h2⟩:=XaP B n CH (.map []) h;exact ⟨h1,h2 _⟩
