import Derived.Test.YtfpopnkhmjkdlaaGreatDoorP4
import Derived.Test.YtfpopnkhmjkdlaaGreatDoorP5
import Derived.Laws.CopyOwn
set_option maxRecDepth 20000
set_option maxHeartbeats 16000000
namespace Go.Proofs.YtfpopnkhmjkdlaaGreatDoor
open Go.ChangeShapes Go.WideShapes Go.ChangeAt Go.RowKit
theorem Xa7 (v:Value) (xs:List Int) (w:World) (hv:SlI w v xs) (hl:xs.length<=1073741824) :
  Calls Tryz.prog 149 #[v] w fun e w'=>e=.returned (.bool (XZ xs))/\w'=w:=by
 obtain ⟨a,c,rfl,hc⟩:=hv.cons;clear hv;go_enter Tryz.func149,Tryz.ntmps149;go_wp2;go_loop [4,7] (fun _ i=>∃ j:Nat,i=.int .i64 j/\j<=xs.length/\Hid (∀ k,k<j->Xh (xs.getD k 0)=true)) (fun _ i=>xs.length-(intOf i).toNat)
 case atStart=>exact ⟨0,rfl,Nat.zero_le _,(fun k hk=>absurd hk (Nat.not_lt_zero k))⟩
 case round =>
  obtain ⟨j,rfl,hj,hall⟩:=hrel
  by_cases hlt:j<xs.length
  ·have hji:(j:Int)<(xs.length:Int):=by omega
   have hj0:(0:Int)<=(j:Int):=by omega
   obtain ⟨b,off,rfl,hcj⟩:=hc j hlt;have hno:Xh (xs.getD j 0)=false->Hid (XZ xs=false):=fun h=>Xa2 j hlt h
   have hstep:Xh (xs.getD j 0)=true->Hid (∀ k,k<j+1->Xh (xs.getD k 0)=true):=fun h=>(show ∀ k,k<j+1->Xh (xs.getD k 0)=true from fun k hk=>by
    by_cases e:k=j
    ·rw [e];exact h
    ·exact hall.out k (by omega))
   have hok:=iRo (xs.getD j 0) w;clear hc hall;generalize xs.getD j 0=x at *;generalize Xh x=ok at *;go_wp2_with fail;refine hok.mono ?_;rintro e w2 ⟨rfl,hw⟩;subst hw;clear hok
   cases ok
   ·have hV:=hno rfl
    clear hno hstep;go_wp2;go_ret;exact ⟨by rw [hV.out];rfl,rfl⟩
   ·have hall2:=hstep rfl
    clear hno hstep;go_wp2;go_round
    case rel=>exact ⟨j+1,by go_num,by omega,hall2⟩
    case measure=>simp [intOf];omega
  ·have hjn:j=xs.length:=by omega
   have hji:¬ (j:Int)<(xs.length:Int):=by omega
   have hV:Hid (XZ xs=true):=Xae (by rw [<- hjn];exact hall.out);clear hc hall;subst hjn;go_wp2;go_ret;exact ⟨by rw [hV.out];rfl,rfl⟩
theorem UB (v:Value) (xs:List Int) (w:World) (hv:SlI w v xs) (hl:xs.length<=1073741824) :
  Calls Tryz.prog 120 #[v] w fun e w'=>e=.returned (.bool (XX xs && decide (xs.length<=16)))/\w'=w:=by
 obtain ⟨a,c,rfl,hc⟩:=hv.cons;clear hv;obtain ⟨rv,hrv⟩:∃ rv,Hid (rv=(XX xs && decide (xs.length<=16))):=⟨_,rfl⟩;rw [<- hrv.out]
 go_enter Tryz.func120,Tryz.ntmps120;go_wp2;go_loop [4,7] (fun _ i=>∃ j:Nat,i=.int .i64 j/\j<=xs.length/\Hid (∀ k,k<j->0<=xs.getD k 0/\xs.getD k 0<=9999)) (fun _ i=>xs.length-(intOf i).toNat)
 case atStart=>exact ⟨0,rfl,Nat.zero_le _,(fun k hk=>absurd hk (Nat.not_lt_zero k))⟩
 case round =>
  obtain ⟨j,rfl,hj,hall⟩:=hrel
  by_cases hlt:j<xs.length
  ·have hji:(j:Int)<(xs.length:Int):=by omega
   have hj0:(0:Int)<=(j:Int):=by omega
   obtain ⟨b,off,rfl,hcj⟩:=hc j hlt;have hno:¬ (0<=xs.getD j 0/\xs.getD j 0<=9999)->Hid (rv=false):=fun h=>(show rv=false by rw [hrv.out,KD j hlt h];rfl)
   have hstep:(0<=xs.getD j 0/\xs.getD j 0<=9999)->Hid (∀ k,k<j+1->0<=xs.getD k 0/\xs.getD k 0<=9999):=fun h=>(show ∀ k,k<j+1->0<=xs.getD k 0/\xs.getD k 0<=9999 from fun k hk=>by
    by_cases e:k=j
    ·rw [e];exact h
    ·exact hall.out k (by omega))
   clear hc hall;generalize xs.getD j 0=x at *
   by_cases h1:x<0
   ·have hV:=hno (by omega)
    clear hno hstep;go_wp2;go_ret;exact ⟨by rw [hV.out];rfl,rfl⟩
   ·by_cases h2:9999<x
    ·have hV:=hno (by omega)
     clear hno hstep;go_wp2;go_ret;exact ⟨by rw [hV.out];rfl,rfl⟩
    ·have hall2:=hstep (by omega)
     clear hno hstep;go_wp2;go_round
     case rel=>exact ⟨j+1,by go_num,by omega,hall2⟩
     case measure=>simp [intOf];omega
  ·have hjn:j=xs.length:=by omega
   have hji:¬ (j:Int)<(xs.length:Int):=by omega
   have hV:Hid (rv=decide (xs.length<=16)):=by
    show _=_
    rw [hrv.out,Z6 (by rw [<- hjn];exact hall.out),Bool.true_and]
   clear hc hall hrv;subst hjn
   by_cases h3:xs.length<=16
   ·have h3i:(xs.length:Int)<=16:=by omega
    rw [decide_eq_true h3] at hV
    go_wp2;go_ret;exact ⟨by rw [hV.out];simp,rfl⟩
   ·have h3i:¬ (xs.length:Int)<=16:=by omega
    rw [decide_eq_false h3] at hV
    go_wp2;go_ret;exact ⟨by rw [hV.out];simp,rfl⟩
theorem Q3 (m:Int) (w:World) :
  Calls Tryz.prog 121 #[.int .i64 m] w fun e w'=>e=.returned (.bool (decide (m=0\/m=63)))/\w'=w:=by
 by_cases h:m=0
 ·subst h
  go_enter Tryz.func121,Tryz.ntmps121;go_wp2;go_ret;exact ⟨rfl,rfl⟩
 ·by_cases h2:m=63
  ·subst h2
   go_enter Tryz.func121,Tryz.ntmps121;go_wp2;go_ret;exact ⟨rfl,rfl⟩
  ·have hi:(m==0)=false:=by simp [h]
   have hi2:(m==63)=false:=by simp [h2]
   have hV:Hid (decide (m=0\/m=63)=false):=decide_eq_false (by omega);clear h h2;go_enter Tryz.func121,Tryz.ntmps121;go_wp2;go_ret;exact ⟨by rw [hV.out];rfl,rfl⟩
theorem JU (v:Value) (xs:List Int) (w:World) (hv:SlI w v xs) (hl:xs.length<=1073741824) :
  Calls Tryz.prog 68 #[v] w fun e w'=>e=.returned (.bool (decide (xs.length<=40) && XZ xs))/\w'=w:=by
 have hR:=Xa7 v xs w hv hl;obtain ⟨a,c,rfl⟩:=hv.shp;clear hv;obtain ⟨rv,hrv⟩:∃ rv,Hid (rv=(decide (xs.length<=40) && XZ xs)):=⟨_,rfl⟩;rw [<- hrv.out]
 by_cases h3:xs.length<=40
 ·have h3i:(xs.length:Int)<=40:=by omega
  have hV:Hid (rv=XZ xs):=by show _=_;rw [hrv.out,decide_eq_true h3,Bool.true_and]
  clear hrv;generalize XZ xs=q at *;go_enter Tryz.func68,Tryz.ntmps68;go_wp2_with (go_at_call 149;refine hR.mono ?_;rintro e w' ⟨rfl,rfl⟩);go_ret;exact ⟨by rw [hV.out];first|rfl|simp,rfl⟩
 ·have h3i:¬ (xs.length:Int)<=40:=by omega
  have hV:Hid (rv=false):=by show _=_;rw [hrv.out,decide_eq_false h3,Bool.false_and]
  clear hR hrv;go_enter Tryz.func68,Tryz.ntmps68;go_wp2;go_ret;exact ⟨by rw [hV.out];first|rfl|simp,rfl⟩
theorem UW (p:Pa) (pv tv:Value) (w:World) (hp:SlI w pv p.params) (ht:SlI w tv p.text) (hpl:p.params.length<=1073741824) (htl:p.text.length<=1073741824) :
  Calls Tryz.prog 69 #[paV p pv tv] w fun e w'=>e=.returned (.bool (okV p))/\Below w.heap.size w w':=by
 obtain ⟨s,ps,m,ts⟩:=p;have hb0:=Xd w (Obj.cells #[.int .i64 s,pv,.int .i64 m,tv] 31);have hP:=PaC.new w s m pv tv 31;have hp1:=hp.below hb0;have ht1:=ht.below hb0;have hR:=JU tv ts _ ht1 htl;have hQ:=UB pv ps _ hp1 hpl;have hM:=fun W=>Q3 m W
 obtain ⟨pa,pc,rfl⟩:=hp1.shp;obtain ⟨ta,tc,rfl⟩:=ht1.shp;simp only at *;obtain ⟨rv,hrv⟩:∃ rv,Hid (rv=okV ⟨s,ps,m,ts⟩):=⟨_,rfl⟩;rw [<- hrv.out]
 have hval:Hid (rv=(decide (1<=s/\s<=5) && (XX ps && decide (ps.length<=16)) && decide (m=0\/m=63) && (decide (ts.length<=40) && XZ ts) && (decide (s=3) || decide (ps.length=0) && decide (m=0)) && (decide (4<=s) || decide (ts.length=0)))):=by
  show _=_
  rw [hrv.out]
  unfold okV;rw [Bool.eq_iff_iff]
  simp only [Bool.and_eq_true,Bool.or_eq_true,decide_eq_true_eq]
  constructor
  ·rintro ⟨⟨⟨a1,a2,a3,a4,a5,a6,a7⟩,a8⟩,a9⟩;exact ⟨⟨⟨⟨⟨⟨a1,a2⟩,a9,a3⟩,a4⟩,a5,a8⟩,a6⟩,a7⟩
  ·rintro ⟨⟨⟨⟨⟨⟨a1,a2⟩,a9,a3⟩,a4⟩,a5,a8⟩,a6⟩,a7⟩;exact ⟨⟨⟨a1,a2,a3,a4,a5,a6,a7⟩,a8⟩,a9⟩
 have hps0:ps.length=0->(XX ps && decide (ps.length<=16))=true:=fun h=>by
  rw [List.eq_nil_of_length_eq_zero h];rfl
 have hts0:ts.length=0->(decide (ts.length<=40) && XZ ts)=true:=fun h=>by
  rw [List.eq_nil_of_length_eq_zero h];rfl
 unfold paV;obtain ⟨_,⟨c0,c1,c2,c3⟩,_⟩:=id hP;clear hP hp ht hp1 hrv ht1;generalize (XX ps && decide (ps.length<=16))=qp at *;generalize (decide (ts.length<=40) && XZ ts)=qt at *;generalize hnp:ps.length=np at *;generalize hnt:ts.length=nt at *;clear hnp hnt;have zm:∀ b,(b=true ↔ m=0)->True:=fun _ _=>trivial
 clear zm;have hnm:m=0->decide (m=0\/m=63)=true:=fun h=>by simp [h]
 generalize hmk:decide (m=0\/m=63)=mk at *
 by_cases hs1:s=1\/s=2
 ·have e1:Hid (rv=(decide (np=0) && decide (m=0) && decide (nt=0))):=by
   show _=_
   rw [hval.out]
   by_cases z1:np=0
   ·by_cases z2:m=0
    ·by_cases z3:nt=0
     ·rw [hps0 z1,hts0 z3,hnm z2];rcases hs1 with rfl|rfl<;>simp [z1,z2,z3]
     ·rcases hs1 with rfl|rfl<;>simp [z3]
    ·rcases hs1 with rfl|rfl<;>simp [z2]
   ·rcases hs1 with rfl|rfl<;>simp [z1]
  clear hval hps0 hts0 hnm hmk hR hQ hM
  by_cases z1:np=0
  ·subst z1
   by_cases z2:m=0
   ·subst z2
    by_cases z3:nt=0
    ·subst z3
     rcases hs1 with rfl|rfl
     all_goals
      go_enter Tryz.func69,Tryz.ntmps69;go_wp2;go_ret;exact ⟨by rw [e1.out];rfl,hb0⟩
    ·have z3i:((nt:Int)==0)=false:=by simp;omega
     have e2:Hid (rv=false):=by show _=_;rw [e1.out];simp [z3]
     clear e1 z3;rcases hs1 with rfl|rfl
     all_goals
      go_enter Tryz.func69,Tryz.ntmps69;go_wp2;go_ret;exact ⟨by rw [e2.out];rfl,hb0⟩
   ·have z2i:(m==0)=false:=by simp [z2]
    have e2:Hid (rv=false):=by show _=_;rw [e1.out];simp [z2]
    clear e1 z2;rcases hs1 with rfl|rfl
    all_goals
     go_enter Tryz.func69,Tryz.ntmps69;go_wp2;go_ret;exact ⟨by rw [e2.out];rfl,hb0⟩
  ·have z1i:((np:Int)==0)=false:=by simp;omega
   have e2:Hid (rv=false):=by show _=_;rw [e1.out];simp [z1]
   clear e1 z1;rcases hs1 with rfl|rfl
   all_goals
    go_enter Tryz.func69,Tryz.ntmps69;go_wp2;go_ret;exact ⟨by rw [e2.out];rfl,hb0⟩
 ·by_cases hs3:s=3
  ·subst hs3
   have e1:Hid (rv=(qp && mk && decide (nt=0))):=by
    show _=_
    rw [hval.out]
    by_cases z3:nt=0
    ·rw [hts0 z3];simp [z3]
    ·simp [z3]
   clear hval hps0 hts0 hnm hmk hR hs1
   cases qp
   ·go_enter Tryz.func69,Tryz.ntmps69
    go_wp2_with (go_at_call 120;refine hQ.mono ?_;rintro e w' ⟨rfl,rfl⟩);go_ret;exact ⟨by rw [e1.out];rfl,hb0⟩
   ·cases mk
    ·go_enter Tryz.func69,Tryz.ntmps69
     go_wp2_with (first|(go_at_call 120;refine hQ.mono ?_;rintro e w' ⟨rfl,rfl⟩)|(go_at_call 121;refine (hM _).mono ?_;rintro e w' ⟨rfl,rfl⟩));go_ret;exact ⟨by rw [e1.out];rfl,hb0⟩
    ·by_cases z3:nt=0
     ·subst z3
      go_enter Tryz.func69,Tryz.ntmps69;go_wp2_with (first|(go_at_call 120;refine hQ.mono ?_;rintro e w' ⟨rfl,rfl⟩)|(go_at_call 121;refine (hM _).mono ?_;rintro e w' ⟨rfl,rfl⟩));go_ret;exact ⟨by rw [e1.out];rfl,hb0⟩
     ·have z3i:((nt:Int)==0)=false:=by simp;omega
      have e2:Hid (rv=false):=by show _=_;rw [e1.out];simp [z3]
      clear e1 z3;go_enter Tryz.func69,Tryz.ntmps69;go_wp2_with (first|(go_at_call 120;refine hQ.mono ?_;rintro e w' ⟨rfl,rfl⟩)|(go_at_call 121;refine (hM _).mono ?_;rintro e w' ⟨rfl,rfl⟩));go_ret;exact ⟨by rw [e2.out];rfl,hb0⟩
  ·by_cases hs4:s=4\/s=5
   ·have e1:Hid (rv=(decide (np=0) && decide (m=0) && qt)):=by
     show _=_
     rw [hval.out]
     by_cases z1:np=0
     ·by_cases z2:m=0
      ·rw [hps0 z1,hnm z2];rcases hs4 with rfl|rfl<;>simp [z1,z2]
      ·rcases hs4 with rfl|rfl<;>simp [z2]
     ·rcases hs4 with rfl|rfl<;>simp [z1]
    clear hval hps0 hts0 hnm hmk hQ hM hs1 hs3
    by_cases z1:np=0
    ·subst z1
     by_cases z2:m=0
     ·subst z2
      rcases hs4 with rfl|rfl
      all_goals
       go_enter Tryz.func69,Tryz.ntmps69;go_wp2_with (go_at_call 68;refine hR.mono ?_;rintro e w' ⟨rfl,rfl⟩);go_ret;exact ⟨by rw [e1.out];rfl,hb0⟩
     ·have z2i:(m==0)=false:=by simp [z2]
      have e2:Hid (rv=false):=by show _=_;rw [e1.out];simp [z2]
      clear e1 z2 hR;rcases hs4 with rfl|rfl
      all_goals
       go_enter Tryz.func69,Tryz.ntmps69;go_wp2;go_ret;exact ⟨by rw [e2.out];rfl,hb0⟩
    ·have z1i:((np:Int)==0)=false:=by simp;omega
     have e2:Hid (rv=false):=by show _=_;rw [e1.out];simp [z1]
     clear e1 z1 hR;rcases hs4 with rfl|rfl
     all_goals
      go_enter Tryz.func69,Tryz.ntmps69;go_wp2;go_ret;exact ⟨by rw [e2.out];rfl,hb0⟩
   ·have e1:Hid (rv=false):=by
     show _=_
     rw [hval.out,decide_eq_false (by omega)];simp
    have i1:(s==1)=false:=by simp;omega
    have i2:(s==2)=false:=by simp;omega
    have i3:(s==3)=false:=by simp;omega
    have i4:(s==4)=false:=by simp;omega
    have i5:(s==5)=false:=by simp;omega
    clear hval hps0 hts0 hnm hmk hR hQ hM hs1 hs3 hs4;go_enter Tryz.func69,Tryz.ntmps69;go_wp2;go_ret;exact ⟨by rw [e1.out];rfl,hb0⟩
theorem XeD (xs:List Ce):∀ k,(xs.flatMap ceL).take (k*7)=(xs.take k).flatMap ceL:=by
 induction xs with
 | nil=>intro k;simp
 | cons c xs ih =>
  intro k
  cases k with
  | zero=>simp
  | succ k =>
   rw [List.flatMap_cons,List.take_succ_cons,List.flatMap_cons,List.take_append,<- ih k]
   have hl:(ceL c).length=7:=rfl;rw [List.take_of_length_le (by rw [hl];omega),hl,show (k+1)*7-7=k*7 by omega]
theorem XeA (xs:List Ce):∀ k,(xs.flatMap ceL).drop (k*7)=(xs.drop k).flatMap ceL:=by
 induction xs with
 | nil=>intro k;simp
 | cons c xs ih =>
  intro k
  cases k with
  | zero=>simp
  | succ k =>
   have hl:(ceL c).length=7:=rfl;rw [List.flatMap_cons,List.drop_succ_cons,<- ih k,List.drop_append,hl,List.drop_of_length_le (by rw [hl];omega),List.nil_append,show (k+1)*7-7=k*7 by omega]
def YH (L:List Ce) (q:Nat) (M:List Ce):List Ce:=L.take q++M++L.drop (q+M.length)
theorem ZZ (L:List Ce) (q:Nat) (M:List Ce) (h:q+M.length<=L.length):(YH L q M).length=L.length:=by unfold YH;simp;omega
theorem XcW (L:List Ce) (q:Nat) (M:List Ce) (h:q+M.length<=L.length) (i:Nat):atC (YH L q M) i=if q<=i/\i<q+M.length then atC M (i-q) else atC L i:=by
 have h1:(L.take q).length=q:=by rw [List.length_take];omega
 unfold YH;rw [Zs,Zs,List.length_append,h1]
 by_cases c1:i<q
 ·rw [if_pos (by omega),if_pos c1,if_neg (by omega),Kw L q i c1]
 ·by_cases c2:i<q+M.length
  ·rw [if_pos c2,if_neg c1,if_pos (by omega)]
  ·rw [if_neg c2,if_neg (by omega),Y3,show q+M.length+(i-(q+M.length))=i by omega]
theorem Xl.cur {w:World} {base g n cap:Nat} {L:List Ce} (h:Xl w base (.slice (some ⟨g,0,none⟩) n cap) L) (hn:L.length=n) :
  ∃ cur:Array Value,w.heap[g]?=some (.cells cur 146 (0,0))/\base<=g/\n<=cap/\cap<=maxLen/\cur.size=cap*7/\cur.toList.take (n*7)=L.flatMap ceL:=by
 subst hn;rcases h.2 with ⟨h1,_⟩|⟨g',cap',cur,hv,hb,hg,hc,hm,hs,ht⟩
 ·cases h1
 ·simp only [Value.slice.injEq,Option.some.injEq,Addr.mk.injEq,and_true,true_and] at hv
  obtain ⟨rfl,rfl⟩:=hv;exact ⟨cur,hg,hb,hc,hm,hs,ht⟩
theorem Xl.relaid {w:World} {base g n cap:Nat} {L:List Ce} (h:Xl w base (.slice (some ⟨g,0,none⟩) n cap) L) (hn:L.length=n) (cur:Array Value) (hg:w.heap[g]?=some (.cells cur 146 (0,0)))
  (q:Nat) (M:List Ce) (hq:q+M.length<=n) :
  Xl (w.setRow g (cur.toList.take (q*7)++M.flatMap ceL++cur.toList.drop (q*7+(M.flatMap ceL).length)).toArray) base (.slice (some ⟨g,0,none⟩) n cap) (YH L q M) /\
   w.grownBy (w.setRow g (cur.toList.take (q*7)++M.flatMap ceL++cur.toList.drop (q*7+(M.flatMap ceL).length)).toArray) (some g):=by
 obtain ⟨cur',hg',hb,hc,hm,hs,ht⟩:=h.cur hn;rw [hg] at hg'
 simp only [Option.some.injEq,Obj.cells.injEq,and_true] at hg';subst hg';have hl:=ZZ L q M (by omega);refine ⟨⟨by rw [Y6,hl],.inr ⟨g,cap,_,by rw [hl,hn],hb,setRow_heap w g cur _ 146 _ hg,by omega,hm,?_,?_⟩⟩,⟨rfl,rfl,rfl,by simp [World.setRow],fun k _ hk=>setRow_other w g k _ (fun e=>hk (by simp [e]))⟩⟩
 ·have:M.length*7<=n*7-q*7:=by omega
  have:n*7<=cap*7:=by omega
  rw [List.size_toArray,List.length_append,List.length_append,List.length_take,List.length_drop,Y6,Array.length_toList,hs];omega
 ·rw [hl,hn]
  have e1:cur.toList.take (q*7)=(L.take q).flatMap ceL:=by
   rw [<- XeD,<- ht,List.take_take,Nat.min_eq_left (by omega)]
  have e2:(cur.toList.drop (q*7+(M.flatMap ceL).length)).take (n*7-(q+M.length)*7)=(L.drop (q+M.length)).flatMap ceL:=by
   rw [<- XeA,<- ht,Y6,<- Nat.add_mul,List.drop_take]
  unfold YH;rw [List.flatMap_append,List.flatMap_append,<- e1,<- e2]
  have hl1:(cur.toList.take (q*7)++M.flatMap ceL).length=(q+M.length)*7:=by
   rw [List.length_append,List.length_take,Y6,Array.length_toList,hs];omega
  rw [List.take_append,List.take_of_length_le (by rw [hl1];omega),hl1]
theorem XdR (z:Ce) (k:Nat):(Builtin.zeroCells (ceL z).toArray k).toList=(List.replicate k z).flatMap ceL:=by
 apply List.ext_getElem?
 intro j;have hl:(ceL z).length=7:=rfl
 by_cases hj:j<k*7
 ·have h2:j % 7<7:=Nat.mod_lt _ (by decide)
  have e:=Uu (List.replicate k z) (j / 7) (j % 7) (by simp;omega) h2;rw [show j / 7*7+j % 7=j by omega] at e
  rw [e]
  have ea:atC (List.replicate k z) (j / 7)=z:=by rw [Jg (by simp;omega)];simp
  rw [ea]
  simp only [Builtin.zeroCells,List.size_toArray,hl];rw [Array.getElem?_toList,Array.getElem?_map,Array.getElem?_range]
  rw [if_pos hj]
  simp only [Option.map_some];rw [getElem!_pos _ _ (by simpa [hl] using h2)]
  simp
 ·have h1:((Builtin.zeroCells (ceL z).toArray k).toList)[j]?=none:=by
   apply List.getElem?_eq_none;simp [Builtin.zeroCells,hl];omega
  have h2:((List.replicate k z).flatMap ceL)[j]?=none:=by
   apply List.getElem?_eq_none;rw [Y6];simp;omega
  rw [h1,h2]
theorem KT:Tryz.prog.underlying 120=some (.slice 146):=by kernel_rfl
theorem XfO (w:World):(zeroValue 146).run Tryz.prog w=.ok (ceV Ce.zero) w:=by
 obtain ⟨i,hi,hz,_⟩:=info_parts Kq;simp [zeroValue,typeInfo,hi,hz]
theorem Xf0 {w:World} {ops:Array Oper} {rest:List Oper} {o:Oper} {ac:Act} {Q:Exit->Act->World->Prop} (hgd:o.guard=none) (s:Operand)
  (ho:o.op=.call { callee:=.builtin .clear,args:=#[s],argTypes:=#[120] })
  (base g n cap q k c off:Nat) (L:List Ce) (h:Xl w base (.slice (some ⟨g,0,none⟩) n cap) L) (hn:L.length=n) (hq:q+k<=n) (hoff:off=q*7) (hs:ac.eval s=.slice (some ⟨g,off,none⟩) k c)
  (hK:∀ w',Xl w' base (.slice (some ⟨g,0,none⟩) n cap) (YH L q (List.replicate k Ce.zero))->w.grownBy w' (some g)->wpList Tryz.prog ops Q rest (ac.put o.dst (.tuple #[])) w') :
  wpList Tryz.prog ops Q (o::rest) ac w:=by
 subst hoff;refine wpList_plain hgd fun K hK'=>?_
 obtain ⟨cur,hg,hb,hc,hm,hsz,ht⟩:=h.cur hn;have hwin:=h.relaid hn cur hg q (List.replicate k Ce.zero) (by simpa using hq)
 by_cases h0:k=0
 ·subst h0
  have hrun:∀ ty,(Builtin.clear_ #[120] ty #[.slice (some ⟨g,q*7,none⟩) 0 c]).run Tryz.prog w=.ok (.tuple #[]) w:=fun ty=>by
   simp [Builtin.clear_,run_underlying KT]
  unfold Oper.wp;simp [execOp,ho,resolve,invoke,builtin,hs,hrun,Result.andThen];refine hK' _ _ (hK w ?_ ⟨rfl,rfl,rfl,Nat.le_refl _,fun _ _ _=>rfl⟩);have e:YH L q (List.replicate 0 Ce.zero)=L:=by simp [YH]
  rw [e];exact h
 ·have hfl:=Y6 (List.replicate k Ce.zero)
  rw [List.length_replicate] at hfl
  have hz:(ceV Ce.zero).cells=(ceL Ce.zero).toArray:=rfl;have hst:=run_storeCells_at Tryz.prog g (q*7) 146 ((List.replicate k Ce.zero).flatMap ceL) 0 cur w hg (by rw [hfl,hsz];omega) (Uv _);rw [Nat.add_zero] at hst
  obtain ⟨m,rfl⟩:∃ m,k=m+1:=⟨k-1,by omega⟩
  have hrun:∀ ty,(Builtin.clear_ #[120] ty #[.slice (some ⟨g,q*7,none⟩) (m+1) c]).run Tryz.prog w=.ok (.tuple #[]) (w.setRow g (cur.toList.take (q*7)++(List.replicate (m+1) Ce.zero).flatMap ceL++cur.toList.drop (q*7+((List.replicate (m+1) Ce.zero).flatMap ceL).length)).toArray):=fun ty=>by
   simp only [Builtin.clear_];simp only [Sem.run_bind,run_underlying KT,Result.andThen_ok,XfO,hz,XdR,hst,List.getElem?_toArray,List.getElem?_cons_zero];simp
  unfold Oper.wp;simp [execOp,ho,resolve,invoke,builtin,hs,hrun,Result.andThen];have:=hK _ hwin.1 hwin.2;simp at this;exact hK' _ _ this
theorem Xe6 (n:Nat):(madeCells (ceV Ce.zero).cells (n*7)).toList=(List.replicate n Ce.zero).flatMap ceL:=by
 apply List.ext_getElem?
 intro i
 by_cases hi:i<n*7
 ·have h1:i / 7<n:=by omega
  have h2:i % 7<7:=Nat.mod_lt _ (by decide);have e:i=i / 7*7+i % 7:=by omega
  have hr:((List.replicate n Ce.zero).flatMap ceL)[i]?=(ceL Ce.zero)[i % 7]?:=by
   conv=>lhs;rw [e]
   rw [Uu _ (i / 7) (i % 7) (by simpa using h1) h2]
   simp [atC,h1]
  rw [hr]
  simp only [madeCells,Array.toList_map,List.getElem?_map,Array.toList_range];rw [List.getElem?_range hi]
  generalize he:i % 7=k at *;have hz:(ceV Ce.zero).cells.size=7:=rfl;simp only [Option.map_some,hz,he]
  match k,h2 with
  | 0,_=>rfl
  | 1,_=>rfl
  | 2,_=>rfl
  | 3,_=>rfl
  | 4,_=>rfl
  | 5,_=>rfl
  | 6,_=>rfl
 ·rw [List.getElem?_eq_none (by simp [size_madeCells];omega),List.getElem?_eq_none (by rw [Y6];simp;omega)]
theorem Qy {w:World} {ops:Array Oper} {rest:List Oper} {o:Oper} {ac:Act} {Q:Exit->Act->World->Prop} (hgd:o.guard=none) (x y:Operand)
  (ho:o.op=Op.makeSlice 120 x y) (n:Nat) (hx:ac.eval x=.int .i64 (n:Int)) (hy:ac.eval y=.int .i64 (n:Int)) (hn:n<=1073741824)
  (h:∀ w',Xl w' w.heap.size (.slice (some ⟨w.heap.size,0,none⟩) n n) (List.replicate n Ce.zero)->Below w.heap.size w w'->wpList Tryz.prog ops Q rest (ac.put o.dst (.slice (some ⟨w.heap.size,0,none⟩) n n)) w') :
  wpList Tryz.prog ops Q (o::rest) ac w:=by
 obtain ⟨i0,hi,hz0,hz1,hz2⟩:=info_parts Kq;refine wpList_make_full _ hgd x y 120 ho w.heap.size 146 i0 (ceV Ce.zero) 7 Tryz.underlying120 hi hz0 hz1 .i64 .i64 (n:Int) (n:Int) n hx hy rfl rfl (by rw [hz2];omega) (by unfold maxLen;omega) (Nat.le_refl _) (fun w' ho' hg=>?_);refine h w' ?_ ((Below.refl _ _).grown hg (Nat.le_refl _) (fun k hk=>by cases hk));rw [Xe6] at ho'
 unfold Xl;rw [List.length_replicate]
 exact ho'
theorem Qk {w:World} (ty:TypeId) (base g n cap q:Nat) (L M:List Ce) (h:Xl w base (.slice (some ⟨g,0,none⟩) n cap) L) (hn:L.length=n) (dp sp:Option Addr) (dLen dCap sLen sCap:Nat) (hM:M.length=Nat.min sLen dLen) (hq:q+M.length<=n)
  (hpos:0<M.length->dp=some ⟨g,q*7,none⟩/\∃ b off,sp=some ⟨b,off,none⟩/\∀ i,i<M.length->Je w b (off+i*7) (atC M i)) :
  ∃ w',(Builtin.copy_ #[120,120] ty #[.slice dp dLen dCap,.slice sp sLen sCap]).run Tryz.prog w=.ok (goInt M.length) w'/\Xl w' base (.slice (some ⟨g,0,none⟩) n cap) (YH L q M)/\w.grownBy w' (some g):=by
 obtain ⟨i0,hi,hz0,hz1,hz2⟩:=info_parts Kq;obtain ⟨cur,hg,hb,hc,hm,hsz,ht⟩:=h.cur hn;have hwin:=h.relaid hn cur hg q M hq
 by_cases h0:M.length=0
 ·have hM0:M=[]:=List.eq_nil_of_length_eq_zero h0
  subst hM0;have e:YH L q []=L:=by simp [YH]
  refine ⟨w,?_,by rw [e];exact h,⟨rfl,rfl,rfl,Nat.le_refl _,fun _ _ _=>rfl⟩⟩;have hm0:Nat.min sLen dLen=0:=by simpa using hM.symm
  cases sp<;>cases dp<;>simp [Builtin.copy_,run_underlying KT,Builtin.lenOf,Builtin.firstCells,sizeOf,typeInfo,hi,hm0,loadCells,loadCellsFrom,storeCells]
 ·obtain ⟨rfl,b,off,rfl,hsrc⟩:=hpos (by omega)
  refine ⟨_,?_,hwin.1,hwin.2⟩;have hl:=run_loadCells_list (P:=Tryz.prog) w ⟨b,off,none⟩ (M.flatMap ceL) (fun j v hj=>by rw [Addr.add_mid];exact Ug hsrc j v hj);rw [Y6] at hl
  have hst:=run_storeCells_at Tryz.prog g (q*7) 146 (M.flatMap ceL) 0 cur w hg (by rw [Y6,hsz];omega) (Uv _);rw [Nat.add_zero] at hst
  simp [Builtin.copy_,run_underlying KT,Builtin.lenOf,Builtin.firstCells,sizeOf,typeInfo,hi,hz1,<- hM,hl,hst]
theorem Xd7 {w:World} {ops:Array Oper} {rest:List Oper} {o:Oper} {ac:Act} {Q:Exit->Act->World->Prop} (hgd:o.guard=none) (d s:Operand)
  (ho:o.op=.call { callee:=.builtin .copy,args:=#[d,s],argTypes:=#[120,120] })
  (base g n cap q:Nat) (L M:List Ce) (h:Xl w base (.slice (some ⟨g,0,none⟩) n cap) L) (hn:L.length=n) (dp sp:Option Addr) (dLen dCap sLen sCap:Nat) (hd:ac.eval d=.slice dp dLen dCap) (hs:ac.eval s=.slice sp sLen sCap) (hM:M.length=Nat.min sLen dLen) (hq:q+M.length<=n)
  (hpos:0<M.length->dp=some ⟨g,q*7,none⟩/\∃ b off,sp=some ⟨b,off,none⟩/\∀ i,i<M.length->Je w b (off+i*7) (atC M i))
  (hK:∀ w',Xl w' base (.slice (some ⟨g,0,none⟩) n cap) (YH L q M)->w.grownBy w' (some g)->wpList Tryz.prog ops Q rest (ac.put o.dst (goInt M.length)) w') :
  wpList Tryz.prog ops Q (o::rest) ac w:=by
 refine wpList_plain hgd fun K hK'=>?_
 obtain ⟨w',hrun,h1,h2⟩:=Qk (w:=w) o.type base g n cap q L M h hn dp sp dLen dCap sLen sCap hM hq hpos;unfold Oper.wp;simp [execOp,ho,resolve,invoke,builtin,hd,hs,hrun,Result.andThen];exact hK' _ _ (hK w' h1 h2)
theorem Kp {ops:Array Oper} {o:Oper} {ac:Act} {w:World} {K:Act->World->Prop} {Q:Exit->Act->World->Prop} {E:Prop} (hgd:o.guard=none) (d s:Operand)
  (ho:o.op=.call { callee:=.builtin .copy,args:=#[d,s],argTypes:=#[120,120] })
  (base g n cap q:Nat) (L M:List Ce) (h:Xl w base (.slice (some ⟨g,0,none⟩) n cap) L) (hn:L.length=n) (dp sp:Option Addr) (dLen dCap sLen sCap:Nat) (hd:ac.eval d=.slice dp dLen dCap) (hs:ac.eval s=.slice sp sLen sCap) (hM:M.length=Nat.min sLen dLen) (hq:q+M.length<=n)
  (hpos:0<M.length->dp=some ⟨g,q*7,none⟩/\∃ b off,sp=some ⟨b,off,none⟩/\∀ i,i<M.length->Je w b (off+i*7) (atC M i))
  (hK:∀ w',Xl w' base (.slice (some ⟨g,0,none⟩) n cap) (YH L q M)->w.grownBy w' (some g)->K (ac.put o.dst (goInt M.length)) w') :
  if Region.wanted o (yielded ops ac.tmps)=true then Oper.wp Tryz.prog o ac w K Q else E:=by
 have hw:Region.wanted o (yielded ops ac.tmps)=true:=by simp [Region.wanted,hgd]
 rw [if_pos hw]
 obtain ⟨w',hrun,h1,h2⟩:=Qk (w:=w) o.type base g n cap q L M h hn dp sp dLen dCap sLen sCap hM hq hpos;unfold Oper.wp;simp [execOp,ho,resolve,invoke,builtin,hd,hs,hrun,Result.andThen];exact hK w' h1 h2
theorem XeB (xs:List Ce) (c':Ce) (k:Nat) (u:Value) (hk:k<7):∀ i,i<xs.length->(ceL (atC xs i)).set k u=ceL c'->(xs.flatMap ceL).set (i*7+k) u=(xs.set i c').flatMap ceL:=by
 induction xs with
 | nil=>intro i h;simp at h
 | cons d xs ih =>
  intro i h he
  cases i with
  | zero =>
   have e0:atC (d::xs) 0=d:=by simp [atC]
   rw [e0] at he
   rw [List.flatMap_cons,List.set_append,if_pos (by simp [ceL];omega),Nat.zero_mul,Nat.zero_add,he,List.set_cons_zero,List.flatMap_cons]
  | succ i =>
   have e1:atC (d::xs) (i+1)=atC xs i:=by simp [atC]
   rw [e1] at he
   have e:(i+1)*7+k=(i*7+k)+7:=by omega
   rw [e,List.flatMap_cons,List.set_append,if_neg (by simp [ceL])]
   have e2:i*7+k+7-(ceL d).length=i*7+k:=by simp [ceL]
   rw [e2,ih i (by simpa using h) he,List.set_cons_succ,List.flatMap_cons]
theorem Xl.put1 {w:World} {base g n cap:Nat} {xs:List Ce} (h:Xl w base (.slice (some ⟨g,0,none⟩) n cap) xs) (hn:xs.length=n) (i:Nat) (hi:i<n) (k:Nat) (hk:k<7) (u:Value) (c':Ce) (he:(ceL (atC xs i)).set k u=ceL c') :
  Xl (w.setCell ⟨g,i*7+k,none⟩ u) base (.slice (some ⟨g,0,none⟩) n cap) (xs.set i c')/\w.grownBy (w.setCell ⟨g,i*7+k,none⟩ u) (some g):=by
 subst hn;have h0:=World.ownsRow.stored h (i*7+k) u;refine ⟨?_,h0.2⟩;have:=h0.1;rw [XeB xs c' k u hk i hi he] at this
 unfold Xl;rw [List.length_set]
 exact this
def XgT (w:World) (g o:Nat) (r:Int) (s:St):World :=
 (((((w.setCell ⟨g,o,none⟩ (.int .i64 r)).setCell ⟨g,o+1,none⟩ (.int .i64 s.fore)).setCell ⟨g,o+2,none⟩ (.int .i64 s.back)).setCell ⟨g,o+3,none⟩ (.bool s.bold)).setCell ⟨g,o+4,none⟩ (.bool s.under)).setCell ⟨g,o+5,none⟩ (.bool s.turned)
theorem XeC (xs:List Ce) (r:Int) (s:St):∀ i,i<xs.length->(((((((xs.flatMap ceL).set (i*7) (.int .i64 r)).set (i*7+1) (.int .i64 s.fore)).set (i*7+2) (.int .i64 s.back)).set (i*7+3) (.bool s.bold)).set (i*7+4) (.bool s.under)).set (i*7+5) (.bool s.turned))=(xs.set i ⟨r,s,(atC xs i).part⟩).flatMap ceL:=by
 induction xs with
 | nil=>intro i h;simp at h
 | cons d xs ih =>
  intro i h
  cases i with
  | zero=>simp [ceL,atC]
  | succ i =>
   have e:∀ k,(i+1)*7+k=(i*7+k)+7:=fun k=>by omega
   have e0:(i+1)*7=(i*7)+7:=by omega
   rw [e 1,e 2,e 3,e 4,e 5,e0]
   have hs:∀ (m:Nat) (u:Value) (l:List Value),((ceL d++l).set (m+7) u)=ceL d++l.set m u:=fun m u l=>by
    rw [List.set_append,if_neg (by simp [ceL])]
    simp [ceL]
   have e1:atC (d::xs) (i+1)=atC xs i:=by simp [atC]
   rw [List.flatMap_cons,hs,hs,hs,hs,hs,hs,ih i (by simpa using h),List.set_cons_succ,List.flatMap_cons,e1]
theorem Xl.putRS {w:World} {base g n cap:Nat} {xs:List Ce} (h:Xl w base (.slice (some ⟨g,0,none⟩) n cap) xs) (hn:xs.length=n) (i:Nat) (hi:i<n) (r:Int) (s:St) :
  Xl (XgT w g (i*7) r s) base (.slice (some ⟨g,0,none⟩) n cap) (xs.set i ⟨r,s,(atC xs i).part⟩)/\w.grownBy (XgT w g (i*7) r s) (some g):=by
 subst hn;have h0:=World.ownsRow.stored h (i*7) (.int .i64 r);have h1:=World.ownsRow.stored h0.1 (i*7+1) (.int .i64 s.fore);have h2:=World.ownsRow.stored h1.1 (i*7+2) (.int .i64 s.back);have h3:=World.ownsRow.stored h2.1 (i*7+3) (.bool s.bold);have h4:=World.ownsRow.stored h3.1 (i*7+4) (.bool s.under);have h5:=World.ownsRow.stored h4.1 (i*7+5) (.bool s.turned);refine ⟨?_,Xf (Xf (Xf (Xf (Xf h0.2 h1.2) h2.2) h3.2) h4.2) h5.2⟩;have:=h5.1;rw [XeC xs r s i hi] at this
 unfold Xl XgT;rw [List.length_set]
 exact this
theorem ZX (w:World) (base:Nat):Xl w base (.slice none 0 0) []:=⟨rfl,.inl ⟨rfl,rfl⟩⟩
def YT (xs:List Ce) (j:Nat):Ce:=if j=0 then Ce.zero else atC xs (j-1)
theorem Qa (xs:List Ce):YT xs 0=Ce.zero:=rfl
theorem KL (xs:List Ce) (j:Nat):YT xs (j+1)=atC xs j:=by simp [YT]
theorem Xfn {xs:List Ce} (h:XK xs) (i:Nat):Ki (YT xs i) (atC xs i)=true:=by
 unfold Ki
 cases i with
 | zero =>
  rw [Qa,if_neg (by decide)]
  have:¬ (atC xs 0).part=2:=fun e=>absurd (h.2.2 0 e).1 (by decide)
  simp [this]
 | succ i =>
  rw [KL]
  by_cases e:(atC xs i).part=1
  ·have:=h.2.1 i e
   rw [if_pos e];simp [this.1,this.2]
  ·rw [if_neg e]
   have:¬ (atC xs (i+1)).part=2:=fun e2=>by
    have:=(h.2.2 _ e2).2;rw [Nat.add_sub_cancel] at this;exact e this
   simp [this]
theorem XcL {xs:List Ce} {i:Nat} (hi:i<xs.length) (h:c1B (atC xs i)=false):Xu xs=false:=by
 cases hr:Xu xs with
 | false=>rfl
 | true =>
  have:=(Xd6 _).2 (((YN xs).1 hr).2.1 i hi);rw [h] at this;cases this
theorem XcM {xs:List Ce} {i:Nat} (h:Ki (YT xs i) (atC xs i)=false):Xu xs=false:=by
 cases hr:Xu xs with
 | false=>rfl
 | true =>
  have:=Xfn ((YN xs).1 hr).2 i;rw [h] at this;cases this
theorem Xhs {xs:List Ce} (hl:1<=xs.length/\xs.length<=60) (h:∀ i,i<xs.length->c1B (atC xs i)=true/\Ki (YT xs i) (atC xs i)=true):Xu xs=!decide ((YT xs xs.length).part=1):=by
 have hlast:YT xs xs.length=atC xs (xs.length-1):=by unfold YT;rw [if_neg (by omega)]
 by_cases e:(YT xs xs.length).part=1
 ·rw [decide_eq_true e]
  cases hr:Xu xs with
  | false=>rfl
  | true =>
   rw [hlast] at e
   have:=(((YN xs).1 hr).2.2.1 _ e).1;rw [Z9 (by omega)] at this
   exact absurd this (by decide)
 ·rw [decide_eq_false e]
  show Xu xs=true
  rw [YN]
  refine ⟨hl,fun i hi=>(Xd6 _).1 (h i hi).1,fun i h1=>?_,fun i h2=>?_⟩
  ·have hi:i<xs.length:=Jk (by rw [h1];decide)
   by_cases c:i+1<xs.length
   ·have:=(h (i+1) c).2
    unfold Ki at this;rw [KL,if_pos h1] at this
    simpa using this
   ·exfalso
    rw [hlast,show xs.length-1=i by omega] at e
    exact e h1
  ·have hi:i<xs.length:=Jk (by rw [h2];decide)
   have:=(h i hi).2;unfold Ki at this
   cases i with
   | zero=>rw [Qa,if_neg (by decide),h2] at this;simp at this
   | succ i =>
    rw [KL] at this
    by_cases c:(atC xs i).part=1
    ·exact ⟨by omega,by rw [Nat.add_sub_cancel];exact c⟩
    ·rw [if_neg c,h2] at this;simp at this
theorem KW (v:Value) (xs:List Ce) (w:World) (hS:Xo w) (hv:SlC w v xs) (hl:xs.length<=1048576) :
  Calls Tryz.prog 156 #[v] w fun e w'=>e=.returned (.bool (Xu xs))/\Below w.heap.size w w':=by
 obtain ⟨a,c,rfl,hcp,hnc,_⟩:=id hv;have hlt:=hS.lt
 by_cases h0:xs.length<1
 ·have h0i:(xs.length:Int)<1:=by omega
  have hV:Hid (Xu xs=false):=Uo xs (by omega);go_enter Tryz.func156,Tryz.ntmps156;go_wp2;go_ret;exact ⟨by rw [hV.out];rfl,Below.refl _ _⟩
 ·have h0i:¬ (xs.length:Int)<1:=by omega
  by_cases h60:60<xs.length
  ·have h60i:(60:Int)<(xs.length:Int):=by omega
   have hV:Hid (Xu xs=false):=Uo xs (by omega);go_enter Tryz.func156,Tryz.ntmps156;go_wp2;go_ret;exact ⟨by rw [hV.out];rfl,Below.refl _ _⟩
  ·have h60i:¬ (60:Int)<(xs.length:Int):=by omega
   have hco:=fun c W h=>Xc1 c W h
   have hjo:=fun a c W=>XeM a c W
   have hbA:=Xd w (Obj.cells #[.int .i64 0,.int .i64 0,.int .i64 0,.bool false,.bool false,.bool false,.int .i64 0] 146);have hz:=CeF.new w Ce.zero 146;simp only [Ce.zero,St.zero] at hz;unfold ceV at *;go_enter Tryz.func156,Tryz.ntmps156;go_wp2;go_loopw [17,5] (fun i _ wr=>∃ j:Nat,i=.int .i64 j/\j<=xs.length/\CeF wr w.heap.size (YT xs j)/\Below w.heap.size w wr/\Hid (∀ i,i<j->c1B (atC xs i)=true/\Ki (YT xs i) (atC xs i)=true)) (fun i _ _=>xs.length-(intOf i).toNat)
   case atStart=>exact ⟨0,rfl,Nat.zero_le _,hz,hbA,fun i h=>absurd h (Nat.not_lt_zero i)⟩
   case round =>
    clear hz hbA;obtain ⟨j,rfl,hj,hA,hb,hall⟩:=hrel
    by_cases hlj:j<xs.length
    ·have hji:(j:Int)<(xs.length:Int):=by omega
     have hj0:(0:Int)<=(j:Int):=by omega
     obtain ⟨b,off,rfl,hsrc⟩:=(hv.below hb).src (by omega);have hat:=hsrc j hlj;have hno1:=fun h=>XcL (xs:=xs) hlj h
     have hno2:=fun h=>XcM (xs:=xs) (i:=j) h
     have hsu:Hid (YT xs (j+1)=atC xs j):=KL xs j;have hX:=CeF.new wr (atC xs j) 146;have hbX:=Xd wr (Obj.cells #[.int .i64 (atC xs j).rune,.int .i64 (atC xs j).st.fore,.int .i64 (atC xs j).st.back,.bool (atC xs j).st.bold,.bool (atC xs j).st.under,.bool (atC xs j).st.turned,.int .i64 (atC xs j).part] 146);have hA1:=hA.below hbX;have hb1:=hb.trans (hbX.mono hb.size)
     have hstep:c1B (atC xs j)=true->Ki (YT xs j) (atC xs j)=true->Hid (∀ i,i<j+1->c1B (atC xs i)=true/\Ki (YT xs i) (atC xs i)=true):=fun h1 h2=>(show ∀ i,i<j+1->c1B (atC xs i)=true/\Ki (YT xs i) (atC xs i)=true from fun i hi=>by
      by_cases e:i=j
      ·rw [e];exact ⟨h1,h2⟩
      ·exact hall.out i (by omega))
     obtain ⟨c0,c1,c2,c3,c4,c5,c6⟩:=hat;have hne:w.heap.size≠wr.heap.size:=by have:=hA.1;omega
     generalize atC xs j=x at *;generalize YT xs j=ah at *;clear hsrc hall hA hb hbX;go_wp2_with fail;generalize wr.alloc (Obj.cells #[.int .i64 x.rune,.int .i64 x.st.fore,.int .i64 x.st.back,.bool x.st.bold,.bool x.st.under,.bool x.st.turned,.int .i64 x.part] 146)=W1 at *;refine (hco x _ (hS.below hb1 hlt)).mono ?_;rintro e w2 ⟨rfl,hb2⟩;have hX2:=hX.below hb2;have hA2:=hA1.below hb2;have hb2':=hb1.trans (hb2.mono hb1.size);clear hX hA1 hb2 c0 c1 c2 c3 c4 c5 c6 hb1 hco
     cases hc1:c1B x
     ·have hV:Hid (Xu xs=false):=hno1 hc1
      clear hno1 hno2 hstep hc1 hX2 hA2 hjo;go_wp2;go_ret;exact ⟨by rw [hV.out];rfl,hb2'⟩
     ·obtain ⟨_,⟨c0,c1,c2,c3,c4,c5,c6⟩,_⟩:=id hX2
      obtain ⟨_,⟨d0,d1,d2,d3,d4,d5,d6⟩,_⟩:=id hA2;go_wp2_with fail;refine (hjo ah x _).mono ?_;rintro e w3 ⟨rfl,hb3⟩;have hX3:=hX2.below hb3;have hA3:=hA2.below hb3;have hb3':=hb2'.trans (hb3.mono hb2'.size);clear hX2 hA2 hb3 c0 c1 c2 c3 c4 c5 c6 d0 d1 d2 d3 d4 d5 d6 hb2' hjo
      cases hc2:Ki ah x
      ·have hV:Hid (Xu xs=false):=hno2 hc2
       clear hno1 hno2 hstep hc1 hc2 hX3 hA3;go_wp2;go_ret;exact ⟨by rw [hV.out];rfl,hb3'⟩
      ·have hall:=hstep hc1 hc2
       have hAp:=hA3.put x;have hbp:=hb3'.grown (XdQ w3 w.heap.size x) hb3'.size (fun k hk=>by cases hk;exact Nat.le_refl _);obtain ⟨_,⟨c0,c1,c2,c3,c4,c5,c6⟩,_⟩:=id hX3;obtain ⟨_,⟨d0,d1,d2,d3,d4,d5,d6⟩,⟨f0,f1,f2,f3,f4,f5,f6⟩⟩:=id hA3;clear hno1 hno2 hstep hc1 hc2 hX3 hA3;simp only [XgR] at hAp hbp;go_wp2;go_roundw
       case rel=>exact ⟨j+1,by go_num,by omega,by rw [hsu.out];exact hAp,hbp,hall⟩
       case measure=>simp [intOf];omega
    ·have hjn:j=xs.length:=by omega
     have hji:¬ (j:Int)<(xs.length:Int):=by omega
     have hV:Hid (Xu xs=!decide ((YT xs xs.length).part=1)):=Xhs ⟨by omega,by omega⟩ (by rw [<- hjn];exact hall.out);rw [<- hjn] at hV
     obtain ⟨_,⟨d0,d1,d2,d3,d4,d5,d6⟩,_⟩:=id hA;clear hco hjo hall;generalize YT xs j=ah at *;go_wp2;go_ret;exact ⟨by rw [hV.out];first|rfl|(simp;done),hb⟩
theorem J9 (v:Value) (xs:List Ce) (p q:Nat) (s:St) (w:World) (hv:SlC w v xs) (hpq:p<=q) (hq:q<=xs.length) (hl:xs.length<=1000) :
  Calls Tryz.prog 246 #[v,.int .i64 p,.int .i64 q,stV s] w fun e w'=>∃ u,e=.returned u/\Xl w' w.heap.size u (XU xs p q s)/\Below w.heap.size w w':=by
 have hbl:=fun W=>JJ s W
 have hme:=fun u W h=>YW u (XI xs p q s) W h (by rw [Xq];omega)
 have hcl:Hid (XU xs p q s=Xs (XI xs p q s)):=rfl;obtain ⟨a,c,rfl,hr⟩:=id hv;have h2:=XT.new w s 28;have hbA:=Xd w (Obj.cells #[.int .i64 s.fore,.int .i64 s.back,.bool s.bold,.bool s.under,.bool s.turned] 28);have k00:=KC (w.alloc (Obj.cells #[.int .i64 s.fore,.int .i64 s.back,.bool s.bold,.bool s.under,.bool s.turned] 28)) (w.heap.size+1) (by simp);have e1:(w.alloc (Obj.cells #[.int .i64 s.fore,.int .i64 s.back,.bool s.bold,.bool s.under,.bool s.turned] 28)).heap.size=w.heap.size+1:=by simp
 rw [e1] at k00
 have hv0:=(hv.below hbA).below (Xd _ (Obj.cells #[] 146));have hs0:=h2.below (Xd _ (Obj.cells #[] 146));have hb0:=hbA.trans ((Xd _ (Obj.cells #[] 146)).mono hbA.size);unfold stV ceV Xz at *;simp only at hbl;go_enter Tryz.func246,Tryz.ntmps246;go_wp2_with (at_builtin;refine Y9 rfl _ _ rfl (w.heap.size+1) _ [] rfl (by exact k00) (by simp) _ xs hv0 rfl (by simp;omega) ?_;intro u w1 ho1 hg1);have k0:OC (w.heap.size+1) (.slice (some ⟨w.heap.size+1,0,none⟩) 0 0) [] w ((w.alloc (Obj.cells #[.int .i64 s.fore,.int .i64 s.back,.bool s.bold,.bool s.under,.bool s.turned] 28)).alloc (Obj.cells #[] 146)):=⟨k00,hb0,by simp,by omega⟩;have k1:OC (w.heap.size+1) u xs w w1:=k0.own (by simpa using ho1) hg1;have hs1:XT w1 w.heap.size s:=hs0.own k00 (Nat.lt_succ_self _) hg1;clear k00 hv0 ho1 hg1 k0 hs0 hb0 hbA h2 e1 hr hv;rcases k1.1.shape with ⟨rfl,rfl⟩|⟨g,cap,rfl,hbg,hlg,hcap⟩
 ·have hp0:p=0:=by simp at hq;omega
  have hq0:q=0:=by simpa using hq
  subst hp0 hq0;go_wp2;refine wp_loop_rounds 1 ?_;rw [rounds_succ]
  go_wp2_with fail;refine (hme _ _ (by rw [JE];exact SlC.of_own k1.1)).mono ?_;rintro e w2 ⟨u2,rfl,ho2,hb2⟩;go_wp2;go_ret;exact ⟨u2,rfl,by rw [hcl.out];exact ho2.low k1.2.1.size,k1.2.1.trans (hb2.mono k1.2.1.size)⟩
 ·go_wp2
  go_loopw [10] (fun i wr=>∃ j:Nat,i=.int .i64 j/\p<=j/\j<=q/\OC (w.heap.size+1) (.slice (some ⟨g,0,none⟩) xs.length cap) (XI xs p j s) w wr/\XT wr w.heap.size s) (fun i _=>q-(intOf i).toNat)
  case atStart=>exact ⟨p,rfl,Nat.le_refl _,hpq,by rw [JE];exact k1,hs1⟩
  case round =>
   clear k1 hs1;obtain ⟨j,rfl,hpj,hj,k,hs⟩:=hrel
   by_cases hlt:j<q
   ·have hji:(j:Int)<(q:Int):=by omega
    have hj0:(0:Int)<=(j:Int):=by omega
    have hjx:j<xs.length:=by omega
    have hjxi:(j:Int)<(xs.length:Int):=by omega
    have hst:Hid (XI xs p (j+1) s=(XI xs p j s).set j ⟨32,s,0⟩):=Xcb xs p j s hpj hjx;have hsz:(XI xs p j s).length=xs.length:=Xq _ _ _ _;obtain ⟨_,⟨d0,d1,d2,d3,d4⟩,_⟩:=id hs;go_wp2_with fail;refine (hbl _).mono ?_;rintro e w2 ⟨rfl,hb2⟩;have k2:=k.below hb2;have hs2:=hs.below hb2;have hp:=k2.1.put hsz j hjx ⟨32,s,0⟩;have kk:OC (w.heap.size+1) (.slice (some ⟨g,0,none⟩) xs.length cap) (XI xs p (j+1) s) w (YJ w2 g (j*7) ⟨32,s,0⟩):=by rw [hst.out];exact k2.own hp.1 hp.2
    have hsk:XT (YJ w2 g (j*7) ⟨32,s,0⟩) w.heap.size s:=hs2.own k2.1 (Nat.lt_succ_self _) hp.2;have hat:=k2.1.at hsz j hjx;have f0:=k2.1.frozen hsz (j*7);have f1:=k2.1.frozen hsz (j*7+1);have f2:=k2.1.frozen hsz (j*7+2);have f3:=k2.1.frozen hsz (j*7+3);have f4:=k2.1.frozen hsz (j*7+4);have f5:=k2.1.frozen hsz (j*7+5);have f6:=k2.1.frozen hsz (j*7+6);clear hp k hb2 hbl hst d0 d1 d2 d3 d4 hs hs2 k2 hme;obtain ⟨c0,c1,c2,c3,c4,c5,c6⟩:=hat;simp only [YJ] at kk hsk;go_wp2;go_roundw
    case rel=>exact ⟨j+1,by go_num,by omega,by omega,kk,hsk⟩
    case measure=>simp [intOf];omega
   ·have hjn:j=q:=by omega
    have hji:¬ (j:Int)<(q:Int):=by omega
    subst hjn;have hm2:=hme (.slice (some ⟨g,0,none⟩) xs.length cap) wr (SlC.of_own k.1);clear hbl hs hme;go_wp2_with fail;refine hm2.mono ?_;rintro e w2 ⟨u2,rfl,ho2,hb2⟩;go_wp2;go_ret;exact ⟨u2,rfl,by rw [hcl.out];exact ho2.low k.2.1.size,k.2.1.trans (hb2.mono k.2.1.size)⟩
def KP (xs:List Ce) (p n:Nat) (s:St):List Ce:=if n=0 then xs else Xs ((Xs (xs.take p)++X0 n s++Xs (xs.drop p)).take xs.length)
theorem SlC.take {w:World} {a:Option Addr} {n c:Nat} {xs:List Ce} (h:SlC w (.slice a n c) xs) (k:Nat) (hk:k<=n):SlC w (.slice a k c) (xs.take k):=by
 obtain ⟨a',c',e,hc,hn,hr⟩:=h;simp only [Value.slice.injEq] at e;obtain ⟨rfl,rfl,rfl⟩:=e;have hl:(xs.take k).length=k:=by rw [List.length_take];omega
 refine ⟨a,c,by rw [hl],by omega,hn,?_⟩;rcases hr with h|⟨b,off,ha,hb,hi⟩
 ·left;rw [h];simp
 ·right
  refine ⟨b,off,ha,hb,fun i h=>?_⟩;rw [hl] at h
  rw [Kw xs k i h]
  exact hi i (by omega)
theorem SlC.drop {w:World} {b off n c:Nat} {xs:List Ce} (h:SlC w (.slice (some ⟨b,off,none⟩) n c) xs) (k:Nat) (hk:k<n):SlC w (.slice (some ⟨b,off+k*7,none⟩) (n-k) (c-k)) (xs.drop k):=by
 obtain ⟨a',c',e,hc,hn,hr⟩:=h;simp only [Value.slice.injEq] at e;obtain ⟨rfl,rfl,rfl⟩:=e;have hl:(xs.drop k).length=xs.length-k:=by simp
 refine ⟨_,c-k,by rw [hl],by omega,(fun h=>by cases h),?_⟩;rcases hr with h|⟨b',off',ha,hb,hi⟩
 ·rw [h] at hk;simp at hk
 ·cases ha
  right
  refine ⟨b,off+k*7,rfl,hb,fun i h=>?_⟩;rw [hl] at h
  rw [Y3]
  have:=hi (k+i) (by omega);have e:off+k*7+i*7=off+(k+i)*7:=by omega
  rw [e];exact this
theorem XbB (v:Value) (xs:List Ce) (p n:Nat) (s:St) (w:World) (hv:SlC w v xs) (hp:p<xs.length) (hn:n<=xs.length) (hl:xs.length<=1000) :
  Calls Tryz.prog 215 #[v,.int .i64 p,.int .i64 n,stV s] w fun e w'=>∃ u,e=.returned u/\Xl w' w.heap.size u (KP xs p n s)/\Below w.heap.size w w':=by
 have h2:=XT.new w s 28;have hbA:=Xd w (Obj.cells #[.int .i64 s.fore,.int .i64 s.back,.bool s.bold,.bool s.under,.bool s.turned] 28);have hsz:(w.alloc (Obj.cells #[.int .i64 s.fore,.int .i64 s.back,.bool s.bold,.bool s.under,.bool s.turned] 28)).heap.size=w.heap.size+1:=by simp
 have hv1:=hv.below hbA;obtain ⟨a,c,rfl,hcp,hna,hr⟩:=id hv
 obtain ⟨b,off,rfl,hbb,hsrc⟩:∃ b off,a=some ⟨b,off,none⟩/\b<w.heap.size/\∀ i,i<xs.length->Je w b (off+i*7) (atC xs i):=by
  rcases hr with h|h
  ·rw [h] at hp;simp at hp
  ·exact h
 have hpi:(p:Int)<(xs.length:Int):=by omega
 have hp0:(0:Int)<=(p:Int):=by omega
 have hpc:(p:Int)<=(c:Int):=by omega
 have hpn:(p:Int)<=(xs.length:Int):=by omega
 have hv0:=hv
 by_cases h0:n=0
 ·have hnb:((n:Int)==0)=true:=by simp [h0]
  have hP:Hid (KP xs p n s=xs):=by show _=_;unfold KP;rw [if_pos h0]
  have k00:=KC (w.alloc (Obj.cells #[.int .i64 s.fore,.int .i64 s.back,.bool s.bold,.bool s.under,.bool s.turned] 28)) (w.heap.size+1) (by simp);rw [hsz] at k00
  have k0:OC (w.heap.size+1) (.slice (some ⟨w.heap.size+1,0,none⟩) 0 0) [] w ((w.alloc (Obj.cells #[.int .i64 s.fore,.int .i64 s.back,.bool s.bold,.bool s.under,.bool s.turned] 28)).alloc (Obj.cells #[] 146)):=⟨k00,hbA.trans ((Xd _ _).mono hbA.size),by simp,by omega⟩;have hvv:=hv1.below (Xd _ (Obj.cells #[] 146));clear h0 hv hv1 hbA h2;unfold stV at *;go_enter Tryz.func215,Tryz.ntmps215;go_wp2_with (at_builtin;refine Y9 rfl _ _ rfl (w.heap.size+1) _ [] rfl (by exact k0.1) k0.2.2.1 _ xs hvv rfl (by simp;omega) ?_;intro u4 w4 ho4 hg4);go_ret;have k4:OC (w.heap.size+1) u4 xs w w4:=k0.own (by simpa using ho4) hg4;exact ⟨u4,rfl,by rw [hP.out];exact k4.1.low (by omega),k4.2.1⟩
 ·have hnb:((n:Int)==0)=false:=by simp [h0]
  have hm1:=fun W h=>YW (.slice (some ⟨b,off,none⟩) p c) (xs.take p) W h (by rw [List.length_take];omega)
  have hrow:=fun W=>JZ n s W (by omega)
  unfold stV at *;go_enter Tryz.func215,Tryz.ntmps215;go_wp2_with fail;refine (hm1 _ (hv1.take p (by omega))).mono ?_;rintro e w2 ⟨u2,rfl,ho2,hb2⟩;have hs:=h2.below hb2;have kb:=hbA.trans (hb2.mono hbA.size);have hv2:=hv1.below hb2;clear hm1 hv1 h2 hbA hv;obtain ⟨_,⟨c0,c1,c2,c3,c4⟩,_⟩:=id hs;go_wp2_with fail;refine (hrow _).mono ?_;rintro e w3 ⟨u3,rfl,ho3,hb3⟩;go_wp2_with (at_builtin;refine Y9 rfl _ _ rfl (w.heap.size+1) _ (Xs (xs.take p)) rfl (by exact (ho2.below hb3).low (by rw [hsz];exact Nat.le_refl _)) (by have:=hb2.size;have:=hb3.size;omega) _ (X0 n s) (SlC.of_own ho3) rfl (by rw [XC,QA,List.length_take];omega) ?_;intro u4 w4 ho4 hg4)
  have k4:OC (w.heap.size+1) u4 (Xs (xs.take p)++X0 n s) w w4:=by
   have k2:OC (w.heap.size+1) u2 (Xs (xs.take p)) w w2:=⟨ho2.low (by rw [hsz];exact Nat.le_refl _),kb,by have:=hb2.size;omega,by omega⟩;exact (k2.below hb3).own ho4 hg4
  have hv4:=hv0.below k4.2.1;clear ho2 ho3 hb3 hg4 ho4 hs c0 c1 c2 c3 c4 hv2 kb hrow hb2;have hm2:=YW _ (xs.drop p) w4 (hv4.drop p hp) (by simp;omega);refine hm2.mono ?_;clear hm2;rintro e w5 ⟨u5,rfl,ho5,hb5⟩;have k5:=k4.below hb5;go_wp2_with (at_builtin;refine Y9 rfl _ _ rfl (w.heap.size+1) _ (Xs (xs.take p)++X0 n s) rfl (by exact k5.1) k5.2.2.1 _ (Xs (xs.drop p)) (SlC.of_own ho5) rfl (by rw [List.length_append,XC,XC,QA,List.length_take,List.length_drop];omega) ?_;intro u6 w6 ho6 hg6);have k6:OC (w.heap.size+1) u6 (Xs (xs.take p)++X0 n s++Xs (xs.drop p)) w w6:=k5.own ho6 hg6;clear ho6 hg6 k5 ho5 hb5 k4 hv4;have hP:Hid (KP xs p n s=Xs ((Xs (xs.take p)++X0 n s++Xs (xs.drop p)).take xs.length)):=by show _=_;unfold KP;rw [if_neg h0]
  have hL:(Xs (xs.take p)++X0 n s++Xs (xs.drop p)).length=xs.length+n:=by rw [List.length_append,List.length_append,XC,XC,QA,List.length_take,List.length_drop];omega
  generalize Xs (xs.take p)++X0 n s++Xs (xs.drop p)=Z at *;rcases k6.1.shape with ⟨_,hz⟩|⟨g,cap,rfl,hbg,hlg,hcap⟩
  ·rw [hz] at hL;simp at hL;omega
  ·have hsl:=SlC.of_own k6.1
   rw [hL] at hcap hsl ⊢
   have hm3:=YW (.slice (some ⟨g,0,none⟩) xs.length cap) (Z.take xs.length) w6 (hsl.take xs.length (by omega)) (by rw [List.length_take];omega);have hci:(xs.length:Int)<=(cap:Int):=by omega
   have hxi:(0:Int)<=(xs.length:Int):=by omega
   have hxm:(xs.length:Int)<=((xs.length+n:Nat):Int):=by omega
   generalize xs.length+n=M at *;generalize hX:xs.length=X at *;go_simp;go_wp2_with fail;refine hm3.mono ?_;rintro e w7 ⟨u7,rfl,ho7,hb7⟩;go_wp2;go_ret;exact ⟨u7,rfl,by rw [hP.out];exact ho7.low k6.2.1.size,k6.2.1.trans (hb7.mono k6.2.1.size)⟩
theorem Zw (a b:Int) (w:World) :
  Calls Tryz.prog 158 #[.int .i64 a,.int .i64 b] w fun e w'=>e=.returned (.int .i64 (min a b))/\w'=w:=by
 by_cases h:a<b
 ·have hm:Hid (min a b=a):=by show _=_;omega
  go_enter Tryz.func158,Tryz.ntmps158;go_wp2;go_ret;exact ⟨by rw [hm.out];rfl,rfl⟩
 ·have hm:Hid (min a b=b):=by show _=_;omega
  go_enter Tryz.func158,Tryz.ntmps158;go_wp2;go_ret;exact ⟨by rw [hm.out];rfl,rfl⟩
def K6 (xs:List Ce) (p n:Nat) (s:St):List Ce:=if min n (xs.length-p)=0 then xs else Xs (xs.take p)++Xs (xs.drop (p+min n (xs.length-p)))++X0 (min n (xs.length-p)) s
theorem Xep {w:World} (a:Addr) (c:Nat):SlC w (.slice (some a) 0 c) []:=⟨_,c,rfl,Nat.zero_le _,(fun h=>by cases h),.inl rfl⟩
theorem XbA (v:Value) (xs:List Ce) (p n:Nat) (s:St) (w:World) (hv:SlC w v xs) (hp:p<xs.length) (_hn:n<=xs.length) (hl:xs.length<=1000) :
  Calls Tryz.prog 216 #[v,.int .i64 p,.int .i64 n,stV s] w fun e w'=>∃ u,e=.returned u/\Xl w' w.heap.size u (K6 xs p n s)/\Below w.heap.size w w':=by
 have h2:=XT.new w s 28;have hbA:=Xd w (Obj.cells #[.int .i64 s.fore,.int .i64 s.back,.bool s.bold,.bool s.under,.bool s.turned] 28);have hsz:(w.alloc (Obj.cells #[.int .i64 s.fore,.int .i64 s.back,.bool s.bold,.bool s.under,.bool s.turned] 28)).heap.size=w.heap.size+1:=by simp
 have hv1:=hv.below hbA;obtain ⟨a,c,rfl,hcp,hna,hr⟩:=id hv
 obtain ⟨b,off,rfl,hbb,hsrc⟩:∃ b off,a=some ⟨b,off,none⟩/\b<w.heap.size/\∀ i,i<xs.length->Je w b (off+i*7) (atC xs i):=by
  rcases hr with h|h
  ·rw [h] at hp;simp at hp
  ·exact h
 have hpi:(p:Int)<(xs.length:Int):=by omega
 have hp0:(0:Int)<=(p:Int):=by omega
 have hpc:(p:Int)<=(c:Int):=by omega
 have hpn:(p:Int)<=(xs.length:Int):=by omega
 have hv0:=hv;have hmin:=fun W=>Zw (n:Int) ((xs.length:Int)-(p:Int)) W
 have hme:min (n:Int) ((xs.length:Int)-(p:Int))=((min n (xs.length-p):Nat):Int):=by omega
 rw [hme] at hmin
 have hPP:Hid (K6 xs p n s=if min n (xs.length-p)=0 then xs else Xs (xs.take p)++Xs (xs.drop (p+min n (xs.length-p)))++X0 (min n (xs.length-p)) s):=rfl;have hml:p+min n (xs.length-p)<=xs.length:=by omega
 clear hme hsrc hr hna;generalize min n (xs.length-p)=m at *
 by_cases h0:m=0
 ·have hnb:((m:Int)==0)=true:=by simp [h0]
  have hP:Hid (K6 xs p n s=xs):=by show _=_;rw [hPP.out,if_pos h0]
  have k00:=KC (w.alloc (Obj.cells #[.int .i64 s.fore,.int .i64 s.back,.bool s.bold,.bool s.under,.bool s.turned] 28)) (w.heap.size+1) (by simp);rw [hsz] at k00
  have k0:OC (w.heap.size+1) (.slice (some ⟨w.heap.size+1,0,none⟩) 0 0) [] w ((w.alloc (Obj.cells #[.int .i64 s.fore,.int .i64 s.back,.bool s.bold,.bool s.under,.bool s.turned] 28)).alloc (Obj.cells #[] 146)):=⟨k00,hbA.trans ((Xd _ _).mono hbA.size),by simp,by omega⟩;have hvv:=hv1.below (Xd _ (Obj.cells #[] 146));clear h0 hv hv1 hbA h2 hPP;unfold stV at *;go_enter Tryz.func216,Tryz.ntmps216
  go_wp2_with (first
   | (go_at_call 158;refine (hmin _).mono ?_;rintro e w1 ⟨rfl,hw⟩;subst hw)
   | (at_builtin;refine Y9 rfl _ _ rfl (w.heap.size+1) _ [] rfl (by exact k0.1) k0.2.2.1 _ xs hvv rfl (by simp;omega) ?_;intro u4 w4 ho4 hg4))
  go_ret;have k4:OC (w.heap.size+1) u4 xs w w4:=k0.own (by simpa using ho4) hg4;exact ⟨u4,rfl,by rw [hP.out];exact k4.1.low (by omega),k4.2.1⟩
 ·have hnb:((m:Int)==0)=false:=by simp [h0]
  have hP:Hid (K6 xs p n s=Xs (xs.take p)++Xs (xs.drop (p+m))++X0 m s):=by show _=_;rw [hPP.out,if_neg h0]
  have hm1:=fun W h=>YW (.slice (some ⟨b,off,none⟩) p c) (xs.take p) W h (by rw [List.length_take];omega)
  have hrow:=fun W=>JZ m s W (by omega)
  have hq:∃ ad,(∀ W:World,SlC W (.slice (some ⟨b,off,none⟩) xs.length c) xs->SlC W (.slice (some ad) (xs.length-(p+m)) (c-(p+m))) (xs.drop (p+m)))/\(if c=p+m then some (⟨b,off,none⟩:Addr) else some (⟨b,off+(p+m)*7,none⟩:Addr))=some ad:=by
   by_cases hc:c=p+m
   ·refine ⟨⟨b,off,none⟩,fun W _=>?_,by rw [if_pos hc]⟩
    have e:xs.length=p+m:=by omega
    have e2:xs.drop (p+m)=[]:=by rw [<- e];simp
    rw [e2,e,Nat.sub_self]
    exact Xep _ _
   ·refine ⟨⟨b,off+(p+m)*7,none⟩,fun W h=>?_,by rw [if_neg hc]⟩
    by_cases hx:p+m<xs.length
    ·exact h.drop (p+m) hx
    ·have e:xs.length=p+m:=by omega
     have e2:xs.drop (p+m)=[]:=by rw [<- e];simp
     rw [e2,e,Nat.sub_self]
     exact Xep _ _
  obtain ⟨ad,hdrop,had⟩:=hq;clear hPP h0;unfold stV at *;go_enter Tryz.func216,Tryz.ntmps216;go_wp2_with (go_at_call 158;refine (hmin _).mono ?_;rintro e w1 ⟨rfl,hw⟩;subst hw);refine (hm1 _ (hv1.take p (by omega))).mono ?_;rintro e w2 ⟨u2,rfl,ho2,hb2⟩;have hs:=h2.below hb2;have kb:=hbA.trans (hb2.mono hbA.size);have k2:OC (w.heap.size+1) u2 (Xs (xs.take p)) w w2:=⟨ho2.low (by rw [hsz];exact Nat.le_refl _),kb,by have:=hb2.size;omega,by omega⟩;have hv2:=hv0.below kb;clear hm1 hv1 h2 hbA hv ho2 kb hb2 hmin;have hpm0:(0:Int)<=(p:Int)+(m:Int):=by omega
  have hpmx:(p:Int)+(m:Int)<=(xs.length:Int):=by omega
  have hpmc:(p:Int)+(m:Int)<=(c:Int):=by omega
  go_wp2_with fail
  ·have ec:c-(p+m)=0:=by rename_i hh;omega
   rw [ec] at hdrop
   have hm2:=YW (.slice (some ad) (xs.length-(p+m)) 0) (xs.drop (p+m)) w2 (hdrop w2 hv2) (by rw [List.length_drop];omega);refine hm2.mono ?_;clear hm2;rintro e w3 ⟨u3,rfl,ho3,hb3⟩;have hs3:=hs.below hb3;have k3:=k2.below hb3;go_wp2_with (at_builtin;refine Y9 rfl _ _ rfl (w.heap.size+1) _ (Xs (xs.take p)) rfl (by exact k3.1) k3.2.2.1 _ (Xs (xs.drop (p+m))) (SlC.of_own ho3) rfl (by rw [XC,XC,List.length_take,List.length_drop];omega) ?_;intro u4 w4 ho4 hg4;have hs4:=hs3.own k3.1 (Nat.lt_succ_self _) hg4;have hss:=hs4;obtain ⟨_,⟨c0,c1,c2,c3,c4⟩,_⟩:=hss);have k4:OC (w.heap.size+1) u4 (Xs (xs.take p)++Xs (xs.drop (p+m))) w w4:=k3.own ho4 hg4;clear ho3 hb3 k3 ho4 hg4 hs3;refine (hrow _).mono ?_;rintro e w5 ⟨u5,rfl,ho5,hb5⟩;have k5:=k4.below hb5;go_wp2_with (at_builtin;refine Y9 rfl _ _ rfl (w.heap.size+1) _ (Xs (xs.take p)++Xs (xs.drop (p+m))) rfl (by exact k5.1) k5.2.2.1 _ (X0 m s) (SlC.of_own ho5) rfl (by rw [List.length_append,XC,XC,QA,List.length_take,List.length_drop];omega) ?_;intro u6 w6 ho6 hg6);go_ret;have k6:OC (w.heap.size+1) u6 (Xs (xs.take p)++Xs (xs.drop (p+m))++X0 m s) w w6:=k5.own ho6 hg6;exact ⟨u6,rfl,by rw [hP.out];exact k6.1.low (by omega),k6.2.1⟩
  ·have hm2:=YW (.slice (some ad) (xs.length-(p+m)) (c-(p+m))) (xs.drop (p+m)) w2 (hdrop w2 hv2) (by rw [List.length_drop];omega)
   refine hm2.mono ?_;clear hm2;rintro e w3 ⟨u3,rfl,ho3,hb3⟩;have hs3:=hs.below hb3;have k3:=k2.below hb3;go_wp2_with (at_builtin;refine Y9 rfl _ _ rfl (w.heap.size+1) _ (Xs (xs.take p)) rfl (by exact k3.1) k3.2.2.1 _ (Xs (xs.drop (p+m))) (SlC.of_own ho3) rfl (by rw [XC,XC,List.length_take,List.length_drop];omega) ?_;intro u4 w4 ho4 hg4;have hs4:=hs3.own k3.1 (Nat.lt_succ_self _) hg4;have hss:=hs4;obtain ⟨_,⟨c0,c1,c2,c3,c4⟩,_⟩:=hss);have k4:OC (w.heap.size+1) u4 (Xs (xs.take p)++Xs (xs.drop (p+m))) w w4:=k3.own ho4 hg4;clear ho3 hb3 k3 ho4 hg4 hs3;refine (hrow _).mono ?_;rintro e w5 ⟨u5,rfl,ho5,hb5⟩;have k5:=k4.below hb5;go_wp2_with (at_builtin;refine Y9 rfl _ _ rfl (w.heap.size+1) _ (Xs (xs.take p)++Xs (xs.drop (p+m))) rfl (by exact k5.1) k5.2.2.1 _ (X0 m s) (SlC.of_own ho5) rfl (by rw [List.length_append,XC,XC,QA,List.length_take,List.length_drop];omega) ?_;intro u6 w6 ho6 hg6);go_ret;have k6:OC (w.heap.size+1) u6 (Xs (xs.take p)++Xs (xs.drop (p+m))++X0 m s) w w6:=k5.own ho6 hg6;exact ⟨u6,rfl,by rw [hP.out];exact k6.1.low (by omega),k6.2.1⟩
end Go.Proofs.YtfpopnkhmjkdlaaGreatDoor
namespace Go.Proofs.YtfpopnkhmjkdlaaGreatDoor
open Go.ChangeShapes Go.WideShapes Go.ChangeAt Go.RowKit
open Go.Maps (Keyed)
theorem Xee:Keyed Tryz.prog 2:=Maps.int_keyed Tryz.underlying2
theorem Xhz (n:Int) (hw:(Lit.int .i64 n).wf=true):keyOf Tryz.prog 2 (.int .i64 n)=some (.int .i64 n):=Maps.keyOf_int_mk Tryz.underlying2 hw
def MK (Bm B B4:Nat) (s:St) (w0 W:World) (l:List (Int×Nat)):Prop :=
 W.ownsMap Tryz.prog 2 Xgk Bm l.length (XdF B l)/\XT W B s/\XT W B4 St.zero/\Below w0.heap.size w0 W/\B<Bm/\B4<Bm/\w0.heap.size<=B/\B≠B4
theorem MK.start {B B4:Nat} {s:St} {w0 W:World} (h1:XT W B s) (h2:XT W B4 St.zero) (h3:Below w0.heap.size w0 W) (h4:w0.heap.size<=B) (h5:B≠B4):MK W.heap.size B B4 s w0 (W.alloc (.map #[] 0)) [] :=
 ⟨World.ownsMap_made _ _ _ _,h1.below (Xd _ _),h2.below (Xd _ _),h3.trans ((Xd _ _).mono h3.size),h1.1,h2.1,h4,h5⟩
theorem MK.ins {Bm B B4:Nat} {s:St} {w0:World} {w:World} {l:List (Int×Nat)} {ops:Array Oper} {rest:List Oper} {o:Oper} {a:Act} {Q:Exit->Act->World->Prop}
  (k:MK Bm B B4 s w0 w l) (hg:o.guard=none) (m x v:Operand) (hop:o.op=Op.insert 227 m x v) (hl:l.length<1000) (hm:a.eval m=.map (some Bm)) (n:Int) (f:Nat) (hx:a.eval x=.int .i64 n) (hw:(Lit.int .i64 n).wf=true) (hv:a.eval v=clo f B)
  (hK:∀ w',MK Bm B B4 s w0 w' (l++[(n,f)])->wpList Tryz.prog ops Q rest (a.put o.dst undef) w') :
  wpList Tryz.prog ops Q (o::rest) a w:=by
 refine wpList_plain hg fun K' hK'=>?_
 obtain ⟨k1,k2,k3,k4,k5,k6,k7,k8⟩:=k;obtain ⟨w',hrun,r1,r2⟩:=k1.update Xee Tryz.underlying227 (by unfold maxLen;omega) (val:=clo f B) (d:=.held (clo f B)) (ps:=[]) (Xhz n hw) rfl;unfold Oper.wp;simp [execOp,hop,hm,hx,hv,hrun,Result.andThen];refine hK' _ _ (hK w' ⟨?_,k2.grown r2 (by simp;omega),k3.grown r2 (by simp;omega),k4.grown r2 k4.size (fun j hj=>by cases hj;omega),k5,k6,k7,k8⟩);rw [Xe7,List.length_append];exact r1
theorem MK.look {Bm B B4:Nat} {s:St} {w0:World} {w:World} {ops:Array Oper} {rest:List Oper} {o:Oper} {a:Act} {Q:Exit->Act->World->Prop}
  (k:MK Bm B B4 s w0 w CH) (hg:o.guard=none) (m x:Operand) (hop:o.op=Op.lookup 227 m x true) (hm:a.eval m=.map (some Bm)) (n:Int) (v:Value) (b:Bool) (hlk:XfP B n v b) (hx:a.eval x=.int .i64 n) (hw:(Lit.int .i64 n).wf=true)
  (hK:wpList Tryz.prog ops Q rest (a.put o.dst (.tuple #[v,.bool b])) w) :
  wpList Tryz.prog ops Q (o::rest) a w:=by
 refine wpList_lookup_own_ok w hg m x _ hop _ _ Xee Tryz.underlying227 Xgk (Xhw w) (.held .nilFunc) [] rfl Bm _ _ hm k.1 _ _ hx (Xhz n hw) ?_;intro v' ps hv';rw [hlk.1]
 have:v'=v:=by
  have h:=hlk.2;simp only [Xgk,Option.some.injEq,Prod.mk.injEq] at hv';rw [h] at hv'
  exact DataW.held.inj hv'.1
 rw [this];exact hK
theorem MK.chg {Bm B B4:Nat} {s s':St} {w0 W W':World} {l:List (Int×Nat)} (k:MK Bm B B4 s w0 W l) (h:XT W' B s') (hg:W.grownBy W' (some B)):MK Bm B B4 s' w0 W' l:=by
 obtain ⟨k1,k2,k3,k4,k5,k6,k7,k8⟩:=k;exact ⟨k1.kept hg (by simp;omega),h,k3.grown hg (by simpa using k8),k4.grown hg k4.size (fun j hj=>by cases hj;omega),k5,k6,k7,k8⟩
theorem Xc9 (B:Nat) (l:List (Int×Nat)):∀ D:DataW Value,Maps.IsMap D->Maps.IsMap (l.foldl (fun D p=>D.put (.int .i64 p.1) (.held (clo p.2 B))) D):=by
 induction l with
 | nil=>intro D h;exact h
 | cons p l ih=>intro D h;exact ih _ (h.put _ _)
def XdP (B:Nat) (D:DataW Value) (p:Int×Nat):DataW Value:=D.put (.int .i64 p.1) (.held (clo p.2 B))
theorem XR (B i:Nat) (n:Int) (f:Nat) (h:CH=CH.take i++(n,f)::CH.drop (i+1)) (h2:∀ p∈CH.drop (i+1),n≠p.1):XfP B n (clo f B) true:=by
 have e:XdF B CH=(CH.drop (i+1)).foldl (XdP B) (XdP B ((CH.take i).foldl (XdP B) (DataW.map [])) (n,f)):=by
  show CH.foldl (XdP B) (DataW.map [])=_
  conv=>lhs;rw [h,List.foldl_append,List.foldl_cons]
 have hm:Maps.IsMap ((CH.take i).foldl (XdP B) (DataW.map [])):=Xc9 B (CH.take i) (.map []) Maps.isMap_empty;obtain ⟨h3,h4⟩:=XaP B n (CH.drop (i+1)) (XdP B ((CH.take i).foldl (XdP B) (DataW.map [])) (n,f)) h2;refine ⟨?_,?_⟩
 ·rw [e];exact h3.trans (Maps.has_put_same (k:=.int .i64 n) hm trivial _)
 ·rw [e];exact (h4 _).trans (Maps.atKey_put_same (k:=.int .i64 n) hm trivial _ _)
theorem Xib (B:Nat) (n:Int) :
  (XfP B n .nilFunc false/\∀ s,Yf s n=s)\/(∃ f g,XfP B n (clo f B) true/\Chg f B n g/\(∀ s,Yf s n=g s)/\f∈[255,256,257,258,259,260,261,262,263,264,265]):=by
 by_cases h0:n=0
 ·subst h0;exact .inr ⟨_,_,XR B 0 0 _ rfl (by decide),XfZ B 0,fun _=>rfl,by simp⟩
 by_cases h1:n=1
 ·subst h1;exact .inr ⟨_,_,XR B 1 1 _ rfl (by decide),XfX B 1,fun _=>rfl,by simp⟩
 by_cases h2:n=22
 ·subst h2;exact .inr ⟨_,_,XR B 2 22 _ rfl (by decide),Xc3 B 22,fun _=>rfl,by simp⟩
 by_cases h3:n=4
 ·subst h3;exact .inr ⟨_,_,XR B 3 4 _ rfl (by decide),Xew B 4,fun _=>rfl,by simp⟩
 by_cases h4:n=24
 ·subst h4;exact .inr ⟨_,_,XR B 4 24 _ rfl (by decide),Xb0 B 24,fun _=>rfl,by simp⟩
 by_cases h5:n=7
 ·subst h5;exact .inr ⟨_,_,XR B 5 7 _ rfl (by decide),Xc2 B 7,fun _=>rfl,by simp⟩
 by_cases h6:n=27
 ·subst h6;exact .inr ⟨_,_,XR B 6 27 _ rfl (by decide),Xba B 27,fun _=>rfl,by simp⟩
 by_cases h7:n=39
 ·subst h7;exact .inr ⟨_,_,XR B 15 39 _ rfl (by decide),Xev B 39,fun _=>rfl,by simp⟩
 by_cases h8:n=49
 ·subst h8;exact .inr ⟨_,_,XR B 24 49 _ rfl (by decide),Xeu B 49,fun _=>rfl,by simp⟩
 by_cases h9:30<=n/\n<=37
 ·have hp:∀ s,Yf s n={ s with fore:=n-29 }:=fun s=>by
   unfold Yf;rw [if_neg (by omega),if_neg (by omega),if_neg (by omega),if_neg (by omega),if_pos (by omega)]
  refine .inr ⟨255,_,?_,XfY B n h9,hp,by simp⟩;rcases (show n=30\/n=31\/n=32\/n=33\/n=34\/n=35\/n=36\/n=37 from by omega) with rfl|rfl|rfl|rfl|rfl|rfl|rfl|rfl
  ·exact XR B 7 30 _ rfl (by decide)
  ·exact XR B 8 31 _ rfl (by decide)
  ·exact XR B 9 32 _ rfl (by decide)
  ·exact XR B 10 33 _ rfl (by decide)
  ·exact XR B 11 34 _ rfl (by decide)
  ·exact XR B 12 35 _ rfl (by decide)
  ·exact XR B 13 36 _ rfl (by decide)
  ·exact XR B 14 37 _ rfl (by decide)
 by_cases h10:40<=n/\n<=47
 ·have hp:∀ s,Yf s n={ s with back:=n-39 }:=fun s=>by
   unfold Yf;rw [if_neg (by omega),if_neg (by omega),if_neg (by omega),if_neg (by omega),if_neg (by omega),if_neg (by omega),if_pos (by omega)]
  refine .inr ⟨256,_,?_,XfW B n h10,hp,by simp⟩;rcases (show n=40\/n=41\/n=42\/n=43\/n=44\/n=45\/n=46\/n=47 from by omega) with rfl|rfl|rfl|rfl|rfl|rfl|rfl|rfl
  ·exact XR B 16 40 _ rfl (by decide)
  ·exact XR B 17 41 _ rfl (by decide)
  ·exact XR B 18 42 _ rfl (by decide)
  ·exact XR B 19 43 _ rfl (by decide)
  ·exact XR B 20 44 _ rfl (by decide)
  ·exact XR B 21 45 _ rfl (by decide)
  ·exact XR B 22 46 _ rfl (by decide)
  ·exact XR B 23 47 _ rfl (by decide)
 refine .inl ⟨Xe5 B n ?_,fun s=>?_⟩
 ·simp only [CH,List.mem_cons,List.not_mem_nil,or_false]
  rintro p (rfl|rfl|rfl|rfl|rfl|rfl|rfl|rfl|rfl|rfl|rfl|rfl|rfl|rfl|rfl|rfl|rfl|rfl|rfl|rfl|rfl|rfl|rfl|rfl|rfl)<;>simp only<;>omega
 ·unfold Yf
  rw [if_neg (by omega),if_neg (by omega),if_neg (by omega),if_neg (by omega),if_neg (by omega),if_neg (by omega),if_neg (by omega),if_neg (by omega)]
