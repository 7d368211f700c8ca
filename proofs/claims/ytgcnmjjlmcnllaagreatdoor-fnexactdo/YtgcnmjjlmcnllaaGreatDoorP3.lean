/- Parts of the proof. -/
import Derived.Test.YtgcnmjjlmcnllaaGreatDoorP1
import Derived.Test.YtgcnmjjlmcnllaaGreatDoorP2
import Derived.Deep.AppendLies
import Derived.LoopTactic
import Derived.Laws.Rows
import Derived.WalkMore
import Derived.Deep.RegionHeld3
import Derived.OneCell
import Derived.Deep.RegionLaw
import Derived.WalkLawsBesides
import Derived.Laws.AppendOwnNone
namespace Go.Proofs.YtgcnmjjlmcnllaaGreatDoor
set_option maxRecDepth 20000
set_option maxHeartbeats 16000000
structure Pa where
 state:Int
 params:List Int
 mark:Int
 text:List Int
structure Ac where
 kind:Int
 rune:Int
 params:List Int
 mark:Int
 text:List Int
def takes (ps:List Int) (m r:Int):Bool:=decide (r=63/\ps.length=0/\m=0\/48<=r/\r<=57\/r=59)
def stays (r:Int):Bool:=decide ((r<32\/r=127)/\r≠-1/\r≠24/\r≠26/\r≠27)
def runesB (l:List Int):Bool:=l.all runeOk
def paramsB (l:List Int):Bool:=l.all (fun x=>decide (0<=x/\x<=9999))
def okV (p:Pa):Bool:=decide (1<=p.state/\p.state<=5/\p.params.length<=16/\(p.mark=0\/p.mark=63)/\p.text.length<=40/\(p.state=3\/p.params.length=0/\p.mark=0)/\(4<=p.state\/p.text.length=0)) && runesB p.text && paramsB p.params
theorem runesB_at {l:List Int} (h:runesB l=true) (i:Nat) (hi:i<l.length):runeOk (l.getD i 0)=true:=by
 have:l.getD i 0=l[i]:=by simp [List.getD,hi]
 rw [this];exact List.all_eq_true.1 h _ (List.getElem_mem hi)
theorem runesB_no {l:List Int} (i:Nat) (hi:i<l.length) (h:runeOk (l.getD i 0)=false):runesB l=false:=by
 rw [Bool.eq_false_iff];intro hh
 rw [runesB_at hh i hi] at h;cases h
theorem runesB_yes {l:List Int} (h:∀ i,i<l.length->runeOk (l.getD i 0)=true):runesB l=true:=by
 refine List.all_eq_true.2 fun x hx=>?_
 obtain ⟨i,hi,rfl⟩:=List.getElem_of_mem hx;have:=h i hi
 simpa [List.getD,hi] using this
theorem paramsB_at {l:List Int} (h:paramsB l=true) (i:Nat) (hi:i<l.length):0<=l.getD i 0/\l.getD i 0<=9999:=by
 have:l.getD i 0=l[i]:=by simp [List.getD,hi]
 rw [this];exact of_decide_eq_true (List.all_eq_true.1 h _ (List.getElem_mem hi))
theorem paramsB_no {l:List Int} (i:Nat) (hi:i<l.length) (h:¬ (0<=l.getD i 0/\l.getD i 0<=9999)):paramsB l=false:=by
 rw [Bool.eq_false_iff];intro hh
 exact h (paramsB_at hh i hi)
theorem paramsB_yes {l:List Int} (h:∀ i,i<l.length->0<=l.getD i 0/\l.getD i 0<=9999):paramsB l=true:=by
 refine List.all_eq_true.2 fun x hx=>decide_eq_true ?_
 obtain ⟨i,hi,rfl⟩:=List.getElem_of_mem hx;have:=h i hi
 simpa [List.getD,hi] using this
open Go.ChangeShapes Go.WideShapes Go.ChangeAt Go.RowKit
theorem own_low' {w:World} {base base':Nat} {e:TypeId} {size:Nat} {v:Value} {n:Nat} {xs:List Value} (h:w.ownsRow base e size v n xs) (hb:base'<=base):w.ownsRow base' e size v n xs:=by
 refine ⟨h.1,?_⟩;rcases h.2 with h2|⟨g,cap,cur,hv,hbg,r⟩
 ·exact .inl h2
 ·exact .inr ⟨g,cap,cur,hv,Nat.le_trans hb hbg,r⟩
def OwnI (w:World) (base:Nat) (v:Value) (xs:List Int):Prop:=w.ownsRow base 2 1 v xs.length (xs.map (Value.int .i64))
theorem OwnI.below {w w':World} {base:Nat} {v:Value} {xs:List Int} (h:OwnI w base v xs) (hb:Below w.heap.size w w'):OwnI w' base v xs:=World.ownsRow.below h hb
theorem OwnI.kept {w w':World} {base:Nat} {v:Value} {xs:List Int} {row:Option Nat} (h:OwnI w base v xs) (hg:w.grownBy w' row) (hne:v.ownBlock=none\/v.ownBlock≠row):OwnI w' base v xs:=World.ownsRow.kept (show w.ownsRow _ _ _ _ _ _ from h) hg hne
theorem OwnI.low {w:World} {base base':Nat} {v:Value} {xs:List Int} (h:OwnI w base v xs) (hb:base'<=base):OwnI w base' v xs:=own_low' h hb
theorem OwnI.lt {w:World} {base:Nat} {v:Value} {xs:List Int} (h:OwnI w base v xs):∀ g,v.ownBlock=some g->base<=g/\g<w.heap.size:=fun g e=>World.ownsRow.lt h g e
theorem OwnI.sl {w:World} {base:Nat} {v:Value} {xs:List Int} (h:OwnI w base v xs):SlI w v xs:=SlI.of_own h
theorem OwnI.shape {w:World} {base:Nat} {v:Value} {xs:List Int} (h:OwnI w base v xs):∃ a n c,v=.slice a n c:=by
 obtain ⟨a,c,hv,_⟩:=h.sl;exact ⟨a,_,c,hv⟩
theorem ownI_nil (w:World) (base:Nat):OwnI w base (.slice none 0 0) []:=World.ownsRow_nil _ _ _ _
def ApV (u v:Value):Prop:=∀ g,u.ownBlock=some g->v.ownBlock≠some g
theorem ApV.symm {u v:Value} (h:ApV u v):ApV v u:=fun g e1 e2=>h g e2 e1
theorem ApV.nil_l (v:Value):ApV (.slice none 0 0) v:=fun g e=>by simp [Value.ownBlock] at e
theorem ApV.ne {u v:Value} (h:ApV u v):u.ownBlock=none\/u.ownBlock≠v.ownBlock:=by
 cases hu:u.ownBlock with
 | none=>exact .inl rfl
 | some g=>right;intro e;exact h g hu e.symm
def LiOk (w:World) (base:Nat) (L:List (Value×List Int)):Prop:=(∀ p∈L,OwnI w base p.1 p.2)/\L.Pairwise fun p q=>ApV p.1 q.1
theorem LiOk.below {w w':World} {base:Nat} {L:List (Value×List Int)} (h:LiOk w base L) (hb:Below w.heap.size w w'):LiOk w' base L:=⟨fun p hp=>(h.1 p hp).below hb,h.2⟩
theorem LiOk.low {w:World} {base base':Nat} {L:List (Value×List Int)} (h:LiOk w base L) (hb:base'<=base):LiOk w base' L:=⟨fun p hp=>(h.1 p hp).low hb,h.2⟩
theorem LiOk.perm {w:World} {base:Nat} {L M:List (Value×List Int)} (h:LiOk w base L) (hp:L.Perm M):LiOk w base M :=
 ⟨fun _ hm=>h.1 _ (hp.mem_iff.2 hm),(hp.pairwise_iff (fun {_ _} h=>ApV.symm h)).1 h.2⟩
theorem LiOk.sub {w:World} {base:Nat} {L M:List (Value×List Int)} (h:LiOk w base L) (hp:M.Sublist L):LiOk w base M :=
 ⟨fun _ hm=>h.1 _ (hp.subset hm),h.2.sublist hp⟩
theorem LiOk.nil (w:World) (base:Nat):LiOk w base []:=⟨fun _ h=>absurd h (List.not_mem_nil),List.Pairwise.nil⟩
theorem LiOk.tail {w:World} {base:Nat} {x:Value×List Int} {L:List (Value×List Int)} (h:LiOk w base (x::L)):LiOk w base L:=h.sub (List.sublist_cons_self _ _)
theorem LiOk.head {w:World} {base:Nat} {x:Value×List Int} {L:List (Value×List Int)} (h:LiOk w base (x::L)):OwnI w base x.1 x.2:=h.1 x (List.mem_cons_self)
theorem LiOk.nilc {w:World} {base:Nat} {L:List (Value×List Int)} (h:LiOk w base L):LiOk w base ((.slice none 0 0,[])::L) :=
 ⟨fun p hp=>by
  rcases List.mem_cons.1 hp with rfl|hp
  ·exact ownI_nil _ _
  ·exact h.1 p hp,List.Pairwise.cons (fun q _=>ApV.nil_l _) h.2⟩
theorem LiOk.new {w w':World} {base:Nat} {L:List (Value×List Int)} (h:LiOk w base L) (hb:Below w.heap.size w w') {v:Value} {xs:List Int} (ho:OwnI w' base v xs) (hn:∀ g,v.ownBlock=some g->w.heap.size<=g):LiOk w' base ((v,xs)::L) :=
 ⟨fun p hp=>by
  rcases List.mem_cons.1 hp with rfl|hp
  ·exact ho
  ·exact (h.1 p hp).below hb,List.Pairwise.cons (fun q hq g e1 e2=>by have:=hn g e1;have:=((h.1 q hq).lt g e2).2;omega) h.2⟩
theorem LiOk.grow {w w':World} {base:Nat} {v v':Value} {xs ys:List Int} {L:List (Value×List Int)} (h:LiOk w base ((v,xs)::L)) (hg:w.grownBy w' v.ownBlock) (ho:OwnI w' base v' ys) (hat:∀ g,v'.ownBlock=some g->v.ownBlock=some g\/w.heap.size<=g):LiOk w' base ((v',ys)::L):=by
 have hp:=List.pairwise_cons.1 h.2;refine ⟨fun p hm=>?_,List.Pairwise.cons (fun q hq g e1 e2=>?_) hp.2⟩
 ·rcases List.mem_cons.1 hm with rfl|hm
  ·exact ho
  ·exact (h.1 p (List.mem_cons_of_mem _ hm)).kept hg ((hp.1 p hm).symm.ne)
 ·rcases hat g e1 with e|e
  ·exact hp.1 q hq g e e2
  ·have:=((h.1 q (List.mem_cons_of_mem _ hq)).lt g e2).2;omega
theorem LiOk.kept {w w':World} {base:Nat} {L:List (Value×List Int)} {row:Option Nat} (h:LiOk w base L) (hg:w.grownBy w' row) (hne:∀ p∈L,p.1.ownBlock=none\/p.1.ownBlock≠row):LiOk w' base L :=
 ⟨fun p hp=>(h.1 p hp).kept hg (hne p hp),h.2⟩
theorem OwnI.not_block {w:World} {base:Nat} {v:Value} {xs:List Int} (h:OwnI w base v xs) {B:Nat} {cs:Array Value} {t:TypeId} {fr:Nat×Nat} (hB:w.heap[B]?=some (.cells cs t fr)) (ht:t≠2):v.ownBlock≠some B:=by
 intro e;rcases h.2 with ⟨hv,_⟩|⟨g,cap,cur,hv,_,hg,_⟩
 ·rw [hv] at e;simp [Value.ownBlock] at e
 ·rw [hv] at e
  simp only [Value.ownBlock,Option.some.injEq] at e;subst e;rw [hB] at hg
  simp only [Option.some.injEq,Obj.cells.injEq] at hg;exact ht hg.2.1

structure Ax where
 a:Ac
 pv:Value
 tv:Value
def axV (x:Ax):Value:=.agg #[.int .i64 x.a.kind,.int .i64 x.a.rune,x.pv,.int .i64 x.a.mark,x.tv]
def paV (p:Pa) (pv tv:Value):Value:=.agg #[.int .i64 p.state,pv,.int .i64 p.mark,tv]
def PaC (w:World) (B:Nat) (s:Int) (pv:Value) (m:Int) (tv:Value):Prop :=
 B<w.heap.size/\(w.cell? ⟨B,0,none⟩=some (.int .i64 s)/\w.cell? ⟨B,1,none⟩=some pv/\w.cell? ⟨B,2,none⟩=some (.int .i64 m)/\w.cell? ⟨B,3,none⟩=some tv) /\
  (w.frozen? ⟨B,0,none⟩=false/\w.frozen? ⟨B,1,none⟩=false/\w.frozen? ⟨B,2,none⟩=false/\w.frozen? ⟨B,3,none⟩=false)
theorem PaC.grown {w w':World} {B:Nat} {s m:Int} {pv tv:Value} {row:Option Nat} (h:PaC w B s pv m tv) (hg:w.grownBy w' row) (hr:row≠some B):PaC w' B s pv m tv:=by
 have hb:=hg.block B h.1 (Ne.symm hr);have hc:∀ k,w'.cell? ⟨B,k,none⟩=w.cell? ⟨B,k,none⟩:=fun k=>World.cell?_of_block (w:=w) hb
 have hz:∀ k,w'.frozen? ⟨B,k,none⟩=w.frozen? ⟨B,k,none⟩:=fun k=>World.frozen?_of_block (w:=w) hb
 refine ⟨Nat.lt_of_lt_of_le h.1 hg.size,?_,?_⟩
 ·rw [hc,hc,hc,hc];exact h.2.1
 ·rw [hz,hz,hz,hz];exact h.2.2
theorem PaC.below {w w':World} {B:Nat} {s m:Int} {pv tv:Value} (h:PaC w B s pv m tv) (hb:Below w.heap.size w w'):PaC w' B s pv m tv:=h.grown (gbl hb none) (by simp)
theorem PaC.new (w:World) (s m:Int) (pv tv:Value) (t:TypeId):PaC (w.alloc (.cells #[.int .i64 s,pv,.int .i64 m,tv] t)) w.heap.size s pv m tv :=
 ⟨by simp,⟨by simp [go_sem],by simp [go_sem],by simp [go_sem],by simp [go_sem]⟩,⟨by simp [go_sem],by simp [go_sem],by simp [go_sem],by simp [go_sem]⟩⟩
theorem specRuneOk_any (r:Int) (w:World) :
  Calls Tryz.prog 140 #[.int .i64 r] w fun e w'=>e=.returned (.bool (runeOk r))/\w'=w:=by
 go_enter Tryz.func140,Tryz.ntmps140;go_wp2_with (go_at_call 73;refine (l1In_any _ _ _ _).mono ?_;rintro e w' ⟨rfl,rfl⟩)
 all_goals
  go_ret;exact ⟨ret_bool (runeOk_is _ _ (by simp<;>omega)),rfl⟩

theorem SlI.cons {w:World} {v:Value} {xs:List Int} (h:SlI w v xs):∃ a c,v=.slice a xs.length c/\∀ j,j<xs.length->∃ b off,a=some ⟨b,off,none⟩/\w.cell? ⟨b,off+j,none⟩=some (.int .i64 (xs.getD j 0)):=by
 obtain ⟨a,c,hv,h|⟨b,off,ha,hlt,hc⟩⟩:=h
 ·exact ⟨a,c,hv,fun j hj=>by rw [h] at hj;simp at hj⟩
 ·exact ⟨a,c,hv,fun j hj=>⟨b,off,ha,hc j hj⟩⟩
theorem SlI.shp {w:World} {v:Value} {xs:List Int} (h:SlI w v xs):∃ a c,v=.slice a xs.length c:=by
 obtain ⟨a,c,hv,_⟩:=h;exact ⟨a,c,hv⟩
theorem specRunes6_any (v:Value) (xs:List Int) (most:Nat) (w:World) (hv:SlI w v xs) (_hl:xs.length<=1073741824) (_hm:most<=1073741824) :
  Calls Tryz.prog 75 #[v,.int .i64 most] w fun e w'=>e=.returned (.bool (decide (xs.length<=most) && runesB xs))/\w'=w:=by
 obtain ⟨a,c,rfl,hc⟩:=hv.cons;clear hv
 by_cases h:most<xs.length
 ·have hi:(most:Int)<(xs.length:Int):=by omega
  have hV:Hid ((decide (xs.length<=most) && runesB xs)=false):=by show _=_;rw [decide_eq_false (by omega),Bool.false_and]
  clear hc;go_enter Tryz.func75,Tryz.ntmps75;go_wp2;go_ret;exact ⟨by rw [hV.out];rfl,rfl⟩
 ·have hi:¬ (most:Int)<(xs.length:Int):=by omega
  have hV:Hid ((decide (xs.length<=most) && runesB xs)=runesB xs):=by show _=_;rw [decide_eq_true (by omega),Bool.true_and]
  rw [hV.out]
  clear hV;go_enter Tryz.func75,Tryz.ntmps75;go_wp2;go_loop [5] (fun i=>∃ j:Nat,i=.int .i64 j/\j<=xs.length/\Hid (∀ k,k<j->runeOk (xs.getD k 0)=true)) (fun i=>xs.length-(intOf i).toNat)
  case atStart=>exact ⟨0,rfl,Nat.zero_le _,(fun k hk=>absurd hk (Nat.not_lt_zero k))⟩
  case round =>
   obtain ⟨j,rfl,hj,hall⟩:=hrel
   by_cases hlt:j<xs.length
   ·have hji:(j:Int)<(xs.length:Int):=by omega
    have hj0:(0:Int)<=(j:Int):=by omega
    obtain ⟨b,off,rfl,hcj⟩:=hc j hlt;have hno:runeOk (xs.getD j 0)=false->Hid (runesB xs=false):=fun h=>runesB_no j hlt h
    have hstep:runeOk (xs.getD j 0)=true->Hid (∀ k,k<j+1->runeOk (xs.getD k 0)=true):=fun h=>(show ∀ k,k<j+1->runeOk (xs.getD k 0)=true from fun k hk=>by
     by_cases e:k=j
     ·rw [e];exact h
     ·exact hall.out k (by omega))
    have hok:=specRuneOk_any (xs.getD j 0) w;clear hc hall;generalize xs.getD j 0=x at *;generalize runeOk x=ok at *;go_wp2_with fail;refine hok.mono ?_;rintro e w2 ⟨rfl,hw⟩;subst hw;clear hok
    cases ok
    ·have hV:=hno rfl
     clear hno hstep;go_wp2;go_ret;exact ⟨by rw [hV.out];rfl,rfl⟩
    ·have hall2:=hstep rfl
     clear hno hstep;go_wp2;go_round
     case rel=>exact ⟨j+1,by go_num,by omega,hall2⟩
     case measure=>simp [intOf];omega
   ·have hjn:j=xs.length:=by omega
    have hji:¬ (j:Int)<(xs.length:Int):=by omega
    have hV:Hid (runesB xs=true):=runesB_yes (by rw [<- hjn];exact hall.out);clear hc hall;subst hjn;go_wp2;go_ret;exact ⟨by rw [hV.out];rfl,rfl⟩
theorem specParserOk_m0 (s:Int) (ps ts:List Int) (pv tv:Value) (w:World) (hp:SlI w pv ps) (ht:SlI w tv ts) (hpl:ps.length<=1073741824) (htl:ts.length<=1073741824)
  (h1a:1<=s) (h1b:s<=5) (h2:ps.length<=16) (hrt:(decide (ts.length<=40) && runesB ts)=true) :
  Calls Tryz.prog 76 #[paV ⟨s,ps,0,ts⟩ pv tv] w fun e w'=>e=.returned (.bool (paramsB ps && (decide (s=3) || decide (ps.length=0) && decide ((0:Int)=0)) && (decide (4<=s) || decide (ts.length=0))))/\Below w.heap.size w w':=by
 have hb0:=bal' w (Obj.cells #[.int .i64 s,pv,.int .i64 0,tv] 31);have hP:=PaC.new w s 0 pv tv 31;have hp1:=hp.below hb0;have ht1:=ht.below hb0;have hR1:=specRunes6_any tv ts 40 _ ht1 htl (by decide);rw [hrt] at hR1
 obtain ⟨pa,pc,rfl,hpc⟩:=hp1.cons;obtain ⟨ta,tc,rfl⟩:=ht1.shp;have h2i:¬ (16:Int)<(ps.length:Int):=by omega
 obtain ⟨rv,hrv⟩:∃ rv,Hid (rv=(paramsB ps && (decide (s=3) || decide (ps.length=0) && decide ((0:Int)=0)) && (decide (4<=s) || decide (ts.length=0)))):=⟨_,rfl⟩;rw [<- hrv.out]
 unfold paV;obtain ⟨_,⟨c0,c1,c2,c3⟩,_⟩:=id hP;clear hP hp ht hp1 ht1 hrt hpl htl;go_enter Tryz.func76,Tryz.ntmps76;go_wp2_with (first|(go_at_call 73;refine (l1In_any _ _ _ _).mono ?_;rintro e w' ⟨rfl,rfl⟩)|(go_at_call 75;refine hR1.mono ?_;rintro e w' ⟨rfl,rfl⟩));clear hR1;go_loop [3] (fun i=>∃ j:Nat,i=.int .i64 j/\j<=ps.length/\Hid (∀ k,k<j->0<=ps.getD k 0/\ps.getD k 0<=9999)) (fun i=>ps.length-(intOf i).toNat)
 case atStart=>exact ⟨0,rfl,Nat.zero_le _,(fun k hk=>absurd hk (Nat.not_lt_zero k))⟩
 case round =>
  obtain ⟨j,rfl,hj,hall⟩:=hrel
  by_cases hlt:j<ps.length
  ·have hji:(j:Int)<(ps.length:Int):=by omega
   have hj0:(0:Int)<=(j:Int):=by omega
   obtain ⟨b,off,rfl,hcj⟩:=hpc j hlt;have hno:¬ (0<=ps.getD j 0/\ps.getD j 0<=9999)->Hid (paramsB ps=false):=fun h=>paramsB_no j hlt h
   have hstep:(0<=ps.getD j 0/\ps.getD j 0<=9999)->Hid (∀ k,k<j+1->0<=ps.getD k 0/\ps.getD k 0<=9999):=fun h=>(show ∀ k,k<j+1->0<=ps.getD k 0/\ps.getD k 0<=9999 from fun k hk=>by
    by_cases e:k=j
    ·rw [e];exact h
    ·exact hall.out k (by omega))
   have hin:=fun W=>l1In_any (ps.getD j 0) 0 9999 W
   clear hpc hall;generalize ps.getD j 0=x at *
   by_cases hx:0<=x/\x<=9999
   ·have hall2:=hstep hx
    rw [decide_eq_true hx] at hin
    clear hno hstep hx;go_wp2_with (go_at_call 73;refine (hin _).mono ?_;rintro e w' ⟨rfl,rfl⟩);go_round
    case rel=>exact ⟨j+1,by go_num,by omega,hall2⟩
    case measure=>simp [intOf];omega
   ·have hV:Hid (rv=false):=by show _=_;rw [hrv.out,(hno hx).out,Bool.false_and,Bool.false_and]
    rw [decide_eq_false hx] at hin
    clear hno hstep hx;go_wp2_with (go_at_call 73;refine (hin _).mono ?_;rintro e w' ⟨rfl,rfl⟩);go_ret;exact ⟨by rw [hV.out];rfl,hb0⟩
  ·have hjn:j=ps.length:=by omega
   have hji:¬ (j:Int)<(ps.length:Int):=by omega
   have hV:Hid (paramsB ps=true):=paramsB_yes (by rw [<- hjn];exact hall.out);have hr1:Hid (rv=((decide (s=3) || decide (ps.length=0) && decide ((0:Int)=0)) && (decide (4<=s) || decide (ts.length=0)))):=by show _=_;rw [hrv.out,hV.out,Bool.true_and];try simp
   clear hpc hall hjn hrv hV;generalize ps.length=np at *;generalize ts.length=nt at *
   by_cases q1:s=3
   ·subst q1
    by_cases q3:nt=0
    ·subst q3
     have hv:Hid (rv=true):=by show _=_;rw [hr1.out];rfl
     clear hr1;go_wp2;go_ret;exact ⟨by rw [hv.out];first|rfl|simp [*],hb0⟩
    ·have q3i:((nt:Int)==0)=false:=by simp;omega
     have hv:Hid (rv=false):=by show _=_;rw [hr1.out,decide_eq_false q3];rfl
     clear hr1 q3;go_wp2;go_ret;exact ⟨by rw [hv.out];first|rfl|simp [*],hb0⟩
   ·have q1i:(s==3)=false:=by simp [q1]
    have hr2:Hid (rv=((decide (np=0) && decide ((0:Int)=0)) && (decide (4<=s) || decide (nt=0)))):=by show _=_;rw [hr1.out,decide_eq_false q1,Bool.false_or]
    clear hr1 q1
    by_cases q2:np=0
    ·subst q2
     by_cases q4:4<=s
     ·have hv:Hid (rv=decide ((0:Int)=0)):=by show _=_;rw [hr2.out,decide_eq_true q4];rfl
      clear hr2;go_wp2;go_ret;exact ⟨by rw [hv.out];first|rfl|simp [*],hb0⟩
     ·have q4i:s<4:=by omega
      have q4b:decide (4<=s)=false:=decide_eq_false q4
      by_cases q3:nt=0
      ·subst q3
       have hv:Hid (rv=decide ((0:Int)=0)):=by show _=_;rw [hr2.out,decide_eq_false q4];rfl
       clear hr2 q4;go_wp2;go_ret;exact ⟨by rw [hv.out];first|rfl|simp [*],hb0⟩
      ·have q3i:((nt:Int)==0)=false:=by simp;omega
       have hv:Hid (rv=false):=by show _=_;rw [hr2.out,decide_eq_false q4,decide_eq_false q3];rfl
       clear hr2 q3 q4;go_wp2;go_ret;exact ⟨by rw [hv.out];first|rfl|simp [*],hb0⟩
    ·have q2i:((np:Int)==0)=false:=by simp;omega
     have hv:Hid (rv=false):=by show _=_;rw [hr2.out,decide_eq_false q2];rfl
     clear hr2 q2
     by_cases q4:4<=s
     ·go_wp2
      go_ret;exact ⟨by rw [hv.out];first|rfl|simp [*],hb0⟩
     ·have q4i:s<4:=by omega
      have q4b:decide (4<=s)=false:=decide_eq_false q4
      by_cases q3:nt=0
      ·subst q3
       go_wp2;go_ret;exact ⟨by rw [hv.out];first|rfl|simp [*],hb0⟩
      ·have q3i:((nt:Int)==0)=false:=by simp;omega
       clear q3;go_wp2;go_ret;exact ⟨by rw [hv.out];first|rfl|simp [*],hb0⟩
theorem specParserOk_m63 (s:Int) (ps ts:List Int) (pv tv:Value) (w:World) (hp:SlI w pv ps) (ht:SlI w tv ts) (hpl:ps.length<=1073741824) (htl:ts.length<=1073741824)
  (h1a:1<=s) (h1b:s<=5) (h2:ps.length<=16) (hrt:(decide (ts.length<=40) && runesB ts)=true) :
  Calls Tryz.prog 76 #[paV ⟨s,ps,63,ts⟩ pv tv] w fun e w'=>e=.returned (.bool (paramsB ps && (decide (s=3) || decide (ps.length=0) && decide ((63:Int)=0)) && (decide (4<=s) || decide (ts.length=0))))/\Below w.heap.size w w':=by
 have hb0:=bal' w (Obj.cells #[.int .i64 s,pv,.int .i64 63,tv] 31);have hP:=PaC.new w s 63 pv tv 31;have hp1:=hp.below hb0;have ht1:=ht.below hb0;have hR1:=specRunes6_any tv ts 40 _ ht1 htl (by decide);rw [hrt] at hR1
 obtain ⟨pa,pc,rfl,hpc⟩:=hp1.cons;obtain ⟨ta,tc,rfl⟩:=ht1.shp;have h2i:¬ (16:Int)<(ps.length:Int):=by omega
 obtain ⟨rv,hrv⟩:∃ rv,Hid (rv=(paramsB ps && (decide (s=3) || decide (ps.length=0) && decide ((63:Int)=0)) && (decide (4<=s) || decide (ts.length=0)))):=⟨_,rfl⟩;rw [<- hrv.out]
 unfold paV;obtain ⟨_,⟨c0,c1,c2,c3⟩,_⟩:=id hP;clear hP hp ht hp1 ht1 hrt hpl htl;go_enter Tryz.func76,Tryz.ntmps76;go_wp2_with (first|(go_at_call 73;refine (l1In_any _ _ _ _).mono ?_;rintro e w' ⟨rfl,rfl⟩)|(go_at_call 75;refine hR1.mono ?_;rintro e w' ⟨rfl,rfl⟩));clear hR1;go_loop [3] (fun i=>∃ j:Nat,i=.int .i64 j/\j<=ps.length/\Hid (∀ k,k<j->0<=ps.getD k 0/\ps.getD k 0<=9999)) (fun i=>ps.length-(intOf i).toNat)
 case atStart=>exact ⟨0,rfl,Nat.zero_le _,(fun k hk=>absurd hk (Nat.not_lt_zero k))⟩
 case round =>
  obtain ⟨j,rfl,hj,hall⟩:=hrel
  by_cases hlt:j<ps.length
  ·have hji:(j:Int)<(ps.length:Int):=by omega
   have hj0:(0:Int)<=(j:Int):=by omega
   obtain ⟨b,off,rfl,hcj⟩:=hpc j hlt;have hno:¬ (0<=ps.getD j 0/\ps.getD j 0<=9999)->Hid (paramsB ps=false):=fun h=>paramsB_no j hlt h
   have hstep:(0<=ps.getD j 0/\ps.getD j 0<=9999)->Hid (∀ k,k<j+1->0<=ps.getD k 0/\ps.getD k 0<=9999):=fun h=>(show ∀ k,k<j+1->0<=ps.getD k 0/\ps.getD k 0<=9999 from fun k hk=>by
    by_cases e:k=j
    ·rw [e];exact h
    ·exact hall.out k (by omega))
   have hin:=fun W=>l1In_any (ps.getD j 0) 0 9999 W
   clear hpc hall;generalize ps.getD j 0=x at *
   by_cases hx:0<=x/\x<=9999
   ·have hall2:=hstep hx
    rw [decide_eq_true hx] at hin
    clear hno hstep hx;go_wp2_with (go_at_call 73;refine (hin _).mono ?_;rintro e w' ⟨rfl,rfl⟩);go_round
    case rel=>exact ⟨j+1,by go_num,by omega,hall2⟩
    case measure=>simp [intOf];omega
   ·have hV:Hid (rv=false):=by show _=_;rw [hrv.out,(hno hx).out,Bool.false_and,Bool.false_and]
    rw [decide_eq_false hx] at hin
    clear hno hstep hx;go_wp2_with (go_at_call 73;refine (hin _).mono ?_;rintro e w' ⟨rfl,rfl⟩);go_ret;exact ⟨by rw [hV.out];rfl,hb0⟩
  ·have hjn:j=ps.length:=by omega
   have hji:¬ (j:Int)<(ps.length:Int):=by omega
   have hV:Hid (paramsB ps=true):=paramsB_yes (by rw [<- hjn];exact hall.out);have hr1:Hid (rv=((decide (s=3) || decide (ps.length=0) && decide ((63:Int)=0)) && (decide (4<=s) || decide (ts.length=0)))):=by show _=_;rw [hrv.out,hV.out,Bool.true_and];try simp
   clear hpc hall hjn hrv hV;generalize ps.length=np at *;generalize ts.length=nt at *
   by_cases q1:s=3
   ·subst q1
    by_cases q3:nt=0
    ·subst q3
     have hv:Hid (rv=true):=by show _=_;rw [hr1.out];rfl
     clear hr1;go_wp2;go_ret;exact ⟨by rw [hv.out];first|rfl|simp [*],hb0⟩
    ·have q3i:((nt:Int)==0)=false:=by simp;omega
     have hv:Hid (rv=false):=by show _=_;rw [hr1.out,decide_eq_false q3];rfl
     clear hr1 q3;go_wp2;go_ret;exact ⟨by rw [hv.out];first|rfl|simp [*],hb0⟩
   ·have q1i:(s==3)=false:=by simp [q1]
    have hr2:Hid (rv=((decide (np=0) && decide ((63:Int)=0)) && (decide (4<=s) || decide (nt=0)))):=by show _=_;rw [hr1.out,decide_eq_false q1,Bool.false_or]
    clear hr1 q1
    by_cases q2:np=0
    ·subst q2
     by_cases q4:4<=s
     ·have hv:Hid (rv=decide ((63:Int)=0)):=by show _=_;rw [hr2.out,decide_eq_true q4];rfl
      clear hr2;go_wp2;go_ret;exact ⟨by rw [hv.out];first|rfl|simp [*],hb0⟩
     ·have q4i:s<4:=by omega
      have q4b:decide (4<=s)=false:=decide_eq_false q4
      by_cases q3:nt=0
      ·subst q3
       have hv:Hid (rv=decide ((63:Int)=0)):=by show _=_;rw [hr2.out,decide_eq_false q4];rfl
       clear hr2 q4;go_wp2;go_ret;exact ⟨by rw [hv.out];first|rfl|simp [*],hb0⟩
      ·have q3i:((nt:Int)==0)=false:=by simp;omega
       have hv:Hid (rv=false):=by show _=_;rw [hr2.out,decide_eq_false q4,decide_eq_false q3];rfl
       clear hr2 q3 q4;go_wp2;go_ret;exact ⟨by rw [hv.out];first|rfl|simp [*],hb0⟩
    ·have q2i:((np:Int)==0)=false:=by simp;omega
     have hv:Hid (rv=false):=by show _=_;rw [hr2.out,decide_eq_false q2];rfl
     clear hr2 q2
     by_cases q4:4<=s
     ·go_wp2
      go_ret;exact ⟨by rw [hv.out];first|rfl|simp [*],hb0⟩
     ·have q4i:s<4:=by omega
      have q4b:decide (4<=s)=false:=decide_eq_false q4
      by_cases q3:nt=0
      ·subst q3
       go_wp2;go_ret;exact ⟨by rw [hv.out];first|rfl|simp [*],hb0⟩
      ·have q3i:((nt:Int)==0)=false:=by simp;omega
       clear q3;go_wp2;go_ret;exact ⟨by rw [hv.out];first|rfl|simp [*],hb0⟩
theorem specParserOk_any (p:Pa) (pv tv:Value) (w:World) (hp:SlI w pv p.params) (ht:SlI w tv p.text) (hpl:p.params.length<=1073741824) (htl:p.text.length<=1073741824) :
  Calls Tryz.prog 76 #[paV p pv tv] w fun e w'=>e=.returned (.bool (okV p))/\Below w.heap.size w w':=by
 obtain ⟨s,ps,m,ts⟩:=p;have hb0:=bal' w (Obj.cells #[.int .i64 s,pv,.int .i64 m,tv] 31);have hP:=PaC.new w s m pv tv 31;have hp1:=hp.below hb0;have ht1:=ht.below hb0;have hR:=fun W h=>specRunes6_any tv ts 40 W h htl (by decide)
 obtain ⟨pa,pc,rfl,hpc⟩:=hp1.cons;obtain ⟨ta,tc,rfl⟩:=ht1.shp;simp only at *
 have hval:∀ b,b=(decide (1<=s/\s<=5) && decide (ps.length<=16) && decide (m=0\/m=63) && (decide (ts.length<=40) && runesB ts) && paramsB ps && (decide (s=3) || decide (ps.length=0) && decide (m=0)) && (decide (4<=s) || decide (ts.length=0)))->Hid (okV ⟨s,ps,m,ts⟩=b):=fun b h=>by
  show _=_
  rw [h]
  unfold okV;rw [Bool.eq_iff_iff]
  simp only [Bool.and_eq_true,Bool.or_eq_true,decide_eq_true_eq]
  constructor
  ·rintro ⟨⟨⟨a1,a2,a3,a4,a5,a6,a7⟩,a8⟩,a9⟩;exact ⟨⟨⟨⟨⟨⟨⟨a1,a2⟩,a3⟩,a4⟩,a5,a8⟩,a9⟩,a6⟩,a7⟩
  ·rintro ⟨⟨⟨⟨⟨⟨⟨a1,a2⟩,a3⟩,a4⟩,a5,a8⟩,a9⟩,a6⟩,a7⟩;exact ⟨⟨⟨a1,a2,a3,a4,a5,a6,a7⟩,a8⟩,a9⟩
 unfold paV at *;obtain ⟨_,⟨c0,c1,c2,c3⟩,_⟩:=id hP;clear hP hp1;have hR1:=hR _ ht1;clear hR ht1;generalize hrt0:(decide (ts.length<=40) && runesB ts)=rt at *
 by_cases h1:1<=s/\s<=5
 ·obtain ⟨h1a,h1b⟩:=h1
  by_cases h2:ps.length<=16
  ·have h2i:¬ (16:Int)<(ps.length:Int):=by omega
   by_cases h3:m=0\/m=63
   ·have hm:∃ x:Bool,(m != 0)=x:=⟨_,rfl⟩
    cases rt
    ·have hV:=hval false (by simp)
     clear hval hpc;go_enter Tryz.func76,Tryz.ntmps76;rcases h3 with rfl|rfl
     all_goals
      go_wp2_with (first|(go_at_call 73;refine (l1In_any _ _ _ _).mono ?_;rintro e w' ⟨rfl,rfl⟩)|(go_at_call 75;refine hR1.mono ?_;rintro e w' ⟨rfl,rfl⟩));go_ret;exact ⟨by rw [hV.out];rfl,hb0⟩
    ·have hv2:∀ b,b=(paramsB ps && (decide (s=3) || decide (ps.length=0) && decide (m=0)) && (decide (4<=s) || decide (ts.length=0)))->Hid (okV ⟨s,ps,m,ts⟩=b):=fun b h=>hval b (by rw [h,decide_eq_true (show 1<=s/\s<=5 from ⟨h1a,h1b⟩),decide_eq_true h2,decide_eq_true h3];try simp)
     have hrt:(decide (ts.length<=40) && runesB ts)=true:=hrt0.symm ▸ rfl;rcases h3 with rfl|rfl
     ·exact (specParserOk_m0 s ps ts _ _ w hp ht hpl htl h1a h1b h2 hrt).mono fun _ _ ⟨he,hb⟩=>⟨by rw [he,(hv2 _ rfl).out],hb⟩
     ·exact (specParserOk_m63 s ps ts _ _ w hp ht hpl htl h1a h1b h2 hrt).mono fun _ _ ⟨he,hb⟩=>⟨by rw [he,(hv2 _ rfl).out],hb⟩
   ·have hV:=hval false (by rw [decide_eq_false h3];simp)
    have h3a:¬ m=0:=fun e=>h3 (.inl e)
    have h3b:¬ m=63:=fun e=>h3 (.inr e)
    clear hval hpc h3;go_enter Tryz.func76,Tryz.ntmps76;go_wp2_with (go_at_call 73;refine (l1In_any _ _ _ _).mono ?_;rintro e w' ⟨rfl,rfl⟩)
    all_goals go_ret
    exact ⟨by rw [hV.out];rfl,hb0⟩
  ·have h2i:(16:Int)<(ps.length:Int):=by omega
   have hV:=hval false (by rw [decide_eq_false h2];simp);clear hval hpc;go_enter Tryz.func76,Tryz.ntmps76;go_wp2_with (go_at_call 73;refine (l1In_any _ _ _ _).mono ?_;rintro e w' ⟨rfl,rfl⟩);go_ret;exact ⟨by rw [hV.out];rfl,hb0⟩
 ·have hV:=hval false (by rw [decide_eq_false h1];simp)
  have h1i:Hid ((decide (1<=s/\s<=5))=false):=decide_eq_false h1;clear hval hpc;have hin:=fun W=>l1In_any s 1 5 W
  rw [h1i.out] at hin
  clear h1;go_enter Tryz.func76,Tryz.ntmps76;go_wp2_with (go_at_call 73;refine (hin _).mono ?_;rintro e w' ⟨rfl,rfl⟩);go_ret;exact ⟨by rw [hV.out];rfl,hb0⟩
theorem ret_i {a b:Int} (h:a=b):Ending.returned (.int .i64 a)=.returned (.int .i64 b):=by rw [h]
theorem sWa (r:Int) (w:World) :
  Calls Tryz.prog 172 #[.int .i64 r] w fun e w'=>e=.returned (.int .i64 (wdV r))/\w'=w:=by
 by_cases hr:runeOk r=true
 ·have hb:=(runeOk_iff r).1 hr
  have hw:Hid (wdV r=if r<32\/(127<=r/\r<=159)\/(768<=r/\r<=879) then 0 else if (4352<=r/\r<=4447)\/(12288<=r/\r<=55295)\/(127744<=r/\r<=131071) then 2 else 1):=by show _=_;simp [wdV,hr]
  go_enter Tryz.func172,Tryz.ntmps172;go_wp2_with (first|(go_at_call 140;refine (specRuneOk_any _ _).mono ?_;rw [hr];rintro e w' ⟨rfl,rfl⟩)|(go_at_call 73;refine (l1In_any _ _ _ _).mono ?_;rintro e w' ⟨rfl,rfl⟩))
  all_goals
   go_ret;refine ⟨ret_i ?_,rfl⟩;rw [hw.out]
   clear hw hr
   (try simp at *)
   omega
 ·have hr:runeOk r=false:=by simpa using hr
  have hw:Hid (wdV r=0):=by show _=_;simp [wdV,hr]
  go_enter Tryz.func172,Tryz.ntmps172;go_wp2_with (first|(go_at_call 140;refine (specRuneOk_any _ _).mono ?_;rw [hr];rintro e w' ⟨rfl,rfl⟩)|(go_at_call 73;refine (l1In_any _ _ _ _).mono ?_;rintro e w' ⟨rfl,rfl⟩))
  all_goals
   go_ret;exact ⟨ret_i hw.out.symm,rfl⟩
def spansC:Array Value:=#[.int .i64 0,.int .i64 31,.int .i64 0,.int .i64 127,.int .i64 159,.int .i64 0,.int .i64 768,.int .i64 879,.int .i64 0,.int .i64 4352,.int .i64 4447,.int .i64 2,.int .i64 12288,.int .i64 55295,.int .i64 2,.int .i64 127744,.int .i64 131071,.int .i64 2]
def SpansAt (w:World):Prop:=∃ t fr,w.heap[0]?=some (.cells spansC t fr)
theorem SpansAt.below {B:Nat} {w w':World} (h:SpansAt w) (hb:Below B w w') (hB:0<B):SpansAt w':=by
 obtain ⟨t,fr,h⟩:=h;exact ⟨t,fr,by rw [hb.block _ hB];exact h⟩
theorem SpansAt.lt {w:World} (h:SpansAt w):0<w.heap.size:=by
 obtain ⟨t,fr,h⟩:=h;exact (Array.getElem?_eq_some_iff.1 h).1

def SlL (w:World) (v:Value) (xs:List Int):Prop :=
 ∃ a c,v=.slice a xs.length c/\xs.length<=c/\(xs=[]\/∃ b off,a=some ⟨b,off,none⟩/\b<w.heap.size/\∀ i,i<xs.length->w.cell? ⟨b,off+i,none⟩=some (.int .i64 (xs.getD i 0)))
theorem SlL.sl {w:World} {v:Value} {xs:List Int} (h:SlL w v xs):SlI w v xs:=by
 obtain ⟨a,c,hv,_,hr⟩:=h;exact ⟨a,c,hv,hr⟩
theorem info_i64:(Tryz.prog.info? 2).map (fun i=>(i.zero,i.size,i.bytes))=some (some (.int .i64 0),1,8):=by kernel_rfl
theorem toI_copy (v:Value) (xs:List Int) (w:World) (hv:SlI w v xs) (hl:xs.length<=1073741824) :
  Calls Tryz.prog 93 #[v] w fun e w'=>∃ u,e=.returned u/\w'.ownsRow w.heap.size 2 1 u xs.length (xs.map (Value.int .i64))/\Below w.heap.size w w':=by
 obtain ⟨i0,hi,hz0,hz1,hz2⟩:=info_parts info_i64;obtain ⟨a,c,rfl,hc⟩:=hv;generalize hn:xs.length=n at *;go_enter Tryz.func93,Tryz.ntmps93;go_wp2_with (refine wpList_make_full _ rfl _ _ 29 rfl w.heap.size 2 i0 (.int .i64 0) 1 Tryz.underlying29 hi hz0 hz1 .i64 .i64 (n:Int) (n:Int) n rfl rfl rfl rfl ?c1 ?c2 ?c3 ?_)
 case c1=>rw [hz2];omega
 case c2=>unfold maxLen;omega
 case c3=>exact Nat.le_refl _
 intro w1 ho hg;have hb1:Below w.heap.size w w1:=(Below.refl _ _).grown hg (Nat.le_refl _) (fun k hk=>by cases hk);clear hg;go_wp2;go_loopw [4] (fun i wr=>∃ (j:Nat) (ys:List Value),j<=n/\i=.int .i64 j/\wr.ownsRow w.heap.size 2 1 (.slice (some ⟨w.heap.size,0,none⟩) n n) n ys/\ys.length=n/\(∀ t,t<j->ys[t]?=some (.int .i64 (xs.getD t 0)))/\Below w.heap.size w wr) (fun i _=>n-(intOf i).toNat)
 case atStart=>exact ⟨0,_,Nat.zero_le _,rfl,ho,by simpa using ho.1,by simp,hb1⟩
 case round =>
  obtain ⟨j,ys,hj,rfl,ho,hyl,hys,hbel⟩:=hrel
  by_cases hlt:j<n
  ·rcases hc with hc|⟨b,off,rfl,hb,hc⟩
   ·rw [hc] at hn;simp at hn;omega
   ·have h0:wr.cell? ⟨b,off+j,none⟩=some (.int .i64 (xs.getD j 0)):=(hbel.cell (p:=⟨b,off+j,none⟩) hb).trans (hc j hlt)
    have h1:∃ u,wr.cell? ⟨w.heap.size,j,none⟩=some u:=by
     rw [ho.cellAt j (by omega)];exact ⟨_,List.getElem?_eq_getElem (by omega)⟩
    obtain ⟨u,h1⟩:=h1;have h2:=ho.frozenAt j;obtain ⟨hst1,hst2⟩:=ho.stored j (.int .i64 (xs.getD j 0))
    have hy2:∀ t,t<j+1->(ys.set j (.int .i64 (xs.getD j 0)))[t]?=some (.int .i64 (xs.getD t 0)):=by
     intro t ht
     by_cases e:t=j
     ·subst e;rw [List.getElem?_set_self (by omega)]
     ·rw [List.getElem?_set_ne (by omega)];exact hys t (by omega)
    clear ho hc hys;generalize xs.getD j 0=x at *;have hbs:=hbel.size;go_wp2;go_roundw
    case rel =>
     exact ⟨j+1,ys.set j (.int .i64 x),by omega,by go_num,hst1,by simpa using hyl,hy2,hbel.grown hst2 hbs (fun k hk=>by cases hk;exact Nat.le_refl _)⟩
    case measure=>simp [intOf];omega
  ·have hjn:j=n:=by omega
   subst hjn
   have hye:ys=xs.map (Value.int .i64):=by
    apply List.ext_getElem?
    intro i
    by_cases hi:i<j
    ·rw [hys i hi];simp [show i<xs.length by omega]
    ·rw [List.getElem?_eq_none (by omega),List.getElem?_eq_none (by simp;omega)]
   go_wp2;go_ret;exact ⟨_,rfl,by rw [<- hye];exact ho,hbel⟩
theorem under_ints:Tryz.prog.underlying 29=some (.slice 2):=by kernel_rfl
def ReadsRow (w:World) (u:Value) (news:List Value):Prop :=
 (u=.slice none 0 0/\news=[])\/∃ ad c,u=.slice (some ad) news.length c/\∀ j x,news[j]?=some x->w.cell? (ad.add j)=some x
theorem ReadsRow.below {w w':World} {u:Value} {news:List Value} (h:ReadsRow w u news) (hb:Below w.heap.size w w'):ReadsRow w' u news:=by
 rcases h with h|⟨ad,c,hu,hc⟩
 ·exact .inl h
 ·refine .inr ⟨ad,c,hu,fun j x hx=>?_⟩
  have h1:=hc j x hx;exact (hb.cell (World.block_lt_of_cell? w _ h1)).trans h1
theorem append_any {P:Program} {w:World} {ops:Array Oper} {rest:List Oper} {o:Oper} {a:Act} {Q:Exit->Act->World->Prop} (hgd:o.guard=none) (s x:Operand) (t:TypeId)
  (ho:o.op=.call { callee:=.builtin .append,args:=#[s,x],argTypes:=#[t,t] })
  (base:Nat) (e:TypeId) (i:TypeInfo) (z:Value) (bytes:Nat) (ht:P.underlying t=some (.slice e)) (hi:P.info? e=some i) (hz:i.zero=some z)
  (hsize:i.size=1) (hby:i.bytes=bytes) (hzs:z.cells.size=1)
  (v:Value) (n:Nat) (xs:List Value) (hs:a.eval s=v) (hown:w.ownsRow base e 1 v n xs)
  (u:Value) (news:List Value) (hx:a.eval x=u) (hr:ReadsRow w u news) (h1:∀ u∈news,u.oneCell'=true)
  (h63:n+news.length<=maxLen) (hbytes:(n+news.length)*bytes<=140737488355328) (hbase:base<=w.heap.size)
  (h:∀ v' w',w'.ownsRow base e 1 v' (n+news.length) (xs++news)->w.grownBy w' v.ownBlock->wpList P ops Q rest (a.put o.dst v') w'):wpList P ops Q (o::rest) a w:=by
 rcases hr with ⟨rfl,rfl⟩|⟨ad,c,rfl,hc⟩
 ·exact wpList_append_own_none hgd s x t ho base e i 1 ht hi v n xs hs hown hx (h v w (by simpa using hown) (World.grownBy.refl _ _))
 ·exact wpList_append_own w hgd s x t ho base e i z 1 bytes ht hi hz hsize hby hzs (by decide) v n xs hs hown ad news.length c news hx (by simp) hc h1 h63 hbytes hbase (fun v' w' a b _=>h v' w' a b)
def SlN (w:World) (v:Value) (xs:List Int):Prop :=
 ∃ a c,v=.slice a xs.length c/\xs.length<=c/\(a=none->c=0)/\(xs=[]\/∃ b off,a=some ⟨b,off,none⟩/\b<w.heap.size/\∀ i,i<xs.length->w.cell? ⟨b,off+i,none⟩=some (.int .i64 (xs.getD i 0)))
theorem SlN.l {w:World} {v:Value} {xs:List Int} (h:SlN w v xs):SlL w v xs:=by
 obtain ⟨a,c,hv,hc,_,hr⟩:=h;exact ⟨a,c,hv,hc,hr⟩
theorem SlN.below {w w':World} {v:Value} {xs:List Int} (h:SlN w v xs) (hb:Below w.heap.size w w'):SlN w' v xs:=by
 obtain ⟨a,c,hv,hc0,hn,h|⟨b,off,ha,hlt,hc⟩⟩:=h
 ·exact ⟨a,c,hv,hc0,hn,.inl h⟩
 ·exact ⟨a,c,hv,hc0,hn,.inr ⟨b,off,ha,Nat.lt_of_lt_of_le hlt hb.size,fun i hi=>(hb.cell (p:=⟨b,off+i,none⟩) hlt).trans (hc i hi)⟩⟩
theorem SlN.of_own {w:World} {base:Nat} {v:Value} {xs:List Int} (h:OwnI w base v xs):SlN w v xs:=by
 rcases h.2 with ⟨rfl,h2⟩|⟨g,cap,cur,rfl,hb,hg,hn,hr⟩
 ·exact ⟨none,0,by rw [h2],by omega,fun _=>rfl,.inl (List.eq_nil_of_length_eq_zero h2)⟩
 ·refine ⟨_,cap,rfl,hn,(fun e=>by cases e),.inr ⟨g,0,rfl,(Array.getElem?_eq_some_iff.1 hg).1,fun i hi=>?_⟩⟩
  have:=World.ownsRow.cellAt h i (by omega);rw [Nat.zero_add,this]
  simp [hi]
theorem SlN.shp {w:World} {v:Value} {xs:List Int} (h:SlN w v xs):∃ a c,v=.slice a xs.length c:=h.l.sl.shp
theorem SlN.reads {w:World} {v:Value} {xs:List Int} (h:SlN w v xs):ReadsRow w v (xs.map (Value.int .i64)):=by
 obtain ⟨a,c,hv,hc,hn,hr⟩:=h
 cases a with
 | none =>
  have hc0:=hn rfl;subst hc0;have hx:xs=[]:=List.eq_nil_of_length_eq_zero (by omega);subst hx;exact .inl ⟨hv,rfl⟩
 | some ad =>
  refine .inr ⟨ad,c,by rw [hv,List.length_map],fun j x hj=>?_⟩
  have hjl:j<xs.length:=by
   have:=(List.getElem?_eq_some_iff.1 hj).1
   simpa using this
  rcases hr with h|⟨b,off,ha,_,hcl⟩
  ·rw [h] at hjl;simp at hjl
  ·cases ha
   rw [Addr.add_mid,hcl j hjl,<- hj]
   simp [hjl]
theorem ints_one (xs:List Int):∀ u∈xs.map (Value.int .i64),u.oneCell'=true:=by
 intro u hu;obtain ⟨x,_,rfl⟩:=List.mem_map.1 hu
 rfl
theorem copy_i {w:World} {ops:Array Oper} {rest:List Oper} {o:Oper} {ac:Act} {Q:Exit->Act->World->Prop} (hgd:o.guard=none) (s x:Operand)
  (ho:o.op=.call { callee:=.builtin .append,args:=#[s,x],argTypes:=#[29,29] })
  (v:Value) (xs:List Int) (hs:ac.eval s=.slice (some ⟨w.heap.size,0,none⟩) 0 0) (k:SlN w v xs) (hl:xs.length<=1073741824) (hx:ac.eval x=v)
  (h:∀ v' w',OwnI w' w.heap.size v' xs->Below w.heap.size w w'->wpList Tryz.prog ops Q rest (ac.put o.dst v') w') :
  wpList Tryz.prog ops Q (o::rest) ac (w.alloc (.cells #[] 2)):=by
 obtain ⟨i0,hi,hz0,hz1,hz2⟩:=info_parts info_i64;have hba:=bal' w (Obj.cells #[] 2)
 have hown:(w.alloc (.cells #[] 2)).ownsRow w.heap.size 2 1 (.slice (some ⟨w.heap.size,0,none⟩) 0 0) 0 []:=by
  have:=World.ownsRow_lit (base:=w.heap.size) (e:=2) (size:=1) w #[] 0 (Nat.le_refl _) (Nat.zero_le _) rfl
  simpa using this
 refine append_any hgd s x _ ho w.heap.size 2 i0 (.int .i64 0) 8 under_ints hi hz0 hz1 hz2 rfl _ 0 [] hs hown v (xs.map (Value.int .i64)) hx (k.reads.below hba) (ints_one xs) (by unfold maxLen;simp;omega) (by simp;omega) (by simp) (fun v' w' ho' hg'=>?_);have e:0+(xs.map (Value.int .i64)).length=xs.length:=by simp
 rw [e] at ho'
 refine h v' w' (by simpa [OwnI] using ho') (hba.grown hg' (by simp) (fun q e=>by simp [Value.ownBlock] at e;omega))
def putP (w:World) (B:Nat) (s:Int) (pv:Value) (m:Int) (tv:Value):World:=(((w.setCell ⟨B,0,none⟩ (.int .i64 s)).setCell ⟨B,1,none⟩ pv).setCell ⟨B,2,none⟩ (.int .i64 m)).setCell ⟨B,3,none⟩ tv
theorem putP_grown (w:World) (B:Nat) (s:Int) (pv:Value) (m:Int) (tv:Value):w.grownBy (putP w B s pv m tv) (some B) :=
 grown_tr (grown_tr (grown_tr (sCc w B 0 _) (sCc _ B 1 _)) (sCc _ B 2 _)) (sCc _ B 3 _)
end Go.Proofs.YtgcnmjjlmcnllaaGreatDoor
