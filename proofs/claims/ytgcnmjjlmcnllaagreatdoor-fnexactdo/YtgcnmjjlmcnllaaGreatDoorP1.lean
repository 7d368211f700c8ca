/- Parts of the proof. -/
import Derived.OrdersHeld
import Derived.Deep.RegionHeld3
import Derived.WalkKit
import Derived.Laws.BytesArg
import GoSem.Core.Utf8
import Derived.Test.YtgcnmjjlmcnllaaGreatDoorRows
import Derived.ProofKit
import Derived.OpenShut
import Derived.ShutString
import Derived.LoopN
import Derived.WalkSpells
import Derived.Deep.QuietTactic
import Derived.BigQuiet
import Derived.Laws.OwnMore
import Derived.Laws.AppendOwn
import Derived.OwnWalk
import Derived.Laws.AppendOwnNone
import Derived.Deep.MidRow
namespace Go.Proofs.YtgcnmjjlmcnllaaGreatDoor
set_option maxRecDepth 20000
set_option maxHeartbeats 16000000
open Go.RowKit
theorem ZA {α:Type _} (l:List α) (i:Nat) (a:α):l.toArray.setIfInBounds i a=(l.set i a).toArray:=List.setIfInBounds_toArray l i a
theorem ZB {α:Type _} {x:α} {xs:List α} {a:α}:(x::xs).set 0 a=a::xs:=List.set_cons_zero
theorem ZC {α:Type _} {x:α} {xs:List α} {i:Nat} {a:α}:(x::xs).set (i+1) a=x::xs.set i a:=List.set_cons_succ
theorem ZD {α:Type _} {xs:List α} {i:Nat} (h:i<xs.toArray.size):xs.toArray[i]'h=xs[i]'(by simpa using h):=List.getElem_toArray h
theorem ZE {α:Type _} (a:α) (l:List α) (h:0<(a::l).length):(a::l)[0]'h=a:=List.getElem_cons_zero a l h
theorem ZF {α:Type _} (a:α) (l:List α) (i:Nat) (h:i+1<(a::l).length):(a::l)[i+1]'h=l[i]'(by simpa using h):=List.getElem_cons_succ a l i h
theorem tk (i:Nat) {P:Program} {ops:Array Oper} {Q:Exit->Act->World->Prop} {md:Region.Mode} {S:World->Prop} {oi:Oper} {v:Value} {fuel:Nat} {listed:Array Bool} {a:Act} {w:World}
  (h:wpAnyH P md ops Q S fuel (listed.setIfInBounds i true) (a.put oi.dst v) w) (hS:S w:=by with_reducible assumption) (hi:ops[i]?=some oi:=by exact rfl)
  (hs:Region.noSelect ops=true:=by kernel_rfl) (hf:Region.free md ops listed i=true:=by kernel_rfl) (hr:(Region.ready md ops listed).contains i=true:=by kernel_rfl)
  (hQ:∀ c a w,Q (.panic c) (a.put oi.dst v) w->Q (.panic c) a w:=by exact fun _ _ _ h=>h) (hg:Region.wanted oi (yielded ops a.tmps)=true:=by rfl)
  (hy:∀ w,S w->(execOp a.eval oi).run P w=.ok (.value v) w:=by (intro w hSw;(try dsimp only at hSw);go_simp;(try with_reducible rfl))):wpAnyH P md ops Q S (fuel+1) listed a w :=
 wpAnyH_take hi hs hf hr hQ (Or.inl ⟨hg,hy⟩) hS h
theorem tz (i:Nat) {P:Program} {ops:Array Oper} {Q:Exit->Act->World->Prop} {md:Region.Mode} {S:World->Prop} {oi:Oper} {v:Value} {fuel:Nat} {listed:Array Bool} {a:Act} {w:World}
  (h:wpAnyH P md ops Q S fuel (listed.setIfInBounds i true) (a.put oi.dst v) w) (hS:S w:=by with_reducible assumption) (hi:ops[i]?=some oi:=by exact rfl)
  (hs:Region.noSelect ops=true:=by kernel_rfl) (hf:Region.free md ops listed i=true:=by kernel_rfl) (hr:(Region.ready md ops listed).contains i=true:=by kernel_rfl)
  (hQ:∀ c a w,Q (.panic c) (a.put oi.dst v) w->Q (.panic c) a w:=by exact fun _ _ _ h=>h) (hg:Region.wanted oi (yielded ops a.tmps)=true:=by rfl)
  (hy:∀ w,S w->(execOp a.eval oi).run P w=.ok (.value v) w:=by (intro w hSw;(try dsimp only at hSw);subst hSw;go_simp;(try with_reducible rfl))):wpAnyH P md ops Q S (fuel+1) listed a w :=
 wpAnyH_take hi hs hf hr hQ (Or.inl ⟨hg,hy⟩) hS h
theorem sk (i:Nat) {P:Program} {ops:Array Oper} {Q:Exit->Act->World->Prop} {md:Region.Mode} {S:World->Prop} {oi:Oper} {fuel:Nat} {listed:Array Bool} {a:Act} {w:World}
  (h:wpAnyH P md ops Q S fuel (listed.setIfInBounds i true) (a.put oi.dst undef) w) (hS:S w:=by with_reducible assumption) (hi:ops[i]?=some oi:=by exact rfl)
  (hs:Region.noSelect ops=true:=by kernel_rfl) (hf:Region.free md ops listed i=true:=by kernel_rfl) (hr:(Region.ready md ops listed).contains i=true:=by kernel_rfl)
  (hQ:∀ c a w,Q (.panic c) (a.put oi.dst undef) w->Q (.panic c) a w:=by exact fun _ _ _ h=>h) (hg:Region.wanted oi (yielded ops a.tmps)=false:=by rfl):wpAnyH P md ops Q S (fuel+1) listed a w :=
 wpAnyH_take hi hs hf hr hQ (Or.inr ⟨hg,rfl⟩) hS h
theorem be {P:Program} {fn:Func} {R:Ending->World->Prop} {a:Act} {w:World} (hR:R (.returned (.tuple #[])) w) (h:fn.results=#[]:=by rfl) (hd:a.defers=[]:=by rfl):bodyPost P fn R .normal a w:=bodyPost_end (results_none h _ _ _) hd hR
theorem dn {P:Program} {ops:Array Oper} {Q:Exit->Act->World->Prop} {md:Region.Mode} {S:World->Prop} {fuel:Nat} {listed:Array Bool} {a:Act} {w:World} (h:Q .normal a w) (hr:Region.ready md ops listed=[]:=by kernel_rfl):wpAnyH P md ops (NoPanic Q) S fuel listed a w:=wpAnyH_done hr (NoPanic.normal h) _
theorem rd (i:Nat) {P:Program} {ops:Array Oper} {Q:Exit->Act->World->Prop} {md:Region.Mode} {S:World->Prop} {o:Oper} {fuel:Nat} {listed:Array Bool} {a:Act} {w:World}
  (h:∀ K':Act->World->Prop,Shut (∀ a w,S w->(S w->wpAnyH P md ops Q S fuel (listed.setIfInBounds i true) a w)->K' a w)->if Region.wanted o (yielded ops a.tmps)=true then Oper.wp P o a w K' Q else K' (a.put o.dst undef) w)
  (hr:Region.ready md ops listed=[i]:=by kernel_rfl) (ho:ops[i]?=some o:=by exact rfl):wpAnyH P md ops Q S (fuel+1) listed a w :=
 wpAnyH_ready hr (by simp) (AllReadyH.cons ho h AllReadyH.nil)
theorem rd2 (i j:Nat) {P:Program} {ops:Array Oper} {Q:Exit->Act->World->Prop} {md:Region.Mode} {S:World->Prop} {o o':Oper} {fuel:Nat} {listed:Array Bool} {a:Act} {w:World}
  (h:∀ K':Act->World->Prop,Shut (∀ a w,S w->(S w->wpAnyH P md ops Q S fuel (listed.setIfInBounds i true) a w)->K' a w)->if Region.wanted o (yielded ops a.tmps)=true then Oper.wp P o a w K' Q else K' (a.put o.dst undef) w)
  (h':∀ K':Act->World->Prop,Shut (∀ a w,S w->(S w->wpAnyH P md ops Q S fuel (listed.setIfInBounds j true) a w)->K' a w)->if Region.wanted o' (yielded ops a.tmps)=true then Oper.wp P o' a w K' Q else K' (a.put o'.dst undef) w)
  (hr:Region.ready md ops listed=[i,j]:=by kernel_rfl) (ho:ops[i]?=some o:=by exact rfl) (ho':ops[j]?=some o':=by exact rfl):wpAnyH P md ops Q S (fuel+1) listed a w :=
 wpAnyH_ready hr (by simp) (AllReadyH.cons ho h (AllReadyH.cons ho' h' AllReadyH.nil))
theorem rdo (i:Nat) {P:Program} {ops:Array Oper} {Q:Exit->Act->World->Prop} {md:Region.Mode} {S:World->Prop} {o:Oper} {fuel:Nat} {listed:Array Bool} {a:Act} {w:World}
  (h:∀ K':Act->World->Prop,Shut (∀ a w,S w->(S w->wpAnyH P md ops Q S fuel (listed.setIfInBounds i true) a w)->K' a w)->Oper.wp P o a w K' Q)
  (hr:Region.ready md ops listed=[i]:=by kernel_rfl) (ho:ops[i]?=some o:=by exact rfl) (hg:o.guard=none:=by exact rfl):wpAnyH P md ops Q S (fuel+1) listed a w :=
 rd i (fun K' hK=>by rw [if_pos (by simp [Region.wanted,hg])];exact h K' hK) hr ho
end Go.Proofs.YtgcnmjjlmcnllaaGreatDoor
namespace Go.Proofs.YtgcnmjjlmcnllaaGreatDoor
set_option maxRecDepth 20000
set_option maxHeartbeats 16000000
def runeOk (r:Int):Bool:=decide (0<=r/\r<=1114111/\(r<55296\/57343<r))

theorem runeOk_is (r:Int) (b:Bool) (h:b=true ↔ (0<=r/\r<=1114111/\(r<55296\/57343<r))):b=runeOk r:=by
 rw [Bool.eq_iff_iff,h];simp [runeOk]
theorem runeOk_iff (r:Int):runeOk r=true ↔ (0<=r/\r<=1114111/\(r<55296\/57343<r)):=by simp [runeOk]
theorem runeOk_bd (r:Int) (h:runeOk r=true):0<=r/\r<=1114111:=by simp [runeOk] at h;omega

def putL (r:Int):List Int :=
 if r<128 then [r]
 else if r<2048 then [192+r / 64,128+r % 64]
 else if r<65536 then [224+r / 4096,128+r / 64 % 64,128+r % 64]
 else [240+r / 262144,128+r / 4096 % 64,128+r / 64 % 64,128+r % 64]
def putS (r:Int):ByteArray:=if runeOk r=true then strOfNums (putL r) else ⟨#[]⟩

theorem putL_1 (r:Int) (h:r<128):putL r=[r]:=by simp [putL,h]
theorem putL_2 (r:Int) (h0:128<=r) (h:r<2048):putL r=[192+r / 64,128+r % 64]:=by
 rw [putL,if_neg (by omega),if_pos h]
theorem putS_ok (r:Int) (h:runeOk r=true):putS r=strOfNums (putL r):=by simp [putS,h]
theorem putS_no (r:Int) (h:runeOk r=false):putS r=⟨#[]⟩:=by simp [putS,h]

def dec (l:List Int):Int×Int :=
 match l with
 | []=>(0,0)
 | b0::t =>
  if b0<128 then (b0,1)
  else if 192<=b0/\b0<224 then
   match t with
   | b1::_=>if (128<=b1/\b1<192)/\128<=(b0-192)*64+(b1-128) then ((b0-192)*64+(b1-128),2) else (65533,1)
   | _=>(65533,1)
  else if 224<=b0/\b0<240 then
   match t with
   | b1::b2::_=>if (128<=b1/\b1<192)/\(128<=b2/\b2<192)/\2048<=(b0-224)*4096+(b1-128)*64+(b2-128)/\runeOk ((b0-224)*4096+(b1-128)*64+(b2-128))=true then ((b0-224)*4096+(b1-128)*64+(b2-128),3) else (65533,1)
   | _=>(65533,1)
  else if 240<=b0/\b0<248 then
   match t with
   | b1::b2::b3::_=>if (128<=b1/\b1<192)/\(128<=b2/\b2<192)/\(128<=b3/\b3<192)/\65536<=(b0-240)*262144+(b1-128)*4096+(b2-128)*64+(b3-128)/\runeOk ((b0-240)*262144+(b1-128)*4096+(b2-128)*64+(b3-128))=true then ((b0-240)*262144+(b1-128)*4096+(b2-128)*64+(b3-128),4) else (65533,1)
   | _=>(65533,1)
  else (65533,1)

theorem putL_len (r:Int):(putL r).length=1\/(putL r).length=2\/(putL r).length=3\/(putL r).length=4:=by
 unfold putL;split
 ·simp
 ·split
  ·simp
  ·split<;>simp

theorem dec_put (r:Int) (t:List Int) (h:runeOk r=true):dec (putL r++t)=(r,((putL r).length:Int)):=by
 have hb:=(runeOk_iff r).1 h
 by_cases h1:r<128
 ·rw [putL_1 r h1];simp [dec,h1]
 ·by_cases h2:r<2048
  ·rw [putL,if_neg h1,if_pos h2]
   simp only [dec,List.cons_append,List.nil_append];rw [if_neg (by omega),if_pos (by omega),if_pos (by omega)]
   simp;omega
  ·by_cases h3:r<65536
   ·rw [putL,if_neg h1,if_neg h2,if_pos h3]
    have e:(224+r / 4096-224)*4096+(128+r / 64 % 64-128)*64+(128+r % 64-128)=r:=by omega
    simp only [dec,List.cons_append,List.nil_append];rw [if_neg (by omega),if_neg (by omega),if_pos (by omega),e,if_pos ⟨by omega,by omega,by omega,h⟩]
    simp
   ·rw [putL,if_neg h1,if_neg h2,if_neg h3]
    have e:(240+r / 262144-240)*262144+(128+r / 4096 % 64-128)*4096+(128+r / 64 % 64-128)*64+(128+r % 64-128)=r:=by omega
    simp only [dec,List.cons_append,List.nil_append];rw [if_neg (by omega),if_neg (by omega),if_neg (by omega),if_pos (by omega),e,if_pos ⟨by omega,by omega,by omega,by omega,h⟩]
    simp

theorem put_dec (b0:Int) (t:List Int) (hb:0<=b0) :
  (runeOk (dec (b0::t)).1=true/\(∃ u,b0::t=putL (dec (b0::t)).1++u)/\(dec (b0::t)).2=((putL (dec (b0::t)).1).length:Int)) \/
  (dec (b0::t)=(65533,1)/\128<=b0):=by
 simp only [dec]
 by_cases h1:b0<128
 ·rw [if_pos h1]
  left
  refine ⟨(runeOk_iff _).2 ⟨by dsimp only;omega,by dsimp only;omega,by dsimp only;omega⟩,⟨t,by rw [putL_1 _ h1];rfl⟩,by rw [putL_1 _ h1];rfl⟩
 ·rw [if_neg h1]
  by_cases h2:192<=b0/\b0<224
  ·rw [if_pos h2]
   match t with
   | []=>right;exact ⟨rfl,by omega⟩
   | b1::t =>
    simp only;split
    ·rename_i hc
     left
     have e:putL ((b0-192)*64+(b1-128))=[b0,b1]:=by
      rw [putL_2 _ (by omega) (by omega)]
      congr 1
      ·omega
      ·congr 1;omega
     refine ⟨(runeOk_iff _).2 ⟨by dsimp only;omega,by dsimp only;omega,by dsimp only;omega⟩,⟨t,by rw [e];rfl⟩,by rw [e];rfl⟩
    ·right;exact ⟨rfl,by omega⟩
  ·rw [if_neg h2]
   by_cases h3:224<=b0/\b0<240
   ·rw [if_pos h3]
    match t with
    | []=>right;exact ⟨rfl,by omega⟩
    | [b1]=>right;exact ⟨rfl,by omega⟩
    | b1::b2::t =>
     simp only;split
     ·rename_i hc
      left
      have e:putL ((b0-224)*4096+(b1-128)*64+(b2-128))=[b0,b1,b2]:=by
       rw [putL,if_neg (by omega),if_neg (by omega),if_pos (by omega)]
       congr 1
       ·omega
       ·congr 1
        ·omega
        ·congr 1;omega
      refine ⟨hc.2.2.2,⟨t,by rw [e];rfl⟩,by rw [e];rfl⟩
     ·right;exact ⟨rfl,by omega⟩
   ·rw [if_neg h3]
    by_cases h4:240<=b0/\b0<248
    ·rw [if_pos h4]
     match t with
     | []=>right;exact ⟨rfl,by omega⟩
     | [b1]=>right;exact ⟨rfl,by omega⟩
     | [b1,b2]=>right;exact ⟨rfl,by omega⟩
     | b1::b2::b3::t =>
      simp only;split
      ·rename_i hc
       left
       have e:putL ((b0-240)*262144+(b1-128)*4096+(b2-128)*64+(b3-128))=[b0,b1,b2,b3]:=by
        rw [putL,if_neg (by omega),if_neg (by omega),if_neg (by omega)]
        congr 1
        ·omega
        ·congr 1
         ·omega
         ·congr 1
          ·omega
          ·congr 1;omega
       refine ⟨hc.2.2.2.2,⟨t,by rw [e];rfl⟩,by rw [e];rfl⟩
      ·right;exact ⟨rfl,by omega⟩
    ·rw [if_neg h4];right;exact ⟨rfl,by omega⟩

def nums (s:ByteArray):List Int:=s.data.toList.map fun b=>(b.toNat:Int)
theorem nums_len (s:ByteArray):(nums s).length=s.size:=by simp only [nums,List.length_map,Array.length_toList];rfl
theorem nums_bd (s:ByteArray):∀ x∈nums s,0<=x/\x<256:=by
 intro x hx;simp only [nums,List.mem_map] at hx;obtain ⟨b,_,rfl⟩:=hx;have:=b.toNat_lt;omega
theorem str_nums (s:ByteArray):strOfNums (nums s)=s:=by
 cases s with|mk d =>
 simp [strOfNums,nums,Function.comp_def]
theorem nums_str (l:List Int) (h:∀ x∈l,0<=x/\x<256):nums (strOfNums l)=l:=by
 simp only [nums,strOfNums,List.map_map]
 conv=>rhs;rw [<- List.map_id l]
 apply List.map_congr_left
 intro x hx;have:=h x hx;simp;omega
structure St where
 fore:Int
 back:Int
 bold:Bool
 under:Bool
 turned:Bool
deriving DecidableEq
def St.zero:St:=⟨0,0,false,false,false⟩
def St.ok (s:St):Bool:=decide (0<=s.fore/\s.fore<=8/\0<=s.back/\s.back<=8)
theorem St.ok_iff (s:St):s.ok=true ↔ 0<=s.fore/\s.fore<=8/\0<=s.back/\s.back<=8:=by simp [St.ok]
def paramV (s:St) (n:Int):St :=
 if n=0 then St.zero
 else if n=1\/n=22 then { s with bold:=decide (n=1) }
 else if n=4\/n=24 then { s with under:=decide (n=4) }
 else if n=7\/n=27 then { s with turned:=decide (n=7) }
 else if 30<=n/\n<=37 then { s with fore:=n-29 }
 else if n=39 then { s with fore:=0 }
 else if 40<=n/\n<=47 then { s with back:=n-39 }
 else if n=49 then { s with back:=0 }
 else s
def styledF (s:St) (l:List Int):St:=l.foldl paramV s
theorem paramV_ok (s:St) (n:Int) (h:s.ok=true):(paramV s n).ok=true:=by
 have hs:=(St.ok_iff s).1 h;unfold paramV
 repeat' split
 all_goals first|exact h|(rw [St.ok_iff];simp [St.zero];try omega)
theorem styledF_ok (l:List Int):∀ s:St,s.ok=true->(styledF s l).ok=true:=by
 induction l with
 | nil=>intro s h;exact h
 | cons n l ih=>intro s h;exact ih _ (paramV_ok s n h)
structure Ce where
 rune:Int
 st:St
 part:Int
deriving DecidableEq
def Ce.zero:Ce:=⟨0,St.zero,0⟩
def blankC (s:St):Ce:=⟨32,s,0⟩
def atC (l:List Ce) (i:Nat):Ce:=l.getD i Ce.zero
theorem atC_lt {l:List Ce} {i:Nat} (h:i<l.length):atC l i=l[i]:=by simp [atC,List.getD,h]
theorem atC_append_left (l m:List Ce) (i:Nat) (h:i<l.length):atC (l++m) i=atC l i:=by
 simp [atC,List.getD,List.getElem?_append_left h]
theorem atC_append_right (l m:List Ce) (i:Nat):atC (l++m) (l.length+i)=atC m i:=by
 simp [atC,List.getD,List.getElem?_append_right]
theorem atC_set (l:List Ce) (j i:Nat) (c:Ce):atC (l.set j c) i=if i=j/\j<l.length then c else atC l i:=by
 simp only [atC,List.getD,List.getElem?_set]
 by_cases h:j=i
 ·subst h
  by_cases h2:j<l.length
  ·simp [h2]
  ·simp [h2]
 ·rw [if_neg h,if_neg (fun e=>h e.1.symm)]
theorem ext_atC (l m:List Ce) (hl:l.length=m.length) (h:∀ i,i<l.length->atC l i=atC m i):l=m:=by
 apply List.ext_getElem hl
 intro i h1 h2;have:=h i h1
 rwa [atC_lt h1,atC_lt h2] at this
theorem atC_take (l:List Ce) (n i:Nat) (h:i<n):atC (l.take n) i=atC l i:=by simp [atC,List.getD,h]
theorem atC_drop (l:List Ce) (n i:Nat):atC (l.drop n) i=atC l (n+i):=by simp [atC,List.getD,List.getElem?_drop]

def aloneB (l:List Ce) (i:Nat):Bool :=
 ((atC l i).part==1 && (decide (i+1=l.length) || (atC l (i+1)).part != 2)) || ((atC l i).part==2 && (decide (i=0) || (atC l (i-1)).part != 1))
def mendC (l:List Ce) (i:Nat):Ce:=if aloneB l i=true then blankC (atC l i).st else atC l i
def mendUp (l:List Ce) (j:Nat):List Ce:=(List.range l.length).map fun i=>if i<j then mendC l i else atC l i
def mendV (l:List Ce):List Ce:=mendUp l l.length
theorem mendUp_len (l:List Ce) (j:Nat):(mendUp l j).length=l.length:=by simp [mendUp]
theorem mendUp_at (l:List Ce) (j i:Nat) (h:i<l.length):atC (mendUp l j) i=if i<j then mendC l i else atC l i:=by
 rw [atC_lt (by rw [mendUp_len];exact h)]
 simp [mendUp]
theorem mendUp_zero (l:List Ce):mendUp l 0=l:=ext_atC _ _ (mendUp_len l 0) fun i h=>by
 rw [mendUp_len] at h
 rw [mendUp_at l 0 i h];simp
theorem mendUp_step (l:List Ce) (j:Nat) (h:j<l.length):mendUp l (j+1)=(mendUp l j).set j (mendC l j):=ext_atC _ _ (by simp [mendUp_len]) fun i hi=>by
 rw [mendUp_len] at hi
 rw [mendUp_at l (j+1) i hi,atC_set,mendUp_len,mendUp_at l j i hi]
 by_cases e:i=j
 ·subst e;simp [h]
 ·rw [if_neg (show ¬ (i=j/\j<l.length) from fun x=>e x.1)]
  by_cases e2:i<j
  ·rw [if_pos e2,if_pos (by omega)]
  ·rw [if_neg e2,if_neg (by omega)]
theorem mendUp_keep (l:List Ce) (j:Nat) (h:j<l.length) (ha:aloneB l j=false):mendUp l (j+1)=mendUp l j:=ext_atC _ _ (by simp [mendUp_len]) fun i hi=>by
 rw [mendUp_len] at hi
 rw [mendUp_at l (j+1) i hi,mendUp_at l j i hi]
 by_cases e:i=j
 ·subst e;simp [mendC,ha]
 ·by_cases e2:i<j
  ·rw [if_pos e2,if_pos (by omega)]
  ·rw [if_neg e2,if_neg (by omega)]
theorem mendV_len (l:List Ce):(mendV l).length=l.length:=mendUp_len l _
theorem mendV_at (l:List Ce) (i:Nat) (h:i<l.length):atC (mendV l) i=mendC l i:=by
 rw [mendV,mendUp_at l _ i h,if_pos h]
def fillUp (l:List Ce) (a b:Nat) (s:St):List Ce:=(List.range l.length).map fun i=>if a<=i/\i<b then blankC s else atC l i
theorem fillUp_len (l:List Ce) (a b:Nat) (s:St):(fillUp l a b s).length=l.length:=by simp [fillUp]
theorem fillUp_at (l:List Ce) (a b:Nat) (s:St) (i:Nat) (h:i<l.length):atC (fillUp l a b s) i=if a<=i/\i<b then blankC s else atC l i:=by
 rw [atC_lt (by rw [fillUp_len];exact h)]
 simp [fillUp]
theorem fillUp_zero (l:List Ce) (a:Nat) (s:St):fillUp l a a s=l:=ext_atC _ _ (fillUp_len l a a s) fun i h=>by
 rw [fillUp_len] at h
 rw [fillUp_at l a a s i h,if_neg (by omega)]
theorem fillUp_step (l:List Ce) (a b:Nat) (s:St) (hab:a<=b) (h:b<l.length):fillUp l a (b+1) s=(fillUp l a b s).set b (blankC s):=ext_atC _ _ (by simp [fillUp_len]) fun i hi=>by
 rw [fillUp_len] at hi
 rw [fillUp_at l a (b+1) s i hi,atC_set,fillUp_len,fillUp_at l a b s i hi]
 by_cases e:i=b
 ·subst e;rw [if_pos (by omega),if_pos ⟨rfl,h⟩]
 ·rw [if_neg (show ¬ (i=b/\b<l.length) from fun x=>e x.1)]
  by_cases e2:a<=i/\i<b
  ·rw [if_pos e2,if_pos (by omega)]
  ·rw [if_neg e2,if_neg (by omega)]
def clearL (l:List Ce) (a b:Nat) (s:St):List Ce:=mendV (fillUp l a b s)
theorem clearL_len (l:List Ce) (a b:Nat) (s:St):(clearL l a b s).length=l.length:=by rw [clearL,mendV_len,fillUp_len]
def rowL (n:Nat) (s:St):List Ce:=List.replicate n (blankC s)
open Go.ChangeShapes Go.WideShapes Go.ChangeAt Go.RowKit
theorem ret_bool {a b:Bool} (h:a=b):Ending.returned (.bool a)=.returned (.bool b):=by rw [h]

theorem l1In_any (x lo hi:Int) (w:World) :
  Calls Tryz.prog 73 #[.int .i64 x,.int .i64 lo,.int .i64 hi] w fun e w'=>e=.returned (.bool (decide (lo<=x/\x<=hi)))/\w'=w:=by
 by_cases h1:lo<=x
 ·go_enter Tryz.func73,Tryz.ntmps73
  go_wp2;go_ret;exact ⟨ret_bool (by simp [h1]),rfl⟩
 ·go_enter Tryz.func73,Tryz.ntmps73
  go_wp2;go_ret;exact ⟨ret_bool (by simp;omega),rfl⟩

def stV (s:St):Value:=.agg #[.int .i64 s.fore,.int .i64 s.back,.bool s.bold,.bool s.under,.bool s.turned]
theorem specStyleOk_any (s:St) (w:World) :
  Calls Tryz.prog 74 #[stV s] w fun e w'=>e=.returned (.bool s.ok)/\Below w.heap.size w w':=by
 obtain ⟨f,b,bo,un,tu⟩:=s;have hok:Hid ((St.mk f b bo un tu).ok=decide (0<=f/\f<=8/\0<=b/\b<=8)):=rfl;unfold stV;simp only;go_enter Tryz.func74,Tryz.ntmps74;go_wp2_with (go_at_call 73;refine (l1In_any _ _ _ _).mono ?_;rintro e w' ⟨rfl,hw⟩;subst hw)
 all_goals
  go_ret;refine ⟨ret_bool ?_,(Below.refl _ _).alloc (Nat.le_refl _) _⟩;rw [hok.out]
  clear hok
  by_cases h1:0<=f/\f<=8
  ·by_cases h2:0<=b/\b<=8
   ·have h3:0<=f/\f<=8/\0<=b/\b<=8:=⟨h1.1,h1.2,h2⟩
    simp_all
   ·have h3:¬ (0<=f/\f<=8/\0<=b/\b<=8):=fun h=>h2 h.2.2
    simp_all
    try omega
  ·have h3:¬ (0<=f/\f<=8/\0<=b/\b<=8):=fun h=>h1 ⟨h.1,h.2.1⟩
   simp_all
theorem _root_.Go.World.ownsRow.below {w w':World} {base:Nat} {e:TypeId} {size:Nat} {v:Value} {n:Nat} {xs:List Value} (h:w.ownsRow base e size v n xs) (hb:Below w.heap.size w w'):w'.ownsRow base e size v n xs:=by
 refine ⟨h.1,?_⟩;rcases h.2 with h2|⟨g,cap,cur,hv,hbg,hg,r⟩
 ·exact .inl h2
 ·exact .inr ⟨g,cap,cur,hv,hbg,by rw [hb.block g (Array.getElem?_eq_some_iff.1 hg).1];exact hg,r⟩
def SlI (w:World) (v:Value) (xs:List Int):Prop :=
 ∃ a c,v=.slice a xs.length c/\(xs=[]\/∃ b off,a=some ⟨b,off,none⟩/\b<w.heap.size/\∀ i,i<xs.length->w.cell? ⟨b,off+i,none⟩=some (.int .i64 (xs.getD i 0)))
theorem SlI.of_own {w:World} {base:Nat} {e:TypeId} {v:Value} {xs:List Int} (h:w.ownsRow base e 1 v xs.length (xs.map (Value.int .i64))):SlI w v xs:=by
 rcases h.2 with ⟨rfl,h2⟩|⟨g,cap,cur,rfl,hb,hg,hr⟩
 ·exact ⟨none,0,by rw [h2],.inl (List.eq_nil_of_length_eq_zero h2)⟩
 ·refine ⟨_,cap,rfl,.inr ⟨g,0,rfl,(Array.getElem?_eq_some_iff.1 hg).1,fun i hi=>?_⟩⟩
  have:=h.cellAt i (by simpa using hi);rw [Nat.zero_add,this]
  simp [hi]
theorem SlI.below {w w':World} {v:Value} {xs:List Int} (h:SlI w v xs) (hb:Below w.heap.size w w'):SlI w' v xs:=by
 obtain ⟨a,c,hv,h|⟨b,off,ha,hlt,hc⟩⟩:=h
 ·exact ⟨a,c,hv,.inl h⟩
 ·exact ⟨a,c,hv,.inr ⟨b,off,ha,Nat.lt_of_lt_of_le hlt hb.size,fun i hi=>(hb.cell (p:=⟨b,off+i,none⟩) hlt).trans (hc i hi)⟩⟩
theorem gbl {w w':World} (h:Below w.heap.size w w') (row:Option Nat):w.grownBy w' row:=⟨h.os,h.tape,h.output,h.size,fun k hk _=>h.block k hk⟩
theorem sCc (w:World) (B o:Nat) (u:Value):w.grownBy (w.setCell ⟨B,o,none⟩ u) (some B) :=
 ⟨rfl,rfl,rfl,by simp,fun k _ hk=>heap_setCell_other w ⟨B,o,none⟩ k _ (fun e=>hk (by simp [e]))⟩
theorem grown_tr {a b c:World} {row:Option Nat} (h:a.grownBy b row) (k:b.grownBy c row):a.grownBy c row :=
 ⟨k.os.trans h.os,k.tape.trans h.tape,k.output.trans h.output,Nat.le_trans h.size k.size,fun i hi hr=>(k.block i (Nat.lt_of_lt_of_le hi h.size) hr).trans (h.block i hi hr)⟩
theorem own_lift {w0 w w':World} {B:Nat} (hb:Below w0.heap.size w0 w) (hg:w.grownBy w' (some B)) (h:w0.heap.size<=B):Below w0.heap.size w0 w' :=
 hb.grown hg hb.size (fun k hk=>by cases hk;exact h)
theorem bal' (w:World) (o:Obj):Below w.heap.size w (w.alloc o):=(Below.refl _ _).alloc (Nat.le_refl _) o
theorem bdr (w:World):Below w.heap.size w w.drew:=⟨rfl,rfl,rfl,Nat.le_refl _,fun _ _=>rfl⟩
def StAt (w:World) (B:Nat) (s:St):Prop :=
 B<w.heap.size/\(w.cell? ⟨B,0,none⟩=some (.int .i64 s.fore)/\w.cell? ⟨B,1,none⟩=some (.int .i64 s.back)/\w.cell? ⟨B,2,none⟩=some (.bool s.bold)/\w.cell? ⟨B,3,none⟩=some (.bool s.under)/\w.cell? ⟨B,4,none⟩=some (.bool s.turned)) /\
  (w.frozen? ⟨B,0,none⟩=false/\w.frozen? ⟨B,1,none⟩=false/\w.frozen? ⟨B,2,none⟩=false/\w.frozen? ⟨B,3,none⟩=false/\w.frozen? ⟨B,4,none⟩=false)
theorem StAt.grown {w w':World} {B:Nat} {s:St} {row:Option Nat} (h:StAt w B s) (hg:w.grownBy w' row) (hr:row≠some B):StAt w' B s:=by
 have hb:=hg.block B h.1 (Ne.symm hr);have hc:∀ k,w'.cell? ⟨B,k,none⟩=w.cell? ⟨B,k,none⟩:=fun k=>World.cell?_of_block (w:=w) hb
 have hz:∀ k,w'.frozen? ⟨B,k,none⟩=w.frozen? ⟨B,k,none⟩:=fun k=>World.frozen?_of_block (w:=w) hb
 refine ⟨Nat.lt_of_lt_of_le h.1 hg.size,?_,?_⟩
 ·rw [hc,hc,hc,hc,hc];exact h.2.1
 ·rw [hz,hz,hz,hz,hz];exact h.2.2
theorem StAt.below {w w':World} {B:Nat} {s:St} (h:StAt w B s) (hb:Below w.heap.size w w'):StAt w' B s:=h.grown (gbl hb none) (by simp)
theorem StAt.new (w:World) (s:St) (t:TypeId):StAt (w.alloc (.cells #[.int .i64 s.fore,.int .i64 s.back,.bool s.bold,.bool s.under,.bool s.turned] t)) w.heap.size s :=
 ⟨by simp,⟨by simp [go_sem],by simp [go_sem],by simp [go_sem],by simp [go_sem],by simp [go_sem]⟩,⟨by simp [go_sem],by simp [go_sem],by simp [go_sem],by simp [go_sem],by simp [go_sem]⟩⟩
def putSt (w:World) (B:Nat) (s:St):World :=
 ((((w.setCell ⟨B,0,none⟩ (.int .i64 s.fore)).setCell ⟨B,1,none⟩ (.int .i64 s.back)).setCell ⟨B,2,none⟩ (.bool s.bold)).setCell ⟨B,3,none⟩ (.bool s.under)).setCell ⟨B,4,none⟩ (.bool s.turned)

theorem putSt_grown (w:World) (B:Nat) (s:St):w.grownBy (putSt w B s) (some B) :=
 grown_tr (grown_tr (grown_tr (grown_tr (sCc w B 0 _) (sCc _ B 1 _)) (sCc _ B 2 _)) (sCc _ B 3 _)) (sCc _ B 4 _)
theorem setCell_ne' (w:World) (B a b:Nat) (u:Value) (h:a≠b):(w.setCell ⟨B,b,none⟩ u).cell? ⟨B,a,none⟩=w.cell? ⟨B,a,none⟩:=by
 simp [World.setCell,World.cell?,Array.getElem?_modify]
 cases hh:w.heap[B]? with
 | none=>simp
 | some o=>cases o<;>simp [Ne.symm h]
theorem StAt.put {w:World} {B:Nat} {s:St} (h:StAt w B s) (s':St):StAt (putSt w B s') B s':=by
 obtain ⟨hlt,⟨c0,c1,c2,c3,c4⟩,⟨z0,z1,z2,z3,z4⟩⟩:=h;refine ⟨by simpa [putSt] using hlt,⟨?_,?_,?_,?_,?_⟩,⟨?_,?_,?_,?_,?_⟩⟩
 all_goals simp only [putSt]
 ·rw [setCell_ne' _ _ _ _ _ (by decide),setCell_ne' _ _ _ _ _ (by decide),setCell_ne' _ _ _ _ _ (by decide),setCell_ne' _ _ _ _ _ (by decide)];simp [go_sem,c0]
 ·rw [setCell_ne' _ _ _ _ _ (by decide),setCell_ne' _ _ _ _ _ (by decide),setCell_ne' _ _ _ _ _ (by decide)];simp [go_sem,c1]
 ·rw [setCell_ne' _ _ _ _ _ (by decide),setCell_ne' _ _ _ _ _ (by decide)];simp [go_sem,c2]
 ·rw [setCell_ne' _ _ _ _ _ (by decide)];simp [go_sem,c3]
 ·simp [go_sem,c4]
 ·simp [go_sem,z0]
 ·simp [go_sem,z1]
 ·simp [go_sem,z2]
 ·simp [go_sem,z3]
 ·simp [go_sem,z4]
def ceL (c:Ce):List Value:=[.int .i64 c.rune,.int .i64 c.st.fore,.int .i64 c.st.back,.bool c.st.bold,.bool c.st.under,.bool c.st.turned,.int .i64 c.part]
def ceV (c:Ce):Value:=.agg #[.int .i64 c.rune,.int .i64 c.st.fore,.int .i64 c.st.back,.bool c.st.bold,.bool c.st.under,.bool c.st.turned,.int .i64 c.part]
def CeAt (w:World) (b o:Nat) (c:Ce):Prop :=
 w.cell? ⟨b,o,none⟩=some (.int .i64 c.rune)/\w.cell? ⟨b,o+1,none⟩=some (.int .i64 c.st.fore)/\w.cell? ⟨b,o+2,none⟩=some (.int .i64 c.st.back)/\w.cell? ⟨b,o+3,none⟩=some (.bool c.st.bold)/\w.cell? ⟨b,o+4,none⟩=some (.bool c.st.under)/\w.cell? ⟨b,o+5,none⟩=some (.bool c.st.turned)/\w.cell? ⟨b,o+6,none⟩=some (.int .i64 c.part)
theorem CeAt.below {w w':World} {b o:Nat} {c:Ce} (h:CeAt w b o c) (hb:Below w.heap.size w w') (hlt:b<w.heap.size):CeAt w' b o c:=by
 have e:∀ k,w'.cell? ⟨b,k,none⟩=w.cell? ⟨b,k,none⟩:=fun k=>hb.cell (p:=⟨b,k,none⟩) hlt
 unfold CeAt;rw [e,e,e,e,e,e,e]
 exact h
def SlC (w:World) (v:Value) (xs:List Ce):Prop :=
 ∃ a c,v=.slice a xs.length c/\xs.length<=c/\(a=none->c=0)/\(xs=[]\/∃ b off,a=some ⟨b,off,none⟩/\b<w.heap.size/\∀ i,i<xs.length->CeAt w b (off+i*7) (atC xs i))
theorem SlC.below {w w':World} {v:Value} {xs:List Ce} (h:SlC w v xs) (hb:Below w.heap.size w w'):SlC w' v xs:=by
 obtain ⟨a,c,hv,hc,hn,h|⟨b,off,ha,hlt,hi⟩⟩:=h
 ·exact ⟨a,c,hv,hc,hn,.inl h⟩
 ·exact ⟨a,c,hv,hc,hn,.inr ⟨b,off,ha,Nat.lt_of_lt_of_le hlt hb.size,fun i h=>(hi i h).below hb hlt⟩⟩
def OwnC (w:World) (base:Nat) (v:Value) (xs:List Ce):Prop:=w.ownsRow base 146 7 v xs.length (xs.flatMap ceL)
theorem flat_len (xs:List Ce):(xs.flatMap ceL).length=xs.length*7:=by
 induction xs with
 | nil=>rfl
 | cons c xs ih=>rw [List.flatMap_cons,List.length_append,ih,List.length_cons];simp [ceL];omega
theorem flat_get (xs:List Ce):∀ (i k:Nat),i<xs.length->k<7->(xs.flatMap ceL)[i*7+k]?=(ceL (atC xs i))[k]?:=by
 induction xs with
 | nil=>intro i k h;simp at h
 | cons c xs ih =>
  intro i k h hk;rw [List.flatMap_cons]
  cases i with
  | zero =>
   rw [List.getElem?_append_left (by simp [ceL];omega)]
   simp [atC]
  | succ i =>
   have hl:(ceL c).length=7:=rfl;rw [List.getElem?_append_right (by rw [hl];omega),hl]
   have e:(i+1)*7+k-7=i*7+k:=by omega
   rw [e,ih i k (by simpa using h) hk]
   simp [atC]
theorem OwnC.at {w:World} {base g n cap:Nat} {xs:List Ce} (h:OwnC w base (.slice (some ⟨g,0,none⟩) n cap) xs) (hn:xs.length=n) (i:Nat) (hi:i<n):CeAt w g (i*7) (atC xs i):=by
 subst hn
 have hc:∀ k,k<7->w.cell? ⟨g,i*7+k,none⟩=(ceL (atC xs i))[k]?:=fun k hk=>by
  rw [h.cellAt (i*7+k) (by omega),flat_get xs i k hi hk]
 exact ⟨hc 0 (by omega),hc 1 (by omega),hc 2 (by omega),hc 3 (by omega),hc 4 (by omega),hc 5 (by omega),hc 6 (by omega)⟩
theorem OwnC.shape {w:World} {base:Nat} {v:Value} {xs:List Ce} (h:OwnC w base v xs):(v=.slice none 0 0/\xs=[])\/∃ g cap,v=.slice (some ⟨g,0,none⟩) xs.length cap/\base<=g/\g<w.heap.size/\xs.length<=cap:=by
 rcases h.2 with ⟨h1,h2⟩|⟨g,cap,cur,hv,hb,hg,hn,_⟩
 ·exact .inl ⟨h1,List.eq_nil_of_length_eq_zero h2⟩
 ·exact .inr ⟨g,cap,hv,hb,(Array.getElem?_eq_some_iff.1 hg).1,hn⟩
theorem SlC.of_own {w:World} {base:Nat} {v:Value} {xs:List Ce} (h:OwnC w base v xs):SlC w v xs:=by
 rcases h.shape with ⟨rfl,rfl⟩|⟨g,cap,rfl,hb,hg,hn⟩
 ·exact ⟨none,0,rfl,Nat.le_refl _,fun _=>rfl,.inl rfl⟩
 ·exact ⟨_,cap,rfl,hn,(fun h=>by cases h),.inr ⟨g,0,rfl,hg,fun i hi=>by rw [Nat.zero_add];exact h.at rfl i hi⟩⟩
theorem OwnC.below {w w':World} {base:Nat} {v:Value} {xs:List Ce} (h:OwnC w base v xs) (hb:Below w.heap.size w w'):OwnC w' base v xs:=World.ownsRow.below (show w.ownsRow _ _ _ _ _ _ from h) hb
theorem OwnC.low {w:World} {base base':Nat} {v:Value} {xs:List Ce} (h:OwnC w base v xs) (hb:base'<=base):OwnC w base' v xs:=by
 refine ⟨h.1,?_⟩;rcases h.2 with h2|⟨g,cap,cur,hv,hbg,r⟩
 ·exact .inl h2
 ·exact .inr ⟨g,cap,cur,hv,Nat.le_trans hb hbg,r⟩
theorem OwnC.lt {w:World} {base:Nat} {v:Value} {xs:List Ce} (h:OwnC w base v xs):∀ g,v.ownBlock=some g->base<=g/\g<w.heap.size:=World.ownsRow.lt (show w.ownsRow _ _ _ _ _ _ from h)
def putCe (w:World) (g o:Nat) (c:Ce):World :=
 ((((((w.setCell ⟨g,o,none⟩ (.int .i64 c.rune)).setCell ⟨g,o+1,none⟩ (.int .i64 c.st.fore)).setCell ⟨g,o+2,none⟩ (.int .i64 c.st.back)).setCell ⟨g,o+3,none⟩ (.bool c.st.bold)).setCell ⟨g,o+4,none⟩ (.bool c.st.under)).setCell ⟨g,o+5,none⟩ (.bool c.st.turned)).setCell ⟨g,o+6,none⟩ (.int .i64 c.part)
theorem flat_set (xs:List Ce) (c:Ce):∀ i,i<xs.length->((((((((xs.flatMap ceL).set (i*7) (.int .i64 c.rune)).set (i*7+1) (.int .i64 c.st.fore)).set (i*7+2) (.int .i64 c.st.back)).set (i*7+3) (.bool c.st.bold)).set (i*7+4) (.bool c.st.under)).set (i*7+5) (.bool c.st.turned)).set (i*7+6) (.int .i64 c.part))=(xs.set i c).flatMap ceL:=by
 induction xs with
 | nil=>intro i h;simp at h
 | cons d xs ih =>
  intro i h
  cases i with
  | zero=>simp [ceL]
  | succ i =>
   have e:∀ k,(i+1)*7+k=(i*7+k)+7:=fun k=>by omega
   have e0:(i+1)*7=(i*7)+7:=by omega
   rw [e 1,e 2,e 3,e 4,e 5,e 6,e0]
   have hs:∀ (m:Nat) (u:Value) (l:List Value),((ceL d++l).set (m+7) u)=ceL d++l.set m u:=fun m u l=>by
    rw [List.set_append,if_neg (by simp [ceL])]
    simp [ceL]
   rw [List.flatMap_cons,hs,hs,hs,hs,hs,hs,hs,ih i (by simpa using h),List.set_cons_succ,List.flatMap_cons]
theorem OwnC.put {w:World} {base g n cap:Nat} {xs:List Ce} (h:OwnC w base (.slice (some ⟨g,0,none⟩) n cap) xs) (hn:xs.length=n) (i:Nat) (hi:i<n) (c:Ce) :
  OwnC (putCe w g (i*7) c) base (.slice (some ⟨g,0,none⟩) n cap) (xs.set i c)/\w.grownBy (putCe w g (i*7) c) (some g):=by
 subst hn;have h0:=World.ownsRow.stored h (i*7) (.int .i64 c.rune);have h1:=World.ownsRow.stored h0.1 (i*7+1) (.int .i64 c.st.fore);have h2:=World.ownsRow.stored h1.1 (i*7+2) (.int .i64 c.st.back);have h3:=World.ownsRow.stored h2.1 (i*7+3) (.bool c.st.bold);have h4:=World.ownsRow.stored h3.1 (i*7+4) (.bool c.st.under);have h5:=World.ownsRow.stored h4.1 (i*7+5) (.bool c.st.turned);have h6:=World.ownsRow.stored h5.1 (i*7+6) (.int .i64 c.part);refine ⟨?_,grown_tr (grown_tr (grown_tr (grown_tr (grown_tr (grown_tr h0.2 h1.2) h2.2) h3.2) h4.2) h5.2) h6.2⟩;have:=h6.1;rw [flat_set xs c i hi] at this
 unfold OwnC putCe;rw [List.length_set]
 exact this
theorem OwnC.frozen {w:World} {base g n cap:Nat} {xs:List Ce} (h:OwnC w base (.slice (some ⟨g,0,none⟩) n cap) xs) (hn:xs.length=n) (j:Nat):w.frozen? ⟨g,j,none⟩=false:=by
 subst hn;exact World.ownsRow.frozenAt h j
theorem info_cell:(Tryz.prog.info? 146).map (fun i=>(i.zero,i.size,i.bytes))=some (some (ceV Ce.zero),7,40):=by kernel_rfl
theorem append_oc {w:World} {ops:Array Oper} {rest:List Oper} {o:Oper} {ac:Act} {Q:Exit->Act->World->Prop} (hgd:o.guard=none) (s x:Operand)
  (ho:o.op=.call { callee:=.builtin .append,args:=#[s,x],argTypes:=#[120,120] })
  (base:Nat) (v:Value) (L:List Ce) (c:Ce) (hs:ac.eval s=v) (k:OwnC w base v L) (hb:base<=w.heap.size) (hl:L.length<2000000)
  (g:Nat) (hg0:w.heap.size=g) (hx:ac.eval x=.slice (some ⟨g,0,none⟩) 1 1)
  (h:∀ v' w',OwnC w' base v' (L++[c])->(w.alloc (.cells #[.int .i64 c.rune,.int .i64 c.st.fore,.int .i64 c.st.back,.bool c.st.bold,.bool c.st.under,.bool c.st.turned,.int .i64 c.part] 146)).grownBy w' v.ownBlock->wpList Tryz.prog ops Q rest (ac.put o.dst v') w') :
  wpList Tryz.prog ops Q (o::rest) ac (w.alloc (.cells #[.int .i64 c.rune,.int .i64 c.st.fore,.int .i64 c.st.back,.bool c.st.bold,.bool c.st.under,.bool c.st.turned,.int .i64 c.part] 146)):=by
 subst hg0;obtain ⟨i0,hi,hz0,hz1,hz2⟩:=info_parts info_cell;refine wpList_append_own _ hgd s x _ ho base 146 i0 (ceV Ce.zero) 7 40 Tryz.underlying120 hi hz0 hz1 hz2 rfl (by decide) v L.length _ hs (k.below (bal' _ _)) ⟨w.heap.size,0,none⟩ 1 1 (ceL c) hx rfl ?_ (by intro u hu;simp [ceL] at hu;rcases hu with rfl|rfl|rfl|rfl|rfl|rfl|rfl<;>rfl) (by unfold maxLen;omega) (by omega) (by simp;omega) (fun v' w' ho' hg' _=>?_)
 ·intro j u hj
  have e:(⟨w.heap.size,0,none⟩:Addr).add j=⟨w.heap.size,j,none⟩:=by unfold Addr.add;split<;>simp_all
  rw [e,cell_of_row _ w.heap.size j _ _ (0,0) (heap_alloc_new w _)]
  simpa [ceL] using hj
 ·refine h v' w' ?_ hg'
  unfold OwnC;rw [List.length_append,List.flatMap_append]
  simpa using ho'
theorem flat_cells {w:World} {b off:Nat} {xs:List Ce} (hi:∀ i,i<xs.length->CeAt w b (off+i*7) (atC xs i)):∀ j u,(xs.flatMap ceL)[j]?=some u->w.cell? ⟨b,off+j,none⟩=some u:=by
 intro j u hj;have hlt:j<xs.length*7:=by have:=(List.getElem?_eq_some_iff.1 hj).1;rwa [flat_len] at this
 have h1:j / 7<xs.length:=by omega
 have h2:j % 7<7:=Nat.mod_lt _ (by decide);have e:j=j / 7*7+j % 7:=by omega
 rw [e,flat_get xs (j / 7) (j % 7) h1 h2] at hj
 obtain ⟨c0,c1,c2,c3,c4,c5,c6⟩:=hi (j / 7) h1;generalize hk:j % 7=k at *;have eo:off+j=off+j / 7*7+k:=by omega
 rw [eo]
 match k,h2,hj with
 | 0,_,hj=>simp [ceL] at hj;subst hj;exact c0
 | 1,_,hj=>simp [ceL] at hj;subst hj;exact c1
 | 2,_,hj=>simp [ceL] at hj;subst hj;exact c2
 | 3,_,hj=>simp [ceL] at hj;subst hj;exact c3
 | 4,_,hj=>simp [ceL] at hj;subst hj;exact c4
 | 5,_,hj=>simp [ceL] at hj;subst hj;exact c5
 | 6,_,hj=>simp [ceL] at hj;subst hj;exact c6
theorem flat_one (xs:List Ce):∀ u∈xs.flatMap ceL,u.oneCell'=true:=by
 intro u hu;obtain ⟨c,_,hu⟩:=List.mem_flatMap.1 hu;simp [ceL] at hu;rcases hu with rfl|rfl|rfl|rfl|rfl|rfl|rfl<;>rfl
theorem append_os {w:World} {ops:Array Oper} {rest:List Oper} {o:Oper} {ac:Act} {Q:Exit->Act->World->Prop} (hgd:o.guard=none) (s x:Operand)
  (ho:o.op=.call { callee:=.builtin .append,args:=#[s,x],argTypes:=#[120,120] })
  (base:Nat) (v:Value) (L:List Ce) (hs:ac.eval s=v) (k:OwnC w base v L) (hb:base<=w.heap.size) (u:Value) (xs:List Ce) (hu:SlC w u xs) (hx:ac.eval x=u) (hl:L.length+xs.length<2000000)
  (h:∀ v' w',OwnC w' base v' (L++xs)->w.grownBy w' v.ownBlock->wpList Tryz.prog ops Q rest (ac.put o.dst v') w') :
  wpList Tryz.prog ops Q (o::rest) ac w:=by
 obtain ⟨i0,hi,hz0,hz1,hz2⟩:=info_parts info_cell;obtain ⟨a,c,rfl,hc,hn,hr⟩:=hu
 cases a with
 | none =>
  have hc0:c=0:=hn rfl;subst hc0
  have hx0:xs=[]:=by
   rcases hr with h|⟨b,off,h,_⟩
   ·exact h
   ·cases h
  subst hx0;refine wpList_append_own_none hgd s x _ ho base 146 i0 7 Tryz.underlying120 hi v L.length _ hs k hx ?_;refine h v w ?_ ⟨rfl,rfl,rfl,Nat.le_refl _,fun _ _ _=>rfl⟩;rw [List.append_nil];exact k
 | some ad =>
  refine wpList_append_own _ hgd s x _ ho base 146 i0 (ceV Ce.zero) 7 40 Tryz.underlying120 hi hz0 hz1 hz2 rfl (by decide) v L.length _ hs k ad xs.length c (xs.flatMap ceL) hx (flat_len xs) ?_ (flat_one xs) (by unfold maxLen;omega) (by omega) hb (fun v' w' ho' hg' _=>?_)
  ·rcases hr with rfl|⟨b,off,e,_,hi⟩
   ·intro j u hj;simp at hj
   ·cases e
    intro j u hj;rw [Addr.add_mid]
    exact flat_cells hi j u hj
  ·refine h v' w' ?_ hg'
   unfold OwnC;rw [List.length_append,List.flatMap_append]
   exact ho'
theorem ownC_nil (w:World) (base:Nat) (hb:base<=w.heap.size):OwnC (w.alloc (.cells #[] 146)) base (.slice (some ⟨w.heap.size,0,none⟩) 0 0) []:=by
 have:=World.ownsRow_lit (base:=base) (e:=146) (size:=7) w #[] 0 hb (Nat.zero_le _) rfl
 simpa [OwnC] using this
theorem l4Blank_any (s:St) (w:World) :
  Calls Tryz.prog 222 #[stV s] w fun e w'=>e=.returned (ceV (blankC s))/\Below w.heap.size w w':=by
 obtain ⟨f,b,bo,un,tu⟩:=s;unfold stV;simp only;go_enter Tryz.func222,Tryz.ntmps222;go_wp2;exact bodyPost_ret (v:=.agg #[.int .i64 32,.int .i64 f,.int .i64 b,.bool bo,.bool un,.bool tu,.int .i64 0]) (by simp [results,Tryz.results222,go_sem]) rfl ⟨rfl,((Below.refl _ _).alloc (Nat.le_refl _) _).alloc (by simp) _⟩
def OC (base:Nat) (v:Value) (L:List Ce) (w0 W:World):Prop:=OwnC W base v L/\Below w0.heap.size w0 W/\base<=W.heap.size/\w0.heap.size<=base
theorem OC.below {base:Nat} {v:Value} {L:List Ce} {w0 W W':World} (k:OC base v L w0 W) (hb:Below W.heap.size W W'):OC base v L w0 W' :=
 ⟨k.1.below hb,k.2.1.trans (hb.mono k.2.1.size),Nat.le_trans k.2.2.1 hb.size,k.2.2.2⟩
theorem OC.own {base:Nat} {v v':Value} {L L':List Ce} {w0 W W':World} (k:OC base v L w0 W) (ho:OwnC W' base v' L') (hg:W.grownBy W' v.ownBlock):OC base v' L' w0 W' :=
 ⟨ho,k.2.1.grown hg k.2.1.size (fun g e=>Nat.le_trans k.2.2.2 (k.1.lt g e).1),Nat.le_trans k.2.2.1 hg.size,k.2.2.2⟩
theorem StAt.own {W W':World} {B base:Nat} {s:St} {v:Value} {L:List Ce} (h:StAt W B s) (k:OwnC W base v L) (hB:B<base) (hg:W.grownBy W' v.ownBlock):StAt W' B s :=
 h.grown hg (fun e=>by have:=(k.lt B e).1;omega)
theorem l4Row_any (n:Nat) (s:St) (w:World) (hn:n<=1000) :
  Calls Tryz.prog 160 #[.int .i64 n,stV s] w fun e w'=>∃ v,e=.returned v/\OwnC w' w.heap.size v (rowL n s)/\Below w.heap.size w w':=by
 have h2:=StAt.new w s 28;have hbA:=bal' w (Obj.cells #[.int .i64 s.fore,.int .i64 s.back,.bool s.bold,.bool s.under,.bool s.turned] 28);have hbl:=l4Blank_any s;unfold stV ceV blankC at *;simp only at hbl;go_enter Tryz.func160,Tryz.ntmps160;go_wp2
 have k0:OC (w.heap.size+1) (.slice (some ⟨w.heap.size+1,0,none⟩) 0 0) [] w ((w.alloc (Obj.cells #[.int .i64 s.fore,.int .i64 s.back,.bool s.bold,.bool s.under,.bool s.turned] 28)).alloc (Obj.cells #[] 146)):=by
  refine ⟨?_,hbA.trans ((bal' _ _).mono hbA.size),by simp,by omega⟩;have:=ownC_nil (w.alloc (Obj.cells #[.int .i64 s.fore,.int .i64 s.back,.bool s.bold,.bool s.under,.bool s.turned] 28)) (w.heap.size+1) (by simp)
  simpa using this
 have hs0:=h2.below (bal' _ (Obj.cells #[] 146));go_loopw [5,6] (fun u i wr=>∃ j:Nat,i=.int .i64 j/\j<=n/\OC (w.heap.size+1) u (rowL j s) w wr/\StAt wr w.heap.size s) (fun _ i _=>n-(intOf i).toNat)
 case atStart=>exact ⟨0,rfl,Nat.zero_le _,k0,hs0⟩
 case round =>
  clear k0 hs0 h2 hbA;obtain ⟨j,rfl,hj,k,hs⟩:=hrel
  by_cases hlt:j<n
  ·have hji:(j:Int)<(n:Int):=by omega
   have hsn:Hid (rowL (j+1) s=rowL j s++[⟨32,s,0⟩]):=by show _=_;rw [rowL,List.replicate_succ'];rfl
   have hl:(rowL j s).length<2000000:=by simp [rowL];omega
   obtain ⟨_,⟨c0,c1,c2,c3,c4⟩,_⟩:=id hs;generalize rowL j s=L at *;go_wp2_with fail;refine (hbl _).mono ?_;rintro e w1 ⟨rfl,hb1⟩;have k1:=k.below hb1;have hs1:=hs.below hb1;clear k hs c0 c1 c2 c3 c4 hb1 hbl;go_wp2_with (at_builtin;refine append_oc rfl _ _ rfl (w.heap.size+1) _ L ⟨32,s,0⟩ rfl (by exact k1.1) k1.2.2.1 hl _ (by simp) rfl ?_;intro v' w' ho' hg');have k2:=(k1.below (bal' _ _)).own ho' hg';have hs2:=(hs1.below (bal' _ _)).own (k1.below (bal' _ _)).1 (Nat.lt_succ_self _) hg';clear k1 hs1 ho' hg';go_wp2;go_roundw
   case rel=>exact ⟨j+1,by go_num,by omega,by rw [hsn.out];exact k2,hs2⟩
   case measure=>simp [intOf];omega
  ·have hjn:j=n:=by omega
   have hji:¬ (j:Int)<(n:Int):=by omega
   subst hjn;clear hbl hs;go_wp2;go_ret;exact ⟨_,rfl,k.1.low (by omega),k.2.1⟩
theorem bigRow (n:Nat) (s:St):(rowL n s).length=n:=by simp [rowL]
end Go.Proofs.YtgcnmjjlmcnllaaGreatDoor
