/- Parts of the proof. -/
import Derived.OrdersHeld
import Derived.Deep.RegionHeld3
import Derived.WalkKit
import Derived.Laws.BytesArg
import GoSem.Core.Utf8
import Derived.Test.YtgcnmjjlmcnllaaGreatDoorRows
import Derived.ProofKit
import Derived.OpenShut
import Derived.ShutString
import Derived.LoopN
import Derived.WalkSpells
import Derived.Deep.QuietTactic
import Derived.BigQuiet
import Derived.Laws.OwnMore
import Derived.Laws.AppendOwn
import Derived.OwnWalk
import Derived.Laws.AppendOwnNone
import Derived.Deep.MidRow
import Derived.Laws.Strings
import Derived.Deep.AppendLies
import Derived.LoopTactic
import Derived.Laws.Rows
import Derived.WalkMore
import Derived.OneCell
import Derived.Deep.RegionLaw
import Derived.WalkLawsBesides
import Derived.Deep.LoopGhost
import Derived.Laws.Tables
namespace Go.Proofs.YtgcnmjjlmcnllaaGreatDoor
set_option maxRecDepth 20000
set_option maxHeartbeats 16000000
open Go.RowKit
theorem be {P:Program} {fn:Func} {R:Ending->World->Prop} {a:Act} {w:World} (hR:R (.returned (.tuple #[])) w) (h:fn.results=#[]:=by rfl) (hd:a.defers=[]:=by rfl):bodyPost P fn R .normal a w:=bodyPost_end (results_none h _ _ _) hd hR
end Go.Proofs.YtgcnmjjlmcnllaaGreatDoor
namespace Go.Proofs.YtgcnmjjlmcnllaaGreatDoor
set_option maxRecDepth 20000
set_option maxHeartbeats 16000000
def runeOk (r:Int):Bool:=decide (0<=r/\r<=1114111/\(r<55296\/57343<r))

theorem runeOk_is (r:Int) (b:Bool) (h:b=true ↔ (0<=r/\r<=1114111/\(r<55296\/57343<r))):b=runeOk r:=by
 rw [Bool.eq_iff_iff,h];simp [runeOk]
theorem runeOk_iff (r:Int):runeOk r=true ↔ (0<=r/\r<=1114111/\(r<55296\/57343<r)):=by simp [runeOk]
theorem runeOk_bd (r:Int) (h:runeOk r=true):0<=r/\r<=1114111:=by simp [runeOk] at h;omega

def putL (r:Int):List Int :=
 if r<128 then [r]
 else if r<2048 then [192+r / 64,128+r % 64]
 else if r<65536 then [224+r / 4096,128+r / 64 % 64,128+r % 64]
 else [240+r / 262144,128+r / 4096 % 64,128+r / 64 % 64,128+r % 64]
def putS (r:Int):ByteArray:=if runeOk r=true then strOfNums (putL r) else ⟨#[]⟩

theorem putL_1 (r:Int) (h:r<128):putL r=[r]:=by simp [putL,h]
theorem putL_2 (r:Int) (h0:128<=r) (h:r<2048):putL r=[192+r / 64,128+r % 64]:=by
 rw [putL,if_neg (by omega),if_pos h]
theorem putL_3 (r:Int) (h0:2048<=r) (h:r<65536):putL r=[224+r / 64 / 64,128+r / 64 % 64,128+r % 64]:=by
 rw [putL,if_neg (by omega),if_neg (by omega),if_pos h,show r / 64 / 64=r / 4096 from by omega]
theorem putL_4 (r:Int) (h0:65536<=r):putL r=[240+r / 64 / 64 / 64,128+r / 64 / 64 % 64,128+r / 64 % 64,128+r % 64]:=by
 rw [putL,if_neg (by omega),if_neg (by omega),if_neg (by omega),show r / 64 / 64 / 64=r / 262144 from by omega,show r / 64 / 64=r / 4096 from by omega]
theorem putS_ok (r:Int) (h:runeOk r=true):putS r=strOfNums (putL r):=by simp [putS,h]
theorem putS_no (r:Int) (h:runeOk r=false):putS r=⟨#[]⟩:=by simp [putS,h]

def dec (l:List Int):Int×Int :=
 match l with
 | []=>(0,0)
 | b0::t =>
  if b0<128 then (b0,1)
  else if 192<=b0/\b0<224 then
   match t with
   | b1::_=>if (128<=b1/\b1<192)/\128<=(b0-192)*64+(b1-128) then ((b0-192)*64+(b1-128),2) else (65533,1)
   | _=>(65533,1)
  else if 224<=b0/\b0<240 then
   match t with
   | b1::b2::_=>if (128<=b1/\b1<192)/\(128<=b2/\b2<192)/\2048<=(b0-224)*4096+(b1-128)*64+(b2-128)/\runeOk ((b0-224)*4096+(b1-128)*64+(b2-128))=true then ((b0-224)*4096+(b1-128)*64+(b2-128),3) else (65533,1)
   | _=>(65533,1)
  else if 240<=b0/\b0<248 then
   match t with
   | b1::b2::b3::_=>if (128<=b1/\b1<192)/\(128<=b2/\b2<192)/\(128<=b3/\b3<192)/\65536<=(b0-240)*262144+(b1-128)*4096+(b2-128)*64+(b3-128)/\runeOk ((b0-240)*262144+(b1-128)*4096+(b2-128)*64+(b3-128))=true then ((b0-240)*262144+(b1-128)*4096+(b2-128)*64+(b3-128),4) else (65533,1)
   | _=>(65533,1)
  else (65533,1)

theorem putL_len (r:Int):(putL r).length=1\/(putL r).length=2\/(putL r).length=3\/(putL r).length=4:=by
 unfold putL;split
 ·simp
 ·split
  ·simp
  ·split<;>simp

theorem dec_put (r:Int) (t:List Int) (h:runeOk r=true):dec (putL r++t)=(r,((putL r).length:Int)):=by
 have hb:=(runeOk_iff r).1 h
 by_cases h1:r<128
 ·rw [putL_1 r h1];simp [dec,h1]
 ·by_cases h2:r<2048
  ·rw [putL,if_neg h1,if_pos h2]
   simp only [dec,List.cons_append,List.nil_append];rw [if_neg (by omega),if_pos (by omega),if_pos (by omega)]
   simp;omega
  ·by_cases h3:r<65536
   ·rw [putL,if_neg h1,if_neg h2,if_pos h3]
    have e:(224+r / 4096-224)*4096+(128+r / 64 % 64-128)*64+(128+r % 64-128)=r:=by omega
    simp only [dec,List.cons_append,List.nil_append];rw [if_neg (by omega),if_neg (by omega),if_pos (by omega),e,if_pos ⟨by omega,by omega,by omega,h⟩]
    simp
   ·rw [putL,if_neg h1,if_neg h2,if_neg h3]
    have e:(240+r / 262144-240)*262144+(128+r / 4096 % 64-128)*4096+(128+r / 64 % 64-128)*64+(128+r % 64-128)=r:=by omega
    simp only [dec,List.cons_append,List.nil_append];rw [if_neg (by omega),if_neg (by omega),if_neg (by omega),if_pos (by omega),e,if_pos ⟨by omega,by omega,by omega,by omega,h⟩]
    simp

theorem put_dec (b0:Int) (t:List Int) (hb:0<=b0) :
  (runeOk (dec (b0::t)).1=true/\(∃ u,b0::t=putL (dec (b0::t)).1++u)/\(dec (b0::t)).2=((putL (dec (b0::t)).1).length:Int)) \/
  (dec (b0::t)=(65533,1)/\128<=b0):=by
 simp only [dec]
 by_cases h1:b0<128
 ·rw [if_pos h1]
  left
  refine ⟨(runeOk_iff _).2 ⟨by dsimp only;omega,by dsimp only;omega,by dsimp only;omega⟩,⟨t,by rw [putL_1 _ h1];rfl⟩,by rw [putL_1 _ h1];rfl⟩
 ·rw [if_neg h1]
  by_cases h2:192<=b0/\b0<224
  ·rw [if_pos h2]
   match t with
   | []=>right;exact ⟨rfl,by omega⟩
   | b1::t =>
    simp only;split
    ·rename_i hc
     left
     have e:putL ((b0-192)*64+(b1-128))=[b0,b1]:=by
      rw [putL_2 _ (by omega) (by omega)]
      congr 1
      ·omega
      ·congr 1;omega
     refine ⟨(runeOk_iff _).2 ⟨by dsimp only;omega,by dsimp only;omega,by dsimp only;omega⟩,⟨t,by rw [e];rfl⟩,by rw [e];rfl⟩
    ·right;exact ⟨rfl,by omega⟩
  ·rw [if_neg h2]
   by_cases h3:224<=b0/\b0<240
   ·rw [if_pos h3]
    match t with
    | []=>right;exact ⟨rfl,by omega⟩
    | [b1]=>right;exact ⟨rfl,by omega⟩
    | b1::b2::t =>
     simp only;split
     ·rename_i hc
      left
      have e:putL ((b0-224)*4096+(b1-128)*64+(b2-128))=[b0,b1,b2]:=by
       rw [putL,if_neg (by omega),if_neg (by omega),if_pos (by omega)]
       congr 1
       ·omega
       ·congr 1
        ·omega
        ·congr 1;omega
      refine ⟨hc.2.2.2,⟨t,by rw [e];rfl⟩,by rw [e];rfl⟩
     ·right;exact ⟨rfl,by omega⟩
   ·rw [if_neg h3]
    by_cases h4:240<=b0/\b0<248
    ·rw [if_pos h4]
     match t with
     | []=>right;exact ⟨rfl,by omega⟩
     | [b1]=>right;exact ⟨rfl,by omega⟩
     | [b1,b2]=>right;exact ⟨rfl,by omega⟩
     | b1::b2::b3::t =>
      simp only;split
      ·rename_i hc
       left
       have e:putL ((b0-240)*262144+(b1-128)*4096+(b2-128)*64+(b3-128))=[b0,b1,b2,b3]:=by
        rw [putL,if_neg (by omega),if_neg (by omega),if_neg (by omega)]
        congr 1
        ·omega
        ·congr 1
         ·omega
         ·congr 1
          ·omega
          ·congr 1;omega
       refine ⟨hc.2.2.2.2,⟨t,by rw [e];rfl⟩,by rw [e];rfl⟩
      ·right;exact ⟨rfl,by omega⟩
    ·rw [if_neg h4];right;exact ⟨rfl,by omega⟩

def nums (s:ByteArray):List Int:=s.data.toList.map fun b=>(b.toNat:Int)
theorem nums_len (s:ByteArray):(nums s).length=s.size:=by simp only [nums,List.length_map,Array.length_toList];rfl
theorem nums_bd (s:ByteArray):∀ x∈nums s,0<=x/\x<256:=by
 intro x hx;simp only [nums,List.mem_map] at hx;obtain ⟨b,_,rfl⟩:=hx;have:=b.toNat_lt;omega
theorem str_nums (s:ByteArray):strOfNums (nums s)=s:=by
 cases s with|mk d =>
 simp [strOfNums,nums,Function.comp_def]
theorem nums_str (l:List Int) (h:∀ x∈l,0<=x/\x<256):nums (strOfNums l)=l:=by
 simp only [nums,strOfNums,List.map_map]
 conv=>rhs;rw [<- List.map_id l]
 apply List.map_congr_left
 intro x hx;have:=h x hx;simp;omega
theorem nums_at (s:ByteArray) (i:Nat) (h:i<s.size):(nums s)[i]?=some ((s.get! i).toNat:Int):=by
 have h':i<s.data.size:=h;simp only [nums,List.getElem?_map,ByteArray.get!,Array.getElem?_toList,Array.getElem?_eq_getElem h',Option.map_some,getElem!_pos s.data i h']

theorem valid_ok (n:Nat):Utf8.valid (n:Int)=runeOk (n:Int):=by
 rw [Bool.eq_iff_iff,runeOk_iff];simp [Utf8.valid];omega
def decN (n0 n1 n2 n3:Nat) (p1 p2 p3:Bool):Nat×Nat :=
 if n0<128 then (n0,1)
 else if n0 / 32==6 && (p1 && n1 / 64==2) then
  if n0 % 32*64+n1 % 64 ≥ 128 then (n0 % 32*64+n1 % 64,2) else (65533,1)
 else if n0 / 16==14 && (p1 && n1 / 64==2) && (p2 && n2 / 64==2) then
  if n0 % 16*4096+n1 % 64*64+n2 % 64 ≥ 2048 && Utf8.valid (n0 % 16*4096+n1 % 64*64+n2 % 64:Nat) then (n0 % 16*4096+n1 % 64*64+n2 % 64,3) else (65533,1)
 else if n0 / 8==30 && (p1 && n1 / 64==2) && (p2 && n2 / 64==2) && (p3 && n3 / 64==2) then
  if n0 % 8*262144+n1 % 64*4096+n2 % 64*64+n3 % 64 ≥ 65536 && Utf8.valid (n0 % 8*262144+n1 % 64*4096+n2 % 64*64+n3 % 64:Nat) then (n0 % 8*262144+n1 % 64*4096+n2 % 64*64+n3 % 64,4) else (65533,1)
 else (65533,1)
theorem decode_N (s:ByteArray) (i:Nat):Utf8.decode s i=decN (s.get! (i+0)).toNat (s.get! (i+1)).toNat (s.get! (i+2)).toNat (s.get! (i+3)).toNat (decide (i+1<s.size)) (decide (i+2<s.size)) (decide (i+3<s.size)):=rfl

def both (p:Nat×Nat):Int×Int:=((p.1:Int),(p.2:Int))
theorem decN_1 (n0 n1 n2 n3:Nat):both (decN n0 n1 n2 n3 false false false)=dec [(n0:Int)]:=by
 simp only [decN,dec,Bool.false_and,Bool.and_false,Bool.false_eq_true,if_false,Bool.and_eq_true,decide_eq_true_eq,valid_ok,runeOk_iff]
 repeat' split
 all_goals first|rfl|(simp only [both,Prod.mk.injEq];omega)
theorem decN_2 (n0 n1 n2 n3:Nat):both (decN n0 n1 n2 n3 true false false)=dec [(n0:Int),(n1:Int)]:=by
 simp only [decN,dec,Bool.false_and,Bool.and_false,Bool.false_eq_true,if_false,Bool.true_and,Bool.and_eq_true,decide_eq_true_eq,beq_iff_eq,valid_ok,runeOk_iff]
 repeat' split
 all_goals first|rfl|(simp only [both,Prod.mk.injEq];omega)
theorem decN_3 (n0 n1 n2 n3:Nat):both (decN n0 n1 n2 n3 true true false)=dec [(n0:Int),(n1:Int),(n2:Int)]:=by
 simp only [decN,dec,Bool.false_and,Bool.and_false,Bool.false_eq_true,if_false,Bool.true_and,Bool.and_eq_true,decide_eq_true_eq,beq_iff_eq,valid_ok,runeOk_iff]
 repeat' split
 all_goals first|rfl|(simp only [both,Prod.mk.injEq];omega)
theorem decN_4 (n0 n1 n2 n3:Nat) (t:List Int):both (decN n0 n1 n2 n3 true true true)=dec ((n0:Int)::(n1:Int)::(n2:Int)::(n3:Int)::t):=by
 simp only [decN,dec,Bool.true_and,Bool.and_eq_true,decide_eq_true_eq,beq_iff_eq,valid_ok,runeOk_iff]
 repeat' split
 all_goals first|rfl|(simp only [both,Prod.mk.injEq];omega)

theorem drop_at (s:ByteArray) (i k:Nat) (h:i+k<s.size):((nums s).drop i)[k]?=some ((s.get! (i+k)).toNat:Int):=by
 rw [List.getElem?_drop];exact nums_at s (i+k) h

theorem decode_dec (s:ByteArray) (i:Nat) (h:i<s.size):both (Utf8.decode s i)=dec ((nums s).drop i):=by
 have hl:((nums s).drop i).length=s.size-i:=by simp [nums_len]
 have h0:=drop_at s i 0 (by omega);have h1:=drop_at s i 1;have h2:=drop_at s i 2;have h3:=drop_at s i 3;rw [decode_N]
 match hd:(nums s).drop i with
 | []=>rw [hd] at hl;simp at hl;omega
 | [b0] =>
  rw [hd] at hl h0
  simp at h0 hl;rw [decide_eq_false (by omega),decide_eq_false (by omega),decide_eq_false (by omega),decN_1,h0];rfl
 | [b0,b1] =>
  rw [hd] at hl h0 h1
  simp at h0 hl;have h1:=h1 (by omega);simp at h1;rw [decide_eq_true (by omega),decide_eq_false (by omega),decide_eq_false (by omega),decN_2,h0,h1];rfl
 | [b0,b1,b2] =>
  rw [hd] at hl h0 h1 h2
  simp at h0 hl;have h1:=h1 (by omega);have h2:=h2 (by omega);simp at h1 h2;rw [decide_eq_true (by omega),decide_eq_true (by omega),decide_eq_false (by omega),decN_3,h0,h1,h2];rfl
 | b0::b1::b2::b3::t =>
  rw [hd] at hl h0 h1 h2 h3
  simp at h0 hl;have h1:=h1 (by omega);have h2:=h2 (by omega);have h3:=h3 (by omega);simp at h1 h2 h3;rw [decide_eq_true (by omega),decide_eq_true (by omega),decide_eq_true (by omega),decN_4 _ _ _ _ t,h0,h1,h2,h3];rfl
structure St where
 fore:Int
 back:Int
 bold:Bool
 under:Bool
 turned:Bool
deriving DecidableEq
def St.zero:St:=⟨0,0,false,false,false⟩
def St.ok (s:St):Bool:=decide (0<=s.fore/\s.fore<=8/\0<=s.back/\s.back<=8)
theorem St.ok_iff (s:St):s.ok=true ↔ 0<=s.fore/\s.fore<=8/\0<=s.back/\s.back<=8:=by simp [St.ok]
def paramV (s:St) (n:Int):St :=
 if n=0 then St.zero
 else if n=1\/n=22 then { s with bold:=decide (n=1) }
 else if n=4\/n=24 then { s with under:=decide (n=4) }
 else if n=7\/n=27 then { s with turned:=decide (n=7) }
 else if 30<=n/\n<=37 then { s with fore:=n-29 }
 else if n=39 then { s with fore:=0 }
 else if 40<=n/\n<=47 then { s with back:=n-39 }
 else if n=49 then { s with back:=0 }
 else s
def styledF (s:St) (l:List Int):St:=l.foldl paramV s
def styledV (s:St) (l:List Int):St:=if s.ok=true/\l.length<=16 then (if l=[] then St.zero else styledF s l) else St.zero
theorem paramV_ok (s:St) (n:Int) (h:s.ok=true):(paramV s n).ok=true:=by
 have hs:=(St.ok_iff s).1 h;unfold paramV
 repeat' split
 all_goals first|exact h|(rw [St.ok_iff];simp [St.zero];try omega)
theorem styledF_ok (l:List Int):∀ s:St,s.ok=true->(styledF s l).ok=true:=by
 induction l with
 | nil=>intro s h;exact h
 | cons n l ih=>intro s h;exact ih _ (paramV_ok s n h)
structure Ce where
 rune:Int
 st:St
 part:Int
deriving DecidableEq
def Ce.zero:Ce:=⟨0,St.zero,0⟩
def blankC (s:St):Ce:=⟨32,s,0⟩
def atC (l:List Ce) (i:Nat):Ce:=l.getD i Ce.zero
theorem atC_lt {l:List Ce} {i:Nat} (h:i<l.length):atC l i=l[i]:=by simp [atC,List.getD,h]
theorem atC_append_left (l m:List Ce) (i:Nat) (h:i<l.length):atC (l++m) i=atC l i:=by
 simp [atC,List.getD,List.getElem?_append_left h]
theorem atC_append_right (l m:List Ce) (i:Nat):atC (l++m) (l.length+i)=atC m i:=by
 simp [atC,List.getD,List.getElem?_append_right]
theorem atC_set (l:List Ce) (j i:Nat) (c:Ce):atC (l.set j c) i=if i=j/\j<l.length then c else atC l i:=by
 simp only [atC,List.getD,List.getElem?_set]
 by_cases h:j=i
 ·subst h
  by_cases h2:j<l.length
  ·simp [h2]
  ·simp [h2]
 ·rw [if_neg h,if_neg (fun e=>h e.1.symm)]
theorem ext_atC (l m:List Ce) (hl:l.length=m.length) (h:∀ i,i<l.length->atC l i=atC m i):l=m:=by
 apply List.ext_getElem hl
 intro i h1 h2;have:=h i h1
 rwa [atC_lt h1,atC_lt h2] at this
theorem atC_take (l:List Ce) (n i:Nat) (h:i<n):atC (l.take n) i=atC l i:=by simp [atC,List.getD,h]
theorem atC_drop (l:List Ce) (n i:Nat):atC (l.drop n) i=atC l (n+i):=by simp [atC,List.getD,List.getElem?_drop]

def aloneB (l:List Ce) (i:Nat):Bool :=
 ((atC l i).part==1 && (decide (i+1=l.length) || (atC l (i+1)).part != 2)) || ((atC l i).part==2 && (decide (i=0) || (atC l (i-1)).part != 1))
def mendC (l:List Ce) (i:Nat):Ce:=if aloneB l i=true then blankC (atC l i).st else atC l i
def mendUp (l:List Ce) (j:Nat):List Ce:=(List.range l.length).map fun i=>if i<j then mendC l i else atC l i
def mendV (l:List Ce):List Ce:=mendUp l l.length
theorem mendUp_len (l:List Ce) (j:Nat):(mendUp l j).length=l.length:=by simp [mendUp]
theorem mendUp_at (l:List Ce) (j i:Nat) (h:i<l.length):atC (mendUp l j) i=if i<j then mendC l i else atC l i:=by
 rw [atC_lt (by rw [mendUp_len];exact h)]
 simp [mendUp]
theorem mendUp_zero (l:List Ce):mendUp l 0=l:=ext_atC _ _ (mendUp_len l 0) fun i h=>by
 rw [mendUp_len] at h
 rw [mendUp_at l 0 i h];simp
theorem mendUp_step (l:List Ce) (j:Nat) (h:j<l.length):mendUp l (j+1)=(mendUp l j).set j (mendC l j):=ext_atC _ _ (by simp [mendUp_len]) fun i hi=>by
 rw [mendUp_len] at hi
 rw [mendUp_at l (j+1) i hi,atC_set,mendUp_len,mendUp_at l j i hi]
 by_cases e:i=j
 ·subst e;simp [h]
 ·rw [if_neg (show ¬ (i=j/\j<l.length) from fun x=>e x.1)]
  by_cases e2:i<j
  ·rw [if_pos e2,if_pos (by omega)]
  ·rw [if_neg e2,if_neg (by omega)]
theorem mendUp_keep (l:List Ce) (j:Nat) (h:j<l.length) (ha:aloneB l j=false):mendUp l (j+1)=mendUp l j:=ext_atC _ _ (by simp [mendUp_len]) fun i hi=>by
 rw [mendUp_len] at hi
 rw [mendUp_at l (j+1) i hi,mendUp_at l j i hi]
 by_cases e:i=j
 ·subst e;simp [mendC,ha]
 ·by_cases e2:i<j
  ·rw [if_pos e2,if_pos (by omega)]
  ·rw [if_neg e2,if_neg (by omega)]
theorem mendV_len (l:List Ce):(mendV l).length=l.length:=mendUp_len l _
theorem mendV_at (l:List Ce) (i:Nat) (h:i<l.length):atC (mendV l) i=mendC l i:=by
 rw [mendV,mendUp_at l _ i h,if_pos h]
def fillUp (l:List Ce) (a b:Nat) (s:St):List Ce:=(List.range l.length).map fun i=>if a<=i/\i<b then blankC s else atC l i
theorem fillUp_len (l:List Ce) (a b:Nat) (s:St):(fillUp l a b s).length=l.length:=by simp [fillUp]
theorem fillUp_at (l:List Ce) (a b:Nat) (s:St) (i:Nat) (h:i<l.length):atC (fillUp l a b s) i=if a<=i/\i<b then blankC s else atC l i:=by
 rw [atC_lt (by rw [fillUp_len];exact h)]
 simp [fillUp]
theorem fillUp_zero (l:List Ce) (a:Nat) (s:St):fillUp l a a s=l:=ext_atC _ _ (fillUp_len l a a s) fun i h=>by
 rw [fillUp_len] at h
 rw [fillUp_at l a a s i h,if_neg (by omega)]
theorem fillUp_step (l:List Ce) (a b:Nat) (s:St) (hab:a<=b) (h:b<l.length):fillUp l a (b+1) s=(fillUp l a b s).set b (blankC s):=ext_atC _ _ (by simp [fillUp_len]) fun i hi=>by
 rw [fillUp_len] at hi
 rw [fillUp_at l a (b+1) s i hi,atC_set,fillUp_len,fillUp_at l a b s i hi]
 by_cases e:i=b
 ·subst e;rw [if_pos (by omega),if_pos ⟨rfl,h⟩]
 ·rw [if_neg (show ¬ (i=b/\b<l.length) from fun x=>e x.1)]
  by_cases e2:a<=i/\i<b
  ·rw [if_pos e2,if_pos (by omega)]
  ·rw [if_neg e2,if_neg (by omega)]
def clearL (l:List Ce) (a b:Nat) (s:St):List Ce:=mendV (fillUp l a b s)
theorem clearL_len (l:List Ce) (a b:Nat) (s:St):(clearL l a b s).length=l.length:=by rw [clearL,mendV_len,fillUp_len]
def rowL (n:Nat) (s:St):List Ce:=List.replicate n (blankC s)
open Go.ChangeShapes Go.WideShapes Go.ChangeAt Go.RowKit
theorem ret_bool {a b:Bool} (h:a=b):Ending.returned (.bool a)=.returned (.bool b):=by rw [h]

theorem l1In_any (x lo hi:Int) (w:World) :
  Calls Tryz.prog 73 #[.int .i64 x,.int .i64 lo,.int .i64 hi] w fun e w'=>e=.returned (.bool (decide (lo<=x/\x<=hi)))/\w'=w:=by
 by_cases h1:lo<=x
 ·go_enter Tryz.func73,Tryz.ntmps73
  go_wp2;go_ret;exact ⟨ret_bool (by simp [h1]),rfl⟩
 ·go_enter Tryz.func73,Tryz.ntmps73
  go_wp2;go_ret;exact ⟨ret_bool (by simp;omega),rfl⟩

def stV (s:St):Value:=.agg #[.int .i64 s.fore,.int .i64 s.back,.bool s.bold,.bool s.under,.bool s.turned]
theorem specStyleOk_any (s:St) (w:World) :
  Calls Tryz.prog 74 #[stV s] w fun e w'=>e=.returned (.bool s.ok)/\Below w.heap.size w w':=by
 obtain ⟨f,b,bo,un,tu⟩:=s;have hok:Hid ((St.mk f b bo un tu).ok=decide (0<=f/\f<=8/\0<=b/\b<=8)):=rfl;unfold stV;simp only;go_enter Tryz.func74,Tryz.ntmps74;go_wp2_with (go_at_call 73;refine (l1In_any _ _ _ _).mono ?_;rintro e w' ⟨rfl,hw⟩;subst hw)
 all_goals
  go_ret;refine ⟨ret_bool ?_,(Below.refl _ _).alloc (Nat.le_refl _) _⟩;rw [hok.out]
  clear hok
  by_cases h1:0<=f/\f<=8
  ·by_cases h2:0<=b/\b<=8
   ·have h3:0<=f/\f<=8/\0<=b/\b<=8:=⟨h1.1,h1.2,h2⟩
    simp_all
   ·have h3:¬ (0<=f/\f<=8/\0<=b/\b<=8):=fun h=>h2 h.2.2
    simp_all
    try omega
  ·have h3:¬ (0<=f/\f<=8/\0<=b/\b<=8):=fun h=>h1 ⟨h.1,h.2.1⟩
   simp_all
theorem _root_.Go.World.ownsRow.below {w w':World} {base:Nat} {e:TypeId} {size:Nat} {v:Value} {n:Nat} {xs:List Value} (h:w.ownsRow base e size v n xs) (hb:Below w.heap.size w w'):w'.ownsRow base e size v n xs:=by
 refine ⟨h.1,?_⟩;rcases h.2 with h2|⟨g,cap,cur,hv,hbg,hg,r⟩
 ·exact .inl h2
 ·exact .inr ⟨g,cap,cur,hv,hbg,by rw [hb.block g (Array.getElem?_eq_some_iff.1 hg).1];exact hg,r⟩
def SlI (w:World) (v:Value) (xs:List Int):Prop :=
 ∃ a c,v=.slice a xs.length c/\(xs=[]\/∃ b off,a=some ⟨b,off,none⟩/\b<w.heap.size/\∀ i,i<xs.length->w.cell? ⟨b,off+i,none⟩=some (.int .i64 (xs.getD i 0)))
theorem SlI.of_own {w:World} {base:Nat} {e:TypeId} {v:Value} {xs:List Int} (h:w.ownsRow base e 1 v xs.length (xs.map (Value.int .i64))):SlI w v xs:=by
 rcases h.2 with ⟨rfl,h2⟩|⟨g,cap,cur,rfl,hb,hg,hr⟩
 ·exact ⟨none,0,by rw [h2],.inl (List.eq_nil_of_length_eq_zero h2)⟩
 ·refine ⟨_,cap,rfl,.inr ⟨g,0,rfl,(Array.getElem?_eq_some_iff.1 hg).1,fun i hi=>?_⟩⟩
  have:=h.cellAt i (by simpa using hi);rw [Nat.zero_add,this]
  simp [hi]
theorem SlI.below {w w':World} {v:Value} {xs:List Int} (h:SlI w v xs) (hb:Below w.heap.size w w'):SlI w' v xs:=by
 obtain ⟨a,c,hv,h|⟨b,off,ha,hlt,hc⟩⟩:=h
 ·exact ⟨a,c,hv,.inl h⟩
 ·exact ⟨a,c,hv,.inr ⟨b,off,ha,Nat.lt_of_lt_of_le hlt hb.size,fun i hi=>(hb.cell (p:=⟨b,off+i,none⟩) hlt).trans (hc i hi)⟩⟩
theorem gbl {w w':World} (h:Below w.heap.size w w') (row:Option Nat):w.grownBy w' row:=⟨h.os,h.tape,h.output,h.size,fun k hk _=>h.block k hk⟩
theorem setCell_gr (w:World) (B o:Nat) (u:Value):w.grownBy (w.setCell ⟨B,o,none⟩ u) (some B) :=
 ⟨rfl,rfl,rfl,by simp,fun k _ hk=>heap_setCell_other w ⟨B,o,none⟩ k _ (fun e=>hk (by simp [e]))⟩
theorem grown_tr {a b c:World} {row:Option Nat} (h:a.grownBy b row) (k:b.grownBy c row):a.grownBy c row :=
 ⟨k.os.trans h.os,k.tape.trans h.tape,k.output.trans h.output,Nat.le_trans h.size k.size,fun i hi hr=>(k.block i (Nat.lt_of_lt_of_le hi h.size) hr).trans (h.block i hi hr)⟩
theorem own_lift {w0 w w':World} {B:Nat} (hb:Below w0.heap.size w0 w) (hg:w.grownBy w' (some B)) (h:w0.heap.size<=B):Below w0.heap.size w0 w' :=
 hb.grown hg hb.size (fun k hk=>by cases hk;exact h)
theorem bal' (w:World) (o:Obj):Below w.heap.size w (w.alloc o):=(Below.refl _ _).alloc (Nat.le_refl _) o
theorem bdr (w:World):Below w.heap.size w w.drew:=⟨rfl,rfl,rfl,Nat.le_refl _,fun _ _=>rfl⟩
def StAt (w:World) (B:Nat) (s:St):Prop :=
 B<w.heap.size/\(w.cell? ⟨B,0,none⟩=some (.int .i64 s.fore)/\w.cell? ⟨B,1,none⟩=some (.int .i64 s.back)/\w.cell? ⟨B,2,none⟩=some (.bool s.bold)/\w.cell? ⟨B,3,none⟩=some (.bool s.under)/\w.cell? ⟨B,4,none⟩=some (.bool s.turned)) /\
  (w.frozen? ⟨B,0,none⟩=false/\w.frozen? ⟨B,1,none⟩=false/\w.frozen? ⟨B,2,none⟩=false/\w.frozen? ⟨B,3,none⟩=false/\w.frozen? ⟨B,4,none⟩=false)
theorem StAt.grown {w w':World} {B:Nat} {s:St} {row:Option Nat} (h:StAt w B s) (hg:w.grownBy w' row) (hr:row≠some B):StAt w' B s:=by
 have hb:=hg.block B h.1 (Ne.symm hr);have hc:∀ k,w'.cell? ⟨B,k,none⟩=w.cell? ⟨B,k,none⟩:=fun k=>World.cell?_of_block (w:=w) hb
 have hz:∀ k,w'.frozen? ⟨B,k,none⟩=w.frozen? ⟨B,k,none⟩:=fun k=>World.frozen?_of_block (w:=w) hb
 refine ⟨Nat.lt_of_lt_of_le h.1 hg.size,?_,?_⟩
 ·rw [hc,hc,hc,hc,hc];exact h.2.1
 ·rw [hz,hz,hz,hz,hz];exact h.2.2
theorem StAt.below {w w':World} {B:Nat} {s:St} (h:StAt w B s) (hb:Below w.heap.size w w'):StAt w' B s:=h.grown (gbl hb none) (by simp)
theorem StAt.new (w:World) (s:St) (t:TypeId):StAt (w.alloc (.cells #[.int .i64 s.fore,.int .i64 s.back,.bool s.bold,.bool s.under,.bool s.turned] t)) w.heap.size s :=
 ⟨by simp,⟨by simp [go_sem],by simp [go_sem],by simp [go_sem],by simp [go_sem],by simp [go_sem]⟩,⟨by simp [go_sem],by simp [go_sem],by simp [go_sem],by simp [go_sem],by simp [go_sem]⟩⟩
def putSt (w:World) (B:Nat) (s:St):World :=
 ((((w.setCell ⟨B,0,none⟩ (.int .i64 s.fore)).setCell ⟨B,1,none⟩ (.int .i64 s.back)).setCell ⟨B,2,none⟩ (.bool s.bold)).setCell ⟨B,3,none⟩ (.bool s.under)).setCell ⟨B,4,none⟩ (.bool s.turned)

theorem putSt_grown (w:World) (B:Nat) (s:St):w.grownBy (putSt w B s) (some B) :=
 grown_tr (grown_tr (grown_tr (grown_tr (setCell_gr w B 0 _) (setCell_gr _ B 1 _)) (setCell_gr _ B 2 _)) (setCell_gr _ B 3 _)) (setCell_gr _ B 4 _)
theorem setCell_ne' (w:World) (B a b:Nat) (u:Value) (h:a≠b):(w.setCell ⟨B,b,none⟩ u).cell? ⟨B,a,none⟩=w.cell? ⟨B,a,none⟩:=by
 simp [World.setCell,World.cell?,Array.getElem?_modify]
 cases hh:w.heap[B]? with
 | none=>simp
 | some o=>cases o<;>simp [Ne.symm h]
theorem StAt.put {w:World} {B:Nat} {s:St} (h:StAt w B s) (s':St):StAt (putSt w B s') B s':=by
 obtain ⟨hlt,⟨c0,c1,c2,c3,c4⟩,⟨z0,z1,z2,z3,z4⟩⟩:=h;refine ⟨by simpa [putSt] using hlt,⟨?_,?_,?_,?_,?_⟩,⟨?_,?_,?_,?_,?_⟩⟩
 all_goals simp only [putSt]
 ·rw [setCell_ne' _ _ _ _ _ (by decide),setCell_ne' _ _ _ _ _ (by decide),setCell_ne' _ _ _ _ _ (by decide),setCell_ne' _ _ _ _ _ (by decide)];simp [go_sem,c0]
 ·rw [setCell_ne' _ _ _ _ _ (by decide),setCell_ne' _ _ _ _ _ (by decide),setCell_ne' _ _ _ _ _ (by decide)];simp [go_sem,c1]
 ·rw [setCell_ne' _ _ _ _ _ (by decide),setCell_ne' _ _ _ _ _ (by decide)];simp [go_sem,c2]
 ·rw [setCell_ne' _ _ _ _ _ (by decide)];simp [go_sem,c3]
 ·simp [go_sem,c4]
 ·simp [go_sem,z0]
 ·simp [go_sem,z1]
 ·simp [go_sem,z2]
 ·simp [go_sem,z3]
 ·simp [go_sem,z4]
def ceL (c:Ce):List Value:=[.int .i64 c.rune,.int .i64 c.st.fore,.int .i64 c.st.back,.bool c.st.bold,.bool c.st.under,.bool c.st.turned,.int .i64 c.part]
def ceV (c:Ce):Value:=.agg #[.int .i64 c.rune,.int .i64 c.st.fore,.int .i64 c.st.back,.bool c.st.bold,.bool c.st.under,.bool c.st.turned,.int .i64 c.part]
def CeAt (w:World) (b o:Nat) (c:Ce):Prop :=
 w.cell? ⟨b,o,none⟩=some (.int .i64 c.rune)/\w.cell? ⟨b,o+1,none⟩=some (.int .i64 c.st.fore)/\w.cell? ⟨b,o+2,none⟩=some (.int .i64 c.st.back)/\w.cell? ⟨b,o+3,none⟩=some (.bool c.st.bold)/\w.cell? ⟨b,o+4,none⟩=some (.bool c.st.under)/\w.cell? ⟨b,o+5,none⟩=some (.bool c.st.turned)/\w.cell? ⟨b,o+6,none⟩=some (.int .i64 c.part)
theorem CeAt.below {w w':World} {b o:Nat} {c:Ce} (h:CeAt w b o c) (hb:Below w.heap.size w w') (hlt:b<w.heap.size):CeAt w' b o c:=by
 have e:∀ k,w'.cell? ⟨b,k,none⟩=w.cell? ⟨b,k,none⟩:=fun k=>hb.cell (p:=⟨b,k,none⟩) hlt
 unfold CeAt;rw [e,e,e,e,e,e,e]
 exact h
def SlC (w:World) (v:Value) (xs:List Ce):Prop :=
 ∃ a c,v=.slice a xs.length c/\xs.length<=c/\(a=none->c=0)/\(xs=[]\/∃ b off,a=some ⟨b,off,none⟩/\b<w.heap.size/\∀ i,i<xs.length->CeAt w b (off+i*7) (atC xs i))
theorem SlC.below {w w':World} {v:Value} {xs:List Ce} (h:SlC w v xs) (hb:Below w.heap.size w w'):SlC w' v xs:=by
 obtain ⟨a,c,hv,hc,hn,h|⟨b,off,ha,hlt,hi⟩⟩:=h
 ·exact ⟨a,c,hv,hc,hn,.inl h⟩
 ·exact ⟨a,c,hv,hc,hn,.inr ⟨b,off,ha,Nat.lt_of_lt_of_le hlt hb.size,fun i h=>(hi i h).below hb hlt⟩⟩
def OwnC (w:World) (base:Nat) (v:Value) (xs:List Ce):Prop:=w.ownsRow base 146 7 v xs.length (xs.flatMap ceL)
theorem flat_len (xs:List Ce):(xs.flatMap ceL).length=xs.length*7:=by
 induction xs with
 | nil=>rfl
 | cons c xs ih=>rw [List.flatMap_cons,List.length_append,ih,List.length_cons];simp [ceL];omega
theorem flat_get (xs:List Ce):∀ (i k:Nat),i<xs.length->k<7->(xs.flatMap ceL)[i*7+k]?=(ceL (atC xs i))[k]?:=by
 induction xs with
 | nil=>intro i k h;simp at h
 | cons c xs ih =>
  intro i k h hk;rw [List.flatMap_cons]
  cases i with
  | zero =>
   rw [List.getElem?_append_left (by simp [ceL];omega)]
   simp [atC]
  | succ i =>
   have hl:(ceL c).length=7:=rfl;rw [List.getElem?_append_right (by rw [hl];omega),hl]
   have e:(i+1)*7+k-7=i*7+k:=by omega
   rw [e,ih i k (by simpa using h) hk]
   simp [atC]
theorem OwnC.at {w:World} {base g n cap:Nat} {xs:List Ce} (h:OwnC w base (.slice (some ⟨g,0,none⟩) n cap) xs) (hn:xs.length=n) (i:Nat) (hi:i<n):CeAt w g (i*7) (atC xs i):=by
 subst hn
 have hc:∀ k,k<7->w.cell? ⟨g,i*7+k,none⟩=(ceL (atC xs i))[k]?:=fun k hk=>by
  rw [h.cellAt (i*7+k) (by omega),flat_get xs i k hi hk]
 exact ⟨hc 0 (by omega),hc 1 (by omega),hc 2 (by omega),hc 3 (by omega),hc 4 (by omega),hc 5 (by omega),hc 6 (by omega)⟩
theorem OwnC.shape {w:World} {base:Nat} {v:Value} {xs:List Ce} (h:OwnC w base v xs):(v=.slice none 0 0/\xs=[])\/∃ g cap,v=.slice (some ⟨g,0,none⟩) xs.length cap/\base<=g/\g<w.heap.size/\xs.length<=cap:=by
 rcases h.2 with ⟨h1,h2⟩|⟨g,cap,cur,hv,hb,hg,hn,_⟩
 ·exact .inl ⟨h1,List.eq_nil_of_length_eq_zero h2⟩
 ·exact .inr ⟨g,cap,hv,hb,(Array.getElem?_eq_some_iff.1 hg).1,hn⟩
theorem SlC.of_own {w:World} {base:Nat} {v:Value} {xs:List Ce} (h:OwnC w base v xs):SlC w v xs:=by
 rcases h.shape with ⟨rfl,rfl⟩|⟨g,cap,rfl,hb,hg,hn⟩
 ·exact ⟨none,0,rfl,Nat.le_refl _,fun _=>rfl,.inl rfl⟩
 ·exact ⟨_,cap,rfl,hn,(fun h=>by cases h),.inr ⟨g,0,rfl,hg,fun i hi=>by rw [Nat.zero_add];exact h.at rfl i hi⟩⟩
theorem OwnC.below {w w':World} {base:Nat} {v:Value} {xs:List Ce} (h:OwnC w base v xs) (hb:Below w.heap.size w w'):OwnC w' base v xs:=World.ownsRow.below (show w.ownsRow _ _ _ _ _ _ from h) hb
theorem OwnC.low {w:World} {base base':Nat} {v:Value} {xs:List Ce} (h:OwnC w base v xs) (hb:base'<=base):OwnC w base' v xs:=by
 refine ⟨h.1,?_⟩;rcases h.2 with h2|⟨g,cap,cur,hv,hbg,r⟩
 ·exact .inl h2
 ·exact .inr ⟨g,cap,cur,hv,Nat.le_trans hb hbg,r⟩
theorem OwnC.lt {w:World} {base:Nat} {v:Value} {xs:List Ce} (h:OwnC w base v xs):∀ g,v.ownBlock=some g->base<=g/\g<w.heap.size:=World.ownsRow.lt (show w.ownsRow _ _ _ _ _ _ from h)
def putCe (w:World) (g o:Nat) (c:Ce):World :=
 ((((((w.setCell ⟨g,o,none⟩ (.int .i64 c.rune)).setCell ⟨g,o+1,none⟩ (.int .i64 c.st.fore)).setCell ⟨g,o+2,none⟩ (.int .i64 c.st.back)).setCell ⟨g,o+3,none⟩ (.bool c.st.bold)).setCell ⟨g,o+4,none⟩ (.bool c.st.under)).setCell ⟨g,o+5,none⟩ (.bool c.st.turned)).setCell ⟨g,o+6,none⟩ (.int .i64 c.part)
theorem flat_set (xs:List Ce) (c:Ce):∀ i,i<xs.length->((((((((xs.flatMap ceL).set (i*7) (.int .i64 c.rune)).set (i*7+1) (.int .i64 c.st.fore)).set (i*7+2) (.int .i64 c.st.back)).set (i*7+3) (.bool c.st.bold)).set (i*7+4) (.bool c.st.under)).set (i*7+5) (.bool c.st.turned)).set (i*7+6) (.int .i64 c.part))=(xs.set i c).flatMap ceL:=by
 induction xs with
 | nil=>intro i h;simp at h
 | cons d xs ih =>
  intro i h
  cases i with
  | zero=>simp [ceL]
  | succ i =>
   have e:∀ k,(i+1)*7+k=(i*7+k)+7:=fun k=>by omega
   have e0:(i+1)*7=(i*7)+7:=by omega
   rw [e 1,e 2,e 3,e 4,e 5,e 6,e0]
   have hs:∀ (m:Nat) (u:Value) (l:List Value),((ceL d++l).set (m+7) u)=ceL d++l.set m u:=fun m u l=>by
    rw [List.set_append,if_neg (by simp [ceL])]
    simp [ceL]
   rw [List.flatMap_cons,hs,hs,hs,hs,hs,hs,hs,ih i (by simpa using h),List.set_cons_succ,List.flatMap_cons]
theorem OwnC.put {w:World} {base g n cap:Nat} {xs:List Ce} (h:OwnC w base (.slice (some ⟨g,0,none⟩) n cap) xs) (hn:xs.length=n) (i:Nat) (hi:i<n) (c:Ce) :
  OwnC (putCe w g (i*7) c) base (.slice (some ⟨g,0,none⟩) n cap) (xs.set i c)/\w.grownBy (putCe w g (i*7) c) (some g):=by
 subst hn;have h0:=World.ownsRow.stored h (i*7) (.int .i64 c.rune);have h1:=World.ownsRow.stored h0.1 (i*7+1) (.int .i64 c.st.fore);have h2:=World.ownsRow.stored h1.1 (i*7+2) (.int .i64 c.st.back);have h3:=World.ownsRow.stored h2.1 (i*7+3) (.bool c.st.bold);have h4:=World.ownsRow.stored h3.1 (i*7+4) (.bool c.st.under);have h5:=World.ownsRow.stored h4.1 (i*7+5) (.bool c.st.turned);have h6:=World.ownsRow.stored h5.1 (i*7+6) (.int .i64 c.part);refine ⟨?_,grown_tr (grown_tr (grown_tr (grown_tr (grown_tr (grown_tr h0.2 h1.2) h2.2) h3.2) h4.2) h5.2) h6.2⟩;have:=h6.1;rw [flat_set xs c i hi] at this
 unfold OwnC putCe;rw [List.length_set]
 exact this
theorem OwnC.frozen {w:World} {base g n cap:Nat} {xs:List Ce} (h:OwnC w base (.slice (some ⟨g,0,none⟩) n cap) xs) (hn:xs.length=n) (j:Nat):w.frozen? ⟨g,j,none⟩=false:=by
 subst hn;exact World.ownsRow.frozenAt h j
theorem info_cell:(Tryz.prog.info? 146).map (fun i=>(i.zero,i.size,i.bytes))=some (some (ceV Ce.zero),7,40):=by kernel_rfl
theorem append_oc {w:World} {ops:Array Oper} {rest:List Oper} {o:Oper} {ac:Act} {Q:Exit->Act->World->Prop} (hgd:o.guard=none) (s x:Operand)
  (ho:o.op=.call { callee:=.builtin .append,args:=#[s,x],argTypes:=#[120,120] })
  (base:Nat) (v:Value) (L:List Ce) (c:Ce) (hs:ac.eval s=v) (k:OwnC w base v L) (hb:base<=w.heap.size) (hl:L.length<2000000)
  (g:Nat) (hg0:w.heap.size=g) (hx:ac.eval x=.slice (some ⟨g,0,none⟩) 1 1)
  (h:∀ v' w',OwnC w' base v' (L++[c])->(w.alloc (.cells #[.int .i64 c.rune,.int .i64 c.st.fore,.int .i64 c.st.back,.bool c.st.bold,.bool c.st.under,.bool c.st.turned,.int .i64 c.part] 146)).grownBy w' v.ownBlock->wpList Tryz.prog ops Q rest (ac.put o.dst v') w') :
  wpList Tryz.prog ops Q (o::rest) ac (w.alloc (.cells #[.int .i64 c.rune,.int .i64 c.st.fore,.int .i64 c.st.back,.bool c.st.bold,.bool c.st.under,.bool c.st.turned,.int .i64 c.part] 146)):=by
 subst hg0;obtain ⟨i0,hi,hz0,hz1,hz2⟩:=info_parts info_cell;refine wpList_append_own _ hgd s x _ ho base 146 i0 (ceV Ce.zero) 7 40 Tryz.underlying120 hi hz0 hz1 hz2 rfl (by decide) v L.length _ hs (k.below (bal' _ _)) ⟨w.heap.size,0,none⟩ 1 1 (ceL c) hx rfl ?_ (by intro u hu;simp [ceL] at hu;rcases hu with rfl|rfl|rfl|rfl|rfl|rfl|rfl<;>rfl) (by unfold maxLen;omega) (by omega) (by simp;omega) (fun v' w' ho' hg' _=>?_)
 ·intro j u hj
  have e:(⟨w.heap.size,0,none⟩:Addr).add j=⟨w.heap.size,j,none⟩:=by unfold Addr.add;split<;>simp_all
  rw [e,cell_of_row _ w.heap.size j _ _ (0,0) (heap_alloc_new w _)]
  simpa [ceL] using hj
 ·refine h v' w' ?_ hg'
  unfold OwnC;rw [List.length_append,List.flatMap_append]
  simpa using ho'
theorem flat_cells {w:World} {b off:Nat} {xs:List Ce} (hi:∀ i,i<xs.length->CeAt w b (off+i*7) (atC xs i)):∀ j u,(xs.flatMap ceL)[j]?=some u->w.cell? ⟨b,off+j,none⟩=some u:=by
 intro j u hj;have hlt:j<xs.length*7:=by have:=(List.getElem?_eq_some_iff.1 hj).1;rwa [flat_len] at this
 have h1:j / 7<xs.length:=by omega
 have h2:j % 7<7:=Nat.mod_lt _ (by decide);have e:j=j / 7*7+j % 7:=by omega
 rw [e,flat_get xs (j / 7) (j % 7) h1 h2] at hj
 obtain ⟨c0,c1,c2,c3,c4,c5,c6⟩:=hi (j / 7) h1;generalize hk:j % 7=k at *;have eo:off+j=off+j / 7*7+k:=by omega
 rw [eo]
 match k,h2,hj with
 | 0,_,hj=>simp [ceL] at hj;subst hj;exact c0
 | 1,_,hj=>simp [ceL] at hj;subst hj;exact c1
 | 2,_,hj=>simp [ceL] at hj;subst hj;exact c2
 | 3,_,hj=>simp [ceL] at hj;subst hj;exact c3
 | 4,_,hj=>simp [ceL] at hj;subst hj;exact c4
 | 5,_,hj=>simp [ceL] at hj;subst hj;exact c5
 | 6,_,hj=>simp [ceL] at hj;subst hj;exact c6
theorem flat_one (xs:List Ce):∀ u∈xs.flatMap ceL,u.oneCell'=true:=by
 intro u hu;obtain ⟨c,_,hu⟩:=List.mem_flatMap.1 hu;simp [ceL] at hu;rcases hu with rfl|rfl|rfl|rfl|rfl|rfl|rfl<;>rfl
theorem append_os {w:World} {ops:Array Oper} {rest:List Oper} {o:Oper} {ac:Act} {Q:Exit->Act->World->Prop} (hgd:o.guard=none) (s x:Operand)
  (ho:o.op=.call { callee:=.builtin .append,args:=#[s,x],argTypes:=#[120,120] })
  (base:Nat) (v:Value) (L:List Ce) (hs:ac.eval s=v) (k:OwnC w base v L) (hb:base<=w.heap.size) (u:Value) (xs:List Ce) (hu:SlC w u xs) (hx:ac.eval x=u) (hl:L.length+xs.length<2000000)
  (h:∀ v' w',OwnC w' base v' (L++xs)->w.grownBy w' v.ownBlock->wpList Tryz.prog ops Q rest (ac.put o.dst v') w') :
  wpList Tryz.prog ops Q (o::rest) ac w:=by
 obtain ⟨i0,hi,hz0,hz1,hz2⟩:=info_parts info_cell;obtain ⟨a,c,rfl,hc,hn,hr⟩:=hu
 cases a with
 | none =>
  have hc0:c=0:=hn rfl;subst hc0
  have hx0:xs=[]:=by
   rcases hr with h|⟨b,off,h,_⟩
   ·exact h
   ·cases h
  subst hx0;refine wpList_append_own_none hgd s x _ ho base 146 i0 7 Tryz.underlying120 hi v L.length _ hs k hx ?_;refine h v w ?_ ⟨rfl,rfl,rfl,Nat.le_refl _,fun _ _ _=>rfl⟩;rw [List.append_nil];exact k
 | some ad =>
  refine wpList_append_own _ hgd s x _ ho base 146 i0 (ceV Ce.zero) 7 40 Tryz.underlying120 hi hz0 hz1 hz2 rfl (by decide) v L.length _ hs k ad xs.length c (xs.flatMap ceL) hx (flat_len xs) ?_ (flat_one xs) (by unfold maxLen;omega) (by omega) hb (fun v' w' ho' hg' _=>?_)
  ·rcases hr with rfl|⟨b,off,e,_,hi⟩
   ·intro j u hj;simp at hj
   ·cases e
    intro j u hj;rw [Addr.add_mid]
    exact flat_cells hi j u hj
  ·refine h v' w' ?_ hg'
   unfold OwnC;rw [List.length_append,List.flatMap_append]
   exact ho'
theorem ownC_nil (w:World) (base:Nat) (hb:base<=w.heap.size):OwnC (w.alloc (.cells #[] 146)) base (.slice (some ⟨w.heap.size,0,none⟩) 0 0) []:=by
 have:=World.ownsRow_lit (base:=base) (e:=146) (size:=7) w #[] 0 hb (Nat.zero_le _) rfl
 simpa [OwnC] using this
theorem l4Blank_any (s:St) (w:World) :
  Calls Tryz.prog 222 #[stV s] w fun e w'=>e=.returned (ceV (blankC s))/\Below w.heap.size w w':=by
 obtain ⟨f,b,bo,un,tu⟩:=s;unfold stV;simp only;go_enter Tryz.func222,Tryz.ntmps222;go_wp2;exact bodyPost_ret (v:=.agg #[.int .i64 32,.int .i64 f,.int .i64 b,.bool bo,.bool un,.bool tu,.int .i64 0]) (by simp [results,Tryz.results222,go_sem]) rfl ⟨rfl,((Below.refl _ _).alloc (Nat.le_refl _) _).alloc (by simp) _⟩
def OC (base:Nat) (v:Value) (L:List Ce) (w0 W:World):Prop:=OwnC W base v L/\Below w0.heap.size w0 W/\base<=W.heap.size/\w0.heap.size<=base
theorem OC.below {base:Nat} {v:Value} {L:List Ce} {w0 W W':World} (k:OC base v L w0 W) (hb:Below W.heap.size W W'):OC base v L w0 W' :=
 ⟨k.1.below hb,k.2.1.trans (hb.mono k.2.1.size),Nat.le_trans k.2.2.1 hb.size,k.2.2.2⟩
theorem OC.own {base:Nat} {v v':Value} {L L':List Ce} {w0 W W':World} (k:OC base v L w0 W) (ho:OwnC W' base v' L') (hg:W.grownBy W' v.ownBlock):OC base v' L' w0 W' :=
 ⟨ho,k.2.1.grown hg k.2.1.size (fun g e=>Nat.le_trans k.2.2.2 (k.1.lt g e).1),Nat.le_trans k.2.2.1 hg.size,k.2.2.2⟩
theorem StAt.own {W W':World} {B base:Nat} {s:St} {v:Value} {L:List Ce} (h:StAt W B s) (k:OwnC W base v L) (hB:B<base) (hg:W.grownBy W' v.ownBlock):StAt W' B s :=
 h.grown hg (fun e=>by have:=(k.lt B e).1;omega)
theorem l4Row_any (n:Nat) (s:St) (w:World) (hn:n<=1000) :
  Calls Tryz.prog 160 #[.int .i64 n,stV s] w fun e w'=>∃ v,e=.returned v/\OwnC w' w.heap.size v (rowL n s)/\Below w.heap.size w w':=by
 have h2:=StAt.new w s 28;have hbA:=bal' w (Obj.cells #[.int .i64 s.fore,.int .i64 s.back,.bool s.bold,.bool s.under,.bool s.turned] 28);have hbl:=l4Blank_any s;unfold stV ceV blankC at *;simp only at hbl;go_enter Tryz.func160,Tryz.ntmps160;go_wp2
 have k0:OC (w.heap.size+1) (.slice (some ⟨w.heap.size+1,0,none⟩) 0 0) [] w ((w.alloc (Obj.cells #[.int .i64 s.fore,.int .i64 s.back,.bool s.bold,.bool s.under,.bool s.turned] 28)).alloc (Obj.cells #[] 146)):=by
  refine ⟨?_,hbA.trans ((bal' _ _).mono hbA.size),by simp,by omega⟩;have:=ownC_nil (w.alloc (Obj.cells #[.int .i64 s.fore,.int .i64 s.back,.bool s.bold,.bool s.under,.bool s.turned] 28)) (w.heap.size+1) (by simp)
  simpa using this
 have hs0:=h2.below (bal' _ (Obj.cells #[] 146));go_loopw [5,6] (fun u i wr=>∃ j:Nat,i=.int .i64 j/\j<=n/\OC (w.heap.size+1) u (rowL j s) w wr/\StAt wr w.heap.size s) (fun _ i _=>n-(intOf i).toNat)
 case atStart=>exact ⟨0,rfl,Nat.zero_le _,k0,hs0⟩
 case round =>
  clear k0 hs0 h2 hbA;obtain ⟨j,rfl,hj,k,hs⟩:=hrel
  by_cases hlt:j<n
  ·have hji:(j:Int)<(n:Int):=by omega
   have hsn:Hid (rowL (j+1) s=rowL j s++[⟨32,s,0⟩]):=by show _=_;rw [rowL,List.replicate_succ'];rfl
   have hl:(rowL j s).length<2000000:=by simp [rowL];omega
   obtain ⟨_,⟨c0,c1,c2,c3,c4⟩,_⟩:=id hs;generalize rowL j s=L at *;go_wp2_with fail;refine (hbl _).mono ?_;rintro e w1 ⟨rfl,hb1⟩;have k1:=k.below hb1;have hs1:=hs.below hb1;clear k hs c0 c1 c2 c3 c4 hb1 hbl;go_wp2_with (at_builtin;refine append_oc rfl _ _ rfl (w.heap.size+1) _ L ⟨32,s,0⟩ rfl (by exact k1.1) k1.2.2.1 hl _ (by simp) rfl ?_;intro v' w' ho' hg');have k2:=(k1.below (bal' _ _)).own ho' hg';have hs2:=(hs1.below (bal' _ _)).own (k1.below (bal' _ _)).1 (Nat.lt_succ_self _) hg';clear k1 hs1 ho' hg';go_wp2;go_roundw
   case rel=>exact ⟨j+1,by go_num,by omega,by rw [hsn.out];exact k2,hs2⟩
   case measure=>simp [intOf];omega
  ·have hjn:j=n:=by omega
   have hji:¬ (j:Int)<(n:Int):=by omega
   subst hjn;clear hbl hs;go_wp2;go_ret;exact ⟨_,rfl,k.1.low (by omega),k.2.1⟩
theorem bigRow (n:Nat) (s:St):(rowL n s).length=n:=by simp [rowL]
def rowV (vs:List Value) (i:Nat):Value:=vs.getD i (.slice none 0 0)
def rowX (rows:List (List Ce)) (i:Nat):List Ce:=rows.getD i []
theorem rowV_lt {vs:List Value} {i:Nat} (h:i<vs.length):rowV vs i=vs[i]:=by simp [rowV,List.getD,h]
theorem rowX_lt {rows:List (List Ce)} {i:Nat} (h:i<rows.length):rowX rows i=rows[i]:=by simp [rowX,List.getD,h]
theorem rowV_get {vs:List Value} {i:Nat} (h:i<vs.length):vs[i]?=some (rowV vs i):=by rw [rowV_lt h];exact List.getElem?_eq_getElem h
theorem rowV_snoc (vs:List Value) (r:Value) (i:Nat):rowV (vs++[r]) i=if i<vs.length then rowV vs i else if i=vs.length then r else .slice none 0 0:=by
 unfold rowV
 by_cases h:i<vs.length
 ·rw [if_pos h];simp [List.getD,List.getElem?_append_left h]
 ·rw [if_neg h]
  by_cases e:i=vs.length
  ·rw [if_pos e,e];simp [List.getD]
  ·rw [if_neg e]
   have:(vs++[r])[i]?=none:=List.getElem?_eq_none (by simp;omega);simp [List.getD,this]
theorem rowX_snoc (rows:List (List Ce)) (x:List Ce) (i:Nat):rowX (rows++[x]) i=if i<rows.length then rowX rows i else if i=rows.length then x else []:=by
 unfold rowX
 by_cases h:i<rows.length
 ·rw [if_pos h];simp [List.getD,List.getElem?_append_left h]
 ·rw [if_neg h]
  by_cases e:i=rows.length
  ·rw [if_pos e,e];simp [List.getD]
  ·rw [if_neg e]
   have:(rows++[x])[i]?=none:=List.getElem?_eq_none (by simp;omega);simp [List.getD,this]
def SlG (w:World) (v:Value) (rows:List (List Ce)):Prop :=
 ∃ a c vs,v=.slice a rows.length c/\rows.length<=c/\(a=none->c=0)/\(rows=[]\/∃ b off,a=some ⟨b,off,none⟩/\b<w.heap.size/\∀ i,i<rows.length->w.cell? ⟨b,off+i,none⟩=some (rowV vs i))/\∀ i,i<rows.length->SlC w (rowV vs i) (rowX rows i)
theorem SlG.below {w w':World} {v:Value} {rows:List (List Ce)} (h:SlG w v rows) (hb:Below w.heap.size w w'):SlG w' v rows:=by
 obtain ⟨a,c,vs,hv,hc,hn,hr,hs⟩:=h;refine ⟨a,c,vs,hv,hc,hn,?_,fun i hi=>(hs i hi).below hb⟩;rcases hr with hr|⟨b,off,ha,hlt,hi⟩
 ·exact .inl hr
 ·exact .inr ⟨b,off,ha,Nat.lt_of_lt_of_le hlt hb.size,fun i h=>(hb.cell (p:=⟨b,off+i,none⟩) hlt).trans (hi i h)⟩
def OwnG (w:World) (base B:Nat) (v:Value) (rows:List (List Ce)):Prop :=
 ∃ vs:List Value,vs.length=rows.length/\w.ownsRow base 120 1 v rows.length vs/\(∀ i,i<rows.length->OwnC w base (rowV vs i) (rowX rows i)) /\
  (∀ i,i<rows.length->∀ g,(rowV vs i).ownBlock=some g->g<B)/\(∀ i j,i<j->j<rows.length->∀ g,(rowV vs i).ownBlock=some g->(rowV vs j).ownBlock≠some g)
theorem OwnG.below {w w':World} {base B:Nat} {v:Value} {rows:List (List Ce)} (h:OwnG w base B v rows) (hb:Below w.heap.size w w'):OwnG w' base B v rows:=by
 obtain ⟨vs,hl,ho,hr,hB,hd⟩:=h;exact ⟨vs,hl,World.ownsRow.below ho hb,fun i hi=>(hr i hi).below hb,hB,hd⟩
theorem OwnG.low {w:World} {base base' B:Nat} {v:Value} {rows:List (List Ce)} (h:OwnG w base B v rows) (hb:base'<=base):OwnG w base' B v rows:=by
 obtain ⟨vs,hl,ho,hr,hB,hd⟩:=h;refine ⟨vs,hl,⟨ho.1,?_⟩,fun i hi=>(hr i hi).low hb,hB,hd⟩;rcases ho.2 with h2|⟨g,cap,cur,hv,hbg,r⟩
 ·exact .inl h2
 ·exact .inr ⟨g,cap,cur,hv,Nat.le_trans hb hbg,r⟩
theorem ownG_none (w:World) (base B:Nat):OwnG w base B (.slice none 0 0) [] :=
 ⟨[],rfl,⟨rfl,.inl ⟨rfl,rfl⟩⟩,fun i h=>absurd h (Nat.not_lt_zero i),fun i h=>absurd h (Nat.not_lt_zero i),fun _ j _ h=>absurd h (Nat.not_lt_zero j)⟩
theorem OwnG.shape {w:World} {base B:Nat} {v:Value} {rows:List (List Ce)} (h:OwnG w base B v rows):(v=.slice none 0 0/\rows=[])\/∃ g cap,v=.slice (some ⟨g,0,none⟩) rows.length cap/\base<=g/\g<w.heap.size/\rows.length<=cap:=by
 obtain ⟨vs,hl,ho,_⟩:=h;rcases ho.2 with ⟨h1,h2⟩|⟨g,cap,cur,hv,hb,hg,hn,_⟩
 ·exact .inl ⟨h1,List.eq_nil_of_length_eq_zero h2⟩
 ·exact .inr ⟨g,cap,hv,hb,(Array.getElem?_eq_some_iff.1 hg).1,hn⟩
theorem SlG.of_own {w:World} {base B:Nat} {v:Value} {rows:List (List Ce)} (h:OwnG w base B v rows):SlG w v rows:=by
 obtain ⟨vs,hl,ho,hr,hB,hd⟩:=h;rcases ho.2 with ⟨h1,h2⟩|⟨g,cap,cur,hv,hb,hg,hn,_,_,ht⟩
 ·have:rows=[]:=List.eq_nil_of_length_eq_zero h2
  subst this;exact ⟨none,0,vs,h1,Nat.le_refl _,fun _=>rfl,.inl rfl,fun i hi=>absurd hi (Nat.not_lt_zero i)⟩
 ·subst hv
  refine ⟨_,cap,vs,rfl,hn,(fun e=>by cases e),.inr ⟨g,0,rfl,(Array.getElem?_eq_some_iff.1 hg).1,fun i hi=>?_⟩,fun i hi=>SlC.of_own (hr i hi)⟩;rw [Nat.zero_add,World.ownsRow.cellAt ho i (by omega),rowV_get (by omega)]
theorem outer_apart {w:World} {base base' n:Nat} {v r:Value} {vs:List Value} {xs:List Ce} (ho:w.ownsRow base 120 1 v n vs) (hr:OwnC w base' r xs):r.ownBlock=none\/r.ownBlock≠v.ownBlock:=by
 rcases ho.2 with ⟨h1,_⟩|⟨g,cap,cur,hv,_,hg,_⟩
 ·cases hb:r.ownBlock with
  | none=>exact .inl rfl
  | some q=>right;rw [h1];simp [Value.ownBlock]
 ·rcases hr.2 with ⟨h1,_⟩|⟨g',cap',cur',hv',_,hg',_⟩
  ·left;rw [h1];rfl
  ·right
   rw [hv,hv']
   intro e;simp only [Value.ownBlock,Option.some.injEq] at e;subst e;rw [hg] at hg'
   simp only [Option.some.injEq,Obj.cells.injEq] at hg';exact absurd hg'.2.1 (by decide)
theorem OwnC.kept {w w':World} {base:Nat} {r:Value} {xs:List Ce} {row:Option Nat} (h:OwnC w base r xs) (hg:w.grownBy w' row) (hne:r.ownBlock=none\/r.ownBlock≠row):OwnC w' base r xs:=World.ownsRow.kept (show w.ownsRow _ _ _ _ _ _ from h) hg hne
theorem info_row:(Tryz.prog.info? 120).map (fun i=>(i.zero,i.size,i.bytes))=some (some (.slice none 0 0),1,24):=by kernel_rfl
theorem under_rows:Tryz.prog.underlying 24=some (.slice 120):=by kernel_rfl
theorem og_after {w w':World} {base B:Nat} {v v':Value} {rows:List (List Ce)} {vs:List Value} {r:Value} {xs:List Ce} (hvl:vs.length=rows.length) (hown:w.ownsRow base 120 1 v rows.length vs)
  (hrs:∀ i,i<rows.length->OwnC w base (rowV vs i) (rowX rows i)) (hlt:∀ i,i<rows.length->∀ g,(rowV vs i).ownBlock=some g->g<B) (hd:∀ i j,i<j->j<rows.length->∀ g,(rowV vs i).ownBlock=some g->(rowV vs j).ownBlock≠some g)
  (hr:OwnC w base r xs) (hB:∀ g,r.ownBlock=some g->B<=g) (ho':w'.ownsRow base 120 1 v' (rows.length+1) (vs++[r])) (hg':w.grownBy w' v.ownBlock):OwnG w' base w'.heap.size v' (rows++[xs]):=by
 have hs2:=hg'.size;refine ⟨vs++[r],by simp [hvl],by simpa using ho',fun i hi=>?_,fun i hi g e=>?_,fun i j hij hj g e=>?_⟩
 ·rw [List.length_append,List.length_singleton] at hi
  rw [rowV_snoc,rowX_snoc,hvl]
  by_cases c:i<rows.length
  ·rw [if_pos c,if_pos c]
   exact (hrs i c).kept hg' (outer_apart hown (hrs i c))
  ·have e:i=rows.length:=by omega
   rw [if_neg c,if_neg c,if_pos e,if_pos e]
   exact hr.kept hg' (outer_apart hown hr)
 ·rw [List.length_append,List.length_singleton] at hi
  rw [rowV_snoc,hvl] at e
  by_cases c:i<rows.length
  ·rw [if_pos c] at e
   have:=((hrs i c).lt g e).2;omega
  ·rw [if_neg c,if_pos (by omega)] at e
   have:=(hr.lt g e).2;omega
 ·rw [List.length_append,List.length_singleton] at hj
  rw [rowV_snoc,hvl,if_pos (by omega)] at e
  rw [rowV_snoc,hvl]
  by_cases c:j<rows.length
  ·rw [if_pos c];exact hd i j hij c g e
  ·rw [if_neg c,if_pos (by omega)]
   intro e2;have h1:=hlt i (by omega) g e;have h2:=hB g e2;omega
end Go.Proofs.YtgcnmjjlmcnllaaGreatDoor
namespace Go.Proofs.YtgcnmjjlmcnllaaGreatDoor
set_option maxRecDepth 20000
set_option maxHeartbeats 16000000
theorem nums_inj {a b:ByteArray} (h:nums a=nums b):a=b:=by rw [<- str_nums a,<- str_nums b,h]
theorem like_iff (a b:ByteArray):(a.toList==b.toList)=decide (nums a=nums b):=by
 rw [ByteArray.toList_eq,ByteArray.toList_eq]
 by_cases h:a=b
 ·subst h;simp
 ·have h1:¬ nums a=nums b:=fun e=>h (nums_inj e)
  have h2:(a.data.toList==b.data.toList)=false:=by
   apply Bool.eq_false_iff.2
   intro e;have e:=eq_of_beq e;apply h;cases a;cases b;simp at e;rw [e]
  rw [h2];simp [h1]
theorem nums_extract (s:ByteArray) (a b:Nat):nums (s.extract a b)=((nums s).take b).drop a:=by
 simp [nums,ByteArray.data_extract,List.drop_take]

def pref (s p:ByteArray):Bool:=decide (p.size<=s.size) && ((s.extract 0 p.size).toList==p.toList)
theorem pref_iff (s p:ByteArray):pref s p=true ↔ ∃ u,nums s=nums p++u:=by
 simp only [pref,Bool.and_eq_true,decide_eq_true_eq,like_iff,nums_extract,List.drop_zero]
 constructor
 ·rintro ⟨_,h⟩
  exact ⟨(nums s).drop p.size,by rw [<- h,List.take_append_drop]⟩
 ·rintro ⟨u,h⟩
  have hl:=congrArg List.length h;simp only [List.length_append,nums_len] at hl;refine ⟨by omega,?_⟩;rw [h,<- nums_len p,List.take_left']
  rfl

theorem putL_bd (r:Int) (h:runeOk r=true):∀ x∈putL r,0<=x/\x<256:=by
 have hb:=runeOk_bd r h;intro x hx;unfold putL at hx;split at hx
 ·simp at hx;omega
 ·split at hx
  ·simp at hx;omega
  ·split at hx
   ·simp at hx;omega
   ·simp at hx;omega
theorem nums_putS (r:Int) (h:runeOk r=true):nums (putS r)=putL r:=by
 rw [putS_ok r h,nums_str _ (putL_bd r h)]
theorem putS_size (r:Int) (h:runeOk r=true):(putS r).size=(putL r).length:=by
 rw [<- nums_len,nums_putS r h]
theorem putS_size4 (r:Int):(putS r).size<=4:=by
 by_cases h:runeOk r=true
 ·rw [putS_size r h];have:=putL_len r;omega
 ·rw [putS_no r (by simpa using h)];decide

def getV (s:ByteArray):Int×Int:=dec (nums s)

theorem getV_cases (s:ByteArray) (h:0<s.size) :
  (runeOk (getV s).1=true/\pref s (putS (getV s).1)=true/\(getV s).2=((putS (getV s).1).size:Int)) \/
  (getV s=(65533,1)/\∀ r,runeOk r=true->pref s (putS r)=false):=by
 have hl:=nums_len s;unfold getV
 match hn:nums s with
 | []=>rw [hn] at hl;simp at hl;omega
 | b0::t =>
  have hb:0<=b0:=by have:=nums_bd s b0 (by rw [hn];simp);omega
  rcases put_dec b0 t hb with ⟨h1,⟨u,h2⟩,h3⟩|⟨h1,h2⟩
  ·left
   refine ⟨h1,?_,?_⟩
   ·rw [pref_iff];exact ⟨u,by rw [nums_putS _ h1,hn];exact h2⟩
   ·rw [putS_size _ h1];exact h3
  ·by_cases hp:∃ r,runeOk r=true/\pref s (putS r)=true
   ·obtain ⟨r,hr,hq⟩:=hp
    rw [pref_iff] at hq
    obtain ⟨u,hu⟩:=hq;rw [nums_putS r hr,hn] at hu
    have hd:=dec_put r u hr;rw [<- hu,h1] at hd
    simp only [Prod.mk.injEq] at hd;obtain ⟨e1,e2⟩:=hd;subst e1;simp [putL] at e2
   ·right
    refine ⟨h1,fun r hr=>?_⟩
    cases hq:pref s (putS r)
    ·rfl
    ·exact absurd ⟨r,hr,hq⟩ hp
theorem getV_of_pref (s:ByteArray) (r:Int) (hr:runeOk r=true) (h:pref s (putS r)=true):getV s=(r,((putS r).size:Int)):=by
 rw [pref_iff] at h
 obtain ⟨u,hu⟩:=h;unfold getV;rw [hu,nums_putS r hr,dec_put r u hr,putS_size r hr]
theorem getV_bd (s:ByteArray) (h:0<s.size):0<=(getV s).1/\(getV s).1<=1114111/\1<=(getV s).2/\(getV s).2<=4/\(getV s).2<=s.size:=by
 rcases getV_cases s h with ⟨h1,h2,h3⟩|⟨h1,_⟩
 ·have hb:=runeOk_bd _ h1
  have hz:=putS_size _ h1;have hL:=putL_len (getV s).1;have h4:=putS_size4 (getV s).1;simp only [pref,Bool.and_eq_true,decide_eq_true_eq] at h2;omega
 ·rw [h1];simp only;omega
theorem getV_decode (s:ByteArray) (h:0<s.size):(((Utf8.decode s 0).1:Nat):Int)=(getV s).1/\(((Utf8.decode s 0).2:Nat):Int)=(getV s).2:=by
 have:=decode_dec s 0 h;simp only [List.drop_zero,both] at this;unfold getV;rw [<- this];exact ⟨rfl,rfl⟩
def longV (b:Int):Int:=if b<128 then 1 else if 192<=b/\b<224 then 2 else if 224<=b/\b<240 then 3 else if 240<=b/\b<248 then 4 else 0
def rV (l:List Int):Int :=
 match l with
 | [b0]=>b0
 | [b0,b1]=>b0 % 32*64+b1 % 64
 | [b0,b1,b2]=>(b0 % 16*64+b1 % 64)*64+b2 % 64
 | [b0,b1,b2,b3]=>((b0 % 8*64+b1 % 64)*64+b2 % 64)*64+b3 % 64
 | _=>0
theorem long_put (c:Int) (h:runeOk c=true):∃ b0 t,putL c=b0::t/\longV b0=((putL c).length:Int)/\rV (putL c)=c:=by
 have hb:=runeOk_bd c h;unfold putL
 by_cases h1:c<128
 ·rw [if_pos h1];exact ⟨_,_,rfl,by simp [longV,h1],rfl⟩
 ·rw [if_neg h1]
  by_cases h2:c<2048
  ·rw [if_pos h2];refine ⟨_,_,rfl,?_,?_⟩
   ·unfold longV;simp only [List.length_cons,List.length_nil];omega
   ·simp only [rV];omega
  ·rw [if_neg h2]
   by_cases h3:c<65536
   ·rw [if_pos h3];refine ⟨_,_,rfl,?_,?_⟩
    ·unfold longV;simp only [List.length_cons,List.length_nil];omega
    ·simp only [rV];omega
   ·rw [if_neg h3];refine ⟨_,_,rfl,?_,?_⟩
    ·unfold longV;simp only [List.length_cons,List.length_nil];omega
    ·simp only [rV];omega
theorem nums_get (s:ByteArray) (i:Nat) (h:i<s.size):(nums s)[i]?=some ((s[i]'h).toNat:Int):=by
 have h':i<s.data.size:=h;simp only [nums,List.getElem?_map,Array.getElem?_toList,Array.getElem?_eq_getElem h',Option.map_some]
 rfl
theorem getV_short (s:ByteArray) (h:0<s.size) (hn:longV ((s[0]'h).toNat:Int)=0\/(s.size:Int)<longV ((s[0]'h).toNat:Int)):getV s=(65533,1):=by
 rcases getV_cases s h with ⟨h1,h2,_⟩|⟨h1,_⟩
 ·exfalso
  rw [pref_iff] at h2
  obtain ⟨u,hu⟩:=h2;rw [nums_putS _ h1] at hu
  obtain ⟨b0,t,e1,e2,_⟩:=long_put _ h1;have g0:=nums_get s 0 h;have hl:=congrArg List.length hu;rw [nums_len,List.length_append] at hl
  rw [hu,e1] at g0
  simp at g0;subst g0;have:=putL_len (getV s).1;omega
 ·exact h1
theorem getV_long (s:ByteArray) (h:0<s.size) (n:Nat) (r:Int) (hn:longV ((s[0]'h).toNat:Int)=n) (h1:1<=n) (hs:n<=s.size) (hr:rV ((nums s).take n)=r) :
  getV s=if ((putS r).toList==(s.extract 0 n).toList)=true then (r,(n:Int)) else (65533,1):=by
 have hsz:(nums (s.extract 0 n)).length=n:=by rw [nums_extract];simp [nums_len];omega
 by_cases hp:((putS r).toList==(s.extract 0 n).toList)=true
 ·rw [if_pos hp]
  have hq:=hp;rw [like_iff,decide_eq_true_eq] at hq
  have hk:runeOk r=true:=by
   cases hk:runeOk r
   ·rw [putS_no r hk] at hq
    have:=congrArg List.length hq;rw [hsz] at this
    simp [nums] at this;omega
   ·rfl
  have hz:(putS r).size=n:=by rw [<- nums_len,hq,hsz]
  rw [<- hz]
  apply getV_of_pref s r hk
  rw [pref_iff,hq,nums_extract,List.drop_zero]
  exact ⟨_,(List.take_append_drop n _).symm⟩
 ·rw [if_neg hp]
  rcases getV_cases s h with ⟨k1,k2,_⟩|⟨k1,_⟩
  ·exfalso
   apply hp
   rw [pref_iff] at k2
   obtain ⟨u,hu⟩:=k2;rw [nums_putS _ k1] at hu
   obtain ⟨b0,t,e1,e2,e3⟩:=long_put _ k1;have g0:=nums_get s 0 h;rw [hu,e1] at g0
   simp at g0;subst g0;have hL:(putL (getV s).1).length=n:=by omega
   have ht:(nums s).take n=putL (getV s).1:=by rw [hu,<- hL];exact List.take_left
   rw [ht,e3] at hr
   rw [like_iff,decide_eq_true_eq,<- hr,nums_putS _ k1,nums_extract,ht];rfl
  ·exact k1
theorem nums_take1 (s:ByteArray) (h:0<s.size):(nums s).take 1=[((s[0]'(by omega)).toNat:Int)]:=by
 have hl:=nums_len s;have g0:=nums_get s 0 (by omega)
 match hd:nums s with
 | []=>rw [hd] at hl;simp at hl;omega
 | b0::t =>
  rw [hd] at g0
  simp at g0;subst g0
  rfl
theorem nums_take2 (s:ByteArray) (h:1<s.size):(nums s).take 2=[((s[0]'(by omega)).toNat:Int),((s[1]'(by omega)).toNat:Int)]:=by
 have hl:=nums_len s;have g0:=nums_get s 0 (by omega);have g1:=nums_get s 1 (by omega)
 match hd:nums s with
 | []=>rw [hd] at hl;simp at hl;omega
 | [b0]=>rw [hd] at hl;simp at hl;omega
 | b0::b1::t =>
  rw [hd] at g0 g1
  simp at g0 g1;subst g0 g1
  rfl
theorem nums_take3 (s:ByteArray) (h:2<s.size):(nums s).take 3=[((s[0]'(by omega)).toNat:Int),((s[1]'(by omega)).toNat:Int),((s[2]'(by omega)).toNat:Int)]:=by
 have hl:=nums_len s;have g0:=nums_get s 0 (by omega);have g1:=nums_get s 1 (by omega);have g2:=nums_get s 2 (by omega)
 match hd:nums s with
 | []=>rw [hd] at hl;simp at hl;omega
 | [b0]=>rw [hd] at hl;simp at hl;omega
 | [b0,b1]=>rw [hd] at hl;simp at hl;omega
 | b0::b1::b2::t =>
  rw [hd] at g0 g1 g2
  simp at g0 g1 g2;subst g0 g1 g2
  rfl
theorem nums_take4 (s:ByteArray) (h:3<s.size):(nums s).take 4=[((s[0]'(by omega)).toNat:Int),((s[1]'(by omega)).toNat:Int),((s[2]'(by omega)).toNat:Int),((s[3]'(by omega)).toNat:Int)]:=by
 have hl:=nums_len s;have g0:=nums_get s 0 (by omega);have g1:=nums_get s 1 (by omega);have g2:=nums_get s 2 (by omega);have g3:=nums_get s 3 (by omega)
 match hd:nums s with
 | []=>rw [hd] at hl;simp at hl;omega
 | [b0]=>rw [hd] at hl;simp at hl;omega
 | [b0,b1]=>rw [hd] at hl;simp at hl;omega
 | [b0,b1,b2]=>rw [hd] at hl;simp at hl;omega
 | b0::b1::b2::b3::t =>
  rw [hd] at g0 g1 g2 g3
  simp at g0 g1 g2 g3;subst g0 g1 g2 g3
  rfl
def wdV (r:Int):Int :=
 if r<32\/runeOk r=false\/(127<=r/\r<=159)\/(768<=r/\r<=879) then 0
 else if (4352<=r/\r<=4447)\/(12288<=r/\r<=55295)\/(127744<=r/\r<=131071) then 2 else 1
theorem widthV_bd (r:Int):0<=wdV r/\wdV r<=2:=by unfold wdV;split;omega;split<;>omega
def cellOkB (l:List Ce) (i:Nat):Bool :=
 (atC l i).st.ok && (if (atC l i).part=0 then decide (wdV (atC l i).rune=1)
  else if (atC l i).part=1 then decide (wdV (atC l i).rune=2) && (decide (i+1<l.length) && (decide ((atC l (i+1)).part=2) && decide ((atC l (i+1)).st=(atC l i).st)))
  else if (atC l i).part=2 then decide ((atC l i).rune=0) && (decide (0<i) && decide ((atC l (i-1)).part=1))
  else false)
def rowOkB (l:List Ce):Bool:=decide (1<=l.length/\l.length<=60) && (List.range l.length).all (cellOkB l)
theorem rowOkB_no (l:List Ce) (i:Nat) (hi:i<l.length) (h:cellOkB l i=false):rowOkB l=false:=by
 unfold rowOkB
 have:(List.range l.length).all (cellOkB l)=false:=by
  rw [List.all_eq_false]
  exact ⟨i,List.mem_range.2 hi,by simp [h]⟩
 rw [this,Bool.and_false]
theorem rowOkB_len (l:List Ce) (h:¬ (1<=l.length/\l.length<=60)):rowOkB l=false:=by
 unfold rowOkB;rw [decide_eq_false h,Bool.false_and]
theorem rowOkB_yes (l:List Ce) (h:1<=l.length/\l.length<=60) (ha:∀ i,i<l.length->cellOkB l i=true):rowOkB l=true:=by
 unfold rowOkB;rw [decide_eq_true h,Bool.true_and,List.all_eq_true]
 exact fun i hi=>ha i (List.mem_range.1 hi)
theorem rowOkB_iff (l:List Ce):rowOkB l=true ↔ (1<=l.length/\l.length<=60)/\∀ i,i<l.length->cellOkB l i=true:=by
 constructor
 ·intro h
  unfold rowOkB at h;rw [Bool.and_eq_true,decide_eq_true_eq,List.all_eq_true] at h
  exact ⟨h.1,fun i hi=>h.2 i (List.mem_range.2 hi)⟩
 ·rintro ⟨h1,h2⟩;exact rowOkB_yes l h1 h2
def fitB (cols:Int) (r:List Ce):Bool:=decide ((r.length:Int)=cols) && rowOkB r
def gridOkB (cols:Int) (rows:List (List Ce)):Bool:=decide (1<=cols/\cols<=60) && (decide (1<=rows.length/\rows.length<=30) && rows.all (fitB cols))
theorem gridOk_cols {cols:Int} {rows:List (List Ce)} (h:¬ (1<=cols/\cols<=60)):gridOkB cols rows=false:=by
 unfold gridOkB;rw [decide_eq_false h,Bool.false_and]
theorem gridOk_len {cols:Int} {rows:List (List Ce)} (h:¬ (1<=rows.length/\rows.length<=30)):gridOkB cols rows=false:=by
 unfold gridOkB;rw [decide_eq_false h,Bool.false_and,Bool.and_false]
theorem gridOk_iff (cols:Int) (rows:List (List Ce)):gridOkB cols rows=true ↔ (1<=cols/\cols<=60)/\(1<=rows.length/\rows.length<=30)/\∀ i,i<rows.length->fitB cols (rows.getD i [])=true:=by
 unfold gridOkB;rw [Bool.and_eq_true,Bool.and_eq_true,decide_eq_true_eq,decide_eq_true_eq,List.all_eq_true]
 constructor
 ·rintro ⟨h1,h2,h3⟩
  refine ⟨h1,h2,fun i hi=>h3 _ ?_⟩;have:rows.getD i []=rows[i]:=by simp [List.getD,hi]
  rw [this];exact List.getElem_mem hi
 ·rintro ⟨h1,h2,h3⟩
  refine ⟨h1,h2,fun r hr=>?_⟩;obtain ⟨i,hi,e⟩:=List.getElem_of_mem hr;have:=h3 i hi;have e2:rows.getD i []=rows[i]:=by simp [List.getD,hi]
  rw [e2,e] at this;exact this
theorem gridOk_no {cols:Int} {rows:List (List Ce)} {i:Nat} (hi:i<rows.length) (h:fitB cols (rows.getD i [])=false):gridOkB cols rows=false:=by
 cases hg:gridOkB cols rows with
 | false=>rfl
 | true =>
  have:=((gridOk_iff cols rows).1 hg).2.2 i hi;rw [h] at this;cases this
def newR (cols n:Nat):List (List Ce):=List.replicate n (rowL cols St.zero)
theorem newR_snoc (cols n:Nat):newR cols (n+1)=newR cols n++[rowL cols St.zero]:=by unfold newR;rw [List.replicate_succ']
def moveR (cols:Nat) (rows:List (List Ce)) (a b:Nat) (n:Int) (s:St):List (List Ce) :=
 (List.range rows.length).map fun i=>if a<=i/\i<=b then (if (a:Int)<=i+n/\(i:Int)+n<=b then rows.getD ((i:Int)+n).toNat [] else rowL cols s) else rows.getD i []
open Go.ChangeShapes Go.WideShapes Go.ChangeAt Go.RowKit
def gridV (cols:Int) (v:Value):Value:=.agg #[.int .i64 cols,v]
def GrN (w:World) (B:Nat) (cols:Int) (v:Value):Prop:=B<w.heap.size/\w.cell? ⟨B,0,none⟩=some (.int .i64 cols)/\w.cell? ⟨B,1,none⟩=some v
theorem GrN.new (w:World) (cols:Int) (v:Value) (t:TypeId):GrN (w.alloc (.cells #[.int .i64 cols,v] t)) w.heap.size cols v:=⟨by simp,by simp [go_sem],by simp [go_sem]⟩
theorem GrN.below {w w':World} {B:Nat} {cols:Int} {v:Value} (h:GrN w B cols v) (hb:Below w.heap.size w w'):GrN w' B cols v :=
 ⟨Nat.lt_of_lt_of_le h.1 hb.size,(hb.cell (p:=⟨B,0,none⟩) h.1).trans h.2.1,(hb.cell (p:=⟨B,1,none⟩) h.1).trans h.2.2⟩
def GrW (w:World) (B:Nat) (cols:Int) (v:Value):Prop :=
 B<w.heap.size/\(w.cell? ⟨B,0,none⟩=some (.int .i64 cols)/\w.cell? ⟨B,1,none⟩=some v)/\(w.frozen? ⟨B,0,none⟩=false/\w.frozen? ⟨B,1,none⟩=false)
theorem GrW.grown {w w':World} {B:Nat} {cols:Int} {v:Value} {row:Option Nat} (h:GrW w B cols v) (hg:w.grownBy w' row) (hr:row≠some B):GrW w' B cols v:=by
 have hb:=hg.block B h.1 (Ne.symm hr);have hc:∀ k,w'.cell? ⟨B,k,none⟩=w.cell? ⟨B,k,none⟩:=fun k=>World.cell?_of_block (w:=w) hb
 have hz:∀ k,w'.frozen? ⟨B,k,none⟩=w.frozen? ⟨B,k,none⟩:=fun k=>World.frozen?_of_block (w:=w) hb
 refine ⟨Nat.lt_of_lt_of_le h.1 hg.size,?_,?_⟩
 ·rw [hc,hc];exact h.2.1
 ·rw [hz,hz];exact h.2.2
theorem GrW.below {w w':World} {B:Nat} {cols:Int} {v:Value} (h:GrW w B cols v) (hb:Below w.heap.size w w'):GrW w' B cols v:=h.grown (gbl hb none) (by simp)
theorem GrW.new (w:World) (cols:Int) (v:Value) (t:TypeId):GrW (w.alloc (.cells #[.int .i64 cols,v] t)) w.heap.size cols v :=
 ⟨by simp,⟨by simp [go_sem],by simp [go_sem]⟩,⟨by simp [go_sem],by simp [go_sem]⟩⟩
def putG (w:World) (B:Nat) (v:Value):World:=w.setCell ⟨B,1,none⟩ v
theorem putG_grown (w:World) (B:Nat) (v:Value):w.grownBy (putG w B v) (some B):=setCell_gr w B 1 _
theorem GrW.put {w:World} {B:Nat} {cols:Int} {v:Value} (h:GrW w B cols v) (v':Value):GrW (putG w B v') B cols v':=by
 obtain ⟨hlt,⟨c0,c1⟩,⟨z0,z1⟩⟩:=h;refine ⟨by simpa [putG] using hlt,⟨?_,?_⟩,⟨?_,?_⟩⟩
 all_goals simp only [putG]
 ·rw [setCell_ne' _ _ _ _ _ (by decide)];exact c0
 ·simp [go_sem,c1]
 ·simp [go_sem,z0]
 ·simp [go_sem,z1]
def putG2 (w:World) (B:Nat) (cols:Int) (v:Value):World:=(w.setCell ⟨B,0,none⟩ (.int .i64 cols)).setCell ⟨B,1,none⟩ v
theorem putG2_grown (w:World) (B:Nat) (cols:Int) (v:Value):w.grownBy (putG2 w B cols v) (some B):=grown_tr (setCell_gr w B 0 _) (setCell_gr _ B 1 _)
theorem GrW.put2 {w:World} {B:Nat} {cols:Int} {v:Value} (h:GrW w B cols v) (cols':Int) (v':Value):GrW (putG2 w B cols' v') B cols' v':=by
 obtain ⟨hlt,⟨c0,c1⟩,⟨z0,z1⟩⟩:=h;refine ⟨by simpa [putG2] using hlt,⟨?_,?_⟩,⟨?_,?_⟩⟩
 all_goals simp only [putG2]
 ·rw [setCell_ne' _ _ _ _ _ (by decide)];simp [go_sem,c0]
 ·simp [go_sem,c1]
 ·simp [go_sem,z0]
 ·simp [go_sem,z1]
theorem OwnG.kept {w w':World} {base B:Nat} {v:Value} {rows:List (List Ce)} {row:Option Nat} (h:OwnG w base B v rows) (hg:w.grownBy w' row) (hne:∀ g,row=some g->g<base):OwnG w' base B v rows:=by
 obtain ⟨vs,hl,ho,hr,hB,hd⟩:=h;refine ⟨vs,hl,World.ownsRow.kept ho hg ?_,fun i hi=>(hr i hi).kept hg ?_,hB,hd⟩
 ·cases hv:v.ownBlock with
  | none=>exact .inl rfl
  | some q=>right;intro e;have:=hne q e.symm;have:=(ho.lt q hv).1;omega
 ·cases hv:(rowV vs i).ownBlock with
  | none=>exact .inl rfl
  | some q=>right;intro e;have:=hne q e.symm;have:=((hr i hi).lt q hv).1;omega
theorem OwnG.lt {w:World} {base B:Nat} {v:Value} {rows:List (List Ce)} (h:OwnG w base B v rows):∀ g,v.ownBlock=some g->base<=g/\g<w.heap.size:=by
 obtain ⟨vs,hl,ho,_⟩:=h;exact fun g e=>ho.lt g e
theorem OwnG.up {w:World} {base B B':Nat} {v:Value} {rows:List (List Ce)} (h:OwnG w base B v rows) (hb:B<=B'):OwnG w base B' v rows:=by
 obtain ⟨vs,hl,ho,hr,hB,hd⟩:=h;exact ⟨vs,hl,ho,hr,fun i hi g e=>Nat.lt_of_lt_of_le (hB i hi g e) hb,hd⟩
theorem step_append_og {w:World} {ops:Array Oper} {o:Oper} {ac:Act} {K:Act->World->Prop} {Q:Exit->Act->World->Prop} {E:Prop} (hgd:o.guard=none) (s x:Operand)
  (ho:o.op=.call { callee:=.builtin .append,args:=#[s,x],argTypes:=#[24,24] })
  (base B:Nat) (v:Value) (rows:List (List Ce)) (r:Value) (xs:List Ce) (hs:ac.eval s=v) (k:OwnG w base B v rows) (hr:OwnC w base r xs) (hB:∀ g,r.ownBlock=some g->B<=g) (hb:base<=w.heap.size) (hl:rows.length<2000000)
  (g:Nat) (hg0:w.heap.size=g) (hx:ac.eval x=.slice (some ⟨g,0,none⟩) 1 1)
  (h:∀ v' w',OwnG w' base w'.heap.size v' (rows++[xs])->(w.alloc (.cells #[r] 120)).grownBy w' v.ownBlock->K (ac.put o.dst v') w') :
  if Region.wanted o (yielded ops ac.tmps)=true then Oper.wp Tryz.prog o ac (w.alloc (.cells #[r] 120)) K Q else E:=by
 have hw:Region.wanted o (yielded ops ac.tmps)=true:=by simp [Region.wanted,hgd]
 rw [if_pos hw]
 subst hg0;obtain ⟨i0,hi,hz0,hz1,hz2⟩:=info_parts info_row;obtain ⟨vs,hvl,hown,hrs,hlt,hd⟩:=k;have hba:=bal' w (Obj.cells #[r] 120);have hown2:=World.ownsRow.below hown hba;refine wp_append_own _ s x _ ho base 120 i0 (.slice none 0 0) 1 24 under_rows hi hz0 hz1 hz2 rfl (by decide) v rows.length vs hs hown2 ⟨w.heap.size,0,none⟩ 1 1 [r] hx rfl ?_ ?_ (by unfold maxLen;omega) (by omega) (by simp;omega) (fun v' w' ho' hg' _=>h v' w' (og_after hvl hown2 (fun i hi=>(hrs i hi).below hba) hlt hd (hr.below hba) hB ho' hg') hg')
 ·intro j u hj
  match j,hj with
  | 0,hj=>simp at hj;subst hj;simp [Addr.add,go_sem]
 ·intro u hu
  simp at hu;subst hu;rcases hr.shape with ⟨rfl,_⟩|⟨g,cap,rfl,_⟩<;>rfl
def GrB (lo hi:Nat) (w w':World):Prop:=w'.os=w.os/\w'.tape=w.tape/\w'.output=w.output/\w.heap.size<=w'.heap.size/\∀ k,k<w.heap.size->(k<lo\/hi<=k)->w'.heap[k]?=w.heap[k]?
theorem _root_.Go.World.ownsRow.gr {lo hi:Nat} {w w':World} {base:Nat} {e:TypeId} {size:Nat} {v:Value} {n:Nat} {xs:List Value} (h:w.ownsRow base e size v n xs) (hg:GrB lo hi w w') (hne:∀ g,v.ownBlock=some g->g<lo\/hi<=g):w'.ownsRow base e size v n xs:=by
 refine ⟨h.1,?_⟩;rcases h.2 with h2|⟨g,cap,cur,hv,hbg,hgg,r⟩
 ·exact .inl h2
 ·exact .inr ⟨g,cap,cur,hv,hbg,by rw [hg.2.2.2.2 g (Array.getElem?_eq_some_iff.1 hgg).1 (hne g (by rw [hv];rfl))];exact hgg,r⟩
def OwnV (w:World) (base B:Nat) (v:Value) (vs:List Value) (rows:List (List Ce)):Prop :=
 vs.length=rows.length/\w.ownsRow base 120 1 v rows.length vs/\(∀ i,i<rows.length->OwnC w base (rowV vs i) (rowX rows i)) /\
  (∀ i,i<rows.length->∀ g,(rowV vs i).ownBlock=some g->g<B)/\(∀ i j,i<j->j<rows.length->∀ g,(rowV vs i).ownBlock=some g->(rowV vs j).ownBlock≠some g)
theorem OwnG.v {w:World} {base B:Nat} {v:Value} {rows:List (List Ce)} (h:OwnG w base B v rows):∃ vs,OwnV w base B v vs rows:=h
theorem OwnV.g {w:World} {base B:Nat} {v:Value} {vs:List Value} {rows:List (List Ce)} (h:OwnV w base B v vs rows):OwnG w base B v rows:=⟨vs,h⟩
theorem OwnV.apart {w:World} {base B:Nat} {v:Value} {vs:List Value} {rows:List (List Ce)} (h:OwnV w base B v vs rows) {i j:Nat} (hi:i<rows.length) (hj:j<rows.length) (hij:i≠j):(rowV vs i).ownBlock=none\/(rowV vs i).ownBlock≠(rowV vs j).ownBlock:=by
 cases hv:(rowV vs i).ownBlock with
 | none=>exact .inl rfl
 | some g =>
  right
  intro e;rcases Nat.lt_or_gt_of_ne hij with c|c
  ·exact h.2.2.2.2 i j c hj g hv e.symm
  ·exact h.2.2.2.2 j i c hi g e.symm hv
theorem apart_comm {a b:Option Nat} (h:a=none\/a≠b):b=none\/b≠a:=by
 cases b with
 | none=>exact .inl rfl
 | some g=>right;intro e;rcases h with h|h<;>rw [<- e] at h<;>simp at h
theorem OwnV.below {w w':World} {base B:Nat} {v:Value} {vs:List Value} {rows:List (List Ce)} (h:OwnV w base B v vs rows) (hb:Below w.heap.size w w'):OwnV w' base B v vs rows :=
 ⟨h.1,World.ownsRow.below h.2.1 hb,fun i hi=>(h.2.2.1 i hi).below hb,h.2.2.2.1,h.2.2.2.2⟩
theorem OwnV.up {w:World} {base B B':Nat} {v:Value} {vs:List Value} {rows:List (List Ce)} (h:OwnV w base B v vs rows) (hb:B<=B'):OwnV w base B' v vs rows :=
 ⟨h.1,h.2.1,h.2.2.1,fun i hi g e=>Nat.lt_of_lt_of_le (h.2.2.2.1 i hi g e) hb,h.2.2.2.2⟩
theorem OwnV.rowset {w w':World} {base B:Nat} {v:Value} {vs:List Value} {rows:List (List Ce)} (h:OwnV w base B v vs rows) {j:Nat} (hj:j<rows.length) (ys:List Ce) (ho:OwnC w' base (rowV vs j) ys) (hg:w.grownBy w' (rowV vs j).ownBlock):OwnV w' base B v vs (rows.set j ys):=by
 have hx:∀ i,i<rows.length->rowX (rows.set j ys) i=if i=j then ys else rowX rows i:=fun i hi=>by
  unfold rowX
  by_cases e:i=j
  ·subst e;rw [if_pos rfl];simp [List.getD,hi]
  ·rw [if_neg e];simp [List.getD,Ne.symm e]
 refine ⟨by rw [List.length_set];exact h.1,?_,fun i hi=>?_,fun i hi=>?_,fun a b hab hb=>?_⟩
 ·rw [List.length_set]
  exact World.ownsRow.kept h.2.1 hg (apart_comm (outer_apart h.2.1 (h.2.2.1 j hj)))
 ·rw [List.length_set] at hi
  rw [hx i hi]
  by_cases e:i=j
  ·subst e;rw [if_pos rfl];exact ho
  ·rw [if_neg e];exact (h.2.2.1 i hi).kept hg (h.apart hi hj e)
 ·rw [List.length_set] at hi;exact h.2.2.2.1 i hi
 ·rw [List.length_set] at hb;exact h.2.2.2.2 a b hab hb
theorem OwnV.shape {w:World} {base B:Nat} {v:Value} {vs:List Value} {rows:List (List Ce)} (h:OwnV w base B v vs rows):(v=.slice none 0 0/\rows=[])\/∃ g cap,v=.slice (some ⟨g,0,none⟩) rows.length cap/\base<=g/\g<w.heap.size/\rows.length<=cap:=h.g.shape
theorem OwnV.cell {w:World} {base B g n cap:Nat} {vs:List Value} {rows:List (List Ce)} (h:OwnV w base B (.slice (some ⟨g,0,none⟩) n cap) vs rows) (hn:rows.length=n) (i:Nat) (hi:i<n):w.cell? ⟨g,i,none⟩=some (rowV vs i):=by
 subst hn;rw [World.ownsRow.cellAt h.2.1 i (by have:=h.1;omega),rowV_get (by have:=h.1;omega)]
theorem OwnV.frozen {w:World} {base B g n cap:Nat} {vs:List Value} {rows:List (List Ce)} (h:OwnV w base B (.slice (some ⟨g,0,none⟩) n cap) vs rows) (hn:rows.length=n) (i:Nat):w.frozen? ⟨g,i,none⟩=false:=by
 subst hn;exact World.ownsRow.frozenAt h.2.1 i
def OwnR (w:World) (lo hi:Nat) (v:Value) (rows:List (List Ce)):Prop:=OwnG w lo hi v rows/\(∀ g,v.ownBlock=some g->g<hi)/\hi<=w.heap.size
theorem OwnR.of {w:World} {lo:Nat} {v:Value} {rows:List (List Ce)} (h:OwnG w lo w.heap.size v rows):OwnR w lo w.heap.size v rows:=⟨h,fun g e=>(h.lt g e).2,Nat.le_refl _⟩
theorem OwnR.below {base B:Nat} {w w':World} {v:Value} {rows:List (List Ce)} (h:OwnR w base B v rows) (hb:Below w.heap.size w w'):OwnR w' base B v rows:=⟨h.1.below hb,h.2.1,Nat.le_trans h.2.2 hb.size⟩
theorem OwnR.sl {base B:Nat} {w:World} {v:Value} {rows:List (List Ce)} (h:OwnR w base B v rows):SlG w v rows:=SlG.of_own h.1
def genR (n:Nat) (f:Nat->List Ce):List (List Ce):=(List.range n).map f
theorem genR_len (n:Nat) (f:Nat->List Ce):(genR n f).length=n:=by simp [genR]
theorem genR_at (n:Nat) (f:Nat->List Ce) (i:Nat) (h:i<n):rowX (genR n f) i=f i:=by
 rw [rowX_lt (by rw [genR_len];exact h)]
 simp [genR]
theorem ext_rowX (a b:List (List Ce)) (hl:a.length=b.length) (h:∀ i,i<a.length->rowX a i=rowX b i):a=b:=by
 apply List.ext_getElem hl
 intro i h1 h2;rw [<- rowX_lt h1,<- rowX_lt h2]
 exact h i h1
theorem rowX_set' {rows:List (List Ce)} {j:Nat} (hj:j<rows.length) (ys:List Ce) (i:Nat):rowX (rows.set j ys) i=if i=j then ys else rowX rows i:=by
 unfold rowX
 by_cases e:i=j
 ·subst e;rw [if_pos rfl];simp [List.getD,hj]
 ·rw [if_neg e];simp [List.getD,Ne.symm e]
def genV (n:Nat) (f:Nat->Value):List Value:=(List.range n).map f
theorem genV_len (n:Nat) (f:Nat->Value):(genV n f).length=n:=by simp [genV]
theorem genV_at (n:Nat) (f:Nat->Value) (i:Nat) (h:i<n):rowV (genV n f) i=f i:=by
 rw [rowV_lt (by rw [genV_len];exact h)]
 simp [genV]
theorem ext_rowV (a b:List Value) (hl:a.length=b.length) (h:∀ i,i<a.length->rowV a i=rowV b i):a=b:=by
 apply List.ext_getElem hl
 intro i h1 h2;rw [<- rowV_lt h1,<- rowV_lt h2]
 exact h i h1
theorem rowV_setV {vs:List Value} {j:Nat} (hj:j<vs.length) (r:Value) (i:Nat):rowV (vs.set j r) i=if i=j then r else rowV vs i:=by
 unfold rowV
 by_cases e:i=j
 ·subst e;rw [if_pos rfl];simp [List.getD,hj]
 ·rw [if_neg e];simp [List.getD,Ne.symm e]
theorem OwnV.mixed {w w':World} {base B:Nat} {v:Value} {vs:List Value} {rows:List (List Ce)} (h:OwnV w base B v vs rows) (σ:Nat->Option Nat) (vs':List Value) (rows':List (List Ce))
  (hl:vs'.length=rows'.length) (hn:rows'.length=rows.length) (ho:w'.ownsRow base 120 1 v rows.length vs')
  (hkeep:∀ p,p<rows.length->OwnC w' base (rowV vs p) (rowX rows p))
  (hold:∀ i p,i<rows.length->σ i=some p->p<rows.length/\rowV vs' i=rowV vs p/\rowX rows' i=rowX rows p)
  (hinj:∀ i j p,i<j->j<rows.length->σ i=some p->σ j=some p->False)
  (hnew:∀ i,i<rows.length->σ i=none->OwnC w' base (rowV vs' i) (rowX rows' i)/\∀ g,(rowV vs' i).ownBlock=some g->B<=g)
  (hnd:∀ i j,i<j->j<rows.length->σ i=none->σ j=none->∀ g,(rowV vs' i).ownBlock=some g->(rowV vs' j).ownBlock≠some g) :
  OwnV w' base w'.heap.size v vs' rows':=by
 have hrow:∀ i,i<rows.length->OwnC w' base (rowV vs' i) (rowX rows' i):=fun i hi=>by
  cases e:σ i with
  | none=>exact (hnew i hi e).1
  | some p=>obtain ⟨hp,e1,e2⟩:=hold i p hi e;rw [e1,e2];exact hkeep p hp
 refine ⟨hl,by rw [hn];exact ho,fun i hi=>hrow i (by omega),fun i hi g e=>((hrow i (by omega)).lt g e).2,fun i j hij hj g e1 e2=>?_⟩;rw [hn] at hj
 cases ei:σ i with
 | none =>
  cases ej:σ j with
  | none=>exact hnd i j hij hj ei ej g e1 e2
  | some q =>
   obtain ⟨hq,eq1,_⟩:=hold j q hj ej;rw [eq1] at e2
   have:=h.2.2.2.1 q hq g e2;have:=(hnew i (by omega) ei).2 g e1;omega
 | some p =>
  obtain ⟨hp,ep1,_⟩:=hold i p (by omega) ei;rw [ep1] at e1
  cases ej:σ j with
  | none =>
   have:=h.2.2.2.1 p hp g e1;have:=(hnew j hj ej).2 g e2;omega
  | some q =>
   obtain ⟨hq,eq1,_⟩:=hold j q hj ej;rw [eq1] at e2
   rcases Nat.lt_trichotomy p q with c|c|c
   ·exact h.2.2.2.2 p q c hq g e1 e2
   ·subst c;exact hinj i j p hij hj ei ej
   ·exact h.2.2.2.2 q p c hp g e2 e1
def Gat (w:World) (base:Nat) (vs:List Value) (X:List Ce) (σ:Nat->Option Nat) (us:List Value):Prop :=
 (∀ k p,k<us.length->σ k=some p->rowV us k=rowV vs p)/\(∀ k,k<us.length->σ k=none->OwnC w base (rowV us k) X) /\
 (∀ k l,k<l->l<us.length->σ k=none->σ l=none->∀ g,(rowV us k).ownBlock=some g->(rowV us l).ownBlock≠some g)
theorem Gat.nil (w:World) (base:Nat) (vs:List Value) (X:List Ce) (σ:Nat->Option Nat):Gat w base vs X σ [] :=
 ⟨fun k _ h=>absurd h (Nat.not_lt_zero k),fun k h=>absurd h (Nat.not_lt_zero k),fun _ l _ h=>absurd h (Nat.not_lt_zero l)⟩
theorem Gat.below {w w':World} {base:Nat} {vs:List Value} {X:List Ce} {σ:Nat->Option Nat} {us:List Value} (h:Gat w base vs X σ us) (hb:Below w.heap.size w w'):Gat w' base vs X σ us :=
 ⟨h.1,fun k hk e=>(h.2.1 k hk e).below hb,h.2.2⟩
theorem Gat.kept {w w':World} {base base2 n:Nat} {v:Value} {ys vs:List Value} {X:List Ce} {σ:Nat->Option Nat} {us:List Value} (h:Gat w base vs X σ us) (ho:w.ownsRow base2 120 1 v n ys) (hg:w.grownBy w' v.ownBlock):Gat w' base vs X σ us :=
 ⟨h.1,fun k hk e=>(h.2.1 k hk e).kept hg (outer_apart ho (h.2.1 k hk e)),h.2.2⟩
theorem Gat.old {w:World} {base:Nat} {vs:List Value} {X:List Ce} {σ:Nat->Option Nat} {us:List Value} (h:Gat w base vs X σ us) (p:Nat) (e:σ us.length=some p):Gat w base vs X σ (us++[rowV vs p]):=by
 refine ⟨fun k q hk e2=>?_,fun k hk e2=>?_,fun k l hkl hl e1 e2=>?_⟩
 ·rw [List.length_append,List.length_singleton] at hk
  rw [rowV_snoc]
  by_cases c:k<us.length
  ·rw [if_pos c];exact h.1 k q c e2
  ·have:k=us.length:=by omega
   subst this;rw [if_neg c,if_pos rfl]
   rw [e] at e2;cases e2;rfl
 ·rw [List.length_append,List.length_singleton] at hk
  rw [rowV_snoc]
  by_cases c:k<us.length
  ·rw [if_pos c];exact h.2.1 k c e2
  ·have:k=us.length:=by omega
   subst this;rw [e] at e2;cases e2
 ·rw [List.length_append,List.length_singleton] at hl
  have c:l<us.length:=by
   apply Nat.lt_of_not_le;intro c
   have:l=us.length:=by omega
   subst this;rw [e] at e2;cases e2
  rw [rowV_snoc,rowV_snoc,if_pos c,if_pos (by omega)]
  exact h.2.2 k l hkl c e1 e2
theorem Gat.new {w w':World} {base:Nat} {vs:List Value} {X:List Ce} {σ:Nat->Option Nat} {us:List Value} (h:Gat w base vs X σ us) (e:σ us.length=none) (hb:Below w.heap.size w w') (r:Value) (hr:OwnC w' w.heap.size r X) (hbase:base<=w.heap.size):Gat w' base vs X σ (us++[r]):=by
 have h2:=h.below hb;refine ⟨fun k q hk e2=>?_,fun k hk e2=>?_,fun k l hkl hl e1 e2=>?_⟩
 ·rw [List.length_append,List.length_singleton] at hk
  rw [rowV_snoc]
  by_cases c:k<us.length
  ·rw [if_pos c];exact h.1 k q c e2
  ·have:k=us.length:=by omega
   subst this;rw [e] at e2;cases e2
 ·rw [List.length_append,List.length_singleton] at hk
  rw [rowV_snoc]
  by_cases c:k<us.length
  ·rw [if_pos c];exact h2.2.1 k c e2
  ·rw [if_neg c,if_pos (by omega)]
   exact hr.low hbase
 ·rw [List.length_append,List.length_singleton] at hl
  rw [rowV_snoc,rowV_snoc,if_pos (show k<us.length by omega)]
  by_cases c:l<us.length
  ·rw [if_pos c];exact h.2.2 k l hkl c e1 e2
  ·rw [if_neg c,if_pos (by omega)]
   intro g g1 g2;have:=((h.2.1 k (by omega) e1).lt g g1).2;have:=(hr.lt g g2).1;omega
def AreSl (vs:List Value):Prop:=∀ i,i<vs.length->∃ a n c,rowV vs i=Value.slice a n c
theorem OwnC.isSl {w:World} {base:Nat} {v:Value} {xs:List Ce} (h:OwnC w base v xs):∃ a n c,v=Value.slice a n c:=by
 rcases h.shape with ⟨h,_⟩|⟨_,_,h,_⟩<;>exact ⟨_,_,_,h⟩
theorem OwnV.areSl {w:World} {base B:Nat} {v:Value} {vs:List Value} {rows:List (List Ce)} (h:OwnV w base B v vs rows):AreSl vs:=fun i hi=>(h.2.2.1 i (by rw [<- h.1];exact hi)).isSl
theorem Gat.areSl {w:World} {base:Nat} {vs:List Value} {X:List Ce} {σ:Nat->Option Nat} {us:List Value} (h:Gat w base vs X σ us) (hv:AreSl vs) (hp:∀ k p,k<us.length->σ k=some p->p<vs.length):AreSl us:=fun k hk=>by
 cases e:σ k with
 | none=>exact (h.2.1 k hk e).isSl
 | some p=>rw [h.1 k p hk e];exact hv p (hp k p hk e)
theorem append_ov {w:World} {ops:Array Oper} {rest:List Oper} {o:Oper} {ac:Act} {Q:Exit->Act->World->Prop} (hgd:o.guard=none) (s x:Operand)
  (ho:o.op=.call { callee:=.builtin .append,args:=#[s,x],argTypes:=#[24,24] })
  (base n:Nat) (v:Value) (us:List Value) (r:Value) (hs:ac.eval s=v) (k:w.ownsRow base 120 1 v n us) (hr:∃ a n c,r=Value.slice a n c) (hb:base<=w.heap.size) (hl:n<2000000)
  (g:Nat) (hg0:w.heap.size=g) (hx:ac.eval x=.slice (some ⟨g,0,none⟩) 1 1)
  (h:∀ v' w',w'.ownsRow base 120 1 v' (n+1) (us++[r])->(w.alloc (.cells #[r] 120)).grownBy w' v.ownBlock->wpList Tryz.prog ops Q rest (ac.put o.dst v') w') :
  wpList Tryz.prog ops Q (o::rest) ac (w.alloc (.cells #[r] 120)):=by
 subst hg0;obtain ⟨i0,hi,hz0,hz1,hz2⟩:=info_parts info_row;have hba:=bal' w (Obj.cells #[r] 120);have hown2:=World.ownsRow.below k hba;obtain ⟨ra,rn,rc,rfl⟩:=hr;refine wpList_append_own _ hgd s x _ ho base 120 i0 (.slice none 0 0) 1 24 under_rows hi hz0 hz1 hz2 rfl (by decide) v n us hs hown2 ⟨w.heap.size,0,none⟩ 1 1 [_] hx rfl ?_ ?_ (by unfold maxLen;omega) (by omega) (by simp;omega) (fun v' w' ho' hg' _=>h v' w' ho' hg')
 ·intro j u hj
  match j,hj with
  | 0,hj=>simp at hj;subst hj;simp [Addr.add,go_sem]
 ·intro u hu
  simp at hu;subst hu
  rfl
theorem step_append_ov {w:World} {ops:Array Oper} {o:Oper} {ac:Act} {K:Act->World->Prop} {Q:Exit->Act->World->Prop} {E:Prop} (hgd:o.guard=none) (s x:Operand)
  (ho:o.op=.call { callee:=.builtin .append,args:=#[s,x],argTypes:=#[24,24] })
  (base n:Nat) (v:Value) (us:List Value) (r:Value) (hs:ac.eval s=v) (k:w.ownsRow base 120 1 v n us) (hr:∃ a n c,r=Value.slice a n c) (hb:base<=w.heap.size) (hl:n<2000000)
  (g:Nat) (hg0:w.heap.size=g) (hx:ac.eval x=.slice (some ⟨g,0,none⟩) 1 1)
  (h:∀ v' w',w'.ownsRow base 120 1 v' (n+1) (us++[r])->(w.alloc (.cells #[r] 120)).grownBy w' v.ownBlock->K (ac.put o.dst v') w') :
  if Region.wanted o (yielded ops ac.tmps)=true then Oper.wp Tryz.prog o ac (w.alloc (.cells #[r] 120)) K Q else E:=by
 have hw:Region.wanted o (yielded ops ac.tmps)=true:=by simp [Region.wanted,hgd]
 rw [if_pos hw]
 subst hg0;obtain ⟨i0,hi,hz0,hz1,hz2⟩:=info_parts info_row;have hba:=bal' w (Obj.cells #[r] 120);have hown2:=World.ownsRow.below k hba;obtain ⟨ra,rn,rc,rfl⟩:=hr;refine wp_append_own _ s x _ ho base 120 i0 (.slice none 0 0) 1 24 under_rows hi hz0 hz1 hz2 rfl (by decide) v n us hs hown2 ⟨w.heap.size,0,none⟩ 1 1 [_] hx rfl ?_ ?_ (by unfold maxLen;omega) (by omega) (by simp;omega) (fun v' w' ho' hg' _=>h v' w' ho' hg')
 ·intro j u hj
  match j,hj with
  | 0,hj=>simp at hj;subst hj;simp [Addr.add,go_sem]
 ·intro u hu
  simp at hu;subst hu
  rfl
end Go.Proofs.YtgcnmjjlmcnllaaGreatDoor
namespace Go.Proofs.YtgcnmjjlmcnllaaGreatDoor
set_option maxRecDepth 20000
set_option maxHeartbeats 16000000
structure Pa where
 state:Int
 params:List Int
 mark:Int
 text:List Int
structure Ac where
 kind:Int
 rune:Int
 params:List Int
 mark:Int
 text:List Int
def takes (ps:List Int) (m r:Int):Bool:=decide (r=63/\ps.length=0/\m=0\/48<=r/\r<=57\/r=59)
def stays (r:Int):Bool:=decide ((r<32\/r=127)/\r≠-1/\r≠24/\r≠26/\r≠27)
def runesB (l:List Int):Bool:=l.all runeOk
def paramsB (l:List Int):Bool:=l.all (fun x=>decide (0<=x/\x<=9999))
def okV (p:Pa):Bool:=decide (1<=p.state/\p.state<=5/\p.params.length<=16/\(p.mark=0\/p.mark=63)/\p.text.length<=40/\(p.state=3\/p.params.length=0/\p.mark=0)/\(4<=p.state\/p.text.length=0)) && runesB p.text && paramsB p.params
theorem runesB_at {l:List Int} (h:runesB l=true) (i:Nat) (hi:i<l.length):runeOk (l.getD i 0)=true:=by
 have:l.getD i 0=l[i]:=by simp [List.getD,hi]
 rw [this];exact List.all_eq_true.1 h _ (List.getElem_mem hi)
theorem runesB_no {l:List Int} (i:Nat) (hi:i<l.length) (h:runeOk (l.getD i 0)=false):runesB l=false:=by
 rw [Bool.eq_false_iff];intro hh
 rw [runesB_at hh i hi] at h;cases h
theorem runesB_yes {l:List Int} (h:∀ i,i<l.length->runeOk (l.getD i 0)=true):runesB l=true:=by
 refine List.all_eq_true.2 fun x hx=>?_
 obtain ⟨i,hi,rfl⟩:=List.getElem_of_mem hx;have:=h i hi
 simpa [List.getD,hi] using this
theorem paramsB_at {l:List Int} (h:paramsB l=true) (i:Nat) (hi:i<l.length):0<=l.getD i 0/\l.getD i 0<=9999:=by
 have:l.getD i 0=l[i]:=by simp [List.getD,hi]
 rw [this];exact of_decide_eq_true (List.all_eq_true.1 h _ (List.getElem_mem hi))
theorem paramsB_no {l:List Int} (i:Nat) (hi:i<l.length) (h:¬ (0<=l.getD i 0/\l.getD i 0<=9999)):paramsB l=false:=by
 rw [Bool.eq_false_iff];intro hh
 exact h (paramsB_at hh i hi)
theorem paramsB_yes {l:List Int} (h:∀ i,i<l.length->0<=l.getD i 0/\l.getD i 0<=9999):paramsB l=true:=by
 refine List.all_eq_true.2 fun x hx=>decide_eq_true ?_
 obtain ⟨i,hi,rfl⟩:=List.getElem_of_mem hx;have:=h i hi
 simpa [List.getD,hi] using this
open Go.ChangeShapes Go.WideShapes Go.ChangeAt Go.RowKit
theorem own_low' {w:World} {base base':Nat} {e:TypeId} {size:Nat} {v:Value} {n:Nat} {xs:List Value} (h:w.ownsRow base e size v n xs) (hb:base'<=base):w.ownsRow base' e size v n xs:=by
 refine ⟨h.1,?_⟩;rcases h.2 with h2|⟨g,cap,cur,hv,hbg,r⟩
 ·exact .inl h2
 ·exact .inr ⟨g,cap,cur,hv,Nat.le_trans hb hbg,r⟩
def OwnI (w:World) (base:Nat) (v:Value) (xs:List Int):Prop:=w.ownsRow base 2 1 v xs.length (xs.map (Value.int .i64))
theorem OwnI.below {w w':World} {base:Nat} {v:Value} {xs:List Int} (h:OwnI w base v xs) (hb:Below w.heap.size w w'):OwnI w' base v xs:=World.ownsRow.below h hb
theorem OwnI.kept {w w':World} {base:Nat} {v:Value} {xs:List Int} {row:Option Nat} (h:OwnI w base v xs) (hg:w.grownBy w' row) (hne:v.ownBlock=none\/v.ownBlock≠row):OwnI w' base v xs:=World.ownsRow.kept (show w.ownsRow _ _ _ _ _ _ from h) hg hne
theorem OwnI.low {w:World} {base base':Nat} {v:Value} {xs:List Int} (h:OwnI w base v xs) (hb:base'<=base):OwnI w base' v xs:=own_low' h hb
theorem OwnI.lt {w:World} {base:Nat} {v:Value} {xs:List Int} (h:OwnI w base v xs):∀ g,v.ownBlock=some g->base<=g/\g<w.heap.size:=fun g e=>World.ownsRow.lt h g e
theorem OwnI.sl {w:World} {base:Nat} {v:Value} {xs:List Int} (h:OwnI w base v xs):SlI w v xs:=SlI.of_own h
theorem OwnI.shape {w:World} {base:Nat} {v:Value} {xs:List Int} (h:OwnI w base v xs):∃ a n c,v=.slice a n c:=by
 obtain ⟨a,c,hv,_⟩:=h.sl;exact ⟨a,_,c,hv⟩
theorem ownI_nil (w:World) (base:Nat):OwnI w base (.slice none 0 0) []:=World.ownsRow_nil _ _ _ _
def ApV (u v:Value):Prop:=∀ g,u.ownBlock=some g->v.ownBlock≠some g
theorem ApV.symm {u v:Value} (h:ApV u v):ApV v u:=fun g e1 e2=>h g e2 e1
theorem ApV.nil_l (v:Value):ApV (.slice none 0 0) v:=fun g e=>by simp [Value.ownBlock] at e
theorem ApV.ne {u v:Value} (h:ApV u v):u.ownBlock=none\/u.ownBlock≠v.ownBlock:=by
 cases hu:u.ownBlock with
 | none=>exact .inl rfl
 | some g=>right;intro e;exact h g hu e.symm
def LiOk (w:World) (base:Nat) (L:List (Value×List Int)):Prop:=(∀ p∈L,OwnI w base p.1 p.2)/\L.Pairwise fun p q=>ApV p.1 q.1
theorem LiOk.below {w w':World} {base:Nat} {L:List (Value×List Int)} (h:LiOk w base L) (hb:Below w.heap.size w w'):LiOk w' base L:=⟨fun p hp=>(h.1 p hp).below hb,h.2⟩
theorem LiOk.low {w:World} {base base':Nat} {L:List (Value×List Int)} (h:LiOk w base L) (hb:base'<=base):LiOk w base' L:=⟨fun p hp=>(h.1 p hp).low hb,h.2⟩
theorem LiOk.perm {w:World} {base:Nat} {L M:List (Value×List Int)} (h:LiOk w base L) (hp:L.Perm M):LiOk w base M :=
 ⟨fun _ hm=>h.1 _ (hp.mem_iff.2 hm),(hp.pairwise_iff (fun {_ _} h=>ApV.symm h)).1 h.2⟩
theorem LiOk.sub {w:World} {base:Nat} {L M:List (Value×List Int)} (h:LiOk w base L) (hp:M.Sublist L):LiOk w base M :=
 ⟨fun _ hm=>h.1 _ (hp.subset hm),h.2.sublist hp⟩
theorem LiOk.nil (w:World) (base:Nat):LiOk w base []:=⟨fun _ h=>absurd h (List.not_mem_nil),List.Pairwise.nil⟩
theorem LiOk.tail {w:World} {base:Nat} {x:Value×List Int} {L:List (Value×List Int)} (h:LiOk w base (x::L)):LiOk w base L:=h.sub (List.sublist_cons_self _ _)
theorem LiOk.head {w:World} {base:Nat} {x:Value×List Int} {L:List (Value×List Int)} (h:LiOk w base (x::L)):OwnI w base x.1 x.2:=h.1 x (List.mem_cons_self)
theorem LiOk.nilc {w:World} {base:Nat} {L:List (Value×List Int)} (h:LiOk w base L):LiOk w base ((.slice none 0 0,[])::L) :=
 ⟨fun p hp=>by
  rcases List.mem_cons.1 hp with rfl|hp
  ·exact ownI_nil _ _
  ·exact h.1 p hp,List.Pairwise.cons (fun q _=>ApV.nil_l _) h.2⟩
theorem LiOk.new {w w':World} {base:Nat} {L:List (Value×List Int)} (h:LiOk w base L) (hb:Below w.heap.size w w') {v:Value} {xs:List Int} (ho:OwnI w' base v xs) (hn:∀ g,v.ownBlock=some g->w.heap.size<=g):LiOk w' base ((v,xs)::L) :=
 ⟨fun p hp=>by
  rcases List.mem_cons.1 hp with rfl|hp
  ·exact ho
  ·exact (h.1 p hp).below hb,List.Pairwise.cons (fun q hq g e1 e2=>by have:=hn g e1;have:=((h.1 q hq).lt g e2).2;omega) h.2⟩
theorem LiOk.grow {w w':World} {base:Nat} {v v':Value} {xs ys:List Int} {L:List (Value×List Int)} (h:LiOk w base ((v,xs)::L)) (hg:w.grownBy w' v.ownBlock) (ho:OwnI w' base v' ys) (hat:∀ g,v'.ownBlock=some g->v.ownBlock=some g\/w.heap.size<=g):LiOk w' base ((v',ys)::L):=by
 have hp:=List.pairwise_cons.1 h.2;refine ⟨fun p hm=>?_,List.Pairwise.cons (fun q hq g e1 e2=>?_) hp.2⟩
 ·rcases List.mem_cons.1 hm with rfl|hm
  ·exact ho
  ·exact (h.1 p (List.mem_cons_of_mem _ hm)).kept hg ((hp.1 p hm).symm.ne)
 ·rcases hat g e1 with e|e
  ·exact hp.1 q hq g e e2
  ·have:=((h.1 q (List.mem_cons_of_mem _ hq)).lt g e2).2;omega
theorem LiOk.kept {w w':World} {base:Nat} {L:List (Value×List Int)} {row:Option Nat} (h:LiOk w base L) (hg:w.grownBy w' row) (hne:∀ p∈L,p.1.ownBlock=none\/p.1.ownBlock≠row):LiOk w' base L :=
 ⟨fun p hp=>(h.1 p hp).kept hg (hne p hp),h.2⟩
theorem OwnI.not_block {w:World} {base:Nat} {v:Value} {xs:List Int} (h:OwnI w base v xs) {B:Nat} {cs:Array Value} {t:TypeId} {fr:Nat×Nat} (hB:w.heap[B]?=some (.cells cs t fr)) (ht:t≠2):v.ownBlock≠some B:=by
 intro e;rcases h.2 with ⟨hv,_⟩|⟨g,cap,cur,hv,_,hg,_⟩
 ·rw [hv] at e;simp [Value.ownBlock] at e
 ·rw [hv] at e
  simp only [Value.ownBlock,Option.some.injEq] at e;subst e;rw [hB] at hg
  simp only [Option.some.injEq,Obj.cells.injEq] at hg;exact ht hg.2.1

structure Ax where
 a:Ac
 pv:Value
 tv:Value
def axV (x:Ax):Value:=.agg #[.int .i64 x.a.kind,.int .i64 x.a.rune,x.pv,.int .i64 x.a.mark,x.tv]
def paV (p:Pa) (pv tv:Value):Value:=.agg #[.int .i64 p.state,pv,.int .i64 p.mark,tv]
def PaC (w:World) (B:Nat) (s:Int) (pv:Value) (m:Int) (tv:Value):Prop :=
 B<w.heap.size/\(w.cell? ⟨B,0,none⟩=some (.int .i64 s)/\w.cell? ⟨B,1,none⟩=some pv/\w.cell? ⟨B,2,none⟩=some (.int .i64 m)/\w.cell? ⟨B,3,none⟩=some tv) /\
  (w.frozen? ⟨B,0,none⟩=false/\w.frozen? ⟨B,1,none⟩=false/\w.frozen? ⟨B,2,none⟩=false/\w.frozen? ⟨B,3,none⟩=false)
theorem PaC.grown {w w':World} {B:Nat} {s m:Int} {pv tv:Value} {row:Option Nat} (h:PaC w B s pv m tv) (hg:w.grownBy w' row) (hr:row≠some B):PaC w' B s pv m tv:=by
 have hb:=hg.block B h.1 (Ne.symm hr);have hc:∀ k,w'.cell? ⟨B,k,none⟩=w.cell? ⟨B,k,none⟩:=fun k=>World.cell?_of_block (w:=w) hb
 have hz:∀ k,w'.frozen? ⟨B,k,none⟩=w.frozen? ⟨B,k,none⟩:=fun k=>World.frozen?_of_block (w:=w) hb
 refine ⟨Nat.lt_of_lt_of_le h.1 hg.size,?_,?_⟩
 ·rw [hc,hc,hc,hc];exact h.2.1
 ·rw [hz,hz,hz,hz];exact h.2.2
theorem PaC.below {w w':World} {B:Nat} {s m:Int} {pv tv:Value} (h:PaC w B s pv m tv) (hb:Below w.heap.size w w'):PaC w' B s pv m tv:=h.grown (gbl hb none) (by simp)
theorem PaC.new (w:World) (s m:Int) (pv tv:Value) (t:TypeId):PaC (w.alloc (.cells #[.int .i64 s,pv,.int .i64 m,tv] t)) w.heap.size s pv m tv :=
 ⟨by simp,⟨by simp [go_sem],by simp [go_sem],by simp [go_sem],by simp [go_sem]⟩,⟨by simp [go_sem],by simp [go_sem],by simp [go_sem],by simp [go_sem]⟩⟩
theorem implRuneOk_any (r:Int) (w:World) :
  Calls Tryz.prog 119 #[.int .i64 r] w fun e w'=>e=.returned (.bool (runeOk r))/\w'=w:=by
 go_enter Tryz.func119,Tryz.ntmps119;go_wp2
 all_goals
  go_ret;exact ⟨ret_bool (runeOk_is _ _ (by simp<;>omega)),rfl⟩

theorem specRuneOk_any (r:Int) (w:World) :
  Calls Tryz.prog 140 #[.int .i64 r] w fun e w'=>e=.returned (.bool (runeOk r))/\w'=w:=by
 go_enter Tryz.func140,Tryz.ntmps140;go_wp2_with (go_at_call 73;refine (l1In_any _ _ _ _).mono ?_;rintro e w' ⟨rfl,rfl⟩)
 all_goals
  go_ret;exact ⟨ret_bool (runeOk_is _ _ (by simp<;>omega)),rfl⟩

theorem SlI.cons {w:World} {v:Value} {xs:List Int} (h:SlI w v xs):∃ a c,v=.slice a xs.length c/\∀ j,j<xs.length->∃ b off,a=some ⟨b,off,none⟩/\w.cell? ⟨b,off+j,none⟩=some (.int .i64 (xs.getD j 0)):=by
 obtain ⟨a,c,hv,h|⟨b,off,ha,hlt,hc⟩⟩:=h
 ·exact ⟨a,c,hv,fun j hj=>by rw [h] at hj;simp at hj⟩
 ·exact ⟨a,c,hv,fun j hj=>⟨b,off,ha,hc j hj⟩⟩
theorem SlI.shp {w:World} {v:Value} {xs:List Int} (h:SlI w v xs):∃ a c,v=.slice a xs.length c:=by
 obtain ⟨a,c,hv,_⟩:=h;exact ⟨a,c,hv⟩
theorem specRunes6_any (v:Value) (xs:List Int) (most:Nat) (w:World) (hv:SlI w v xs) (_hl:xs.length<=1073741824) (_hm:most<=1073741824) :
  Calls Tryz.prog 75 #[v,.int .i64 most] w fun e w'=>e=.returned (.bool (decide (xs.length<=most) && runesB xs))/\w'=w:=by
 obtain ⟨a,c,rfl,hc⟩:=hv.cons;clear hv
 by_cases h:most<xs.length
 ·have hi:(most:Int)<(xs.length:Int):=by omega
  have hV:Hid ((decide (xs.length<=most) && runesB xs)=false):=by show _=_;rw [decide_eq_false (by omega),Bool.false_and]
  clear hc;go_enter Tryz.func75,Tryz.ntmps75;go_wp2;go_ret;exact ⟨by rw [hV.out];rfl,rfl⟩
 ·have hi:¬ (most:Int)<(xs.length:Int):=by omega
  have hV:Hid ((decide (xs.length<=most) && runesB xs)=runesB xs):=by show _=_;rw [decide_eq_true (by omega),Bool.true_and]
  rw [hV.out]
  clear hV;go_enter Tryz.func75,Tryz.ntmps75;go_wp2;go_loop [5] (fun i=>∃ j:Nat,i=.int .i64 j/\j<=xs.length/\Hid (∀ k,k<j->runeOk (xs.getD k 0)=true)) (fun i=>xs.length-(intOf i).toNat)
  case atStart=>exact ⟨0,rfl,Nat.zero_le _,(fun k hk=>absurd hk (Nat.not_lt_zero k))⟩
  case round =>
   obtain ⟨j,rfl,hj,hall⟩:=hrel
   by_cases hlt:j<xs.length
   ·have hji:(j:Int)<(xs.length:Int):=by omega
    have hj0:(0:Int)<=(j:Int):=by omega
    obtain ⟨b,off,rfl,hcj⟩:=hc j hlt;have hno:runeOk (xs.getD j 0)=false->Hid (runesB xs=false):=fun h=>runesB_no j hlt h
    have hstep:runeOk (xs.getD j 0)=true->Hid (∀ k,k<j+1->runeOk (xs.getD k 0)=true):=fun h=>(show ∀ k,k<j+1->runeOk (xs.getD k 0)=true from fun k hk=>by
     by_cases e:k=j
     ·rw [e];exact h
     ·exact hall.out k (by omega))
    have hok:=specRuneOk_any (xs.getD j 0) w;clear hc hall;generalize xs.getD j 0=x at *;generalize runeOk x=ok at *;go_wp2_with fail;refine hok.mono ?_;rintro e w2 ⟨rfl,hw⟩;subst hw;clear hok
    cases ok
    ·have hV:=hno rfl
     clear hno hstep;go_wp2;go_ret;exact ⟨by rw [hV.out];rfl,rfl⟩
    ·have hall2:=hstep rfl
     clear hno hstep;go_wp2;go_round
     case rel=>exact ⟨j+1,by go_num,by omega,hall2⟩
     case measure=>simp [intOf];omega
   ·have hjn:j=xs.length:=by omega
    have hji:¬ (j:Int)<(xs.length:Int):=by omega
    have hV:Hid (runesB xs=true):=runesB_yes (by rw [<- hjn];exact hall.out);clear hc hall;subst hjn;go_wp2;go_ret;exact ⟨by rw [hV.out];rfl,rfl⟩
theorem specParserOk_m0 (s:Int) (ps ts:List Int) (pv tv:Value) (w:World) (hp:SlI w pv ps) (ht:SlI w tv ts) (hpl:ps.length<=1073741824) (htl:ts.length<=1073741824)
  (h1a:1<=s) (h1b:s<=5) (h2:ps.length<=16) (hrt:(decide (ts.length<=40) && runesB ts)=true) :
  Calls Tryz.prog 76 #[paV ⟨s,ps,0,ts⟩ pv tv] w fun e w'=>e=.returned (.bool (paramsB ps && (decide (s=3) || decide (ps.length=0) && decide ((0:Int)=0)) && (decide (4<=s) || decide (ts.length=0))))/\Below w.heap.size w w':=by
 have hb0:=bal' w (Obj.cells #[.int .i64 s,pv,.int .i64 0,tv] 31);have hP:=PaC.new w s 0 pv tv 31;have hp1:=hp.below hb0;have ht1:=ht.below hb0;have hR1:=specRunes6_any tv ts 40 _ ht1 htl (by decide);rw [hrt] at hR1
 obtain ⟨pa,pc,rfl,hpc⟩:=hp1.cons;obtain ⟨ta,tc,rfl⟩:=ht1.shp;have h2i:¬ (16:Int)<(ps.length:Int):=by omega
 obtain ⟨rv,hrv⟩:∃ rv,Hid (rv=(paramsB ps && (decide (s=3) || decide (ps.length=0) && decide ((0:Int)=0)) && (decide (4<=s) || decide (ts.length=0)))):=⟨_,rfl⟩;rw [<- hrv.out]
 unfold paV;obtain ⟨_,⟨c0,c1,c2,c3⟩,_⟩:=id hP;clear hP hp ht hp1 ht1 hrt hpl htl;go_enter Tryz.func76,Tryz.ntmps76;go_wp2_with (first|(go_at_call 73;refine (l1In_any _ _ _ _).mono ?_;rintro e w' ⟨rfl,rfl⟩)|(go_at_call 75;refine hR1.mono ?_;rintro e w' ⟨rfl,rfl⟩));clear hR1;go_loop [3] (fun i=>∃ j:Nat,i=.int .i64 j/\j<=ps.length/\Hid (∀ k,k<j->0<=ps.getD k 0/\ps.getD k 0<=9999)) (fun i=>ps.length-(intOf i).toNat)
 case atStart=>exact ⟨0,rfl,Nat.zero_le _,(fun k hk=>absurd hk (Nat.not_lt_zero k))⟩
 case round =>
  obtain ⟨j,rfl,hj,hall⟩:=hrel
  by_cases hlt:j<ps.length
  ·have hji:(j:Int)<(ps.length:Int):=by omega
   have hj0:(0:Int)<=(j:Int):=by omega
   obtain ⟨b,off,rfl,hcj⟩:=hpc j hlt;have hno:¬ (0<=ps.getD j 0/\ps.getD j 0<=9999)->Hid (paramsB ps=false):=fun h=>paramsB_no j hlt h
   have hstep:(0<=ps.getD j 0/\ps.getD j 0<=9999)->Hid (∀ k,k<j+1->0<=ps.getD k 0/\ps.getD k 0<=9999):=fun h=>(show ∀ k,k<j+1->0<=ps.getD k 0/\ps.getD k 0<=9999 from fun k hk=>by
    by_cases e:k=j
    ·rw [e];exact h
    ·exact hall.out k (by omega))
   have hin:=fun W=>l1In_any (ps.getD j 0) 0 9999 W
   clear hpc hall;generalize ps.getD j 0=x at *
   by_cases hx:0<=x/\x<=9999
   ·have hall2:=hstep hx
    rw [decide_eq_true hx] at hin
    clear hno hstep hx;go_wp2_with (go_at_call 73;refine (hin _).mono ?_;rintro e w' ⟨rfl,rfl⟩);go_round
    case rel=>exact ⟨j+1,by go_num,by omega,hall2⟩
    case measure=>simp [intOf];omega
   ·have hV:Hid (rv=false):=by show _=_;rw [hrv.out,(hno hx).out,Bool.false_and,Bool.false_and]
    rw [decide_eq_false hx] at hin
    clear hno hstep hx;go_wp2_with (go_at_call 73;refine (hin _).mono ?_;rintro e w' ⟨rfl,rfl⟩);go_ret;exact ⟨by rw [hV.out];rfl,hb0⟩
  ·have hjn:j=ps.length:=by omega
   have hji:¬ (j:Int)<(ps.length:Int):=by omega
   have hV:Hid (paramsB ps=true):=paramsB_yes (by rw [<- hjn];exact hall.out);have hr1:Hid (rv=((decide (s=3) || decide (ps.length=0) && decide ((0:Int)=0)) && (decide (4<=s) || decide (ts.length=0)))):=by show _=_;rw [hrv.out,hV.out,Bool.true_and];try simp
   clear hpc hall hjn hrv hV;generalize ps.length=np at *;generalize ts.length=nt at *
   by_cases q1:s=3
   ·subst q1
    by_cases q3:nt=0
    ·subst q3
     have hv:Hid (rv=true):=by show _=_;rw [hr1.out];rfl
     clear hr1;go_wp2;go_ret;exact ⟨by rw [hv.out];first|rfl|simp [*],hb0⟩
    ·have q3i:((nt:Int)==0)=false:=by simp;omega
     have hv:Hid (rv=false):=by show _=_;rw [hr1.out,decide_eq_false q3];rfl
     clear hr1 q3;go_wp2;go_ret;exact ⟨by rw [hv.out];first|rfl|simp [*],hb0⟩
   ·have q1i:(s==3)=false:=by simp [q1]
    have hr2:Hid (rv=((decide (np=0) && decide ((0:Int)=0)) && (decide (4<=s) || decide (nt=0)))):=by show _=_;rw [hr1.out,decide_eq_false q1,Bool.false_or]
    clear hr1 q1
    by_cases q2:np=0
    ·subst q2
     by_cases q4:4<=s
     ·have hv:Hid (rv=decide ((0:Int)=0)):=by show _=_;rw [hr2.out,decide_eq_true q4];rfl
      clear hr2;go_wp2;go_ret;exact ⟨by rw [hv.out];first|rfl|simp [*],hb0⟩
     ·have q4i:s<4:=by omega
      have q4b:decide (4<=s)=false:=decide_eq_false q4
      by_cases q3:nt=0
      ·subst q3
       have hv:Hid (rv=decide ((0:Int)=0)):=by show _=_;rw [hr2.out,decide_eq_false q4];rfl
       clear hr2 q4;go_wp2;go_ret;exact ⟨by rw [hv.out];first|rfl|simp [*],hb0⟩
      ·have q3i:((nt:Int)==0)=false:=by simp;omega
       have hv:Hid (rv=false):=by show _=_;rw [hr2.out,decide_eq_false q4,decide_eq_false q3];rfl
       clear hr2 q3 q4;go_wp2;go_ret;exact ⟨by rw [hv.out];first|rfl|simp [*],hb0⟩
    ·have q2i:((np:Int)==0)=false:=by simp;omega
     have hv:Hid (rv=false):=by show _=_;rw [hr2.out,decide_eq_false q2];rfl
     clear hr2 q2
     by_cases q4:4<=s
     ·go_wp2
      go_ret;exact ⟨by rw [hv.out];first|rfl|simp [*],hb0⟩
     ·have q4i:s<4:=by omega
      have q4b:decide (4<=s)=false:=decide_eq_false q4
      by_cases q3:nt=0
      ·subst q3
       go_wp2;go_ret;exact ⟨by rw [hv.out];first|rfl|simp [*],hb0⟩
      ·have q3i:((nt:Int)==0)=false:=by simp;omega
       clear q3;go_wp2;go_ret;exact ⟨by rw [hv.out];first|rfl|simp [*],hb0⟩
theorem specParserOk_m63 (s:Int) (ps ts:List Int) (pv tv:Value) (w:World) (hp:SlI w pv ps) (ht:SlI w tv ts) (hpl:ps.length<=1073741824) (htl:ts.length<=1073741824)
  (h1a:1<=s) (h1b:s<=5) (h2:ps.length<=16) (hrt:(decide (ts.length<=40) && runesB ts)=true) :
  Calls Tryz.prog 76 #[paV ⟨s,ps,63,ts⟩ pv tv] w fun e w'=>e=.returned (.bool (paramsB ps && (decide (s=3) || decide (ps.length=0) && decide ((63:Int)=0)) && (decide (4<=s) || decide (ts.length=0))))/\Below w.heap.size w w':=by
 have hb0:=bal' w (Obj.cells #[.int .i64 s,pv,.int .i64 63,tv] 31);have hP:=PaC.new w s 63 pv tv 31;have hp1:=hp.below hb0;have ht1:=ht.below hb0;have hR1:=specRunes6_any tv ts 40 _ ht1 htl (by decide);rw [hrt] at hR1
 obtain ⟨pa,pc,rfl,hpc⟩:=hp1.cons;obtain ⟨ta,tc,rfl⟩:=ht1.shp;have h2i:¬ (16:Int)<(ps.length:Int):=by omega
 obtain ⟨rv,hrv⟩:∃ rv,Hid (rv=(paramsB ps && (decide (s=3) || decide (ps.length=0) && decide ((63:Int)=0)) && (decide (4<=s) || decide (ts.length=0)))):=⟨_,rfl⟩;rw [<- hrv.out]
 unfold paV;obtain ⟨_,⟨c0,c1,c2,c3⟩,_⟩:=id hP;clear hP hp ht hp1 ht1 hrt hpl htl;go_enter Tryz.func76,Tryz.ntmps76;go_wp2_with (first|(go_at_call 73;refine (l1In_any _ _ _ _).mono ?_;rintro e w' ⟨rfl,rfl⟩)|(go_at_call 75;refine hR1.mono ?_;rintro e w' ⟨rfl,rfl⟩));clear hR1;go_loop [3] (fun i=>∃ j:Nat,i=.int .i64 j/\j<=ps.length/\Hid (∀ k,k<j->0<=ps.getD k 0/\ps.getD k 0<=9999)) (fun i=>ps.length-(intOf i).toNat)
 case atStart=>exact ⟨0,rfl,Nat.zero_le _,(fun k hk=>absurd hk (Nat.not_lt_zero k))⟩
 case round =>
  obtain ⟨j,rfl,hj,hall⟩:=hrel
  by_cases hlt:j<ps.length
  ·have hji:(j:Int)<(ps.length:Int):=by omega
   have hj0:(0:Int)<=(j:Int):=by omega
   obtain ⟨b,off,rfl,hcj⟩:=hpc j hlt;have hno:¬ (0<=ps.getD j 0/\ps.getD j 0<=9999)->Hid (paramsB ps=false):=fun h=>paramsB_no j hlt h
   have hstep:(0<=ps.getD j 0/\ps.getD j 0<=9999)->Hid (∀ k,k<j+1->0<=ps.getD k 0/\ps.getD k 0<=9999):=fun h=>(show ∀ k,k<j+1->0<=ps.getD k 0/\ps.getD k 0<=9999 from fun k hk=>by
    by_cases e:k=j
    ·rw [e];exact h
    ·exact hall.out k (by omega))
   have hin:=fun W=>l1In_any (ps.getD j 0) 0 9999 W
   clear hpc hall;generalize ps.getD j 0=x at *
   by_cases hx:0<=x/\x<=9999
   ·have hall2:=hstep hx
    rw [decide_eq_true hx] at hin
    clear hno hstep hx;go_wp2_with (go_at_call 73;refine (hin _).mono ?_;rintro e w' ⟨rfl,rfl⟩);go_round
    case rel=>exact ⟨j+1,by go_num,by omega,hall2⟩
    case measure=>simp [intOf];omega
   ·have hV:Hid (rv=false):=by show _=_;rw [hrv.out,(hno hx).out,Bool.false_and,Bool.false_and]
    rw [decide_eq_false hx] at hin
    clear hno hstep hx;go_wp2_with (go_at_call 73;refine (hin _).mono ?_;rintro e w' ⟨rfl,rfl⟩);go_ret;exact ⟨by rw [hV.out];rfl,hb0⟩
  ·have hjn:j=ps.length:=by omega
   have hji:¬ (j:Int)<(ps.length:Int):=by omega
   have hV:Hid (paramsB ps=true):=paramsB_yes (by rw [<- hjn];exact hall.out);have hr1:Hid (rv=((decide (s=3) || decide (ps.length=0) && decide ((63:Int)=0)) && (decide (4<=s) || decide (ts.length=0)))):=by show _=_;rw [hrv.out,hV.out,Bool.true_and];try simp
   clear hpc hall hjn hrv hV;generalize ps.length=np at *;generalize ts.length=nt at *
   by_cases q1:s=3
   ·subst q1
    by_cases q3:nt=0
    ·subst q3
     have hv:Hid (rv=true):=by show _=_;rw [hr1.out];rfl
     clear hr1;go_wp2;go_ret;exact ⟨by rw [hv.out];first|rfl|simp [*],hb0⟩
    ·have q3i:((nt:Int)==0)=false:=by simp;omega
     have hv:Hid (rv=false):=by show _=_;rw [hr1.out,decide_eq_false q3];rfl
     clear hr1 q3;go_wp2;go_ret;exact ⟨by rw [hv.out];first|rfl|simp [*],hb0⟩
   ·have q1i:(s==3)=false:=by simp [q1]
    have hr2:Hid (rv=((decide (np=0) && decide ((63:Int)=0)) && (decide (4<=s) || decide (nt=0)))):=by show _=_;rw [hr1.out,decide_eq_false q1,Bool.false_or]
    clear hr1 q1
    by_cases q2:np=0
    ·subst q2
     by_cases q4:4<=s
     ·have hv:Hid (rv=decide ((63:Int)=0)):=by show _=_;rw [hr2.out,decide_eq_true q4];rfl
      clear hr2;go_wp2;go_ret;exact ⟨by rw [hv.out];first|rfl|simp [*],hb0⟩
     ·have q4i:s<4:=by omega
      have q4b:decide (4<=s)=false:=decide_eq_false q4
      by_cases q3:nt=0
      ·subst q3
       have hv:Hid (rv=decide ((63:Int)=0)):=by show _=_;rw [hr2.out,decide_eq_false q4];rfl
       clear hr2 q4;go_wp2;go_ret;exact ⟨by rw [hv.out];first|rfl|simp [*],hb0⟩
      ·have q3i:((nt:Int)==0)=false:=by simp;omega
       have hv:Hid (rv=false):=by show _=_;rw [hr2.out,decide_eq_false q4,decide_eq_false q3];rfl
       clear hr2 q3 q4;go_wp2;go_ret;exact ⟨by rw [hv.out];first|rfl|simp [*],hb0⟩
    ·have q2i:((np:Int)==0)=false:=by simp;omega
     have hv:Hid (rv=false):=by show _=_;rw [hr2.out,decide_eq_false q2];rfl
     clear hr2 q2
     by_cases q4:4<=s
     ·go_wp2
      go_ret;exact ⟨by rw [hv.out];first|rfl|simp [*],hb0⟩
     ·have q4i:s<4:=by omega
      have q4b:decide (4<=s)=false:=decide_eq_false q4
      by_cases q3:nt=0
      ·subst q3
       go_wp2;go_ret;exact ⟨by rw [hv.out];first|rfl|simp [*],hb0⟩
      ·have q3i:((nt:Int)==0)=false:=by simp;omega
       clear q3;go_wp2;go_ret;exact ⟨by rw [hv.out];first|rfl|simp [*],hb0⟩
theorem specParserOk_any (p:Pa) (pv tv:Value) (w:World) (hp:SlI w pv p.params) (ht:SlI w tv p.text) (hpl:p.params.length<=1073741824) (htl:p.text.length<=1073741824) :
  Calls Tryz.prog 76 #[paV p pv tv] w fun e w'=>e=.returned (.bool (okV p))/\Below w.heap.size w w':=by
 obtain ⟨s,ps,m,ts⟩:=p;have hb0:=bal' w (Obj.cells #[.int .i64 s,pv,.int .i64 m,tv] 31);have hP:=PaC.new w s m pv tv 31;have hp1:=hp.below hb0;have ht1:=ht.below hb0;have hR:=fun W h=>specRunes6_any tv ts 40 W h htl (by decide)
 obtain ⟨pa,pc,rfl,hpc⟩:=hp1.cons;obtain ⟨ta,tc,rfl⟩:=ht1.shp;simp only at *
 have hval:∀ b,b=(decide (1<=s/\s<=5) && decide (ps.length<=16) && decide (m=0\/m=63) && (decide (ts.length<=40) && runesB ts) && paramsB ps && (decide (s=3) || decide (ps.length=0) && decide (m=0)) && (decide (4<=s) || decide (ts.length=0)))->Hid (okV ⟨s,ps,m,ts⟩=b):=fun b h=>by
  show _=_
  rw [h]
  unfold okV;rw [Bool.eq_iff_iff]
  simp only [Bool.and_eq_true,Bool.or_eq_true,decide_eq_true_eq]
  constructor
  ·rintro ⟨⟨⟨a1,a2,a3,a4,a5,a6,a7⟩,a8⟩,a9⟩;exact ⟨⟨⟨⟨⟨⟨⟨a1,a2⟩,a3⟩,a4⟩,a5,a8⟩,a9⟩,a6⟩,a7⟩
  ·rintro ⟨⟨⟨⟨⟨⟨⟨a1,a2⟩,a3⟩,a4⟩,a5,a8⟩,a9⟩,a6⟩,a7⟩;exact ⟨⟨⟨a1,a2,a3,a4,a5,a6,a7⟩,a8⟩,a9⟩
 unfold paV at *;obtain ⟨_,⟨c0,c1,c2,c3⟩,_⟩:=id hP;clear hP hp1;have hR1:=hR _ ht1;clear hR ht1;generalize hrt0:(decide (ts.length<=40) && runesB ts)=rt at *
 by_cases h1:1<=s/\s<=5
 ·obtain ⟨h1a,h1b⟩:=h1
  by_cases h2:ps.length<=16
  ·have h2i:¬ (16:Int)<(ps.length:Int):=by omega
   by_cases h3:m=0\/m=63
   ·have hm:∃ x:Bool,(m != 0)=x:=⟨_,rfl⟩
    cases rt
    ·have hV:=hval false (by simp)
     clear hval hpc;go_enter Tryz.func76,Tryz.ntmps76;rcases h3 with rfl|rfl
     all_goals
      go_wp2_with (first|(go_at_call 73;refine (l1In_any _ _ _ _).mono ?_;rintro e w' ⟨rfl,rfl⟩)|(go_at_call 75;refine hR1.mono ?_;rintro e w' ⟨rfl,rfl⟩));go_ret;exact ⟨by rw [hV.out];rfl,hb0⟩
    ·have hv2:∀ b,b=(paramsB ps && (decide (s=3) || decide (ps.length=0) && decide (m=0)) && (decide (4<=s) || decide (ts.length=0)))->Hid (okV ⟨s,ps,m,ts⟩=b):=fun b h=>hval b (by rw [h,decide_eq_true (show 1<=s/\s<=5 from ⟨h1a,h1b⟩),decide_eq_true h2,decide_eq_true h3];try simp)
     have hrt:(decide (ts.length<=40) && runesB ts)=true:=hrt0.symm ▸ rfl;rcases h3 with rfl|rfl
     ·exact (specParserOk_m0 s ps ts _ _ w hp ht hpl htl h1a h1b h2 hrt).mono fun _ _ ⟨he,hb⟩=>⟨by rw [he,(hv2 _ rfl).out],hb⟩
     ·exact (specParserOk_m63 s ps ts _ _ w hp ht hpl htl h1a h1b h2 hrt).mono fun _ _ ⟨he,hb⟩=>⟨by rw [he,(hv2 _ rfl).out],hb⟩
   ·have hV:=hval false (by rw [decide_eq_false h3];simp)
    have h3a:¬ m=0:=fun e=>h3 (.inl e)
    have h3b:¬ m=63:=fun e=>h3 (.inr e)
    clear hval hpc h3;go_enter Tryz.func76,Tryz.ntmps76;go_wp2_with (go_at_call 73;refine (l1In_any _ _ _ _).mono ?_;rintro e w' ⟨rfl,rfl⟩)
    all_goals go_ret
    exact ⟨by rw [hV.out];rfl,hb0⟩
  ·have h2i:(16:Int)<(ps.length:Int):=by omega
   have hV:=hval false (by rw [decide_eq_false h2];simp);clear hval hpc;go_enter Tryz.func76,Tryz.ntmps76;go_wp2_with (go_at_call 73;refine (l1In_any _ _ _ _).mono ?_;rintro e w' ⟨rfl,rfl⟩);go_ret;exact ⟨by rw [hV.out];rfl,hb0⟩
 ·have hV:=hval false (by rw [decide_eq_false h1];simp)
  have h1i:Hid ((decide (1<=s/\s<=5))=false):=decide_eq_false h1;clear hval hpc;have hin:=fun W=>l1In_any s 1 5 W
  rw [h1i.out] at hin
  clear h1;go_enter Tryz.func76,Tryz.ntmps76;go_wp2_with (go_at_call 73;refine (hin _).mono ?_;rintro e w' ⟨rfl,rfl⟩);go_ret;exact ⟨by rw [hV.out];rfl,hb0⟩
theorem ret_i {a b:Int} (h:a=b):Ending.returned (.int .i64 a)=.returned (.int .i64 b):=by rw [h]
theorem specWidth_any (r:Int) (w:World) :
  Calls Tryz.prog 172 #[.int .i64 r] w fun e w'=>e=.returned (.int .i64 (wdV r))/\w'=w:=by
 by_cases hr:runeOk r=true
 ·have hb:=(runeOk_iff r).1 hr
  have hw:Hid (wdV r=if r<32\/(127<=r/\r<=159)\/(768<=r/\r<=879) then 0 else if (4352<=r/\r<=4447)\/(12288<=r/\r<=55295)\/(127744<=r/\r<=131071) then 2 else 1):=by show _=_;simp [wdV,hr]
  go_enter Tryz.func172,Tryz.ntmps172;go_wp2_with (first|(go_at_call 140;refine (specRuneOk_any _ _).mono ?_;rw [hr];rintro e w' ⟨rfl,rfl⟩)|(go_at_call 73;refine (l1In_any _ _ _ _).mono ?_;rintro e w' ⟨rfl,rfl⟩))
  all_goals
   go_ret;refine ⟨ret_i ?_,rfl⟩;rw [hw.out]
   clear hw hr
   (try simp at *)
   omega
 ·have hr:runeOk r=false:=by simpa using hr
  have hw:Hid (wdV r=0):=by show _=_;simp [wdV,hr]
  go_enter Tryz.func172,Tryz.ntmps172;go_wp2_with (first|(go_at_call 140;refine (specRuneOk_any _ _).mono ?_;rw [hr];rintro e w' ⟨rfl,rfl⟩)|(go_at_call 73;refine (l1In_any _ _ _ _).mono ?_;rintro e w' ⟨rfl,rfl⟩))
  all_goals
   go_ret;exact ⟨ret_i hw.out.symm,rfl⟩
def spansC:Array Value:=#[.int .i64 0,.int .i64 31,.int .i64 0,.int .i64 127,.int .i64 159,.int .i64 0,.int .i64 768,.int .i64 879,.int .i64 0,.int .i64 4352,.int .i64 4447,.int .i64 2,.int .i64 12288,.int .i64 55295,.int .i64 2,.int .i64 127744,.int .i64 131071,.int .i64 2]
def SpansAt (w:World):Prop:=∃ t fr,w.heap[0]?=some (.cells spansC t fr)
theorem SpansAt.below {B:Nat} {w w':World} (h:SpansAt w) (hb:Below B w w') (hB:0<B):SpansAt w':=by
 obtain ⟨t,fr,h⟩:=h;exact ⟨t,fr,by rw [hb.block _ hB];exact h⟩
theorem SpansAt.lt {w:World} (h:SpansAt w):0<w.heap.size:=by
 obtain ⟨t,fr,h⟩:=h;exact (Array.getElem?_eq_some_iff.1 h).1

theorem span_0:∀ w,(Instr.index 209 (.agg #[.int .i64 0,.int .i64 31,.int .i64 0,.int .i64 127,.int .i64 159,.int .i64 0,.int .i64 768,.int .i64 879,.int .i64 0,.int .i64 4352,.int .i64 4447,.int .i64 2,.int .i64 12288,.int .i64 55295,.int .i64 2,.int .i64 127744,.int .i64 131071,.int .i64 2]) (.int .i64 0)).run Tryz.prog w=.ok (.agg #[.int .i64 0,.int .i64 31,.int .i64 0]) w:=fun _=>by kernel_rfl
theorem span_1:∀ w,(Instr.index 209 (.agg #[.int .i64 0,.int .i64 31,.int .i64 0,.int .i64 127,.int .i64 159,.int .i64 0,.int .i64 768,.int .i64 879,.int .i64 0,.int .i64 4352,.int .i64 4447,.int .i64 2,.int .i64 12288,.int .i64 55295,.int .i64 2,.int .i64 127744,.int .i64 131071,.int .i64 2]) (.int .i64 1)).run Tryz.prog w=.ok (.agg #[.int .i64 127,.int .i64 159,.int .i64 0]) w:=fun _=>by kernel_rfl
theorem span_2:∀ w,(Instr.index 209 (.agg #[.int .i64 0,.int .i64 31,.int .i64 0,.int .i64 127,.int .i64 159,.int .i64 0,.int .i64 768,.int .i64 879,.int .i64 0,.int .i64 4352,.int .i64 4447,.int .i64 2,.int .i64 12288,.int .i64 55295,.int .i64 2,.int .i64 127744,.int .i64 131071,.int .i64 2]) (.int .i64 2)).run Tryz.prog w=.ok (.agg #[.int .i64 768,.int .i64 879,.int .i64 0]) w:=fun _=>by kernel_rfl
theorem span_3:∀ w,(Instr.index 209 (.agg #[.int .i64 0,.int .i64 31,.int .i64 0,.int .i64 127,.int .i64 159,.int .i64 0,.int .i64 768,.int .i64 879,.int .i64 0,.int .i64 4352,.int .i64 4447,.int .i64 2,.int .i64 12288,.int .i64 55295,.int .i64 2,.int .i64 127744,.int .i64 131071,.int .i64 2]) (.int .i64 3)).run Tryz.prog w=.ok (.agg #[.int .i64 4352,.int .i64 4447,.int .i64 2]) w:=fun _=>by kernel_rfl
theorem span_4:∀ w,(Instr.index 209 (.agg #[.int .i64 0,.int .i64 31,.int .i64 0,.int .i64 127,.int .i64 159,.int .i64 0,.int .i64 768,.int .i64 879,.int .i64 0,.int .i64 4352,.int .i64 4447,.int .i64 2,.int .i64 12288,.int .i64 55295,.int .i64 2,.int .i64 127744,.int .i64 131071,.int .i64 2]) (.int .i64 4)).run Tryz.prog w=.ok (.agg #[.int .i64 12288,.int .i64 55295,.int .i64 2]) w:=fun _=>by kernel_rfl
theorem span_5:∀ w,(Instr.index 209 (.agg #[.int .i64 0,.int .i64 31,.int .i64 0,.int .i64 127,.int .i64 159,.int .i64 0,.int .i64 768,.int .i64 879,.int .i64 0,.int .i64 4352,.int .i64 4447,.int .i64 2,.int .i64 12288,.int .i64 55295,.int .i64 2,.int .i64 127744,.int .i64 131071,.int .i64 2]) (.int .i64 5)).run Tryz.prog w=.ok (.agg #[.int .i64 127744,.int .i64 131071,.int .i64 2]) w:=fun _=>by kernel_rfl
theorem implWidth_1b (r:Int) (w:World) (hr:runeOk r=true) (hs:SpansAt w) (h0:r<=31) :
  Calls Tryz.prog 176 #[.int .i64 r] w fun e w'=>e=.returned (.int .i64 0)/\Below w.heap.size w w':=by
 have hb:=(runeOk_iff r).1 hr;obtain ⟨tt,fr,hg⟩:=hs;go_enter Tryz.func176,Tryz.ntmps176;go_wp2;go_step3;go_wp2_with (go_at_call 119;refine (implRuneOk_any _ _).mono ?_;rw [hr];rintro e w' ⟨rfl,hw⟩;subst hw);go_step3;go_wp2_with (refine wpList_load_row rfl 209 _ rfl 0 rfl tt _ fr _ hg Tryz.underlying209 rfl (by kernel_rfl) ?_);unfold spansC;have i0:=span_0;have i1:=span_1;have i2:=span_2;have i3:=span_3;have i4:=span_4;have i5:=span_5;refine wp_loop_rounds 1 ?_;rw [rounds_succ]
 go_wp2;rw [Exit.noGoto_ret]
 go_ret;exact ⟨rfl,(by repeat (first|exact Below.refl _ _|refine Below.alloc ?_ (by simp<;>omega) _))⟩
theorem implWidth_2a (r:Int) (w:World) (hr:runeOk r=true) (hs:SpansAt w) (h0:31<r) (h1:r<127) :
  Calls Tryz.prog 176 #[.int .i64 r] w fun e w'=>e=.returned (.int .i64 1)/\Below w.heap.size w w':=by
 have hb:=(runeOk_iff r).1 hr;obtain ⟨tt,fr,hg⟩:=hs;go_enter Tryz.func176,Tryz.ntmps176;go_wp2;go_step3;go_wp2_with (go_at_call 119;refine (implRuneOk_any _ _).mono ?_;rw [hr];rintro e w' ⟨rfl,hw⟩;subst hw);go_step3;go_wp2_with (refine wpList_load_row rfl 209 _ rfl 0 rfl tt _ fr _ hg Tryz.underlying209 rfl (by kernel_rfl) ?_);unfold spansC;have i0:=span_0;have i1:=span_1;have i2:=span_2;have i3:=span_3;have i4:=span_4;have i5:=span_5;refine wp_loop_rounds 2 ?_;rw [rounds_succ]
 go_wp2;rw [rounds_succ]
 go_wp2;rw [Exit.noGoto_ret]
 go_ret;exact ⟨rfl,(by repeat (first|exact Below.refl _ _|refine Below.alloc ?_ (by simp<;>omega) _))⟩
theorem implWidth_2b (r:Int) (w:World) (hr:runeOk r=true) (hs:SpansAt w) (h0:127<=r) (h1:r<=159) :
  Calls Tryz.prog 176 #[.int .i64 r] w fun e w'=>e=.returned (.int .i64 0)/\Below w.heap.size w w':=by
 have hb:=(runeOk_iff r).1 hr;obtain ⟨tt,fr,hg⟩:=hs;go_enter Tryz.func176,Tryz.ntmps176;go_wp2;go_step3;go_wp2_with (go_at_call 119;refine (implRuneOk_any _ _).mono ?_;rw [hr];rintro e w' ⟨rfl,hw⟩;subst hw);go_step3;go_wp2_with (refine wpList_load_row rfl 209 _ rfl 0 rfl tt _ fr _ hg Tryz.underlying209 rfl (by kernel_rfl) ?_);unfold spansC;have i0:=span_0;have i1:=span_1;have i2:=span_2;have i3:=span_3;have i4:=span_4;have i5:=span_5;refine wp_loop_rounds 2 ?_;rw [rounds_succ]
 go_wp2;rw [rounds_succ]
 go_wp2;rw [Exit.noGoto_ret]
 go_ret;exact ⟨rfl,(by repeat (first|exact Below.refl _ _|refine Below.alloc ?_ (by simp<;>omega) _))⟩
theorem implWidth_3a (r:Int) (w:World) (hr:runeOk r=true) (hs:SpansAt w) (h0:159<r) (h1:r<768) :
  Calls Tryz.prog 176 #[.int .i64 r] w fun e w'=>e=.returned (.int .i64 1)/\Below w.heap.size w w':=by
 have hb:=(runeOk_iff r).1 hr;obtain ⟨tt,fr,hg⟩:=hs;go_enter Tryz.func176,Tryz.ntmps176;go_wp2;go_step3;go_wp2_with (go_at_call 119;refine (implRuneOk_any _ _).mono ?_;rw [hr];rintro e w' ⟨rfl,hw⟩;subst hw);go_step3;go_wp2_with (refine wpList_load_row rfl 209 _ rfl 0 rfl tt _ fr _ hg Tryz.underlying209 rfl (by kernel_rfl) ?_);unfold spansC;have i0:=span_0;have i1:=span_1;have i2:=span_2;have i3:=span_3;have i4:=span_4;have i5:=span_5;refine wp_loop_rounds 3 ?_;rw [rounds_succ]
 go_wp2;rw [rounds_succ]
 go_wp2;rw [rounds_succ]
 go_wp2;rw [Exit.noGoto_ret]
 go_ret;exact ⟨rfl,(by repeat (first|exact Below.refl _ _|refine Below.alloc ?_ (by simp<;>omega) _))⟩
theorem implWidth_3b (r:Int) (w:World) (hr:runeOk r=true) (hs:SpansAt w) (h0:768<=r) (h1:r<=879) :
  Calls Tryz.prog 176 #[.int .i64 r] w fun e w'=>e=.returned (.int .i64 0)/\Below w.heap.size w w':=by
 have hb:=(runeOk_iff r).1 hr;obtain ⟨tt,fr,hg⟩:=hs;go_enter Tryz.func176,Tryz.ntmps176;go_wp2;go_step3;go_wp2_with (go_at_call 119;refine (implRuneOk_any _ _).mono ?_;rw [hr];rintro e w' ⟨rfl,hw⟩;subst hw);go_step3;go_wp2_with (refine wpList_load_row rfl 209 _ rfl 0 rfl tt _ fr _ hg Tryz.underlying209 rfl (by kernel_rfl) ?_);unfold spansC;have i0:=span_0;have i1:=span_1;have i2:=span_2;have i3:=span_3;have i4:=span_4;have i5:=span_5;refine wp_loop_rounds 3 ?_;rw [rounds_succ]
 go_wp2;rw [rounds_succ]
 go_wp2;rw [rounds_succ]
 go_wp2;rw [Exit.noGoto_ret]
 go_ret;exact ⟨rfl,(by repeat (first|exact Below.refl _ _|refine Below.alloc ?_ (by simp<;>omega) _))⟩
theorem implWidth_4a (r:Int) (w:World) (hr:runeOk r=true) (hs:SpansAt w) (h0:879<r) (h1:r<4352) :
  Calls Tryz.prog 176 #[.int .i64 r] w fun e w'=>e=.returned (.int .i64 1)/\Below w.heap.size w w':=by
 have hb:=(runeOk_iff r).1 hr;obtain ⟨tt,fr,hg⟩:=hs;go_enter Tryz.func176,Tryz.ntmps176;go_wp2;go_step3;go_wp2_with (go_at_call 119;refine (implRuneOk_any _ _).mono ?_;rw [hr];rintro e w' ⟨rfl,hw⟩;subst hw);go_step3;go_wp2_with (refine wpList_load_row rfl 209 _ rfl 0 rfl tt _ fr _ hg Tryz.underlying209 rfl (by kernel_rfl) ?_);unfold spansC;have i0:=span_0;have i1:=span_1;have i2:=span_2;have i3:=span_3;have i4:=span_4;have i5:=span_5;refine wp_loop_rounds 4 ?_;rw [rounds_succ]
 go_wp2;rw [rounds_succ]
 go_wp2;rw [rounds_succ]
 go_wp2;rw [rounds_succ]
 go_wp2;rw [Exit.noGoto_ret]
 go_ret;exact ⟨rfl,(by repeat (first|exact Below.refl _ _|refine Below.alloc ?_ (by simp<;>omega) _))⟩
theorem implWidth_4b (r:Int) (w:World) (hr:runeOk r=true) (hs:SpansAt w) (h0:4352<=r) (h1:r<=4447) :
  Calls Tryz.prog 176 #[.int .i64 r] w fun e w'=>e=.returned (.int .i64 2)/\Below w.heap.size w w':=by
 have hb:=(runeOk_iff r).1 hr;obtain ⟨tt,fr,hg⟩:=hs;go_enter Tryz.func176,Tryz.ntmps176;go_wp2;go_step3;go_wp2_with (go_at_call 119;refine (implRuneOk_any _ _).mono ?_;rw [hr];rintro e w' ⟨rfl,hw⟩;subst hw);go_step3;go_wp2_with (refine wpList_load_row rfl 209 _ rfl 0 rfl tt _ fr _ hg Tryz.underlying209 rfl (by kernel_rfl) ?_);unfold spansC;have i0:=span_0;have i1:=span_1;have i2:=span_2;have i3:=span_3;have i4:=span_4;have i5:=span_5;refine wp_loop_rounds 4 ?_;rw [rounds_succ]
 go_wp2;rw [rounds_succ]
 go_wp2;rw [rounds_succ]
 go_wp2;rw [rounds_succ]
 go_wp2;rw [Exit.noGoto_ret]
 go_ret;exact ⟨rfl,(by repeat (first|exact Below.refl _ _|refine Below.alloc ?_ (by simp<;>omega) _))⟩
theorem implWidth_5a (r:Int) (w:World) (hr:runeOk r=true) (hs:SpansAt w) (h0:4447<r) (h1:r<12288) :
  Calls Tryz.prog 176 #[.int .i64 r] w fun e w'=>e=.returned (.int .i64 1)/\Below w.heap.size w w':=by
 have hb:=(runeOk_iff r).1 hr;obtain ⟨tt,fr,hg⟩:=hs;go_enter Tryz.func176,Tryz.ntmps176;go_wp2;go_step3;go_wp2_with (go_at_call 119;refine (implRuneOk_any _ _).mono ?_;rw [hr];rintro e w' ⟨rfl,hw⟩;subst hw);go_step3;go_wp2_with (refine wpList_load_row rfl 209 _ rfl 0 rfl tt _ fr _ hg Tryz.underlying209 rfl (by kernel_rfl) ?_);unfold spansC;have i0:=span_0;have i1:=span_1;have i2:=span_2;have i3:=span_3;have i4:=span_4;have i5:=span_5;refine wp_loop_rounds 5 ?_;rw [rounds_succ]
 go_wp2;rw [rounds_succ]
 go_wp2;rw [rounds_succ]
 go_wp2;rw [rounds_succ]
 go_wp2;rw [rounds_succ]
 go_wp2;rw [Exit.noGoto_ret]
 go_ret;exact ⟨rfl,(by repeat (first|exact Below.refl _ _|refine Below.alloc ?_ (by simp<;>omega) _))⟩
theorem implWidth_5b (r:Int) (w:World) (hr:runeOk r=true) (hs:SpansAt w) (h0:12288<=r) (h1:r<=55295) :
  Calls Tryz.prog 176 #[.int .i64 r] w fun e w'=>e=.returned (.int .i64 2)/\Below w.heap.size w w':=by
 have hb:=(runeOk_iff r).1 hr;obtain ⟨tt,fr,hg⟩:=hs;go_enter Tryz.func176,Tryz.ntmps176;go_wp2;go_step3;go_wp2_with (go_at_call 119;refine (implRuneOk_any _ _).mono ?_;rw [hr];rintro e w' ⟨rfl,hw⟩;subst hw);go_step3;go_wp2_with (refine wpList_load_row rfl 209 _ rfl 0 rfl tt _ fr _ hg Tryz.underlying209 rfl (by kernel_rfl) ?_);unfold spansC;have i0:=span_0;have i1:=span_1;have i2:=span_2;have i3:=span_3;have i4:=span_4;have i5:=span_5;refine wp_loop_rounds 5 ?_;rw [rounds_succ]
 go_wp2;rw [rounds_succ]
 go_wp2;rw [rounds_succ]
 go_wp2;rw [rounds_succ]
 go_wp2;rw [rounds_succ]
 go_wp2;rw [Exit.noGoto_ret]
 go_ret;exact ⟨rfl,(by repeat (first|exact Below.refl _ _|refine Below.alloc ?_ (by simp<;>omega) _))⟩
theorem implWidth_6a (r:Int) (w:World) (hr:runeOk r=true) (hs:SpansAt w) (h0:55295<r) (h1:r<127744) :
  Calls Tryz.prog 176 #[.int .i64 r] w fun e w'=>e=.returned (.int .i64 1)/\Below w.heap.size w w':=by
 have hb:=(runeOk_iff r).1 hr;obtain ⟨tt,fr,hg⟩:=hs;go_enter Tryz.func176,Tryz.ntmps176;go_wp2;go_step3;go_wp2_with (go_at_call 119;refine (implRuneOk_any _ _).mono ?_;rw [hr];rintro e w' ⟨rfl,hw⟩;subst hw);go_step3;go_wp2_with (refine wpList_load_row rfl 209 _ rfl 0 rfl tt _ fr _ hg Tryz.underlying209 rfl (by kernel_rfl) ?_);unfold spansC;have i0:=span_0;have i1:=span_1;have i2:=span_2;have i3:=span_3;have i4:=span_4;have i5:=span_5;refine wp_loop_rounds 6 ?_;rw [rounds_succ]
 go_wp2;rw [rounds_succ]
 go_wp2;rw [rounds_succ]
 go_wp2;rw [rounds_succ]
 go_wp2;rw [rounds_succ]
 go_wp2;rw [rounds_succ]
 go_wp2;rw [Exit.noGoto_ret]
 go_ret;exact ⟨rfl,(by repeat (first|exact Below.refl _ _|refine Below.alloc ?_ (by simp<;>omega) _))⟩
theorem implWidth_6b (r:Int) (w:World) (hr:runeOk r=true) (hs:SpansAt w) (h0:127744<=r) (h1:r<=131071) :
  Calls Tryz.prog 176 #[.int .i64 r] w fun e w'=>e=.returned (.int .i64 2)/\Below w.heap.size w w':=by
 have hb:=(runeOk_iff r).1 hr;obtain ⟨tt,fr,hg⟩:=hs;go_enter Tryz.func176,Tryz.ntmps176;go_wp2;go_step3;go_wp2_with (go_at_call 119;refine (implRuneOk_any _ _).mono ?_;rw [hr];rintro e w' ⟨rfl,hw⟩;subst hw);go_step3;go_wp2_with (refine wpList_load_row rfl 209 _ rfl 0 rfl tt _ fr _ hg Tryz.underlying209 rfl (by kernel_rfl) ?_);unfold spansC;have i0:=span_0;have i1:=span_1;have i2:=span_2;have i3:=span_3;have i4:=span_4;have i5:=span_5;refine wp_loop_rounds 6 ?_;rw [rounds_succ]
 go_wp2;rw [rounds_succ]
 go_wp2;rw [rounds_succ]
 go_wp2;rw [rounds_succ]
 go_wp2;rw [rounds_succ]
 go_wp2;rw [rounds_succ]
 go_wp2;rw [Exit.noGoto_ret]
 go_ret;exact ⟨rfl,(by repeat (first|exact Below.refl _ _|refine Below.alloc ?_ (by simp<;>omega) _))⟩
theorem implWidth_7a (r:Int) (w:World) (hr:runeOk r=true) (hs:SpansAt w) (h0:131071<r) :
  Calls Tryz.prog 176 #[.int .i64 r] w fun e w'=>e=.returned (.int .i64 1)/\Below w.heap.size w w':=by
 have hb:=(runeOk_iff r).1 hr;obtain ⟨tt,fr,hg⟩:=hs;go_enter Tryz.func176,Tryz.ntmps176;go_wp2;go_step3;go_wp2_with (go_at_call 119;refine (implRuneOk_any _ _).mono ?_;rw [hr];rintro e w' ⟨rfl,hw⟩;subst hw);go_step3;go_wp2_with (refine wpList_load_row rfl 209 _ rfl 0 rfl tt _ fr _ hg Tryz.underlying209 rfl (by kernel_rfl) ?_);unfold spansC;have i0:=span_0;have i1:=span_1;have i2:=span_2;have i3:=span_3;have i4:=span_4;have i5:=span_5;refine wp_loop_rounds 7 ?_;rw [rounds_succ]
 go_wp2;rw [rounds_succ]
 go_wp2;rw [rounds_succ]
 go_wp2;rw [rounds_succ]
 go_wp2;rw [rounds_succ]
 go_wp2;rw [rounds_succ]
 go_wp2;rw [rounds_succ]
 go_wp2;rw [Exit.noGoto_ret]
 go_ret;exact ⟨rfl,(by repeat (first|exact Below.refl _ _|refine Below.alloc ?_ (by simp<;>omega) _))⟩

theorem implWidth_no (r:Int) (w:World) (hr:runeOk r=false) :
  Calls Tryz.prog 176 #[.int .i64 r] w fun e w'=>e=.returned (.int .i64 0)/\Below w.heap.size w w':=by
 go_enter Tryz.func176,Tryz.ntmps176;go_wp2;go_step3;go_wp2_with (go_at_call 119;refine (implRuneOk_any _ _).mono ?_;rw [hr];rintro e w' ⟨rfl,hw⟩;subst hw);rw [Exit.noGoto_ret]
 go_ret;exact ⟨rfl,Below.refl _ _⟩

theorem implWidth_any (r:Int) (w:World) (hs:SpansAt w) :
  Calls Tryz.prog 176 #[.int .i64 r] w fun e w'=>e=.returned (.int .i64 (wdV r))/\Below w.heap.size w w':=by
 by_cases hr:runeOk r=true
 ·have hb:=(runeOk_iff r).1 hr
  have hw:wdV r=if r<32\/(127<=r/\r<=159)\/(768<=r/\r<=879) then 0 else if (4352<=r/\r<=4447)\/(12288<=r/\r<=55295)\/(127744<=r/\r<=131071) then 2 else 1:=by simp [wdV,hr]
  have key:∀ c:Int,wdV r=c->(Calls Tryz.prog 176 #[.int .i64 r] w fun e w'=>e=.returned (.int .i64 c)/\Below w.heap.size w w')->Calls Tryz.prog 176 #[.int .i64 r] w fun e w'=>e=.returned (.int .i64 (wdV r))/\Below w.heap.size w w':=fun c e h=>by rw [e];exact h
  by_cases h1:r<=31
  ·exact key 0 (by rw [hw];omega) (implWidth_1b r w hr hs h1)
  by_cases a2:r<127
  ·exact key 1 (by rw [hw];omega) (implWidth_2a r w hr hs (by omega) a2)
  by_cases b2:r<=159
  ·exact key 0 (by rw [hw];omega) (implWidth_2b r w hr hs (by omega) b2)
  by_cases a3:r<768
  ·exact key 1 (by rw [hw];omega) (implWidth_3a r w hr hs (by omega) a3)
  by_cases b3:r<=879
  ·exact key 0 (by rw [hw];omega) (implWidth_3b r w hr hs (by omega) b3)
  by_cases a4:r<4352
  ·exact key 1 (by rw [hw];omega) (implWidth_4a r w hr hs (by omega) a4)
  by_cases b4:r<=4447
  ·exact key 2 (by rw [hw];omega) (implWidth_4b r w hr hs (by omega) b4)
  by_cases a5:r<12288
  ·exact key 1 (by rw [hw];omega) (implWidth_5a r w hr hs (by omega) a5)
  by_cases b5:r<=55295
  ·exact key 2 (by rw [hw];omega) (implWidth_5b r w hr hs (by omega) b5)
  by_cases a6:r<127744
  ·exact key 1 (by rw [hw];omega) (implWidth_6a r w hr hs (by omega) a6)
  by_cases b6:r<=131071
  ·exact key 2 (by rw [hw];omega) (implWidth_6b r w hr hs (by omega) b6)
  exact key 1 (by rw [hw];omega) (implWidth_7a r w hr hs (by omega))
 ·have hr:runeOk r=false:=by simpa using hr
  have e:wdV r=0:=by simp [wdV,hr]
  rw [e]
  exact implWidth_no r w hr
def SlL (w:World) (v:Value) (xs:List Int):Prop :=
 ∃ a c,v=.slice a xs.length c/\xs.length<=c/\(xs=[]\/∃ b off,a=some ⟨b,off,none⟩/\b<w.heap.size/\∀ i,i<xs.length->w.cell? ⟨b,off+i,none⟩=some (.int .i64 (xs.getD i 0)))
theorem SlL.sl {w:World} {v:Value} {xs:List Int} (h:SlL w v xs):SlI w v xs:=by
 obtain ⟨a,c,hv,_,hr⟩:=h;exact ⟨a,c,hv,hr⟩
theorem info_i64:(Tryz.prog.info? 2).map (fun i=>(i.zero,i.size,i.bytes))=some (some (.int .i64 0),1,8):=by kernel_rfl
theorem toI_copy (v:Value) (xs:List Int) (w:World) (hv:SlI w v xs) (hl:xs.length<=1073741824) :
  Calls Tryz.prog 93 #[v] w fun e w'=>∃ u,e=.returned u/\w'.ownsRow w.heap.size 2 1 u xs.length (xs.map (Value.int .i64))/\Below w.heap.size w w':=by
 obtain ⟨i0,hi,hz0,hz1,hz2⟩:=info_parts info_i64;obtain ⟨a,c,rfl,hc⟩:=hv;generalize hn:xs.length=n at *;go_enter Tryz.func93,Tryz.ntmps93;go_wp2_with (refine wpList_make_full _ rfl _ _ 29 rfl w.heap.size 2 i0 (.int .i64 0) 1 Tryz.underlying29 hi hz0 hz1 .i64 .i64 (n:Int) (n:Int) n rfl rfl rfl rfl ?c1 ?c2 ?c3 ?_)
 case c1=>rw [hz2];omega
 case c2=>unfold maxLen;omega
 case c3=>exact Nat.le_refl _
 intro w1 ho hg;have hb1:Below w.heap.size w w1:=(Below.refl _ _).grown hg (Nat.le_refl _) (fun k hk=>by cases hk);clear hg;go_wp2;go_loopw [4] (fun i wr=>∃ (j:Nat) (ys:List Value),j<=n/\i=.int .i64 j/\wr.ownsRow w.heap.size 2 1 (.slice (some ⟨w.heap.size,0,none⟩) n n) n ys/\ys.length=n/\(∀ t,t<j->ys[t]?=some (.int .i64 (xs.getD t 0)))/\Below w.heap.size w wr) (fun i _=>n-(intOf i).toNat)
 case atStart=>exact ⟨0,_,Nat.zero_le _,rfl,ho,by simpa using ho.1,by simp,hb1⟩
 case round =>
  obtain ⟨j,ys,hj,rfl,ho,hyl,hys,hbel⟩:=hrel
  by_cases hlt:j<n
  ·rcases hc with hc|⟨b,off,rfl,hb,hc⟩
   ·rw [hc] at hn;simp at hn;omega
   ·have h0:wr.cell? ⟨b,off+j,none⟩=some (.int .i64 (xs.getD j 0)):=(hbel.cell (p:=⟨b,off+j,none⟩) hb).trans (hc j hlt)
    have h1:∃ u,wr.cell? ⟨w.heap.size,j,none⟩=some u:=by
     rw [ho.cellAt j (by omega)];exact ⟨_,List.getElem?_eq_getElem (by omega)⟩
    obtain ⟨u,h1⟩:=h1;have h2:=ho.frozenAt j;obtain ⟨hst1,hst2⟩:=ho.stored j (.int .i64 (xs.getD j 0))
    have hy2:∀ t,t<j+1->(ys.set j (.int .i64 (xs.getD j 0)))[t]?=some (.int .i64 (xs.getD t 0)):=by
     intro t ht
     by_cases e:t=j
     ·subst e;rw [List.getElem?_set_self (by omega)]
     ·rw [List.getElem?_set_ne (by omega)];exact hys t (by omega)
    clear ho hc hys;generalize xs.getD j 0=x at *;have hbs:=hbel.size;go_wp2;go_roundw
    case rel =>
     exact ⟨j+1,ys.set j (.int .i64 x),by omega,by go_num,hst1,by simpa using hyl,hy2,hbel.grown hst2 hbs (fun k hk=>by cases hk;exact Nat.le_refl _)⟩
    case measure=>simp [intOf];omega
  ·have hjn:j=n:=by omega
   subst hjn
   have hye:ys=xs.map (Value.int .i64):=by
    apply List.ext_getElem?
    intro i
    by_cases hi:i<j
    ·rw [hys i hi];simp [show i<xs.length by omega]
    ·rw [List.getElem?_eq_none (by omega),List.getElem?_eq_none (by simp;omega)]
   go_wp2;go_ret;exact ⟨_,rfl,by rw [<- hye];exact ho,hbel⟩
theorem under_ints:Tryz.prog.underlying 29=some (.slice 2):=by kernel_rfl
def Runes6 (l:List Int):Prop:=∀ x∈l,runeOk x=true
def Room (l l':List Int) (X X':List Ax) (r:Int):Prop:=(r=-1->X'.length+l'.length<=X.length+l.length)/\(r≠-1->X'.length+l'.length<X.length+l.length)/\Runes6 l'
theorem allRunes_any (v:Value) (xs:List Int) (w:World) (hv:SlI w v xs) (hl:xs.length<=1073741824) :
  Calls Tryz.prog 149 #[v] w fun e w'=>e=.returned (.bool (runesB xs))/\w'=w:=by
 obtain ⟨a,c,rfl,hc⟩:=hv.cons;clear hv;go_enter Tryz.func149,Tryz.ntmps149;go_wp2;go_loop [4,7] (fun _ i=>∃ j:Nat,i=.int .i64 j/\j<=xs.length/\Hid (∀ k,k<j->runeOk (xs.getD k 0)=true)) (fun _ i=>xs.length-(intOf i).toNat)
 case atStart=>exact ⟨0,rfl,Nat.zero_le _,(fun k hk=>absurd hk (Nat.not_lt_zero k))⟩
 case round =>
  obtain ⟨j,rfl,hj,hall⟩:=hrel
  by_cases hlt:j<xs.length
  ·have hji:(j:Int)<(xs.length:Int):=by omega
   have hj0:(0:Int)<=(j:Int):=by omega
   obtain ⟨b,off,rfl,hcj⟩:=hc j hlt;have hno:runeOk (xs.getD j 0)=false->Hid (runesB xs=false):=fun h=>runesB_no j hlt h
   have hstep:runeOk (xs.getD j 0)=true->Hid (∀ k,k<j+1->runeOk (xs.getD k 0)=true):=fun h=>(show ∀ k,k<j+1->runeOk (xs.getD k 0)=true from fun k hk=>by
    by_cases e:k=j
    ·rw [e];exact h
    ·exact hall.out k (by omega))
   have hok:=implRuneOk_any (xs.getD j 0) w;clear hc hall;generalize xs.getD j 0=x at *;generalize runeOk x=ok at *;go_wp2_with fail;refine hok.mono ?_;rintro e w2 ⟨rfl,hw⟩;subst hw;clear hok
   cases ok
   ·have hV:=hno rfl
    clear hno hstep;go_wp2;go_ret;exact ⟨by rw [hV.out];rfl,rfl⟩
   ·have hall2:=hstep rfl
    clear hno hstep;go_wp2;go_round
    case rel=>exact ⟨j+1,by go_num,by omega,hall2⟩
    case measure=>simp [intOf];omega
  ·have hjn:j=xs.length:=by omega
   have hji:¬ (j:Int)<(xs.length:Int):=by omega
   have hV:Hid (runesB xs=true):=runesB_yes (by rw [<- hjn];exact hall.out);clear hc hall;subst hjn;go_wp2;go_ret;exact ⟨by rw [hV.out];rfl,rfl⟩
theorem paramsOk_any (v:Value) (xs:List Int) (w:World) (hv:SlI w v xs) (hl:xs.length<=1073741824) :
  Calls Tryz.prog 120 #[v] w fun e w'=>e=.returned (.bool (paramsB xs && decide (xs.length<=16)))/\w'=w:=by
 obtain ⟨a,c,rfl,hc⟩:=hv.cons;clear hv;obtain ⟨rv,hrv⟩:∃ rv,Hid (rv=(paramsB xs && decide (xs.length<=16))):=⟨_,rfl⟩;rw [<- hrv.out]
 go_enter Tryz.func120,Tryz.ntmps120;go_wp2;go_loop [4,7] (fun _ i=>∃ j:Nat,i=.int .i64 j/\j<=xs.length/\Hid (∀ k,k<j->0<=xs.getD k 0/\xs.getD k 0<=9999)) (fun _ i=>xs.length-(intOf i).toNat)
 case atStart=>exact ⟨0,rfl,Nat.zero_le _,(fun k hk=>absurd hk (Nat.not_lt_zero k))⟩
 case round =>
  obtain ⟨j,rfl,hj,hall⟩:=hrel
  by_cases hlt:j<xs.length
  ·have hji:(j:Int)<(xs.length:Int):=by omega
   have hj0:(0:Int)<=(j:Int):=by omega
   obtain ⟨b,off,rfl,hcj⟩:=hc j hlt;have hno:¬ (0<=xs.getD j 0/\xs.getD j 0<=9999)->Hid (rv=false):=fun h=>(show rv=false by rw [hrv.out,paramsB_no j hlt h];rfl)
   have hstep:(0<=xs.getD j 0/\xs.getD j 0<=9999)->Hid (∀ k,k<j+1->0<=xs.getD k 0/\xs.getD k 0<=9999):=fun h=>(show ∀ k,k<j+1->0<=xs.getD k 0/\xs.getD k 0<=9999 from fun k hk=>by
    by_cases e:k=j
    ·rw [e];exact h
    ·exact hall.out k (by omega))
   clear hc hall;generalize xs.getD j 0=x at *
   by_cases h1:x<0
   ·have hV:=hno (by omega)
    clear hno hstep;go_wp2;go_ret;exact ⟨by rw [hV.out];rfl,rfl⟩
   ·by_cases h2:9999<x
    ·have hV:=hno (by omega)
     clear hno hstep;go_wp2;go_ret;exact ⟨by rw [hV.out];rfl,rfl⟩
    ·have hall2:=hstep (by omega)
     clear hno hstep;go_wp2;go_round
     case rel=>exact ⟨j+1,by go_num,by omega,hall2⟩
     case measure=>simp [intOf];omega
  ·have hjn:j=xs.length:=by omega
   have hji:¬ (j:Int)<(xs.length:Int):=by omega
   have hV:Hid (rv=decide (xs.length<=16)):=by
    show _=_
    rw [hrv.out,paramsB_yes (by rw [<- hjn];exact hall.out),Bool.true_and]
   clear hc hall hrv;subst hjn
   by_cases h3:xs.length<=16
   ·have h3i:(xs.length:Int)<=16:=by omega
    rw [decide_eq_true h3] at hV
    go_wp2;go_ret;exact ⟨by rw [hV.out];simp,rfl⟩
   ·have h3i:¬ (xs.length:Int)<=16:=by omega
    rw [decide_eq_false h3] at hV
    go_wp2;go_ret;exact ⟨by rw [hV.out];simp,rfl⟩
theorem markOk_any (m:Int) (w:World) :
  Calls Tryz.prog 121 #[.int .i64 m] w fun e w'=>e=.returned (.bool (decide (m=0\/m=63)))/\w'=w:=by
 by_cases h:m=0
 ·subst h
  go_enter Tryz.func121,Tryz.ntmps121;go_wp2;go_ret;exact ⟨rfl,rfl⟩
 ·by_cases h2:m=63
  ·subst h2
   go_enter Tryz.func121,Tryz.ntmps121;go_wp2;go_ret;exact ⟨rfl,rfl⟩
  ·have hi:(m==0)=false:=by simp [h]
   have hi2:(m==63)=false:=by simp [h2]
   have hV:Hid (decide (m=0\/m=63)=false):=decide_eq_false (by omega);clear h h2;go_enter Tryz.func121,Tryz.ntmps121;go_wp2;go_ret;exact ⟨by rw [hV.out];rfl,rfl⟩
theorem titleOk_any (v:Value) (xs:List Int) (w:World) (hv:SlI w v xs) (hl:xs.length<=1073741824) :
  Calls Tryz.prog 68 #[v] w fun e w'=>e=.returned (.bool (decide (xs.length<=40) && runesB xs))/\w'=w:=by
 have hR:=allRunes_any v xs w hv hl;obtain ⟨a,c,rfl⟩:=hv.shp;clear hv;obtain ⟨rv,hrv⟩:∃ rv,Hid (rv=(decide (xs.length<=40) && runesB xs)):=⟨_,rfl⟩;rw [<- hrv.out]
 by_cases h3:xs.length<=40
 ·have h3i:(xs.length:Int)<=40:=by omega
  have hV:Hid (rv=runesB xs):=by show _=_;rw [hrv.out,decide_eq_true h3,Bool.true_and]
  clear hrv;generalize runesB xs=q at *;go_enter Tryz.func68,Tryz.ntmps68;go_wp2_with (go_at_call 149;refine hR.mono ?_;rintro e w' ⟨rfl,rfl⟩);go_ret;exact ⟨by rw [hV.out];first|rfl|simp,rfl⟩
 ·have h3i:¬ (xs.length:Int)<=40:=by omega
  have hV:Hid (rv=false):=by show _=_;rw [hrv.out,decide_eq_false h3,Bool.false_and]
  clear hR hrv;go_enter Tryz.func68,Tryz.ntmps68;go_wp2;go_ret;exact ⟨by rw [hV.out];first|rfl|simp,rfl⟩
theorem implParserOk_any (p:Pa) (pv tv:Value) (w:World) (hp:SlI w pv p.params) (ht:SlI w tv p.text) (hpl:p.params.length<=1073741824) (htl:p.text.length<=1073741824) :
  Calls Tryz.prog 69 #[paV p pv tv] w fun e w'=>e=.returned (.bool (okV p))/\Below w.heap.size w w':=by
 obtain ⟨s,ps,m,ts⟩:=p;have hb0:=bal' w (Obj.cells #[.int .i64 s,pv,.int .i64 m,tv] 31);have hP:=PaC.new w s m pv tv 31;have hp1:=hp.below hb0;have ht1:=ht.below hb0;have hR:=titleOk_any tv ts _ ht1 htl;have hQ:=paramsOk_any pv ps _ hp1 hpl;have hM:=fun W=>markOk_any m W
 obtain ⟨pa,pc,rfl⟩:=hp1.shp;obtain ⟨ta,tc,rfl⟩:=ht1.shp;simp only at *;obtain ⟨rv,hrv⟩:∃ rv,Hid (rv=okV ⟨s,ps,m,ts⟩):=⟨_,rfl⟩;rw [<- hrv.out]
 have hval:Hid (rv=(decide (1<=s/\s<=5) && (paramsB ps && decide (ps.length<=16)) && decide (m=0\/m=63) && (decide (ts.length<=40) && runesB ts) && (decide (s=3) || decide (ps.length=0) && decide (m=0)) && (decide (4<=s) || decide (ts.length=0)))):=by
  show _=_
  rw [hrv.out]
  unfold okV;rw [Bool.eq_iff_iff]
  simp only [Bool.and_eq_true,Bool.or_eq_true,decide_eq_true_eq]
  constructor
  ·rintro ⟨⟨⟨a1,a2,a3,a4,a5,a6,a7⟩,a8⟩,a9⟩;exact ⟨⟨⟨⟨⟨⟨a1,a2⟩,a9,a3⟩,a4⟩,a5,a8⟩,a6⟩,a7⟩
  ·rintro ⟨⟨⟨⟨⟨⟨a1,a2⟩,a9,a3⟩,a4⟩,a5,a8⟩,a6⟩,a7⟩;exact ⟨⟨⟨a1,a2,a3,a4,a5,a6,a7⟩,a8⟩,a9⟩
 have hps0:ps.length=0->(paramsB ps && decide (ps.length<=16))=true:=fun h=>by
  rw [List.eq_nil_of_length_eq_zero h];rfl
 have hts0:ts.length=0->(decide (ts.length<=40) && runesB ts)=true:=fun h=>by
  rw [List.eq_nil_of_length_eq_zero h];rfl
 unfold paV;obtain ⟨_,⟨c0,c1,c2,c3⟩,_⟩:=id hP;clear hP hp ht hp1 hrv ht1;generalize (paramsB ps && decide (ps.length<=16))=qp at *;generalize (decide (ts.length<=40) && runesB ts)=qt at *;generalize hnp:ps.length=np at *;generalize hnt:ts.length=nt at *;clear hnp hnt;have zm:∀ b,(b=true ↔ m=0)->True:=fun _ _=>trivial
 clear zm;have hnm:m=0->decide (m=0\/m=63)=true:=fun h=>by simp [h]
 generalize hmk:decide (m=0\/m=63)=mk at *
 by_cases hs1:s=1\/s=2
 ·have e1:Hid (rv=(decide (np=0) && decide (m=0) && decide (nt=0))):=by
   show _=_
   rw [hval.out]
   by_cases z1:np=0
   ·by_cases z2:m=0
    ·by_cases z3:nt=0
     ·rw [hps0 z1,hts0 z3,hnm z2];rcases hs1 with rfl|rfl<;>simp [z1,z2,z3]
     ·rcases hs1 with rfl|rfl<;>simp [z3]
    ·rcases hs1 with rfl|rfl<;>simp [z2]
   ·rcases hs1 with rfl|rfl<;>simp [z1]
  clear hval hps0 hts0 hnm hmk hR hQ hM
  by_cases z1:np=0
  ·subst z1
   by_cases z2:m=0
   ·subst z2
    by_cases z3:nt=0
    ·subst z3
     rcases hs1 with rfl|rfl
     all_goals
      go_enter Tryz.func69,Tryz.ntmps69;go_wp2;go_ret;exact ⟨by rw [e1.out];rfl,hb0⟩
    ·have z3i:((nt:Int)==0)=false:=by simp;omega
     have e2:Hid (rv=false):=by show _=_;rw [e1.out];simp [z3]
     clear e1 z3;rcases hs1 with rfl|rfl
     all_goals
      go_enter Tryz.func69,Tryz.ntmps69;go_wp2;go_ret;exact ⟨by rw [e2.out];rfl,hb0⟩
   ·have z2i:(m==0)=false:=by simp [z2]
    have e2:Hid (rv=false):=by show _=_;rw [e1.out];simp [z2]
    clear e1 z2;rcases hs1 with rfl|rfl
    all_goals
     go_enter Tryz.func69,Tryz.ntmps69;go_wp2;go_ret;exact ⟨by rw [e2.out];rfl,hb0⟩
  ·have z1i:((np:Int)==0)=false:=by simp;omega
   have e2:Hid (rv=false):=by show _=_;rw [e1.out];simp [z1]
   clear e1 z1;rcases hs1 with rfl|rfl
   all_goals
    go_enter Tryz.func69,Tryz.ntmps69;go_wp2;go_ret;exact ⟨by rw [e2.out];rfl,hb0⟩
 ·by_cases hs3:s=3
  ·subst hs3
   have e1:Hid (rv=(qp && mk && decide (nt=0))):=by
    show _=_
    rw [hval.out]
    by_cases z3:nt=0
    ·rw [hts0 z3];simp [z3]
    ·simp [z3]
   clear hval hps0 hts0 hnm hmk hR hs1
   cases qp
   ·go_enter Tryz.func69,Tryz.ntmps69
    go_wp2_with (go_at_call 120;refine hQ.mono ?_;rintro e w' ⟨rfl,rfl⟩);go_ret;exact ⟨by rw [e1.out];rfl,hb0⟩
   ·cases mk
    ·go_enter Tryz.func69,Tryz.ntmps69
     go_wp2_with (first|(go_at_call 120;refine hQ.mono ?_;rintro e w' ⟨rfl,rfl⟩)|(go_at_call 121;refine (hM _).mono ?_;rintro e w' ⟨rfl,rfl⟩));go_ret;exact ⟨by rw [e1.out];rfl,hb0⟩
    ·by_cases z3:nt=0
     ·subst z3
      go_enter Tryz.func69,Tryz.ntmps69;go_wp2_with (first|(go_at_call 120;refine hQ.mono ?_;rintro e w' ⟨rfl,rfl⟩)|(go_at_call 121;refine (hM _).mono ?_;rintro e w' ⟨rfl,rfl⟩));go_ret;exact ⟨by rw [e1.out];rfl,hb0⟩
     ·have z3i:((nt:Int)==0)=false:=by simp;omega
      have e2:Hid (rv=false):=by show _=_;rw [e1.out];simp [z3]
      clear e1 z3;go_enter Tryz.func69,Tryz.ntmps69;go_wp2_with (first|(go_at_call 120;refine hQ.mono ?_;rintro e w' ⟨rfl,rfl⟩)|(go_at_call 121;refine (hM _).mono ?_;rintro e w' ⟨rfl,rfl⟩));go_ret;exact ⟨by rw [e2.out];rfl,hb0⟩
  ·by_cases hs4:s=4\/s=5
   ·have e1:Hid (rv=(decide (np=0) && decide (m=0) && qt)):=by
     show _=_
     rw [hval.out]
     by_cases z1:np=0
     ·by_cases z2:m=0
      ·rw [hps0 z1,hnm z2];rcases hs4 with rfl|rfl<;>simp [z1,z2]
      ·rcases hs4 with rfl|rfl<;>simp [z2]
     ·rcases hs4 with rfl|rfl<;>simp [z1]
    clear hval hps0 hts0 hnm hmk hQ hM hs1 hs3
    by_cases z1:np=0
    ·subst z1
     by_cases z2:m=0
     ·subst z2
      rcases hs4 with rfl|rfl
      all_goals
       go_enter Tryz.func69,Tryz.ntmps69;go_wp2_with (go_at_call 68;refine hR.mono ?_;rintro e w' ⟨rfl,rfl⟩);go_ret;exact ⟨by rw [e1.out];rfl,hb0⟩
     ·have z2i:(m==0)=false:=by simp [z2]
      have e2:Hid (rv=false):=by show _=_;rw [e1.out];simp [z2]
      clear e1 z2 hR;rcases hs4 with rfl|rfl
      all_goals
       go_enter Tryz.func69,Tryz.ntmps69;go_wp2;go_ret;exact ⟨by rw [e2.out];rfl,hb0⟩
    ·have z1i:((np:Int)==0)=false:=by simp;omega
     have e2:Hid (rv=false):=by show _=_;rw [e1.out];simp [z1]
     clear e1 z1 hR;rcases hs4 with rfl|rfl
     all_goals
      go_enter Tryz.func69,Tryz.ntmps69;go_wp2;go_ret;exact ⟨by rw [e2.out];rfl,hb0⟩
   ·have e1:Hid (rv=false):=by
     show _=_
     rw [hval.out,decide_eq_false (by omega)];simp
    have i1:(s==1)=false:=by simp;omega
    have i2:(s==2)=false:=by simp;omega
    have i3:(s==3)=false:=by simp;omega
    have i4:(s==4)=false:=by simp;omega
    have i5:(s==5)=false:=by simp;omega
    clear hval hps0 hts0 hnm hmk hR hQ hM hs1 hs3 hs4;go_enter Tryz.func69,Tryz.ntmps69;go_wp2;go_ret;exact ⟨by rw [e1.out];rfl,hb0⟩
def ReadsRow (w:World) (u:Value) (news:List Value):Prop :=
 (u=.slice none 0 0/\news=[])\/∃ ad c,u=.slice (some ad) news.length c/\∀ j x,news[j]?=some x->w.cell? (ad.add j)=some x
theorem ReadsRow.below {w w':World} {u:Value} {news:List Value} (h:ReadsRow w u news) (hb:Below w.heap.size w w'):ReadsRow w' u news:=by
 rcases h with h|⟨ad,c,hu,hc⟩
 ·exact .inl h
 ·refine .inr ⟨ad,c,hu,fun j x hx=>?_⟩
  have h1:=hc j x hx;exact (hb.cell (World.block_lt_of_cell? w _ h1)).trans h1
theorem append_any {P:Program} {w:World} {ops:Array Oper} {rest:List Oper} {o:Oper} {a:Act} {Q:Exit->Act->World->Prop} (hgd:o.guard=none) (s x:Operand) (t:TypeId)
  (ho:o.op=.call { callee:=.builtin .append,args:=#[s,x],argTypes:=#[t,t] })
  (base:Nat) (e:TypeId) (i:TypeInfo) (z:Value) (bytes:Nat) (ht:P.underlying t=some (.slice e)) (hi:P.info? e=some i) (hz:i.zero=some z)
  (hsize:i.size=1) (hby:i.bytes=bytes) (hzs:z.cells.size=1)
  (v:Value) (n:Nat) (xs:List Value) (hs:a.eval s=v) (hown:w.ownsRow base e 1 v n xs)
  (u:Value) (news:List Value) (hx:a.eval x=u) (hr:ReadsRow w u news) (h1:∀ u∈news,u.oneCell'=true)
  (h63:n+news.length<=maxLen) (hbytes:(n+news.length)*bytes<=140737488355328) (hbase:base<=w.heap.size)
  (h:∀ v' w',w'.ownsRow base e 1 v' (n+news.length) (xs++news)->w.grownBy w' v.ownBlock->wpList P ops Q rest (a.put o.dst v') w'):wpList P ops Q (o::rest) a w:=by
 rcases hr with ⟨rfl,rfl⟩|⟨ad,c,rfl,hc⟩
 ·exact wpList_append_own_none hgd s x t ho base e i 1 ht hi v n xs hs hown hx (h v w (by simpa using hown) (World.grownBy.refl _ _))
 ·exact wpList_append_own w hgd s x t ho base e i z 1 bytes ht hi hz hsize hby hzs (by decide) v n xs hs hown ad news.length c news hx (by simp) hc h1 h63 hbytes hbase (fun v' w' a b _=>h v' w' a b)
def SlN (w:World) (v:Value) (xs:List Int):Prop :=
 ∃ a c,v=.slice a xs.length c/\xs.length<=c/\(a=none->c=0)/\(xs=[]\/∃ b off,a=some ⟨b,off,none⟩/\b<w.heap.size/\∀ i,i<xs.length->w.cell? ⟨b,off+i,none⟩=some (.int .i64 (xs.getD i 0)))
theorem SlN.l {w:World} {v:Value} {xs:List Int} (h:SlN w v xs):SlL w v xs:=by
 obtain ⟨a,c,hv,hc,_,hr⟩:=h;exact ⟨a,c,hv,hc,hr⟩
theorem SlN.below {w w':World} {v:Value} {xs:List Int} (h:SlN w v xs) (hb:Below w.heap.size w w'):SlN w' v xs:=by
 obtain ⟨a,c,hv,hc0,hn,h|⟨b,off,ha,hlt,hc⟩⟩:=h
 ·exact ⟨a,c,hv,hc0,hn,.inl h⟩
 ·exact ⟨a,c,hv,hc0,hn,.inr ⟨b,off,ha,Nat.lt_of_lt_of_le hlt hb.size,fun i hi=>(hb.cell (p:=⟨b,off+i,none⟩) hlt).trans (hc i hi)⟩⟩
theorem SlN.of_own {w:World} {base:Nat} {v:Value} {xs:List Int} (h:OwnI w base v xs):SlN w v xs:=by
 rcases h.2 with ⟨rfl,h2⟩|⟨g,cap,cur,rfl,hb,hg,hn,hr⟩
 ·exact ⟨none,0,by rw [h2],by omega,fun _=>rfl,.inl (List.eq_nil_of_length_eq_zero h2)⟩
 ·refine ⟨_,cap,rfl,hn,(fun e=>by cases e),.inr ⟨g,0,rfl,(Array.getElem?_eq_some_iff.1 hg).1,fun i hi=>?_⟩⟩
  have:=World.ownsRow.cellAt h i (by omega);rw [Nat.zero_add,this]
  simp [hi]
theorem SlN.shp {w:World} {v:Value} {xs:List Int} (h:SlN w v xs):∃ a c,v=.slice a xs.length c:=h.l.sl.shp
theorem SlN.reads {w:World} {v:Value} {xs:List Int} (h:SlN w v xs):ReadsRow w v (xs.map (Value.int .i64)):=by
 obtain ⟨a,c,hv,hc,hn,hr⟩:=h
 cases a with
 | none =>
  have hc0:=hn rfl;subst hc0;have hx:xs=[]:=List.eq_nil_of_length_eq_zero (by omega);subst hx;exact .inl ⟨hv,rfl⟩
 | some ad =>
  refine .inr ⟨ad,c,by rw [hv,List.length_map],fun j x hj=>?_⟩
  have hjl:j<xs.length:=by
   have:=(List.getElem?_eq_some_iff.1 hj).1
   simpa using this
  rcases hr with h|⟨b,off,ha,_,hcl⟩
  ·rw [h] at hjl;simp at hjl
  ·cases ha
   rw [Addr.add_mid,hcl j hjl,<- hj]
   simp [hjl]
theorem ints_one (xs:List Int):∀ u∈xs.map (Value.int .i64),u.oneCell'=true:=by
 intro u hu;obtain ⟨x,_,rfl⟩:=List.mem_map.1 hu
 rfl
theorem copy_i {w:World} {ops:Array Oper} {rest:List Oper} {o:Oper} {ac:Act} {Q:Exit->Act->World->Prop} (hgd:o.guard=none) (s x:Operand)
  (ho:o.op=.call { callee:=.builtin .append,args:=#[s,x],argTypes:=#[29,29] })
  (v:Value) (xs:List Int) (hs:ac.eval s=.slice (some ⟨w.heap.size,0,none⟩) 0 0) (k:SlN w v xs) (hl:xs.length<=1073741824) (hx:ac.eval x=v)
  (h:∀ v' w',OwnI w' w.heap.size v' xs->Below w.heap.size w w'->wpList Tryz.prog ops Q rest (ac.put o.dst v') w') :
  wpList Tryz.prog ops Q (o::rest) ac (w.alloc (.cells #[] 2)):=by
 obtain ⟨i0,hi,hz0,hz1,hz2⟩:=info_parts info_i64;have hba:=bal' w (Obj.cells #[] 2)
 have hown:(w.alloc (.cells #[] 2)).ownsRow w.heap.size 2 1 (.slice (some ⟨w.heap.size,0,none⟩) 0 0) 0 []:=by
  have:=World.ownsRow_lit (base:=w.heap.size) (e:=2) (size:=1) w #[] 0 (Nat.le_refl _) (Nat.zero_le _) rfl
  simpa using this
 refine append_any hgd s x _ ho w.heap.size 2 i0 (.int .i64 0) 8 under_ints hi hz0 hz1 hz2 rfl _ 0 [] hs hown v (xs.map (Value.int .i64)) hx (k.reads.below hba) (ints_one xs) (by unfold maxLen;simp;omega) (by simp;omega) (by simp) (fun v' w' ho' hg'=>?_);have e:0+(xs.map (Value.int .i64)).length=xs.length:=by simp
 rw [e] at ho'
 refine h v' w' (by simpa [OwnI] using ho') (hba.grown hg' (by simp) (fun q e=>by simp [Value.ownBlock] at e;omega))
theorem copiedNumbers_any (v:Value) (xs:List Int) (w:World) (hv:SlN w v xs) (hl:xs.length<=1073741824) :
  Calls Tryz.prog 117 #[v] w fun e w'=>∃ u,e=.returned u/\OwnI w' w.heap.size u xs/\Below w.heap.size w w':=by
 obtain ⟨a,c,rfl⟩:=hv.shp;go_enter Tryz.func117,Tryz.ntmps117;go_wp2_with (refine copy_i (by rfl) _ _ (by rfl) _ xs (by rfl) hv hl (by rfl) ?_;intro v' w1 ho hb);go_wp2;go_ret;exact ⟨_,rfl,ho,hb⟩
def putP (w:World) (B:Nat) (s:Int) (pv:Value) (m:Int) (tv:Value):World:=(((w.setCell ⟨B,0,none⟩ (.int .i64 s)).setCell ⟨B,1,none⟩ pv).setCell ⟨B,2,none⟩ (.int .i64 m)).setCell ⟨B,3,none⟩ tv
theorem putP_grown (w:World) (B:Nat) (s:Int) (pv:Value) (m:Int) (tv:Value):w.grownBy (putP w B s pv m tv) (some B) :=
 grown_tr (grown_tr (grown_tr (setCell_gr w B 0 _) (setCell_gr _ B 1 _)) (setCell_gr _ B 2 _)) (setCell_gr _ B 3 _)
theorem load_T {P:Program} {w:World} {ops:Array Oper} {rest:List Oper} {o:Oper} {a:Act} {Q:Exit->Act->World->Prop} (hgd:Region.wanted o (yielded ops a.tmps)=true) (t:TypeId) (x:Operand)
  (ho:o.op=.load t x) {e:TypeId} {B:Nat} {cs:Array Value} {fr:Nat×Nat} {d:TypeDesc} (hu:P.underlying t=some d) (hd:(match d with|.struct _|.array _ _=>true|_=>false)=true) (hi:(P.info? t).map (·.size)=some cs.size) (hb:w.heap[B]?=some (.cells cs e fr)) (hx:a.eval x=.pointer (some ⟨B,0,none⟩))
  (h:wpList P ops Q rest (a.put o.dst (.agg cs)) w):wpList P ops Q (o::rest) a w:=by
 refine wpList_step fun K hK=>?_
 rw [if_pos hgd]
 exact wp_load_row t x ho B hx e cs fr d hb hu hd hi (hK _ _ h)
theorem setRow_gr (w:World) (g:Nat) (cs:Array Value):w.grownBy (w.setRow g cs) (some g):=by
 refine ⟨rfl,rfl,rfl,by simp,fun k _ hk=>?_⟩;have:¬ g=k:=fun e=>hk (by rw [e])
 simp only [World.setRow];rw [Array.getElem?_modify]
 simp [this]
theorem store_T {P:Program} {w:World} {ops:Array Oper} {rest:List Oper} {o:Oper} {a:Act} {Q:Exit->Act->World->Prop} (hgd:Region.wanted o (yielded ops a.tmps)=true) (t:TypeId) (x y:Operand)
  (ho:o.op=.store t x y) {e:TypeId} {B:Nat} {old cs:Array Value} (hi:(P.info? t).map (·.size)=some cs.size) (hold:old.size=cs.size) (h1:cs.toList.all (·.oneCell')=true) (hb:w.heap[B]?=some (.cells old e (0,0))) (hx:a.eval x=.pointer (some ⟨B,0,none⟩)) (hy:a.eval y=.agg cs)
  (h:∀ w',w.grownBy w' (some B)->w'.heap[B]?=some (.cells cs e (0,0))->w'.heap.size=w.heap.size->wpList P ops Q rest (a.put o.dst undef) w'):wpList P ops Q (o::rest) a w:=by
 refine wpList_step fun K hK=>?_
 rw [if_pos hgd]
 exact wp_store_row t x y ho B cs hx hy e old hb hi hold (by rw [<- Array.all_toList];exact h1) (hK _ _ (h _ (setRow_gr w B cs) (setRow_heap w B old cs e (0,0) hb) (by simp)))
def setV (L:List Value):Nat->List Value->List Value
 | _,[]=>L
 | k,v::l=>setV (L.set k v) (k+1) l
theorem sCh (B:Nat) (e:TypeId):∀ (l:List Value) (k:Nat) (w:World) (L:List Value),w.heap[B]?=some (.cells L.toArray e (0,0))->(w.setCells B k l).heap[B]?=some (.cells (setV L k l).toArray e (0,0))
 | [],_,_,_,h=>h
 | v::l,k,w,_,h=>sCh B e l (k+1) _ _ (by rw [heap_setCell_same w B k _ _ v h];simp)
theorem sCg (B:Nat):∀ (l:List Value) (k:Nat) (w:World),w.grownBy (w.setCells B k l) (some B)
 | [],_,_=>World.grownBy.refl _ _
 | v::l,k,w=>grown_tr (setCell_gr w B k v) (sCg B l (k+1) _)
theorem setCells_size (B:Nat):∀ (l:List Value) (k:Nat) (w:World),(w.setCells B k l).heap.size=w.heap.size
 | [],_,_=>rfl
 | v::l,k,w=>by rw [World.setCells,setCells_size B l];simp
def BlkC (w:World) (B:Nat) (e:TypeId) (L:List Value):Prop:=w.heap[B]?=some (.cells L.toArray e (0,0))
theorem store_at {P:Program} {w:World} {ops:Array Oper} {rest:List Oper} {o:Oper} {a:Act} {Q:Exit->Act->World->Prop} (hgd:Region.wanted o (yielded ops a.tmps)=true) (t:TypeId) (x y:Operand)
  (ho:o.op=.store t x y) {e:TypeId} {B k n:Nat} {cs:List Value} {v:Value} (hi:(P.info? t).map (·.size)=some n) (hb:BlkC w B e cs) (hx:a.eval x=.pointer (some ⟨B,k,none⟩)) (hy:a.eval y=v) (hn:v.cells.size=n) (h1:v.cells.toList.all (·.oneCell')=true) (hk:Nat.ble (k+n) cs.length=true)
  (h:∀ w',w.grownBy w' (some B)->BlkC w' B e (setV cs k v.cells.toList)->w'.heap.size=w.heap.size->wpList P ops Q rest (a.put o.dst undef) w'):wpList P ops Q (o::rest) a w:=by
 have hk:=Nat.le_of_ble_eq_true hk;rw [<- hn] at hi hk
 refine wpList_step fun K hK=>?_
 rw [if_pos hgd]
 have hs:=run_storeCells_cells (P:=P) B k v.cells.toList 0 w (fun j hj=>by
   rw [cell_of_row w B _ cs.toArray e (0,0) hb]
   simp at hj ⊢;omega) (fun j hj=>frozen_of_row w B _ _ _ hb) (fun u hu=>List.all_eq_true.1 h1 u hu)
 rw [Nat.add_zero] at hs
 unfold Oper.wp
 cases hq:P.info? t with
 | none=>simp [hq] at hi
 | some i =>
  have hsz:v.cells.size=i.size:=by simp [hq] at hi;omega
  simp [execOp,ho,hx,hy,Instr.storeAt,Instr.sureAddr,storeVar,sizeOf,typeInfo,hq,hsz,Result.andThen,hs];exact hK _ _ (h _ (sCg B _ _ w) (sCh B e _ _ w cs hb) (setCells_size B _ _ w))
theorem formOf_1 (r:Int) (w:World) (h:r<=127) :
  Calls Tryz.prog 266 #[.int .i64 r] w fun e w'=>e=.returned (.agg #[.int .i64 127,.int .i64 1,.int .i64 0])/\Below w.heap.size w w':=by
 go_enter Tryz.func266,Tryz.ntmps266;go_wp2;refine wp_loop_rounds 1 ?_;rw [rounds_succ]
 go_wp2;exact bodyPost_ret (v:=.agg #[.int .i64 127,.int .i64 1,.int .i64 0]) (by simp [results,Tryz.results266,go_sem]) rfl ⟨rfl,((Below.refl _ _).alloc (Nat.le_refl _) _).alloc (by simp) _⟩

theorem formOf_2 (r:Int) (w:World) (h0:127<r) (h:r<=2047) :
  Calls Tryz.prog 266 #[.int .i64 r] w fun e w'=>e=.returned (.agg #[.int .i64 2047,.int .i64 2,.int .i64 192])/\Below w.heap.size w w':=by
 go_enter Tryz.func266,Tryz.ntmps266;go_wp2;refine wp_loop_rounds 2 ?_;rw [rounds_succ]
 go_wp2;rw [rounds_succ]
 go_wp2;exact bodyPost_ret (v:=.agg #[.int .i64 2047,.int .i64 2,.int .i64 192]) (by simp [results,Tryz.results266,go_sem]) rfl ⟨rfl,((Below.refl _ _).alloc (Nat.le_refl _) _).alloc (by simp) _⟩

theorem formOf_3 (r:Int) (w:World) (h0:2047<r) (h:r<=65535) :
  Calls Tryz.prog 266 #[.int .i64 r] w fun e w'=>e=.returned (.agg #[.int .i64 65535,.int .i64 3,.int .i64 224])/\Below w.heap.size w w':=by
 go_enter Tryz.func266,Tryz.ntmps266;go_wp2;refine wp_loop_rounds 3 ?_;rw [rounds_succ]
 go_wp2;rw [rounds_succ]
 go_wp2;rw [rounds_succ]
 go_wp2;exact bodyPost_ret (v:=.agg #[.int .i64 65535,.int .i64 3,.int .i64 224]) (by simp [results,Tryz.results266,go_sem]) rfl ⟨rfl,((Below.refl _ _).alloc (Nat.le_refl _) _).alloc (by simp) _⟩

theorem formOf_4 (r:Int) (w:World) (h0:65535<r) (h:r<=1114111) :
  Calls Tryz.prog 266 #[.int .i64 r] w fun e w'=>e=.returned (.agg #[.int .i64 1114111,.int .i64 4,.int .i64 240])/\Below w.heap.size w w':=by
 go_enter Tryz.func266,Tryz.ntmps266;go_wp2;refine wp_loop_rounds 4 ?_;rw [rounds_succ]
 go_wp2;rw [rounds_succ]
 go_wp2;rw [rounds_succ]
 go_wp2;rw [rounds_succ]
 go_wp2;exact bodyPost_ret (v:=.agg #[.int .i64 1114111,.int .i64 4,.int .i64 240]) (by simp [results,Tryz.results266,go_sem]) rfl ⟨rfl,((Below.refl _ _).alloc (Nat.le_refl _) _).alloc (by simp) _⟩


end Go.Proofs.YtgcnmjjlmcnllaaGreatDoor
