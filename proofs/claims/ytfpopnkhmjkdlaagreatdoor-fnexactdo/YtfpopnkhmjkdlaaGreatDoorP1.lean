import Derived.OrdersHeld
import Derived.Deep.RegionHeld3
import Derived.WalkKit
import Derived.Laws.BytesArg
import GoSem.Core.Utf8
import Derived.Test.YtfpopnkhmjkdlaaGreatDoorRows
import Derived.ProofKit
import Derived.OpenShut
import Derived.ShutString
import Derived.LoopN
import Derived.WalkSpells
import Derived.Deep.QuietTactic
import Derived.BigQuiet
import Derived.Laws.Strings
import Derived.Laws.AppendOwnNone
import Derived.Laws.StructEq
import Derived.KernelRfl
import Derived.Lib.Strings
import Derived.Lib.Walk
import Derived.Lib.BufferWrite
import Derived.Lib.UnsafeStr
import Derived.Laws.MakeOwn
set_option maxRecDepth 20000
set_option maxHeartbeats 16000000
namespace Go.Proofs.YtfpopnkhmjkdlaaGreatDoor
open Go.RowKit
theorem ZA {α:Type _} (l:List α) (i:Nat) (a:α):l.toArray.setIfInBounds i a=(l.set i a).toArray:=List.setIfInBounds_toArray l i a
theorem ZB {α:Type _} {x:α} {xs:List α} {a:α}:(x::xs).set 0 a=a::xs:=List.set_cons_zero
theorem ZC {α:Type _} {x:α} {xs:List α} {i:Nat} {a:α}:(x::xs).set (i+1) a=x::xs.set i a:=List.set_cons_succ
theorem ZD {α:Type _} {xs:List α} {i:Nat} (h:i<xs.toArray.size):xs.toArray[i]'h=xs[i]'(by simpa using h):=List.getElem_toArray h
theorem ZE {α:Type _} (a:α) (l:List α) (h:0<(a::l).length):(a::l)[0]'h=a:=List.getElem_cons_zero a l h
theorem ZF {α:Type _} (a:α) (l:List α) (i:Nat) (h:i+1<(a::l).length):(a::l)[i+1]'h=l[i]'(by simpa using h):=List.getElem_cons_succ a l i h
theorem tk (i:Nat) {P:Program} {ops:Array Oper} {Q:Exit->Act->World->Prop} {md:Region.Mode} {S:World->Prop} {oi:Oper} {v:Value} {fuel:Nat} {listed:Array Bool} {a:Act} {w:World}
  (h:wpAnyH P md ops Q S fuel (listed.setIfInBounds i true) (a.put oi.dst v) w) (hS:S w:=by with_reducible assumption) (hi:ops[i]?=some oi:=by exact rfl)
  (hs:Region.noSelect ops=true:=by kernel_rfl) (hf:Region.free md ops listed i=true:=by kernel_rfl) (hr:(Region.ready md ops listed).contains i=true:=by kernel_rfl)
  (hQ:∀ c a w,Q (.panic c) (a.put oi.dst v) w->Q (.panic c) a w:=by exact fun _ _ _ h=>h) (hg:Region.wanted oi (yielded ops a.tmps)=true:=by rfl)
  (hy:∀ w,S w->(execOp a.eval oi).run P w=.ok (.value v) w:=by (intro w hSw;(try dsimp only at hSw);go_simp;(try with_reducible rfl))):wpAnyH P md ops Q S (fuel+1) listed a w :=
 wpAnyH_take hi hs hf hr hQ (Or.inl ⟨hg,hy⟩) hS h
theorem tz (i:Nat) {P:Program} {ops:Array Oper} {Q:Exit->Act->World->Prop} {md:Region.Mode} {S:World->Prop} {oi:Oper} {v:Value} {fuel:Nat} {listed:Array Bool} {a:Act} {w:World}
  (h:wpAnyH P md ops Q S fuel (listed.setIfInBounds i true) (a.put oi.dst v) w) (hS:S w:=by with_reducible assumption) (hi:ops[i]?=some oi:=by exact rfl)
  (hs:Region.noSelect ops=true:=by kernel_rfl) (hf:Region.free md ops listed i=true:=by kernel_rfl) (hr:(Region.ready md ops listed).contains i=true:=by kernel_rfl)
  (hQ:∀ c a w,Q (.panic c) (a.put oi.dst v) w->Q (.panic c) a w:=by exact fun _ _ _ h=>h) (hg:Region.wanted oi (yielded ops a.tmps)=true:=by rfl)
  (hy:∀ w,S w->(execOp a.eval oi).run P w=.ok (.value v) w:=by (intro w hSw;(try dsimp only at hSw);subst hSw;go_simp;(try with_reducible rfl))):wpAnyH P md ops Q S (fuel+1) listed a w :=
 wpAnyH_take hi hs hf hr hQ (Or.inl ⟨hg,hy⟩) hS h
theorem sk (i:Nat) {P:Program} {ops:Array Oper} {Q:Exit->Act->World->Prop} {md:Region.Mode} {S:World->Prop} {oi:Oper} {fuel:Nat} {listed:Array Bool} {a:Act} {w:World}
  (h:wpAnyH P md ops Q S fuel (listed.setIfInBounds i true) (a.put oi.dst undef) w) (hS:S w:=by with_reducible assumption) (hi:ops[i]?=some oi:=by exact rfl)
  (hs:Region.noSelect ops=true:=by kernel_rfl) (hf:Region.free md ops listed i=true:=by kernel_rfl) (hr:(Region.ready md ops listed).contains i=true:=by kernel_rfl)
  (hQ:∀ c a w,Q (.panic c) (a.put oi.dst undef) w->Q (.panic c) a w:=by exact fun _ _ _ h=>h) (hg:Region.wanted oi (yielded ops a.tmps)=false:=by rfl):wpAnyH P md ops Q S (fuel+1) listed a w :=
 wpAnyH_take hi hs hf hr hQ (Or.inr ⟨hg,rfl⟩) hS h
theorem tK (i:Nat) {P:Program} {ops:Array Oper} {Q:Exit->Act->World->Prop} {md:Region.Mode} {S:World->Prop} {oi:Oper} {v:Value} {fuel:Nat} {listed:Array Bool} {a a':Act} {w:World}
  (h:wpAnyH P md ops Q S fuel (listed.setIfInBounds i true) a' w) (hS:S w:=by with_reducible assumption) (hi:ops[i]?=some oi:=by exact rfl)
  (hs:Region.noSelect ops=true:=by kernel_rfl) (hf:Region.free md ops listed i=true:=by kernel_rfl) (hr:(Region.ready md ops listed).contains i=true:=by kernel_rfl)
  (hQ:∀ c a w,Q (.panic c) (a.put oi.dst v) w->Q (.panic c) a w:=by exact fun _ _ _ h=>h) (hg:Region.wanted oi (yielded ops a.tmps)=true:=by rfl)
  (hy:∀ w,S w->(execOp a.eval oi).run P w=.ok (.value v) w:=by (intro w hSw;(try dsimp only at hSw);go_simp;(try with_reducible rfl)))
  (ha:a.put oi.dst v=a':=by ((conv=>lhs;simp only [Act.put,ZA,ZB,ZC,ZD,ZE,ZF]);(try exact rfl))):wpAnyH P md ops Q S (fuel+1) listed a w :=
 tk i (ha ▸ h) hS hi hs hf hr hQ hg hy
theorem tZ (i:Nat) {P:Program} {ops:Array Oper} {Q:Exit->Act->World->Prop} {md:Region.Mode} {S:World->Prop} {oi:Oper} {v:Value} {fuel:Nat} {listed:Array Bool} {a a':Act} {w:World}
  (h:wpAnyH P md ops Q S fuel (listed.setIfInBounds i true) a' w) (hS:S w:=by with_reducible assumption) (hi:ops[i]?=some oi:=by exact rfl)
  (hs:Region.noSelect ops=true:=by kernel_rfl) (hf:Region.free md ops listed i=true:=by kernel_rfl) (hr:(Region.ready md ops listed).contains i=true:=by kernel_rfl)
  (hQ:∀ c a w,Q (.panic c) (a.put oi.dst v) w->Q (.panic c) a w:=by exact fun _ _ _ h=>h) (hg:Region.wanted oi (yielded ops a.tmps)=true:=by rfl)
  (hy:∀ w,S w->(execOp a.eval oi).run P w=.ok (.value v) w:=by (intro w hSw;(try dsimp only at hSw);subst hSw;go_simp;(try with_reducible rfl)))
  (ha:a.put oi.dst v=a':=by ((conv=>lhs;simp only [Act.put,ZA,ZB,ZC,ZD,ZE,ZF]);(try exact rfl))):wpAnyH P md ops Q S (fuel+1) listed a w :=
 tk i (ha ▸ h) hS hi hs hf hr hQ hg hy
theorem sK (i:Nat) {P:Program} {ops:Array Oper} {Q:Exit->Act->World->Prop} {md:Region.Mode} {S:World->Prop} {oi:Oper} {fuel:Nat} {listed:Array Bool} {a a':Act} {w:World}
  (h:wpAnyH P md ops Q S fuel (listed.setIfInBounds i true) a' w) (hS:S w:=by with_reducible assumption) (hi:ops[i]?=some oi:=by exact rfl)
  (hs:Region.noSelect ops=true:=by kernel_rfl) (hf:Region.free md ops listed i=true:=by kernel_rfl) (hr:(Region.ready md ops listed).contains i=true:=by kernel_rfl)
  (hQ:∀ c a w,Q (.panic c) (a.put oi.dst undef) w->Q (.panic c) a w:=by exact fun _ _ _ h=>h) (hg:Region.wanted oi (yielded ops a.tmps)=false:=by rfl)
  (ha:a.put oi.dst undef=a':=by ((conv=>lhs;simp only [Act.put,ZA,ZB,ZC,ZD,ZE,ZF]);(try exact rfl))):wpAnyH P md ops Q S (fuel+1) listed a w :=
 sk i (ha ▸ h) hS hi hs hf hr hQ hg
theorem be {P:Program} {fn:Func} {R:Ending->World->Prop} {a:Act} {w:World} (hR:R (.returned (.tuple #[])) w) (h:fn.results=#[]:=by rfl) (hd:a.defers=[]:=by rfl):bodyPost P fn R .normal a w:=bodyPost_end (results_none h _ _ _) hd hR
theorem dn {P:Program} {ops:Array Oper} {Q:Exit->Act->World->Prop} {md:Region.Mode} {S:World->Prop} {fuel:Nat} {listed:Array Bool} {a:Act} {w:World} (h:Q .normal a w) (hr:Region.ready md ops listed=[]:=by kernel_rfl):wpAnyH P md ops (NoPanic Q) S fuel listed a w:=wpAnyH_done hr (NoPanic.normal h) _
theorem rd (i:Nat) {P:Program} {ops:Array Oper} {Q:Exit->Act->World->Prop} {md:Region.Mode} {S:World->Prop} {o:Oper} {fuel:Nat} {listed:Array Bool} {a:Act} {w:World}
  (h:∀ K':Act->World->Prop,Shut (∀ a w,S w->(S w->wpAnyH P md ops Q S fuel (listed.setIfInBounds i true) a w)->K' a w)->if Region.wanted o (yielded ops a.tmps)=true then Oper.wp P o a w K' Q else K' (a.put o.dst undef) w)
  (hr:Region.ready md ops listed=[i]:=by kernel_rfl) (ho:ops[i]?=some o:=by exact rfl):wpAnyH P md ops Q S (fuel+1) listed a w :=
 wpAnyH_ready hr (by simp) (AllReadyH.cons ho h AllReadyH.nil)
theorem rd2 (i j:Nat) {P:Program} {ops:Array Oper} {Q:Exit->Act->World->Prop} {md:Region.Mode} {S:World->Prop} {o o':Oper} {fuel:Nat} {listed:Array Bool} {a:Act} {w:World}
  (h:∀ K':Act->World->Prop,Shut (∀ a w,S w->(S w->wpAnyH P md ops Q S fuel (listed.setIfInBounds i true) a w)->K' a w)->if Region.wanted o (yielded ops a.tmps)=true then Oper.wp P o a w K' Q else K' (a.put o.dst undef) w)
  (h':∀ K':Act->World->Prop,Shut (∀ a w,S w->(S w->wpAnyH P md ops Q S fuel (listed.setIfInBounds j true) a w)->K' a w)->if Region.wanted o' (yielded ops a.tmps)=true then Oper.wp P o' a w K' Q else K' (a.put o'.dst undef) w)
  (hr:Region.ready md ops listed=[i,j]:=by kernel_rfl) (ho:ops[i]?=some o:=by exact rfl) (ho':ops[j]?=some o':=by exact rfl):wpAnyH P md ops Q S (fuel+1) listed a w :=
 wpAnyH_ready hr (by simp) (AllReadyH.cons ho h (AllReadyH.cons ho' h' AllReadyH.nil))
theorem rdo (i:Nat) {P:Program} {ops:Array Oper} {Q:Exit->Act->World->Prop} {md:Region.Mode} {S:World->Prop} {o:Oper} {fuel:Nat} {listed:Array Bool} {a:Act} {w:World}
  (h:∀ K':Act->World->Prop,Shut (∀ a w,S w->(S w->wpAnyH P md ops Q S fuel (listed.setIfInBounds i true) a w)->K' a w)->Oper.wp P o a w K' Q)
  (hr:Region.ready md ops listed=[i]:=by kernel_rfl) (ho:ops[i]?=some o:=by exact rfl) (hg:o.guard=none:=by exact rfl):wpAnyH P md ops Q S (fuel+1) listed a w :=
 rd i (fun K' hK=>by rw [if_pos (by simp [Region.wanted,hg])];exact h K' hK) hr ho
end Go.Proofs.YtfpopnkhmjkdlaaGreatDoor
namespace Go.Proofs.YtfpopnkhmjkdlaaGreatDoor
def Xh (r:Int):Bool:=decide (0<=r/\r<=1114111/\(r<55296\/57343<r))
theorem Xa1 (r:Int) (b:Bool) (h:b=true ↔ (0<=r/\r<=1114111/\(r<55296\/57343<r))):b=Xh r:=by
 rw [Bool.eq_iff_iff,h];simp [Xh]
theorem Xt (r:Int):Xh r=true ↔ (0<=r/\r<=1114111/\(r<55296\/57343<r)):=by simp [Xh]
theorem YO (r:Int) (h:Xh r=true):0<=r/\r<=1114111:=by simp [Xh] at h;omega
def Yg (r:Int):List Int :=
 if r<128 then [r]
 else if r<2048 then [192+r / 64,128+r % 64]
 else if r<65536 then [224+r / 4096,128+r / 64 % 64,128+r % 64]
 else [240+r / 262144,128+r / 4096 % 64,128+r / 64 % 64,128+r % 64]
def Zt (r:Int):ByteArray:=if Xh r=true then strOfNums (Yg r) else ⟨#[]⟩
theorem XbJ (r:Int) (h:r<128):Yg r=[r]:=by simp [Yg,h]
theorem XgS (r:Int) (h0:128<=r) (h:r<2048):Yg r=[192+r / 64,128+r % 64]:=by
 rw [Yg,if_neg (by omega),if_pos h]
theorem Xh0 (r:Int) (h0:2048<=r) (h:r<65536):Yg r=[224+r / 64 / 64,128+r / 64 % 64,128+r % 64]:=by
 rw [Yg,if_neg (by omega),if_neg (by omega),if_pos h,show r / 64 / 64=r / 4096 from by omega]
theorem Xh1 (r:Int) (h0:65536<=r):Yg r=[240+r / 64 / 64 / 64,128+r / 64 / 64 % 64,128+r / 64 % 64,128+r % 64]:=by
 rw [Yg,if_neg (by omega),if_neg (by omega),if_neg (by omega),show r / 64 / 64 / 64=r / 262144 from by omega,show r / 64 / 64=r / 4096 from by omega]
theorem XbK (r:Int) (h:Xh r=true):Zt r=strOfNums (Yg r):=by simp [Zt,h]
theorem Xen (r:Int) (h:Xh r=false):Zt r=⟨#[]⟩:=by simp [Zt,h]
def dec (l:List Int):Int×Int :=
 match l with
 | []=>(0,0)
 | b0::t =>
  if b0<128 then (b0,1)
  else if 192<=b0/\b0<224 then
   match t with
   | b1::_=>if (128<=b1/\b1<192)/\128<=(b0-192)*64+(b1-128) then ((b0-192)*64+(b1-128),2) else (65533,1)
   | _=>(65533,1)
  else if 224<=b0/\b0<240 then
   match t with
   | b1::b2::_=>if (128<=b1/\b1<192)/\(128<=b2/\b2<192)/\2048<=(b0-224)*4096+(b1-128)*64+(b2-128)/\Xh ((b0-224)*4096+(b1-128)*64+(b2-128))=true then ((b0-224)*4096+(b1-128)*64+(b2-128),3) else (65533,1)
   | _=>(65533,1)
  else if 240<=b0/\b0<248 then
   match t with
   | b1::b2::b3::_=>if (128<=b1/\b1<192)/\(128<=b2/\b2<192)/\(128<=b3/\b3<192)/\65536<=(b0-240)*262144+(b1-128)*4096+(b2-128)*64+(b3-128)/\Xh ((b0-240)*262144+(b1-128)*4096+(b2-128)*64+(b3-128))=true then ((b0-240)*262144+(b1-128)*4096+(b2-128)*64+(b3-128),4) else (65533,1)
   | _=>(65533,1)
  else (65533,1)
theorem UF (r:Int):(Yg r).length=1\/(Yg r).length=2\/(Yg r).length=3\/(Yg r).length=4:=by
 unfold Yg;split
 ·simp
 ·split
  ·simp
  ·split<;>simp
theorem Xd8 (r:Int) (t:List Int) (h:Xh r=true):dec (Yg r++t)=(r,((Yg r).length:Int)):=by
 have hb:=(Xt r).1 h
 by_cases h1:r<128
 ·rw [XbJ r h1];simp [dec,h1]
 ·by_cases h2:r<2048
  ·rw [Yg,if_neg h1,if_pos h2]
   simp only [dec,List.cons_append,List.nil_append];rw [if_neg (by omega),if_pos (by omega),if_pos (by omega)]
   simp;omega
  ·by_cases h3:r<65536
   ·rw [Yg,if_neg h1,if_neg h2,if_pos h3]
    have e:(224+r / 4096-224)*4096+(128+r / 64 % 64-128)*64+(128+r % 64-128)=r:=by omega
    simp only [dec,List.cons_append,List.nil_append];rw [if_neg (by omega),if_neg (by omega),if_pos (by omega),e,if_pos ⟨by omega,by omega,by omega,h⟩]
    simp
   ·rw [Yg,if_neg h1,if_neg h2,if_neg h3]
    have e:(240+r / 262144-240)*262144+(128+r / 4096 % 64-128)*4096+(128+r / 64 % 64-128)*64+(128+r % 64-128)=r:=by omega
    simp only [dec,List.cons_append,List.nil_append];rw [if_neg (by omega),if_neg (by omega),if_neg (by omega),if_pos (by omega),e,if_pos ⟨by omega,by omega,by omega,by omega,h⟩]
    simp
theorem Xeo (b0:Int) (t:List Int) (hb:0<=b0) :
  (Xh (dec (b0::t)).1=true/\(∃ u,b0::t=Yg (dec (b0::t)).1++u)/\(dec (b0::t)).2=((Yg (dec (b0::t)).1).length:Int)) \/
  (dec (b0::t)=(65533,1)/\128<=b0):=by
 simp only [dec]
 by_cases h1:b0<128
 ·rw [if_pos h1]
  left
  refine ⟨(Xt _).2 ⟨by dsimp only;omega,by dsimp only;omega,by dsimp only;omega⟩,⟨t,by rw [XbJ _ h1];rfl⟩,by rw [XbJ _ h1];rfl⟩
 ·rw [if_neg h1]
  by_cases h2:192<=b0/\b0<224
  ·rw [if_pos h2]
   match t with
   | []=>right;exact ⟨rfl,by omega⟩
   | b1::t =>
    simp only;split
    ·rename_i hc
     left
     have e:Yg ((b0-192)*64+(b1-128))=[b0,b1]:=by
      rw [XgS _ (by omega) (by omega)]
      congr 1
      ·omega
      ·congr 1;omega
     refine ⟨(Xt _).2 ⟨by dsimp only;omega,by dsimp only;omega,by dsimp only;omega⟩,⟨t,by rw [e];rfl⟩,by rw [e];rfl⟩
    ·right;exact ⟨rfl,by omega⟩
  ·rw [if_neg h2]
   by_cases h3:224<=b0/\b0<240
   ·rw [if_pos h3]
    match t with
    | []=>right;exact ⟨rfl,by omega⟩
    | [b1]=>right;exact ⟨rfl,by omega⟩
    | b1::b2::t =>
     simp only;split
     ·rename_i hc
      left
      have e:Yg ((b0-224)*4096+(b1-128)*64+(b2-128))=[b0,b1,b2]:=by
       rw [Yg,if_neg (by omega),if_neg (by omega),if_pos (by omega)]
       congr 1
       ·omega
       ·congr 1
        ·omega
        ·congr 1;omega
      refine ⟨hc.2.2.2,⟨t,by rw [e];rfl⟩,by rw [e];rfl⟩
     ·right;exact ⟨rfl,by omega⟩
   ·rw [if_neg h3]
    by_cases h4:240<=b0/\b0<248
    ·rw [if_pos h4]
     match t with
     | []=>right;exact ⟨rfl,by omega⟩
     | [b1]=>right;exact ⟨rfl,by omega⟩
     | [b1,b2]=>right;exact ⟨rfl,by omega⟩
     | b1::b2::b3::t =>
      simp only;split
      ·rename_i hc
       left
       have e:Yg ((b0-240)*262144+(b1-128)*4096+(b2-128)*64+(b3-128))=[b0,b1,b2,b3]:=by
        rw [Yg,if_neg (by omega),if_neg (by omega),if_neg (by omega)]
        congr 1
        ·omega
        ·congr 1
         ·omega
         ·congr 1
          ·omega
          ·congr 1;omega
       refine ⟨hc.2.2.2.2,⟨t,by rw [e];rfl⟩,by rw [e];rfl⟩
      ·right;exact ⟨rfl,by omega⟩
    ·rw [if_neg h4];right;exact ⟨rfl,by omega⟩
def XN (s:ByteArray):List Int:=s.data.toList.map fun b=>(b.toNat:Int)
theorem Yx (s:ByteArray):(XN s).length=s.size:=by simp only [XN,List.length_map,Array.length_toList];rfl
theorem Xei (s:ByteArray):∀ x∈XN s,0<=x/\x<256:=by
 intro x hx;simp only [XN,List.mem_map] at hx;obtain ⟨b,_,rfl⟩:=hx;have:=b.toNat_lt;omega
theorem XcT (s:ByteArray):strOfNums (XN s)=s:=by
 cases s with|mk d =>
 simp [strOfNums,XN,Function.comp_def]
theorem XgK (l:List Int) (h:∀ x∈l,0<=x/\x<256):XN (strOfNums l)=l:=by
 simp only [XN,strOfNums,List.map_map]
 conv=>rhs;rw [<- List.map_id l]
 apply List.map_congr_left
 intro x hx;have:=h x hx;simp;omega
theorem Xhk (s:ByteArray) (i:Nat) (h:i<s.size):(XN s)[i]?=some ((s.get! i).toNat:Int):=by
 have h':i<s.data.size:=h;simp only [XN,List.getElem?_map,ByteArray.get!,Array.getElem?_toList,Array.getElem?_eq_getElem h',Option.map_some,getElem!_pos s.data i h']
theorem UM (n:Nat):Utf8.valid (n:Int)=Xh (n:Int):=by
 rw [Bool.eq_iff_iff,Xt];simp [Utf8.valid];omega
def Xbf (n0 n1 n2 n3:Nat) (p1 p2 p3:Bool):Nat×Nat :=
 if n0<128 then (n0,1)
 else if n0 / 32==6 && (p1 && n1 / 64==2) then
  if n0 % 32*64+n1 % 64 ≥ 128 then (n0 % 32*64+n1 % 64,2) else (65533,1)
 else if n0 / 16==14 && (p1 && n1 / 64==2) && (p2 && n2 / 64==2) then
  if n0 % 16*4096+n1 % 64*64+n2 % 64 ≥ 2048 && Utf8.valid (n0 % 16*4096+n1 % 64*64+n2 % 64:Nat) then (n0 % 16*4096+n1 % 64*64+n2 % 64,3) else (65533,1)
 else if n0 / 8==30 && (p1 && n1 / 64==2) && (p2 && n2 / 64==2) && (p3 && n3 / 64==2) then
  if n0 % 8*262144+n1 % 64*4096+n2 % 64*64+n3 % 64 ≥ 65536 && Utf8.valid (n0 % 8*262144+n1 % 64*4096+n2 % 64*64+n3 % 64:Nat) then (n0 % 8*262144+n1 % 64*4096+n2 % 64*64+n3 % 64,4) else (65533,1)
 else (65533,1)
theorem Xf8 (s:ByteArray) (i:Nat):Utf8.decode s i=Xbf (s.get! (i+0)).toNat (s.get! (i+1)).toNat (s.get! (i+2)).toNat (s.get! (i+3)).toNat (decide (i+1<s.size)) (decide (i+2<s.size)) (decide (i+3<s.size)):=rfl
def QB (p:Nat×Nat):Int×Int:=((p.1:Int),(p.2:Int))
theorem XhE (n0 n1 n2 n3:Nat):QB (Xbf n0 n1 n2 n3 false false false)=dec [(n0:Int)]:=by
 simp only [Xbf,dec,Bool.false_and,Bool.and_false,Bool.false_eq_true,if_false,Bool.and_eq_true,decide_eq_true_eq,UM,Xt]
 repeat' split
 all_goals first|rfl|(simp only [QB,Prod.mk.injEq];omega)
theorem XhF (n0 n1 n2 n3:Nat):QB (Xbf n0 n1 n2 n3 true false false)=dec [(n0:Int),(n1:Int)]:=by
 simp only [Xbf,dec,Bool.false_and,Bool.and_false,Bool.false_eq_true,if_false,Bool.true_and,Bool.and_eq_true,decide_eq_true_eq,beq_iff_eq,UM,Xt]
 repeat' split
 all_goals first|rfl|(simp only [QB,Prod.mk.injEq];omega)
theorem XhG (n0 n1 n2 n3:Nat):QB (Xbf n0 n1 n2 n3 true true false)=dec [(n0:Int),(n1:Int),(n2:Int)]:=by
 simp only [Xbf,dec,Bool.false_and,Bool.and_false,Bool.false_eq_true,if_false,Bool.true_and,Bool.and_eq_true,decide_eq_true_eq,beq_iff_eq,UM,Xt]
 repeat' split
 all_goals first|rfl|(simp only [QB,Prod.mk.injEq];omega)
theorem XhH (n0 n1 n2 n3:Nat) (t:List Int):QB (Xbf n0 n1 n2 n3 true true true)=dec ((n0:Int)::(n1:Int)::(n2:Int)::(n3:Int)::t):=by
 simp only [Xbf,dec,Bool.true_and,Bool.and_eq_true,decide_eq_true_eq,beq_iff_eq,UM,Xt]
 repeat' split
 all_goals first|rfl|(simp only [QB,Prod.mk.injEq];omega)
theorem Qv (s:ByteArray) (i k:Nat) (h:i+k<s.size):((XN s).drop i)[k]?=some ((s.get! (i+k)).toNat:Int):=by
 rw [List.getElem?_drop];exact Xhk s (i+k) h
theorem Xc4 (s:ByteArray) (i:Nat) (h:i<s.size):QB (Utf8.decode s i)=dec ((XN s).drop i):=by
 have hl:((XN s).drop i).length=s.size-i:=by simp [Yx]
 have h0:=Qv s i 0 (by omega);have h1:=Qv s i 1;have h2:=Qv s i 2;have h3:=Qv s i 3;rw [Xf8]
 match hd:(XN s).drop i with
 | []=>rw [hd] at hl;simp at hl;omega
 | [b0] =>
  rw [hd] at hl h0
  simp at h0 hl;rw [decide_eq_false (by omega),decide_eq_false (by omega),decide_eq_false (by omega),XhE,h0];rfl
 | [b0,b1] =>
  rw [hd] at hl h0 h1
  simp at h0 hl;have h1:=h1 (by omega);simp at h1;rw [decide_eq_true (by omega),decide_eq_false (by omega),decide_eq_false (by omega),XhF,h0,h1];rfl
 | [b0,b1,b2] =>
  rw [hd] at hl h0 h1 h2
  simp at h0 hl;have h1:=h1 (by omega);have h2:=h2 (by omega);simp at h1 h2;rw [decide_eq_true (by omega),decide_eq_true (by omega),decide_eq_false (by omega),XhG,h0,h1,h2];rfl
 | b0::b1::b2::b3::t =>
  rw [hd] at hl h0 h1 h2 h3
  simp at h0 hl;have h1:=h1 (by omega);have h2:=h2 (by omega);have h3:=h3 (by omega);simp at h1 h2 h3;rw [decide_eq_true (by omega),decide_eq_true (by omega),decide_eq_true (by omega),XhH _ _ _ _ t,h0,h1,h2,h3];rfl
structure St where
 fore:Int
 back:Int
 bold:Bool
 under:Bool
 turned:Bool
deriving DecidableEq
def St.zero:St:=⟨0,0,false,false,false⟩
def St.ok (s:St):Bool:=decide (0<=s.fore/\s.fore<=8/\0<=s.back/\s.back<=8)
theorem St.ok_iff (s:St):s.ok=true ↔ 0<=s.fore/\s.fore<=8/\0<=s.back/\s.back<=8:=by simp [St.ok]
def Yf (s:St) (n:Int):St :=
 if n=0 then St.zero
 else if n=1\/n=22 then { s with bold:=decide (n=1) }
 else if n=4\/n=24 then { s with under:=decide (n=4) }
 else if n=7\/n=27 then { s with turned:=decide (n=7) }
 else if 30<=n/\n<=37 then { s with fore:=n-29 }
 else if n=39 then { s with fore:=0 }
 else if 40<=n/\n<=47 then { s with back:=n-39 }
 else if n=49 then { s with back:=0 }
 else s
def X8 (s:St) (l:List Int):St:=l.foldl Yf s
def Jn (s:St) (l:List Int):St:=if s.ok=true/\l.length<=16 then (if l=[] then St.zero else X8 s l) else St.zero
theorem Xfh (s:St) (n:Int) (h:s.ok=true):(Yf s n).ok=true:=by
 have hs:=(St.ok_iff s).1 h;unfold Yf
 repeat' split
 all_goals first|exact h|(rw [St.ok_iff];simp [St.zero];try omega)
theorem XdZ (l:List Int):∀ s:St,s.ok=true->(X8 s l).ok=true:=by
 induction l with
 | nil=>intro s h;exact h
 | cons n l ih=>intro s h;exact ih _ (Xfh s n h)
structure Ce where
 rune:Int
 st:St
 part:Int
deriving DecidableEq
def Ce.zero:Ce:=⟨0,St.zero,0⟩
def Xz (s:St):Ce:=⟨32,s,0⟩
def atC (l:List Ce) (i:Nat):Ce:=l.getD i Ce.zero
theorem Jg {l:List Ce} {i:Nat} (h:i<l.length):atC l i=l[i]:=by simp [atC,List.getD,h]
theorem Qp (l m:List Ce) (i:Nat) (h:i<l.length):atC (l++m) i=atC l i:=by
 simp [atC,List.getD,List.getElem?_append_left h]
theorem UN (l m:List Ce) (i:Nat):atC (l++m) (l.length+i)=atC m i:=by
 simp [atC,List.getD,List.getElem?_append_right]
theorem Kj (l:List Ce) (j i:Nat) (c:Ce):atC (l.set j c) i=if i=j/\j<l.length then c else atC l i:=by
 simp only [atC,List.getD,List.getElem?_set]
 by_cases h:j=i
 ·subst h
  by_cases h2:j<l.length
  ·simp [h2]
  ·simp [h2]
 ·rw [if_neg h,if_neg (fun e=>h e.1.symm)]
theorem YF (l m:List Ce) (hl:l.length=m.length) (h:∀ i,i<l.length->atC l i=atC m i):l=m:=by
 apply List.ext_getElem hl
 intro i h1 h2;have:=h i h1
 rwa [Jg h1,Jg h2] at this
theorem Kw (l:List Ce) (n i:Nat) (h:i<n):atC (l.take n) i=atC l i:=by simp [atC,List.getD,h]
theorem Y3 (l:List Ce) (n i:Nat):atC (l.drop n) i=atC l (n+i):=by simp [atC,List.getD,List.getElem?_drop]
def Yl (l:List Ce) (i:Nat):Bool :=
 ((atC l i).part==1 && (decide (i+1=l.length) || (atC l (i+1)).part != 2)) || ((atC l i).part==2 && (decide (i=0) || (atC l (i-1)).part != 1))
def Z5 (l:List Ce) (i:Nat):Ce:=if Yl l i=true then Xz (atC l i).st else atC l i
def Y1 (l:List Ce) (j:Nat):List Ce:=(List.range l.length).map fun i=>if i<j then Z5 l i else atC l i
def Xs (l:List Ce):List Ce:=Y1 l l.length
theorem Yo (l:List Ce) (j:Nat):(Y1 l j).length=l.length:=by simp [Y1]
theorem Zy (l:List Ce) (j i:Nat) (h:i<l.length):atC (Y1 l j) i=if i<j then Z5 l i else atC l i:=by
 rw [Jg (by rw [Yo];exact h)]
 simp [Y1]
theorem Xcy (l:List Ce):Y1 l 0=l:=YF _ _ (Yo l 0) fun i h=>by
 rw [Yo] at h
 rw [Zy l 0 i h];simp
theorem Xcx (l:List Ce) (j:Nat) (h:j<l.length):Y1 l (j+1)=(Y1 l j).set j (Z5 l j):=YF _ _ (by simp [Yo]) fun i hi=>by
 rw [Yo] at hi
 rw [Zy l (j+1) i hi,Kj,Yo,Zy l j i hi]
 by_cases e:i=j
 ·subst e;simp [h]
 ·rw [if_neg (show ¬ (i=j/\j<l.length) from fun x=>e x.1)]
  by_cases e2:i<j
  ·rw [if_pos e2,if_pos (by omega)]
  ·rw [if_neg e2,if_neg (by omega)]
theorem Xcw (l:List Ce) (j:Nat) (h:j<l.length) (ha:Yl l j=false):Y1 l (j+1)=Y1 l j:=YF _ _ (by simp [Yo]) fun i hi=>by
 rw [Yo] at hi
 rw [Zy l (j+1) i hi,Zy l j i hi]
 by_cases e:i=j
 ·subst e;simp [Z5,ha]
 ·by_cases e2:i<j
  ·rw [if_pos e2,if_pos (by omega)]
  ·rw [if_neg e2,if_neg (by omega)]
theorem XC (l:List Ce):(Xs l).length=l.length:=Yo l _
theorem XgE (l:List Ce) (i:Nat) (h:i<l.length):atC (Xs l) i=Z5 l i:=by
 rw [Xs,Zy l _ i h,if_pos h]
def XI (l:List Ce) (a b:Nat) (s:St):List Ce:=(List.range l.length).map fun i=>if a<=i/\i<b then Xz s else atC l i
theorem Xq (l:List Ce) (a b:Nat) (s:St):(XI l a b s).length=l.length:=by simp [XI]
theorem ZS (l:List Ce) (a b:Nat) (s:St) (i:Nat) (h:i<l.length):atC (XI l a b s) i=if a<=i/\i<b then Xz s else atC l i:=by
 rw [Jg (by rw [Xq];exact h)]
 simp [XI]
theorem JE (l:List Ce) (a:Nat) (s:St):XI l a a s=l:=YF _ _ (Xq l a a s) fun i h=>by
 rw [Xq] at h
 rw [ZS l a a s i h,if_neg (by omega)]
theorem Xcb (l:List Ce) (a b:Nat) (s:St) (hab:a<=b) (h:b<l.length):XI l a (b+1) s=(XI l a b s).set b (Xz s):=YF _ _ (by simp [Xq]) fun i hi=>by
 rw [Xq] at hi
 rw [ZS l a (b+1) s i hi,Kj,Xq,ZS l a b s i hi]
 by_cases e:i=b
 ·subst e;rw [if_pos (by omega),if_pos ⟨rfl,h⟩]
 ·rw [if_neg (show ¬ (i=b/\b<l.length) from fun x=>e x.1)]
  by_cases e2:a<=i/\i<b
  ·rw [if_pos e2,if_pos (by omega)]
  ·rw [if_neg e2,if_neg (by omega)]
def XU (l:List Ce) (a b:Nat) (s:St):List Ce:=Xs (XI l a b s)
theorem X9 (l:List Ce) (a b:Nat) (s:St):(XU l a b s).length=l.length:=by rw [XU,XC,Xq]
def X0 (n:Nat) (s:St):List Ce:=List.replicate n (Xz s)
open Go.ChangeShapes Go.WideShapes Go.ChangeAt Go.RowKit
theorem Xe {a b:Bool} (h:a=b):Ending.returned (.bool a)=.returned (.bool b):=by rw [h]
theorem XQ (x lo hi:Int) (w:World) :
  Calls Tryz.prog 73 #[.int .i64 x,.int .i64 lo,.int .i64 hi] w fun e w'=>e=.returned (.bool (decide (lo<=x/\x<=hi)))/\w'=w:=by
 by_cases h1:lo<=x
 ·go_enter Tryz.func73,Tryz.ntmps73
  go_wp2;go_ret;exact ⟨Xe (by simp [h1]),rfl⟩
 ·go_enter Tryz.func73,Tryz.ntmps73
  go_wp2;go_ret;exact ⟨Xe (by simp;omega),rfl⟩
def stV (s:St):Value:=.agg #[.int .i64 s.fore,.int .i64 s.back,.bool s.bold,.bool s.under,.bool s.turned]
theorem Kh (s:St) (w:World) :
  Calls Tryz.prog 74 #[stV s] w fun e w'=>e=.returned (.bool s.ok)/\Below w.heap.size w w':=by
 obtain ⟨f,b,bo,un,tu⟩:=s;have hok:Hid ((St.mk f b bo un tu).ok=decide (0<=f/\f<=8/\0<=b/\b<=8)):=rfl;unfold stV;simp only;go_enter Tryz.func74,Tryz.ntmps74;go_wp2_with (go_at_call 73;refine (XQ _ _ _ _).mono ?_;rintro e w' ⟨rfl,hw⟩;subst hw)
 all_goals
  go_ret;refine ⟨Xe ?_,(Below.refl _ _).alloc (Nat.le_refl _) _⟩;rw [hok.out]
  clear hok
  by_cases h1:0<=f/\f<=8
  ·by_cases h2:0<=b/\b<=8
   ·have h3:0<=f/\f<=8/\0<=b/\b<=8:=⟨h1.1,h1.2,h2⟩
    simp_all
   ·have h3:¬ (0<=f/\f<=8/\0<=b/\b<=8):=fun h=>h2 h.2.2
    simp_all
    try omega
  ·have h3:¬ (0<=f/\f<=8/\0<=b/\b<=8):=fun h=>h1 ⟨h.1,h.2.1⟩
   simp_all
theorem _root_.Go.World.ownsRow.below {w w':World} {base:Nat} {e:TypeId} {size:Nat} {v:Value} {n:Nat} {xs:List Value} (h:w.ownsRow base e size v n xs) (hb:Below w.heap.size w w'):w'.ownsRow base e size v n xs:=by
 refine ⟨h.1,?_⟩;rcases h.2 with h2|⟨g,cap,cur,hv,hbg,hg,r⟩
 ·exact .inl h2
 ·exact .inr ⟨g,cap,cur,hv,hbg,by rw [hb.block g (Array.getElem?_eq_some_iff.1 hg).1];exact hg,r⟩
def SlI (w:World) (v:Value) (xs:List Int):Prop :=
 ∃ a c,v=.slice a xs.length c/\(xs=[]\/∃ b off,a=some ⟨b,off,none⟩/\b<w.heap.size/\∀ i,i<xs.length->w.cell? ⟨b,off+i,none⟩=some (.int .i64 (xs.getD i 0)))
theorem SlI.of_own {w:World} {base:Nat} {e:TypeId} {v:Value} {xs:List Int} (h:w.ownsRow base e 1 v xs.length (xs.map (Value.int .i64))):SlI w v xs:=by
 rcases h.2 with ⟨rfl,h2⟩|⟨g,cap,cur,rfl,hb,hg,hr⟩
 ·exact ⟨none,0,by rw [h2],.inl (List.eq_nil_of_length_eq_zero h2)⟩
 ·refine ⟨_,cap,rfl,.inr ⟨g,0,rfl,(Array.getElem?_eq_some_iff.1 hg).1,fun i hi=>?_⟩⟩
  have:=h.cellAt i (by simpa using hi);rw [Nat.zero_add,this]
  simp [hi]
theorem SlI.below {w w':World} {v:Value} {xs:List Int} (h:SlI w v xs) (hb:Below w.heap.size w w'):SlI w' v xs:=by
 obtain ⟨a,c,hv,h|⟨b,off,ha,hlt,hc⟩⟩:=h
 ·exact ⟨a,c,hv,.inl h⟩
 ·exact ⟨a,c,hv,.inr ⟨b,off,ha,Nat.lt_of_lt_of_le hlt hb.size,fun i hi=>(hb.cell (p:=⟨b,off+i,none⟩) hlt).trans (hc i hi)⟩⟩
theorem gbl {w w':World} (h:Below w.heap.size w w') (row:Option Nat):w.grownBy w' row:=⟨h.os,h.tape,h.output,h.size,fun k hk _=>h.block k hk⟩
theorem sCc (w:World) (B o:Nat) (u:Value):w.grownBy (w.setCell ⟨B,o,none⟩ u) (some B) :=
 ⟨rfl,rfl,rfl,by simp,fun k _ hk=>heap_setCell_other w ⟨B,o,none⟩ k _ (fun e=>hk (by simp [e]))⟩
theorem Xf {a b c:World} {row:Option Nat} (h:a.grownBy b row) (k:b.grownBy c row):a.grownBy c row :=
 ⟨k.os.trans h.os,k.tape.trans h.tape,k.output.trans h.output,Nat.le_trans h.size k.size,fun i hi hr=>(k.block i (Nat.lt_of_lt_of_le hi h.size) hr).trans (h.block i hi hr)⟩
theorem UA {w0 w w':World} {B:Nat} (hb:Below w0.heap.size w0 w) (hg:w.grownBy w' (some B)) (h:w0.heap.size<=B):Below w0.heap.size w0 w' :=
 hb.grown hg hb.size (fun k hk=>by cases hk;exact h)
theorem Xd (w:World) (o:Obj):Below w.heap.size w (w.alloc o):=(Below.refl _ _).alloc (Nat.le_refl _) o
theorem bdr (w:World):Below w.heap.size w w.drew:=⟨rfl,rfl,rfl,Nat.le_refl _,fun _ _=>rfl⟩
def XT (w:World) (B:Nat) (s:St):Prop :=
 B<w.heap.size/\(w.cell? ⟨B,0,none⟩=some (.int .i64 s.fore)/\w.cell? ⟨B,1,none⟩=some (.int .i64 s.back)/\w.cell? ⟨B,2,none⟩=some (.bool s.bold)/\w.cell? ⟨B,3,none⟩=some (.bool s.under)/\w.cell? ⟨B,4,none⟩=some (.bool s.turned)) /\
  (w.frozen? ⟨B,0,none⟩=false/\w.frozen? ⟨B,1,none⟩=false/\w.frozen? ⟨B,2,none⟩=false/\w.frozen? ⟨B,3,none⟩=false/\w.frozen? ⟨B,4,none⟩=false)
theorem XT.grown {w w':World} {B:Nat} {s:St} {row:Option Nat} (h:XT w B s) (hg:w.grownBy w' row) (hr:row≠some B):XT w' B s:=by
 have hb:=hg.block B h.1 (Ne.symm hr);have hc:∀ k,w'.cell? ⟨B,k,none⟩=w.cell? ⟨B,k,none⟩:=fun k=>World.cell?_of_block (w:=w) hb
 have hz:∀ k,w'.frozen? ⟨B,k,none⟩=w.frozen? ⟨B,k,none⟩:=fun k=>World.frozen?_of_block (w:=w) hb
 refine ⟨Nat.lt_of_lt_of_le h.1 hg.size,?_,?_⟩
 ·rw [hc,hc,hc,hc,hc];exact h.2.1
 ·rw [hz,hz,hz,hz,hz];exact h.2.2
theorem XT.below {w w':World} {B:Nat} {s:St} (h:XT w B s) (hb:Below w.heap.size w w'):XT w' B s:=h.grown (gbl hb none) (by simp)
theorem XT.new (w:World) (s:St) (t:TypeId):XT (w.alloc (.cells #[.int .i64 s.fore,.int .i64 s.back,.bool s.bold,.bool s.under,.bool s.turned] t)) w.heap.size s :=
 ⟨by simp,⟨by simp [go_sem],by simp [go_sem],by simp [go_sem],by simp [go_sem],by simp [go_sem]⟩,⟨by simp [go_sem],by simp [go_sem],by simp [go_sem],by simp [go_sem],by simp [go_sem]⟩⟩
def UG (w:World) (B:Nat) (s:St):World :=
 ((((w.setCell ⟨B,0,none⟩ (.int .i64 s.fore)).setCell ⟨B,1,none⟩ (.int .i64 s.back)).setCell ⟨B,2,none⟩ (.bool s.bold)).setCell ⟨B,3,none⟩ (.bool s.under)).setCell ⟨B,4,none⟩ (.bool s.turned)
theorem Zz (w:World) (B:Nat) (s:St):w.grownBy (UG w B s) (some B) :=
 Xf (Xf (Xf (Xf (sCc w B 0 _) (sCc _ B 1 _)) (sCc _ B 2 _)) (sCc _ B 3 _)) (sCc _ B 4 _)
theorem Xc (w:World) (B a b:Nat) (u:Value) (h:a≠b):(w.setCell ⟨B,b,none⟩ u).cell? ⟨B,a,none⟩=w.cell? ⟨B,a,none⟩:=by
 simp [World.setCell,World.cell?,Array.getElem?_modify]
 cases hh:w.heap[B]? with
 | none=>simp
 | some o=>cases o<;>simp [Ne.symm h]
theorem XT.put {w:World} {B:Nat} {s:St} (h:XT w B s) (s':St):XT (UG w B s') B s':=by
 obtain ⟨hlt,⟨c0,c1,c2,c3,c4⟩,⟨z0,z1,z2,z3,z4⟩⟩:=h;refine ⟨by simpa [UG] using hlt,⟨?_,?_,?_,?_,?_⟩,⟨?_,?_,?_,?_,?_⟩⟩
 all_goals simp only [UG]
 ·rw [Xc _ _ _ _ _ (by decide),Xc _ _ _ _ _ (by decide),Xc _ _ _ _ _ (by decide),Xc _ _ _ _ _ (by decide)];simp [go_sem,c0]
 ·rw [Xc _ _ _ _ _ (by decide),Xc _ _ _ _ _ (by decide),Xc _ _ _ _ _ (by decide)];simp [go_sem,c1]
 ·rw [Xc _ _ _ _ _ (by decide),Xc _ _ _ _ _ (by decide)];simp [go_sem,c2]
 ·rw [Xc _ _ _ _ _ (by decide)];simp [go_sem,c3]
 ·simp [go_sem,c4]
 ·simp [go_sem,z0]
 ·simp [go_sem,z1]
 ·simp [go_sem,z2]
 ·simp [go_sem,z3]
 ·simp [go_sem,z4]
end Go.Proofs.YtfpopnkhmjkdlaaGreatDoor
namespace Go.Proofs.YtfpopnkhmjkdlaaGreatDoor
theorem XgJ {a b:ByteArray} (h:XN a=XN b):a=b:=by rw [<- XcT a,<- XcT b,h]
theorem Q0 (a b:ByteArray):(a.toList==b.toList)=decide (XN a=XN b):=by
 rw [ByteArray.toList_eq,ByteArray.toList_eq]
 by_cases h:a=b
 ·subst h;simp
 ·have h1:¬ XN a=XN b:=fun e=>h (XgJ e)
  have h2:(a.data.toList==b.data.toList)=false:=by
   apply Bool.eq_false_iff.2
   intro e;have e:=eq_of_beq e;apply h;cases a;cases b;simp at e;rw [e]
  rw [h2];simp [h1]
theorem ZO (s:ByteArray) (a b:Nat):XN (s.extract a b)=((XN s).take b).drop a:=by
 simp [XN,ByteArray.data_extract,List.drop_take]
def UC (s p:ByteArray):Bool:=decide (p.size<=s.size) && ((s.extract 0 p.size).toList==p.toList)
theorem K5 (s p:ByteArray):UC s p=true ↔ ∃ u,XN s=XN p++u:=by
 simp only [UC,Bool.and_eq_true,decide_eq_true_eq,Q0,ZO,List.drop_zero]
 constructor
 ·rintro ⟨_,h⟩
  exact ⟨(XN s).drop p.size,by rw [<- h,List.take_append_drop]⟩
 ·rintro ⟨u,h⟩
  have hl:=congrArg List.length h;simp only [List.length_append,Yx] at hl;refine ⟨by omega,?_⟩;rw [h,<- Yx p,List.take_left']
  rfl
theorem Xhp (r:Int) (h:Xh r=true):∀ x∈Yg r,0<=x/\x<256:=by
 have hb:=YO r h;intro x hx;unfold Yg at hx;split at hx
 ·simp at hx;omega
 ·split at hx
  ·simp at hx;omega
  ·split at hx
   ·simp at hx;omega
   ·simp at hx;omega
theorem ZW (r:Int) (h:Xh r=true):XN (Zt r)=Yg r:=by
 rw [XbK r h,XgK _ (Xhp r h)]
theorem J0 (r:Int) (h:Xh r=true):(Zt r).size=(Yg r).length:=by
 rw [<- Yx,ZW r h]
theorem Un (r:Int):(Zt r).size<=4:=by
 by_cases h:Xh r=true
 ·rw [J0 r h];have:=UF r;omega
 ·rw [Xen r (by simpa using h)];decide
def XP (s:ByteArray):Int×Int:=dec (XN s)
theorem Jj (s:ByteArray) (h:0<s.size) :
  (Xh (XP s).1=true/\UC s (Zt (XP s).1)=true/\(XP s).2=((Zt (XP s).1).size:Int)) \/
  (XP s=(65533,1)/\∀ r,Xh r=true->UC s (Zt r)=false):=by
 have hl:=Yx s;unfold XP
 match hn:XN s with
 | []=>rw [hn] at hl;simp at hl;omega
 | b0::t =>
  have hb:0<=b0:=by have:=Xei s b0 (by rw [hn];simp);omega
  rcases Xeo b0 t hb with ⟨h1,⟨u,h2⟩,h3⟩|⟨h1,h2⟩
  ·left
   refine ⟨h1,?_,?_⟩
   ·rw [K5];exact ⟨u,by rw [ZW _ h1,hn];exact h2⟩
   ·rw [J0 _ h1];exact h3
  ·by_cases hp:∃ r,Xh r=true/\UC s (Zt r)=true
   ·obtain ⟨r,hr,hq⟩:=hp
    rw [K5] at hq
    obtain ⟨u,hu⟩:=hq;rw [ZW r hr,hn] at hu
    have hd:=Xd8 r u hr;rw [<- hu,h1] at hd
    simp only [Prod.mk.injEq] at hd;obtain ⟨e1,e2⟩:=hd;subst e1;simp [Yg] at e2
   ·right
    refine ⟨h1,fun r hr=>?_⟩
    cases hq:UC s (Zt r)
    ·rfl
    ·exact absurd ⟨r,hr,hq⟩ hp
theorem Xbi (s:ByteArray) (r:Int) (hr:Xh r=true) (h:UC s (Zt r)=true):XP s=(r,((Zt r).size:Int)):=by
 rw [K5] at h
 obtain ⟨u,hu⟩:=h;unfold XP;rw [hu,ZW r hr,Xd8 r u hr,J0 r hr]
theorem Xhd (s:ByteArray) (h:0<s.size):0<=(XP s).1/\(XP s).1<=1114111/\1<=(XP s).2/\(XP s).2<=4/\(XP s).2<=s.size:=by
 rcases Jj s h with ⟨h1,h2,h3⟩|⟨h1,_⟩
 ·have hb:=YO _ h1
  have hz:=J0 _ h1;have hL:=UF (XP s).1;have h4:=Un (XP s).1;simp only [UC,Bool.and_eq_true,decide_eq_true_eq] at h2;omega
 ·rw [h1];simp only;omega
theorem Xcc (s:ByteArray) (h:0<s.size):(((Utf8.decode s 0).1:Nat):Int)=(XP s).1/\(((Utf8.decode s 0).2:Nat):Int)=(XP s).2:=by
 have:=Xc4 s 0 h;simp only [List.drop_zero,QB] at this;unfold XP;rw [<- this];exact ⟨rfl,rfl⟩
def XO (b:Int):Int:=if b<128 then 1 else if 192<=b/\b<224 then 2 else if 224<=b/\b<240 then 3 else if 240<=b/\b<248 then 4 else 0
def rV (l:List Int):Int :=
 match l with
 | [b0]=>b0
 | [b0,b1]=>b0 % 32*64+b1 % 64
 | [b0,b1,b2]=>(b0 % 16*64+b1 % 64)*64+b2 % 64
 | [b0,b1,b2,b3]=>((b0 % 8*64+b1 % 64)*64+b2 % 64)*64+b3 % 64
 | _=>0
theorem Xct (c:Int) (h:Xh c=true):∃ b0 t,Yg c=b0::t/\XO b0=((Yg c).length:Int)/\rV (Yg c)=c:=by
 have hb:=YO c h;unfold Yg
 by_cases h1:c<128
 ·rw [if_pos h1];exact ⟨_,_,rfl,by simp [XO,h1],rfl⟩
 ·rw [if_neg h1]
  by_cases h2:c<2048
  ·rw [if_pos h2];refine ⟨_,_,rfl,?_,?_⟩
   ·unfold XO;simp only [List.length_cons,List.length_nil];omega
   ·simp only [rV];omega
  ·rw [if_neg h2]
   by_cases h3:c<65536
   ·rw [if_pos h3];refine ⟨_,_,rfl,?_,?_⟩
    ·unfold XO;simp only [List.length_cons,List.length_nil];omega
    ·simp only [rV];omega
   ·rw [if_neg h3];refine ⟨_,_,rfl,?_,?_⟩
    ·unfold XO;simp only [List.length_cons,List.length_nil];omega
    ·simp only [rV];omega
theorem YM (s:ByteArray) (i:Nat) (h:i<s.size):(XN s)[i]?=some ((s[i]'h).toNat:Int):=by
 have h':i<s.data.size:=h;simp only [XN,List.getElem?_map,Array.getElem?_toList,Array.getElem?_eq_getElem h',Option.map_some]
 rfl
theorem QL (s:ByteArray) (h:0<s.size) (hn:XO ((s[0]'h).toNat:Int)=0\/(s.size:Int)<XO ((s[0]'h).toNat:Int)):XP s=(65533,1):=by
 rcases Jj s h with ⟨h1,h2,_⟩|⟨h1,_⟩
 ·exfalso
  rw [K5] at h2
  obtain ⟨u,hu⟩:=h2;rw [ZW _ h1] at hu
  obtain ⟨b0,t,e1,e2,_⟩:=Xct _ h1;have g0:=YM s 0 h;have hl:=congrArg List.length hu;rw [Yx,List.length_append] at hl
  rw [hu,e1] at g0
  simp at g0;subst g0;have:=UF (XP s).1;omega
 ·exact h1
theorem JY (s:ByteArray) (h:0<s.size) (n:Nat) (r:Int) (hn:XO ((s[0]'h).toNat:Int)=n) (h1:1<=n) (hs:n<=s.size) (hr:rV ((XN s).take n)=r) :
  XP s=if ((Zt r).toList==(s.extract 0 n).toList)=true then (r,(n:Int)) else (65533,1):=by
 have hsz:(XN (s.extract 0 n)).length=n:=by rw [ZO];simp [Yx];omega
 by_cases hp:((Zt r).toList==(s.extract 0 n).toList)=true
 ·rw [if_pos hp]
  have hq:=hp;rw [Q0,decide_eq_true_eq] at hq
  have hk:Xh r=true:=by
   cases hk:Xh r
   ·rw [Xen r hk] at hq
    have:=congrArg List.length hq;rw [hsz] at this
    simp [XN] at this;omega
   ·rfl
  have hz:(Zt r).size=n:=by rw [<- Yx,hq,hsz]
  rw [<- hz]
  apply Xbi s r hk
  rw [K5,hq,ZO,List.drop_zero]
  exact ⟨_,(List.take_append_drop n _).symm⟩
 ·rw [if_neg hp]
  rcases Jj s h with ⟨k1,k2,_⟩|⟨k1,_⟩
  ·exfalso
   apply hp
   rw [K5] at k2
   obtain ⟨u,hu⟩:=k2;rw [ZW _ k1] at hu
   obtain ⟨b0,t,e1,e2,e3⟩:=Xct _ k1;have g0:=YM s 0 h;rw [hu,e1] at g0
   simp at g0;subst g0;have hL:(Yg (XP s).1).length=n:=by omega
   have ht:(XN s).take n=Yg (XP s).1:=by rw [hu,<- hL];exact List.take_left
   rw [ht,e3] at hr
   rw [Q0,decide_eq_true_eq,<- hr,ZW _ k1,ZO,ht];rfl
  ·exact k1
theorem XdJ (s:ByteArray) (h:0<s.size):(XN s).take 1=[((s[0]'(by omega)).toNat:Int)]:=by
 have hl:=Yx s;have g0:=YM s 0 (by omega)
 match hd:XN s with
 | []=>rw [hd] at hl;simp at hl;omega
 | b0::t =>
  rw [hd] at g0
  simp at g0;subst g0
  rfl
theorem XdK (s:ByteArray) (h:1<s.size):(XN s).take 2=[((s[0]'(by omega)).toNat:Int),((s[1]'(by omega)).toNat:Int)]:=by
 have hl:=Yx s;have g0:=YM s 0 (by omega);have g1:=YM s 1 (by omega)
 match hd:XN s with
 | []=>rw [hd] at hl;simp at hl;omega
 | [b0]=>rw [hd] at hl;simp at hl;omega
 | b0::b1::t =>
  rw [hd] at g0 g1
  simp at g0 g1;subst g0 g1
  rfl
theorem XdL (s:ByteArray) (h:2<s.size):(XN s).take 3=[((s[0]'(by omega)).toNat:Int),((s[1]'(by omega)).toNat:Int),((s[2]'(by omega)).toNat:Int)]:=by
 have hl:=Yx s;have g0:=YM s 0 (by omega);have g1:=YM s 1 (by omega);have g2:=YM s 2 (by omega)
 match hd:XN s with
 | []=>rw [hd] at hl;simp at hl;omega
 | [b0]=>rw [hd] at hl;simp at hl;omega
 | [b0,b1]=>rw [hd] at hl;simp at hl;omega
 | b0::b1::b2::t =>
  rw [hd] at g0 g1 g2
  simp at g0 g1 g2;subst g0 g1 g2
  rfl
theorem XdM (s:ByteArray) (h:3<s.size):(XN s).take 4=[((s[0]'(by omega)).toNat:Int),((s[1]'(by omega)).toNat:Int),((s[2]'(by omega)).toNat:Int),((s[3]'(by omega)).toNat:Int)]:=by
 have hl:=Yx s;have g0:=YM s 0 (by omega);have g1:=YM s 1 (by omega);have g2:=YM s 2 (by omega);have g3:=YM s 3 (by omega)
 match hd:XN s with
 | []=>rw [hd] at hl;simp at hl;omega
 | [b0]=>rw [hd] at hl;simp at hl;omega
 | [b0,b1]=>rw [hd] at hl;simp at hl;omega
 | [b0,b1,b2]=>rw [hd] at hl;simp at hl;omega
 | b0::b1::b2::b3::t =>
  rw [hd] at g0 g1 g2 g3
  simp at g0 g1 g2 g3;subst g0 g1 g2 g3
  rfl
def wdV (r:Int):Int :=
 if r<32\/Xh r=false\/(127<=r/\r<=159)\/(768<=r/\r<=879) then 0
 else if (4352<=r/\r<=4447)\/(12288<=r/\r<=55295)\/(127744<=r/\r<=131071) then 2 else 1
theorem XG (r:Int):0<=wdV r/\wdV r<=2:=by unfold wdV;split;omega;split<;>omega
open Go.ChangeShapes Go.WideShapes Go.ChangeAt Go.RowKit
theorem iRo (r:Int) (w:World) :
  Calls Tryz.prog 119 #[.int .i64 r] w fun e w'=>e=.returned (.bool (Xh r))/\w'=w:=by
 go_enter Tryz.func119,Tryz.ntmps119;go_wp2
 all_goals
  go_ret;exact ⟨Xe (Xa1 _ _ (by simp<;>omega)),rfl⟩
theorem Yb (r:Int) (w:World) :
  Calls Tryz.prog 140 #[.int .i64 r] w fun e w'=>e=.returned (.bool (Xh r))/\w'=w:=by
 go_enter Tryz.func140,Tryz.ntmps140;go_wp2_with (go_at_call 73;refine (XQ _ _ _ _).mono ?_;rintro e w' ⟨rfl,rfl⟩)
 all_goals
  go_ret;exact ⟨Xe (Xa1 _ _ (by simp<;>omega)),rfl⟩
theorem Xcj:(Tryz.prog.info? 2).map (fun i=>(i.zero,i.size,i.bytes))=some (some (.int .i64 0),1,8):=by kernel_rfl
theorem JV (v:Value) (xs:List Int) (w:World) (hv:SlI w v xs) (hl:xs.length<=1073741824) :
  Calls Tryz.prog 93 #[v] w fun e w'=>∃ u,e=.returned u/\w'.ownsRow w.heap.size 2 1 u xs.length (xs.map (Value.int .i64))/\Below w.heap.size w w':=by
 obtain ⟨i0,hi,hz0,hz1,hz2⟩:=info_parts Xcj;obtain ⟨a,c,rfl,hc⟩:=hv;generalize hn:xs.length=n at *;go_enter Tryz.func93,Tryz.ntmps93;go_wp2_with (refine wpList_make_full _ rfl _ _ 29 rfl w.heap.size 2 i0 (.int .i64 0) 1 Tryz.underlying29 hi hz0 hz1 .i64 .i64 (n:Int) (n:Int) n rfl rfl rfl rfl ?c1 ?c2 ?c3 ?_)
 case c1=>rw [hz2];omega
 case c2=>unfold maxLen;omega
 case c3=>exact Nat.le_refl _
 intro w1 ho hg;have hb1:Below w.heap.size w w1:=(Below.refl _ _).grown hg (Nat.le_refl _) (fun k hk=>by cases hk);clear hg;go_wp2;go_loopw [4] (fun i wr=>∃ (j:Nat) (ys:List Value),j<=n/\i=.int .i64 j/\wr.ownsRow w.heap.size 2 1 (.slice (some ⟨w.heap.size,0,none⟩) n n) n ys/\ys.length=n/\(∀ t,t<j->ys[t]?=some (.int .i64 (xs.getD t 0)))/\Below w.heap.size w wr) (fun i _=>n-(intOf i).toNat)
 case atStart=>exact ⟨0,_,Nat.zero_le _,rfl,ho,by simpa using ho.1,by simp,hb1⟩
 case round =>
  obtain ⟨j,ys,hj,rfl,ho,hyl,hys,hbel⟩:=hrel
  by_cases hlt:j<n
  ·rcases hc with hc|⟨b,off,rfl,hb,hc⟩
   ·rw [hc] at hn;simp at hn;omega
   ·have h0:wr.cell? ⟨b,off+j,none⟩=some (.int .i64 (xs.getD j 0)):=(hbel.cell (p:=⟨b,off+j,none⟩) hb).trans (hc j hlt)
    have h1:∃ u,wr.cell? ⟨w.heap.size,j,none⟩=some u:=by
     rw [ho.cellAt j (by omega)];exact ⟨_,List.getElem?_eq_getElem (by omega)⟩
    obtain ⟨u,h1⟩:=h1;have h2:=ho.frozenAt j;obtain ⟨hst1,hst2⟩:=ho.stored j (.int .i64 (xs.getD j 0))
    have hy2:∀ t,t<j+1->(ys.set j (.int .i64 (xs.getD j 0)))[t]?=some (.int .i64 (xs.getD t 0)):=by
     intro t ht
     by_cases e:t=j
     ·subst e;rw [List.getElem?_set_self (by omega)]
     ·rw [List.getElem?_set_ne (by omega)];exact hys t (by omega)
    clear ho hc hys;generalize xs.getD j 0=x at *;have hbs:=hbel.size;go_wp2;go_roundw
    case rel =>
     exact ⟨j+1,ys.set j (.int .i64 x),by omega,by go_num,hst1,by simpa using hyl,hy2,hbel.grown hst2 hbs (fun k hk=>by cases hk;exact Nat.le_refl _)⟩
    case measure=>simp [intOf];omega
  ·have hjn:j=n:=by omega
   subst hjn
   have hye:ys=xs.map (Value.int .i64):=by
    apply List.ext_getElem?
    intro i
    by_cases hi:i<j
    ·rw [hys i hi];simp [show i<xs.length by omega]
    ·rw [List.getElem?_eq_none (by omega),List.getElem?_eq_none (by simp;omega)]
   go_wp2;go_ret;exact ⟨_,rfl,by rw [<- hye];exact ho,hbel⟩
def Z1 (w:World) (u:Value) (news:List Value):Prop :=
 (u=.slice none 0 0/\news=[])\/∃ ad c,u=.slice (some ad) news.length c/\∀ j x,news[j]?=some x->w.cell? (ad.add j)=some x
theorem Z1.below {w w':World} {u:Value} {news:List Value} (h:Z1 w u news) (hb:Below w.heap.size w w'):Z1 w' u news:=by
 rcases h with h|⟨ad,c,hu,hc⟩
 ·exact .inl h
 ·refine .inr ⟨ad,c,hu,fun j x hx=>?_⟩
  have h1:=hc j x hx;exact (hb.cell (World.block_lt_of_cell? w _ h1)).trans h1
theorem Uc {P:Program} {w:World} {ops:Array Oper} {rest:List Oper} {o:Oper} {a:Act} {Q:Exit->Act->World->Prop} (hgd:o.guard=none) (s x:Operand) (t:TypeId)
  (ho:o.op=.call { callee:=.builtin .append,args:=#[s,x],argTypes:=#[t,t] })
  (base:Nat) (e:TypeId) (i:TypeInfo) (z:Value) (bytes:Nat) (ht:P.underlying t=some (.slice e)) (hi:P.info? e=some i) (hz:i.zero=some z)
  (hsize:i.size=1) (hby:i.bytes=bytes) (hzs:z.cells.size=1)
  (v:Value) (n:Nat) (xs:List Value) (hs:a.eval s=v) (hown:w.ownsRow base e 1 v n xs)
  (u:Value) (news:List Value) (hx:a.eval x=u) (hr:Z1 w u news) (h1:∀ u∈news,u.oneCell'=true)
  (h63:n+news.length<=maxLen) (hbytes:(n+news.length)*bytes<=140737488355328) (hbase:base<=w.heap.size)
  (h:∀ v' w',w'.ownsRow base e 1 v' (n+news.length) (xs++news)->w.grownBy w' v.ownBlock->wpList P ops Q rest (a.put o.dst v') w'):wpList P ops Q (o::rest) a w:=by
 rcases hr with ⟨rfl,rfl⟩|⟨ad,c,rfl,hc⟩
 ·exact wpList_append_own_none hgd s x t ho base e i 1 ht hi v n xs hs hown hx (h v w (by simpa using hown) (World.grownBy.refl _ _))
 ·exact wpList_append_own w hgd s x t ho base e i z 1 bytes ht hi hz hsize hby hzs (by decide) v n xs hs hown ad news.length c news hx (by simp) hc h1 h63 hbytes hbase (fun v' w' a b _=>h v' w' a b)
theorem Xge (r:Int) (w:World) (h:r<=127) :
  Calls Tryz.prog 266 #[.int .i64 r] w fun e w'=>e=.returned (.agg #[.int .i64 127,.int .i64 1,.int .i64 0])/\Below w.heap.size w w':=by
 go_enter Tryz.func266,Tryz.ntmps266;go_wp2;refine wp_loop_rounds 1 ?_;rw [rounds_succ]
 go_wp2;exact bodyPost_ret (v:=.agg #[.int .i64 127,.int .i64 1,.int .i64 0]) (by simp [results,Tryz.results266,go_sem]) rfl ⟨rfl,((Below.refl _ _).alloc (Nat.le_refl _) _).alloc (by simp) _⟩
theorem Xgf (r:Int) (w:World) (h0:127<r) (h:r<=2047) :
  Calls Tryz.prog 266 #[.int .i64 r] w fun e w'=>e=.returned (.agg #[.int .i64 2047,.int .i64 2,.int .i64 192])/\Below w.heap.size w w':=by
 go_enter Tryz.func266,Tryz.ntmps266;go_wp2;refine wp_loop_rounds 2 ?_;rw [rounds_succ]
 go_wp2;rw [rounds_succ]
 go_wp2;exact bodyPost_ret (v:=.agg #[.int .i64 2047,.int .i64 2,.int .i64 192]) (by simp [results,Tryz.results266,go_sem]) rfl ⟨rfl,((Below.refl _ _).alloc (Nat.le_refl _) _).alloc (by simp) _⟩
theorem Xgg (r:Int) (w:World) (h0:2047<r) (h:r<=65535) :
  Calls Tryz.prog 266 #[.int .i64 r] w fun e w'=>e=.returned (.agg #[.int .i64 65535,.int .i64 3,.int .i64 224])/\Below w.heap.size w w':=by
 go_enter Tryz.func266,Tryz.ntmps266;go_wp2;refine wp_loop_rounds 3 ?_;rw [rounds_succ]
 go_wp2;rw [rounds_succ]
 go_wp2;rw [rounds_succ]
 go_wp2;exact bodyPost_ret (v:=.agg #[.int .i64 65535,.int .i64 3,.int .i64 224]) (by simp [results,Tryz.results266,go_sem]) rfl ⟨rfl,((Below.refl _ _).alloc (Nat.le_refl _) _).alloc (by simp) _⟩
theorem Xgh (r:Int) (w:World) (h0:65535<r) (h:r<=1114111) :
  Calls Tryz.prog 266 #[.int .i64 r] w fun e w'=>e=.returned (.agg #[.int .i64 1114111,.int .i64 4,.int .i64 240])/\Below w.heap.size w w':=by
 go_enter Tryz.func266,Tryz.ntmps266;go_wp2;refine wp_loop_rounds 4 ?_;rw [rounds_succ]
 go_wp2;rw [rounds_succ]
 go_wp2;rw [rounds_succ]
 go_wp2;rw [rounds_succ]
 go_wp2;exact bodyPost_ret (v:=.agg #[.int .i64 1114111,.int .i64 4,.int .i64 240]) (by simp [results,Tryz.results266,go_sem]) rfl ⟨rfl,((Below.refl _ _).alloc (Nat.le_refl _) _).alloc (by simp) _⟩
end Go.Proofs.YtfpopnkhmjkdlaaGreatDoor
namespace Go.Proofs.YtfpopnkhmjkdlaaGreatDoor
theorem Xf7 (b0 b1:Int):(dec [b0,b1]).2=2 ↔ 194<=b0/\b0<224/\(128<=b1/\b1<192):=by
 simp only [dec]
 repeat' split
 all_goals (dsimp only;omega)
def p3 (b0 b1:Int):Prop:=224<=b0/\b0<240/\(128<=b1/\b1<192)/\32<=(b0-224)*64+(b1-128)/\((b0-224)*64+(b1-128)<864\/895<(b0-224)*64+(b1-128))
def p4 (b0 b1:Int):Prop:=240<=b0/\b0<248/\(128<=b1/\b1<192)/\16<=(b0-240)*64+(b1-128)/\(b0-240)*64+(b1-128)<=271
theorem Xbe (b0 b1 b2:Int):(dec [b0,b1,b2]).2=3 ↔ p3 b0 b1/\(128<=b2/\b2<192):=by
 unfold p3;simp only [dec,Xt]
 repeat' split
 all_goals (dsimp only;omega)
theorem UP (b0 b1 b2 b3:Int):(dec [b0,b1,b2,b3]).2=4 ↔ p4 b0 b1/\(128<=b2/\b2<192)/\(128<=b3/\b3<192):=by
 unfold p4;simp only [dec,Xt]
 repeat' split
 all_goals (dsimp only;omega)
theorem Xek (b0:Int):(p3 b0 128\/p3 b0 191) ↔ (224<=b0/\b0<240):=by unfold p3;omega
theorem Xhl (b0:Int):(p3 b0 128\/p3 b0 160\/p3 b0 144\/p3 b0 191\/p3 b0 159\/p3 b0 143) ↔ (224<=b0/\b0<240):=by
 constructor
 ·rintro (h|h|h|h|h|h)<;>(unfold p3 at h;omega)
 ·intro h
  rcases (Xek b0).2 h with h|h
  ·exact .inl h
  ·exact .inr (.inr (.inr (.inl h)))
theorem Xem (b0:Int):(p4 b0 128\/p4 b0 191) ↔ (240<=b0/\b0<245):=by unfold p4;omega
theorem Xhm (b0:Int):(p4 b0 128\/p4 b0 160\/p4 b0 144\/p4 b0 191\/p4 b0 159\/p4 b0 143) ↔ (240<=b0/\b0<245):=by
 constructor
 ·rintro (h|h|h|h|h|h)<;>(unfold p4 at h;omega)
 ·intro h
  rcases (Xem b0).2 h with h|h
  ·exact .inl h
  ·exact .inr (.inr (.inr (.inl h)))
theorem Xel (b0 b1:Int) (h:p3 b0 b1):XO b0=3:=by unfold p3 at h;unfold XO;omega
theorem XbH (b0 b1:Int) (h:p4 b0 b1):XO b0=4:=by unfold p4 at h;unfold XO;omega
theorem Xhb (b0:Int) (t:List Int) (hb:0<=b0):(dec (b0::t)).2<=4:=by
 rcases Xeo b0 t hb with ⟨_,_,h3⟩|⟨h1,_⟩
 ·rw [h3];have:=UF (dec (b0::t)).1;omega
 ·rw [h1];simp
open Go.ChangeShapes Go.WideShapes Go.ChangeAt Go.RowKit
theorem Ji (s:St) (w:World) :
  Calls Tryz.prog 97 #[stV s,stV s] w fun e w'=>e=.returned (.bool true)/\Below w.heap.size w w':=by
 obtain ⟨f,b,bo,un,tu⟩:=s;unfold stV;simp only;go_enter Tryz.func97,Tryz.ntmps97;go_wp2;go_ret;exact ⟨rfl,((Below.refl _ _).alloc (Nat.le_refl _) _).alloc (by simp) _⟩
theorem JW (s:St) (w:World) :
  Calls Tryz.prog 92 #[stV s] w fun e w'=>e=.returned (stV s)/\Below w.heap.size w w':=by
 obtain ⟨f,b,bo,un,tu⟩:=s;unfold stV;simp only;go_enter Tryz.func92,Tryz.ntmps92;go_wp2;refine bodyPost_ret (v:=.agg #[.int .i64 f,.int .i64 b,.bool bo,.bool un,.bool tu]) (by simp [results,Tryz.results92,go_sem]) rfl ⟨rfl,?_⟩;exact (((Below.refl _ _).alloc (Nat.le_refl _) _).alloc (by simp) _).alloc (by simp;omega) _
theorem JC (va vb:Value) (xs:List Int) (w:World) (ha:SlI w va xs) (hb:SlI w vb xs) (hl:xs.length<=1073741824) :
  Calls Tryz.prog 98 #[va,vb] w fun e w'=>e=.returned (.bool true)/\∃ n,w'=w.drewN n:=by
 by_cases h0:xs=[]
 ·subst h0
  obtain ⟨a,c,rfl,_⟩:=ha;obtain ⟨a',c',rfl,_⟩:=hb;go_enter Tryz.func98,Tryz.ntmps98;go_wp2;refine wp_loop_rounds 1 ?_;rw [rounds_succ]
  go_wp2;go_ret;exact ⟨rfl,0,rfl⟩
 ·obtain ⟨_,c,rfl,e|⟨b,off,rfl,_,hca⟩⟩:=ha
  ·exact absurd e h0
  ·obtain ⟨_,c',rfl,e|⟨b',off',rfl,_,hcb⟩⟩:=hb
   ·exact absurd e h0
   ·generalize hn:xs.length=n at *
    clear h0 hn;go_enter Tryz.func98,Tryz.ntmps98;go_wp2;go_loopw [5] (fun i wr=>∃ k:Nat,k<=n/\i=.int .i64 k/\∃ m,wr=w.drewN m) (fun i _=>n-(intOf i).toNat)
    case atStart=>exact ⟨0,Nat.zero_le _,rfl,0,rfl⟩
    case round =>
     obtain ⟨k,hk,rfl,m,rfl⟩:=hrel
     by_cases hlt:k<n
     ·have h1:w.cell? ⟨b,off+k,none⟩=some (.int .i64 (xs.getD k 0)):=hca k hlt
      have h2:w.cell? ⟨b',off'+k,none⟩=some (.int .i64 (xs.getD k 0)):=hcb k hlt;have hi:(k:Int)<(n:Int):=by omega
      generalize xs.getD k 0=x at *;clear hca hcb;go_wp2;go_quiet (fail);go_wp2;go_roundw
      case rel=>exact ⟨k+1,by omega,by go_num,m+nq,by simp⟩
      case measure=>simp [intOf];omega
     ·go_wp2
      go_ret;exact ⟨rfl,m,rfl⟩
theorem Xcf {a b c:World} {row:Option Nat} (h:a.grownBy b row) (k:b.grownBy c row):a.grownBy c row :=
 ⟨k.os.trans h.os,k.tape.trans h.tape,k.output.trans h.output,Nat.le_trans h.size k.size,fun i hi hr=>(k.block i (Nat.lt_of_lt_of_le hi h.size) hr).trans (h.block i hi hr)⟩
def Ya (k:Int) (n:Nat):List Int:=(List.range n).map fun (i:Nat)=>k+(i:Int)
theorem YI (k:Int) (n:Nat):(Ya k n).length=n:=by simp [Ya]
theorem Xfb (k:Int) (n i:Nat) (h:i<n):(Ya k n).getD i 0=k+(i:Int):=by simp [Ya,h]
theorem JG (v:Value) (k:Int) (n:Nat) (w:World) (hv:SlI w v (Ya k n)) (hk:0<=k/\k<=1073741824) (hl:n<=1073741824) :
  Calls Tryz.prog 105 #[v,.int .i64 k] w fun e w'=>e=.returned (.int .i64 (k+n))/\w'=w:=by
 obtain ⟨a,c,rfl,e|⟨b,off,rfl,_,hc⟩⟩:=hv
 ·have h0:n=0:=by have:=YI k n;rw [e] at this;simpa using this.symm
  subst h0;rw [YI]
  go_enter Tryz.func105,Tryz.ntmps105;go_wp2;refine wp_loop_rounds 1 ?_;rw [rounds_succ]
  go_wp2;go_ret;exact ⟨by simp,rfl⟩
 ·rw [YI] at hc ⊢
  have hc2:∀ i,i<n->w.cell? ⟨b,off+i,none⟩=some (.int .i64 (k+(i:Int))):=fun i hi=>by rw [hc i hi,Xfb k n i hi]
  clear hc;go_enter Tryz.func105,Tryz.ntmps105;go_wp2;go_loop [1,5] (fun q i=>∃ j:Nat,j<=n/\i=.int .i64 j/\q=.int .i64 (k+(j:Int))) (fun _ i=>n-(intOf i).toNat)
  case atStart=>exact ⟨0,Nat.zero_le _,rfl,by simp⟩
  case round =>
   obtain ⟨j,hj,rfl,rfl⟩:=hrel
   by_cases hlt:j<n
   ·have h1:=hc2 j hlt
    clear hc2;go_wp2;go_round
    case rel=>exact ⟨j+1,by omega,by go_num,by go_num⟩
    case measure=>simp [intOf];omega
   ·have hjn:j=n:=by omega
    subst hjn;go_wp2;go_ret;exact ⟨rfl,rfl⟩
theorem XdG (k:Int) (n:Nat) (ys:List Value) (hl:ys.length=n) (h:∀ i,i<n->ys[i]?=some (.int .i64 (k+(i:Int)))):ys=(Ya k n).map (Value.int .i64):=by
 apply List.ext_getElem?
 intro i
 by_cases hi:i<n
 ·rw [h i hi];simp [Ya,hi]
 ·rw [List.getElem?_eq_none (by omega),List.getElem?_eq_none (by simp [Ya];omega)]
theorem K3 (base:Nat) (v:Value) (k:Int) (n:Nat) (xs:List Value) (w:World) (hown:w.ownsRow base 2 1 v n xs) (hk:0<=k/\k<=1073741824) (hl:n<=1073741824) :
  Calls Tryz.prog 102 #[v,.int .i64 k] w fun e w'=>e=.returned (.int .i64 (k+n))/\w'.ownsRow base 2 1 v n ((Ya k n).map (Value.int .i64))/\w.grownBy w' v.ownBlock:=by
 have hlen:=hown.1;rcases hown.2 with ⟨rfl,rfl⟩|⟨g,cap,cur,rfl,hb,hg,_⟩
 ·go_enter Tryz.func102,Tryz.ntmps102
  go_wp2;refine wp_loop_rounds 1 ?_;rw [rounds_succ]
  go_wp2;go_ret;exact ⟨by simp,World.ownsRow_nil _ _ _ _,World.grownBy.refl _ _⟩
 ·clear hg
  go_enter Tryz.func102,Tryz.ntmps102;go_wp2;go_loopw [1,5] (fun q i wr=>∃ (j:Nat) (ys:List Value),j<=n/\i=.int .i64 j/\q=.int .i64 (k+(j:Int))/\wr.ownsRow base 2 1 (.slice (some ⟨g,0,none⟩) n cap) n ys/\ys.length=n/\(∀ t,t<j->ys[t]?=some (.int .i64 (k+(t:Int))))/\w.grownBy wr (some g)) (fun _ i _=>n-(intOf i).toNat)
  case atStart=>exact ⟨0,xs,Nat.zero_le _,rfl,by simp,hown,by simpa using hlen,by simp,World.grownBy.refl _ _⟩
  case round =>
   obtain ⟨j,ys,hj,rfl,rfl,ho,hyl,hys,hgr⟩:=hrel
   by_cases hlt:j<n
   ·have h1:∃ u,wr.cell? ⟨g,j,none⟩=some u:=by
     rw [ho.cellAt j (by omega)];exact ⟨_,List.getElem?_eq_getElem (by omega)⟩
    obtain ⟨u,h1⟩:=h1;have h2:=ho.frozenAt j;have hst:=ho.stored j (.int .i64 (k+(j:Int)));obtain ⟨hst1,hst2⟩:=hst;clear ho;go_wp2;go_roundw
    case rel =>
     refine ⟨j+1,ys.set j (.int .i64 (k+(j:Int))),by omega,by go_num,by go_num,hst1,by simpa using hyl,?_,Xcf hgr hst2⟩;intro t ht
     by_cases e:t=j
     ·subst e;simp [hyl,hlt]
     ·rw [List.getElem?_set_ne (by omega)];exact hys t (by omega)
    case measure=>simp [intOf];omega
   ·have hjn:j=n:=by omega
    subst hjn;go_wp2;go_ret;exact ⟨rfl,by rw [<- XdG k j ys hyl hys];exact ho,hgr⟩
theorem Xb2 (x:Int) (w:World) :
  Calls Tryz.prog 148 #[.int .i64 x] w fun e w'=>e=.returned (.bool (decide (0<=x/\x<=8)))/\w'=w:=by
 by_cases h1:0<=x
 ·go_enter Tryz.func148,Tryz.ntmps148
  go_wp2;go_ret;exact ⟨Xe (by simp [h1]),rfl⟩
 ·go_enter Tryz.func148,Tryz.ntmps148
  go_wp2;go_ret;exact ⟨Xe (by simp;omega),rfl⟩
theorem Yc (s:St) (w:World) :
  Calls Tryz.prog 67 #[stV s] w fun e w'=>e=.returned (.bool s.ok)/\Below w.heap.size w w':=by
 obtain ⟨f,b,bo,un,tu⟩:=s;have hok:Hid ((St.mk f b bo un tu).ok=decide (0<=f/\f<=8/\0<=b/\b<=8)):=rfl;unfold stV;simp only;go_enter Tryz.func67,Tryz.ntmps67;go_wp2_with (go_at_call 148;refine (Xb2 _ _).mono ?_;rintro e w' ⟨rfl,hw⟩;subst hw)
 all_goals
  go_ret;refine ⟨Xe ?_,(Below.refl _ _).alloc (Nat.le_refl _) _⟩;rw [hok.out]
  clear hok
  by_cases h1:0<=f/\f<=8
  ·by_cases h2:0<=b/\b<=8
   ·have h3:0<=f/\f<=8/\0<=b/\b<=8:=⟨h1.1,h1.2,h2⟩
    simp_all
   ·have h3:¬ (0<=f/\f<=8/\0<=b/\b<=8):=fun h=>h2 h.2.2
    simp_all
    try omega
  ·have h3:¬ (0<=f/\f<=8/\0<=b/\b<=8):=fun h=>h1 ⟨h.1,h.2.1⟩
   simp_all
theorem Xh3 (f b:Int) (bo un tu:Bool) (f' b':Int) (bo' un' tu':Bool):(St.mk f b bo un tu=St.mk f' b' bo' un' tu') ↔ (f=f'/\b=b'/\bo=bo'/\un=un'/\tu=tu'):=by
 constructor
 ·intro e;cases e;simp
 ·rintro ⟨rfl,rfl,rfl,rfl,rfl⟩;rfl
theorem Xhx (a b:St) (W:World):(Op.equalIn 10000 28 (.agg #[.int .i64 a.fore,.int .i64 a.back,.bool a.bold,.bool a.under,.bool a.turned]) (.agg #[.int .i64 b.fore,.int .i64 b.back,.bool b.bold,.bool b.under,.bool b.turned])).run Tryz.prog W=.ok (decide (a=b)) W:=by
 have hu:=Tryz.underlying28;have hi:=Tryz.underlying2;have hb:=Tryz.underlying4;obtain ⟨f,g,bo,un,tu⟩:=a;obtain ⟨f',g',bo',un',tu'⟩:=b;simp only [Xh3];rw [run_equalIn_struct W 9999 _ _ _ (by simp [Program.fieldsOf,hu]) (by kernel_rfl)]
 by_cases h1:f=f'<;>by_cases h2:g=g'<;>by_cases h3:bo=bo'<;>by_cases h4:un=un'<;>by_cases h5:tu=tu'<;>simp [Program.fieldsOf,hu,hi,hb,Op.eqFields,go_sem,h1,h2,h3,h4,h5,Result.andThen]
theorem Xgq:(Tryz.prog.info? 5).map (fun i=>(i.zero,i.size,i.bytes))=some (some (.int .u8 0),1,1):=by kernel_rfl
set_option maxRecDepth 100000 in
theorem Xav (s:ByteArray) (w:World) (hlim:s.size<=281474976710656) :
  Calls Tryz.prog 175 #[.string s] w fun e w'=>e=.returned (.string s)/\Below w.heap.size w w':=by
 by_cases h0:s.size=0
 ·have hs:s=⟨#[]⟩:=by
   apply ByteArray.ext
   exact Array.eq_empty_of_size_eq_zero h0
  subst hs;go_enter Tryz.func175,Tryz.ntmps175;go_wp2;go_ret;exact ⟨rfl,Below.refl _ _⟩
 ·obtain ⟨i0,hi,hz0,hz1,hz2⟩:=info_parts Xgq
  have hinfo:(Tryz.prog.info? 5).map (·.size)=some 1:=by rw [hi];simp [hz1]
  have hco:Tryz.prog.cellsOf 5=1:=by simp [Program.cellsOf,hi,hz1]
  obtain ⟨M,hM⟩:∃ M,M=madeCells (Value.int .u8 0).cells (((s.size:Nat):Int).toNat*i0.size):=⟨_,rfl⟩;have hMs:M.size=s.size:=by rw [hM,size_madeCells,hz1];simp
  have hmk:∀ W:World,(Instr.makeSlice 22 (.int .i64 (s.size:Int)) (.int .i64 (s.size:Int))).run Tryz.prog W=.ok (.slice (some ⟨W.heap.size,0,none⟩) s.size s.size) (W.alloc (.cells M 5)):=fun W=>by
   have h:=run_make (P:=Tryz.prog) W 22 5 i0 (.int .u8 0) Tryz.underlying22 hi hz0 .i64 .i64 (s.size:Int) (s.size:Int) (by omega) (by omega) (by rw [hz2];omega) (by omega);rw [<- hM] at h
   simpa using h
  clear hM;have hcp:=Lib.run_copy_row_string (P:=Tryz.prog) (w.alloc (.cells M 5)) 22 9 3 5 w.heap.size 0 s.size s.size s M 5 Tryz.underlying22 hinfo (heap_alloc_new w _) (Nat.le_refl _) (by omega);obtain ⟨Y,hY⟩:∃ Y,Y=(M.toList.take 0++Lib.byteCells s.data.toList++M.toList.drop (0+s.size)).toArray:=⟨_,rfl⟩;rw [<- hY] at hcp
  have hYl:Y.toList=Lib.byteCells s.data.toList:=by
   rw [hY,List.toList_toArray,List.take_zero,List.nil_append,List.drop_of_length_le (by rw [Array.length_toList];omega),List.append_nil]
  have hYs:Y.size=s.size:=by rw [<- Array.length_toList,hYl,Lib.byteCells_length,<- Lib.size_eq]
  have hgY:((w.alloc (.cells M 5)).setRow w.heap.size Y).heap[w.heap.size]?=some (.cells Y 5 (0,0)):=setRow_heap _ _ M _ 5 (0,0) (heap_alloc_new w _);have hne:s.data.toList≠[]:=fun e=>h0 (by rw [Lib.size_eq,e];rfl)
  have hUS:=Lib.run_unsafeString_row (P:=Tryz.prog) ((w.alloc (.cells M 5)).setRow w.heap.size Y) 206 3 9 5 Tryz.underlying206 hco w.heap.size Y.size (by unfold World.shape?;rw [hgY]) s.data.toList hne (by rw [<- Lib.size_eq];omega) (by rw [<- Lib.size_eq];omega)
   (fun j x hx=>Lib.cells_of_row hgY Y.size j _ (by rw [List.take_of_length_le (by rw [Array.length_toList];exact Nat.le_refl _),hYl];simp [Lib.byteCells,hx]))
  rw [<- Lib.size_eq] at hUS
  clear hY;go_enter Tryz.func175,Tryz.ntmps175;go_wp2;go_ret;have hb1:Below w.heap.size w (w.alloc (.cells M 5)):=(Below.refl _ w).alloc (Nat.le_refl _) _;have hb2:Below w.heap.size (w.alloc (.cells M 5)) ((w.alloc (.cells M 5)).setRow w.heap.size Y):=⟨rfl,rfl,rfl,by simp,fun k hk=>setRow_other _ _ _ _ (by omega)⟩;exact ⟨rfl,Lib.below_freeze (hb1.trans hb2) (p:=⟨w.heap.size,0,none⟩) (Nat.le_refl _) _⟩
theorem Xey (s:ByteArray) (w:World) (hlim:s.size<=281474976710656) :
  Calls Tryz.prog 118 #[.string s] w fun e w'=>e=.returned (.string s)/\Below w.heap.size w w':=by
 go_enter Tryz.func118,Tryz.ntmps118;go_wp2_with fail;refine (Xav s _ hlim).mono ?_;rintro e w1 ⟨rfl,hb⟩;go_wp2;go_ret;exact ⟨rfl,hb⟩
