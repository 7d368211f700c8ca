/- Parts of the proof. -/
import Derived.Test.YtgcnmjjlmcnllaaGreatDoorP1
import Derived.Test.YtgcnmjjlmcnllaaGreatDoorP2
import Derived.Test.YtgcnmjjlmcnllaaGreatDoorP3
import Derived.Laws.Rows
import Derived.Laws.Tables
import Derived.Laws.BytesArg
import Derived.WalkSpells
import Derived.Laws.RangeAny
import Derived.Lib.OthersKept
import Derived.Deep.RegionWith
import Derived.WalkLawsBesides
namespace Go.Proofs.YtgcnmjjlmcnllaaGreatDoor
set_option maxRecDepth 20000
set_option maxHeartbeats 16000000
open Go.ChangeShapes Go.WideShapes Go.ChangeAt Go.RowKit
theorem load_T {P:Program} {w:World} {ops:Array Oper} {rest:List Oper} {o:Oper} {a:Act} {Q:Exit->Act->World->Prop} (hgd:Region.wanted o (yielded ops a.tmps)=true) (t:TypeId) (x:Operand)
  (ho:o.op=.load t x) {e:TypeId} {B:Nat} {cs:Array Value} {fr:Nat×Nat} {d:TypeDesc} (hu:P.underlying t=some d) (hd:(match d with|.struct _|.array _ _=>true|_=>false)=true) (hi:(P.info? t).map (·.size)=some cs.size) (hb:w.heap[B]?=some (.cells cs e fr)) (hx:a.eval x=.pointer (some ⟨B,0,none⟩))
  (h:wpList P ops Q rest (a.put o.dst (.agg cs)) w):wpList P ops Q (o::rest) a w:=by
 refine wpList_step fun K hK=>?_
 rw [if_pos hgd]
 exact wp_load_row t x ho B hx e cs fr d hb hu hd hi (hK _ _ h)
theorem setRow_gr (w:World) (g:Nat) (cs:Array Value):w.grownBy (w.setRow g cs) (some g):=by
 refine ⟨rfl,rfl,rfl,by simp,fun k _ hk=>?_⟩;have:¬ g=k:=fun e=>hk (by rw [e])
 simp only [World.setRow];rw [Array.getElem?_modify]
 simp [this]
theorem store_T {P:Program} {w:World} {ops:Array Oper} {rest:List Oper} {o:Oper} {a:Act} {Q:Exit->Act->World->Prop} (hgd:Region.wanted o (yielded ops a.tmps)=true) (t:TypeId) (x y:Operand)
  (ho:o.op=.store t x y) {e:TypeId} {B:Nat} {old cs:Array Value} (hi:(P.info? t).map (·.size)=some cs.size) (hold:old.size=cs.size) (h1:cs.toList.all (·.oneCell')=true) (hb:w.heap[B]?=some (.cells old e (0,0))) (hx:a.eval x=.pointer (some ⟨B,0,none⟩)) (hy:a.eval y=.agg cs)
  (h:∀ w',w.grownBy w' (some B)->w'.heap[B]?=some (.cells cs e (0,0))->w'.heap.size=w.heap.size->wpList P ops Q rest (a.put o.dst undef) w'):wpList P ops Q (o::rest) a w:=by
 refine wpList_step fun K hK=>?_
 rw [if_pos hgd]
 exact wp_store_row t x y ho B cs hx hy e old hb hi hold (by rw [<- Array.all_toList];exact h1) (hK _ _ (h _ (setRow_gr w B cs) (setRow_heap w B old cs e (0,0) hb) (by simp)))
def setV (L:List Value):Nat->List Value->List Value
 | _,[]=>L
 | k,v::l=>setV (L.set k v) (k+1) l
theorem sCh (B:Nat) (e:TypeId):∀ (l:List Value) (k:Nat) (w:World) (L:List Value),w.heap[B]?=some (.cells L.toArray e (0,0))->(w.setCells B k l).heap[B]?=some (.cells (setV L k l).toArray e (0,0))
 | [],_,_,_,h=>h
 | v::l,k,w,_,h=>sCh B e l (k+1) _ _ (by rw [heap_setCell_same w B k _ _ v h];simp)
theorem sCg (B:Nat):∀ (l:List Value) (k:Nat) (w:World),w.grownBy (w.setCells B k l) (some B)
 | [],_,_=>World.grownBy.refl _ _
 | v::l,k,w=>grown_tr (sCc w B k v) (sCg B l (k+1) _)
theorem setCells_size (B:Nat):∀ (l:List Value) (k:Nat) (w:World),(w.setCells B k l).heap.size=w.heap.size
 | [],_,_=>rfl
 | v::l,k,w=>by rw [World.setCells,setCells_size B l];simp
def BlkC (w:World) (B:Nat) (e:TypeId) (L:List Value):Prop:=w.heap[B]?=some (.cells L.toArray e (0,0))
theorem store_at {P:Program} {w:World} {ops:Array Oper} {rest:List Oper} {o:Oper} {a:Act} {Q:Exit->Act->World->Prop} (hgd:Region.wanted o (yielded ops a.tmps)=true) (t:TypeId) (x y:Operand)
  (ho:o.op=.store t x y) {e:TypeId} {B k n:Nat} {cs:List Value} {v:Value} (hi:(P.info? t).map (·.size)=some n) (hb:BlkC w B e cs) (hx:a.eval x=.pointer (some ⟨B,k,none⟩)) (hy:a.eval y=v) (hn:v.cells.size=n) (h1:v.cells.toList.all (·.oneCell')=true) (hk:Nat.ble (k+n) cs.length=true)
  (h:∀ w',w.grownBy w' (some B)->BlkC w' B e (setV cs k v.cells.toList)->w'.heap.size=w.heap.size->wpList P ops Q rest (a.put o.dst undef) w'):wpList P ops Q (o::rest) a w:=by
 have hk:=Nat.le_of_ble_eq_true hk;rw [<- hn] at hi hk
 refine wpList_step fun K hK=>?_
 rw [if_pos hgd]
 have hs:=run_storeCells_cells (P:=P) B k v.cells.toList 0 w (fun j hj=>by
   rw [cell_of_row w B _ cs.toArray e (0,0) hb]
   simp at hj ⊢;omega) (fun j hj=>frozen_of_row w B _ _ _ hb) (fun u hu=>List.all_eq_true.1 h1 u hu)
 rw [Nat.add_zero] at hs
 unfold Oper.wp
 cases hq:P.info? t with
 | none=>simp [hq] at hi
 | some i =>
  have hsz:v.cells.size=i.size:=by simp [hq] at hi;omega
  simp [execOp,ho,hx,hy,Instr.storeAt,Instr.sureAddr,storeVar,sizeOf,typeInfo,hq,hsz,Result.andThen,hs];exact hK _ _ (h _ (sCg B _ _ w) (sCh B e _ _ w cs hb) (setCells_size B _ _ w))
theorem conv_1 (w:World) (g:Nat) (hg:g=w.heap.size) (a:Int):(convert 22 9 (.slice (some ⟨g,0,none⟩) 1 1)).run Tryz.prog (w.alloc (.cells #[.int .u8 a] 5))=.ok (.string (strOfNums [a])) (w.alloc (.cells #[.int .u8 a] 5))  :=by
 subst hg;refine run_convert_bytes_arg _ 22 5 Tryz.underlying22 Tryz.underlying5 _ 0 1 1 [a] rfl ?_ _ Tryz.underlying9;intro i hi
 match i,hi with
 | 0,_=>simp [go_sem]
theorem conv_2 (w:World) (g:Nat) (hg:g=w.heap.size) (a b:Int):(convert 22 9 (.slice (some ⟨g,0,none⟩) 2 2)).run Tryz.prog (w.alloc (.cells #[.int .u8 a,.int .u8 b] 5))=.ok (.string (strOfNums [a,b])) (w.alloc (.cells #[.int .u8 a,.int .u8 b] 5))  :=by
 subst hg;refine run_convert_bytes_arg _ 22 5 Tryz.underlying22 Tryz.underlying5 _ 0 2 2 [a,b] rfl ?_ _ Tryz.underlying9;intro i hi
 match i,hi with
 | 0,_=>simp [go_sem]
 | 1,_=>simp [go_sem]
theorem conv_3 (w:World) (g:Nat) (hg:g=w.heap.size) (a b c:Int):(convert 22 9 (.slice (some ⟨g,0,none⟩) 3 3)).run Tryz.prog (w.alloc (.cells #[.int .u8 a,.int .u8 b,.int .u8 c] 5))=.ok (.string (strOfNums [a,b,c])) (w.alloc (.cells #[.int .u8 a,.int .u8 b,.int .u8 c] 5))  :=by
 subst hg;refine run_convert_bytes_arg _ 22 5 Tryz.underlying22 Tryz.underlying5 _ 0 3 3 [a,b,c] rfl ?_ _ Tryz.underlying9;intro i hi
 match i,hi with
 | 0,_=>simp [go_sem]
 | 1,_=>simp [go_sem]
 | 2,_=>simp [go_sem]
theorem conv_4 (w:World) (g:Nat) (hg:g=w.heap.size) (a b c d:Int):(convert 22 9 (.slice (some ⟨g,0,none⟩) 4 4)).run Tryz.prog (w.alloc (.cells #[.int .u8 a,.int .u8 b,.int .u8 c,.int .u8 d] 5))=.ok (.string (strOfNums [a,b,c,d])) (w.alloc (.cells #[.int .u8 a,.int .u8 b,.int .u8 c,.int .u8 d] 5))  :=by
 subst hg;refine run_convert_bytes_arg _ 22 5 Tryz.underlying22 Tryz.underlying5 _ 0 4 4 [a,b,c,d] rfl ?_ _ Tryz.underlying9;intro i hi
 match i,hi with
 | 0,_=>simp [go_sem]
 | 1,_=>simp [go_sem]
 | 2,_=>simp [go_sem]
 | 3,_=>simp [go_sem]

theorem ret_str {a b:ByteArray} (h:a=b):Ending.returned (.string a)=.returned (.string b):=by rw [h]
theorem l1PutA_1 (r:Int) (w:World) (hb:0<=r/\r<=1114111) (h:r<128) :
  Calls Tryz.prog 201 #[.int .i64 r] w fun e w'=>e=.returned (.slice (some ⟨w.heap.size,0,none⟩) 1 1)/\w'=w.alloc (.cells #[.int .u8 r] 5):=by
 go_enter Tryz.func201,Tryz.ntmps201;go_wp2;go_ret;exact ⟨rfl,rfl⟩

theorem l1PutA_2 (r:Int) (w:World) (hb:0<=r/\r<=1114111) (h0:128<=r) (h:r<2048) :
  Calls Tryz.prog 201 #[.int .i64 r] w fun e w'=>e=.returned (.slice (some ⟨w.heap.size,0,none⟩) 2 2)/\w'=w.alloc (.cells #[.int .u8 (192+r / 64),.int .u8 (128+r % 64)] 5):=by
 go_enter Tryz.func201,Tryz.ntmps201;go_wp2;go_ret;exact ⟨rfl,rfl⟩

theorem l1PutA_3 (r:Int) (w:World) (hb:0<=r/\r<=1114111) (h0:2048<=r) (h:r<65536) :
  Calls Tryz.prog 201 #[.int .i64 r] w fun e w'=>e=.returned (.slice (some ⟨w.heap.size,0,none⟩) 3 3)/\w'=w.alloc (.cells #[.int .u8 (224+r / 4096),.int .u8 (128+r / 64 % 64),.int .u8 (128+r % 64)] 5):=by
 go_enter Tryz.func201,Tryz.ntmps201;go_wp2;go_ret;exact ⟨rfl,rfl⟩

theorem l1PutA_4 (r:Int) (w:World) (hb:0<=r/\r<=1114111) (h0:65536<=r) :
  Calls Tryz.prog 201 #[.int .i64 r] w fun e w'=>e=.returned (.slice (some ⟨w.heap.size,0,none⟩) 4 4)/\w'=w.alloc (.cells #[.int .u8 (240+r / 262144),.int .u8 (128+r / 4096 % 64),.int .u8 (128+r / 64 % 64),.int .u8 (128+r % 64)] 5):=by
 go_enter Tryz.func201,Tryz.ntmps201;go_wp2;go_ret;exact ⟨rfl,rfl⟩

theorem specPut_1 (r:Int) (w:World) (hk:runeOk r=true) (h:r<128) :
  Calls Tryz.prog 174 #[.int .i64 r] w fun e w'=>e=.returned (.string (strOfNums (putL r)))/\Below w.heap.size w w':=by
 have hbd:=runeOk_bd r hk;have hcv:=conv_1;go_enter Tryz.func174,Tryz.ntmps174;go_wp2_with (first|(go_at_call 140;refine (specRuneOk_any _ _).mono ?_;rintro e w' ⟨rfl,rfl⟩)|(go_at_call 201;refine (l1PutA_1 _ _ (by omega) (by omega)).mono ?_;rintro e w' ⟨rfl,rfl⟩));go_ret;exact ⟨ret_str (by simp only [putL];rw [if_pos h]),(Below.refl _ _).alloc (Nat.le_refl _) _⟩

theorem specPut_2 (r:Int) (w:World) (hk:runeOk r=true) (h0:128<=r) (h:r<2048) :
  Calls Tryz.prog 174 #[.int .i64 r] w fun e w'=>e=.returned (.string (strOfNums (putL r)))/\Below w.heap.size w w':=by
 have hbd:=runeOk_bd r hk;have hcv:=conv_2;go_enter Tryz.func174,Tryz.ntmps174;go_wp2_with (first|(go_at_call 140;refine (specRuneOk_any _ _).mono ?_;rintro e w' ⟨rfl,rfl⟩)|(go_at_call 201;refine (l1PutA_2 _ _ (by omega) (by omega) (by omega)).mono ?_;rintro e w' ⟨rfl,rfl⟩));go_ret;exact ⟨ret_str (by simp only [putL];rw [if_neg (by omega),if_pos h]),(Below.refl _ _).alloc (Nat.le_refl _) _⟩

theorem specPut_3 (r:Int) (w:World) (hk:runeOk r=true) (h0:2048<=r) (h:r<65536) :
  Calls Tryz.prog 174 #[.int .i64 r] w fun e w'=>e=.returned (.string (strOfNums (putL r)))/\Below w.heap.size w w':=by
 have hbd:=runeOk_bd r hk;have hcv:=conv_3;go_enter Tryz.func174,Tryz.ntmps174;go_wp2_with (first|(go_at_call 140;refine (specRuneOk_any _ _).mono ?_;rintro e w' ⟨rfl,rfl⟩)|(go_at_call 201;refine (l1PutA_3 _ _ (by omega) (by omega) (by omega)).mono ?_;rintro e w' ⟨rfl,rfl⟩));go_ret;exact ⟨ret_str (by simp only [putL];rw [if_neg (by omega),if_neg (by omega),if_pos h]),(Below.refl _ _).alloc (Nat.le_refl _) _⟩

theorem specPut_4 (r:Int) (w:World) (hk:runeOk r=true) (h0:65536<=r) :
  Calls Tryz.prog 174 #[.int .i64 r] w fun e w'=>e=.returned (.string (strOfNums (putL r)))/\Below w.heap.size w w':=by
 have hbd:=runeOk_bd r hk;have hcv:=conv_4;go_enter Tryz.func174,Tryz.ntmps174;go_wp2_with (first|(go_at_call 140;refine (specRuneOk_any _ _).mono ?_;rintro e w' ⟨rfl,rfl⟩)|(go_at_call 201;refine (l1PutA_4 _ _ (by omega) (by omega)).mono ?_;rintro e w' ⟨rfl,rfl⟩));go_ret;exact ⟨ret_str (by simp only [putL];rw [if_neg (by omega),if_neg (by omega),if_neg (by omega)]),(Below.refl _ _).alloc (Nat.le_refl _) _⟩

theorem specPut_any (r:Int) (w:World) :
  Calls Tryz.prog 174 #[.int .i64 r] w fun e w'=>e=.returned (.string (putS r))/\Below w.heap.size w w':=by
 by_cases hk:runeOk r=true
 ·rw [putS_ok r hk]
  by_cases h1:r<128
  ·exact specPut_1 r w hk h1
  ·by_cases h2:r<2048
   ·exact specPut_2 r w hk (by omega) h2
   ·by_cases h3:r<65536
    ·exact specPut_3 r w hk (by omega) h3
    ·exact specPut_4 r w hk (by omega)
 ·have hk':runeOk r=false:=by simpa using hk
  have hp:Hid (putS r=⟨#[]⟩):=by show _=_;simp [putS,hk']
  go_enter Tryz.func174,Tryz.ntmps174;go_wp2_with (go_at_call 140;refine (specRuneOk_any _ _).mono ?_;rintro e w' ⟨rfl,rfl⟩);go_ret;exact ⟨ret_str hp.out.symm,Below.refl _ _⟩
theorem ret_int {k:IntKind} {a b:Int} (h:a=b):Ending.returned (.int k a)=.returned (.int k b):=by rw [h]
theorem l1Long_any (b:Int) (w:World) (hb:0<=b/\b<256) :
  Calls Tryz.prog 173 #[.int .u8 b] w fun e w'=>e=.returned (.int .i64 (longV b))/\w'=w:=by
 go_enter Tryz.func173,Tryz.ntmps173;go_wp2
 all_goals
  go_ret;refine ⟨?_,rfl⟩;refine ret_int ?_;unfold longV;omega

theorem isEmpty_no (s:ByteArray) (h0:0<s.size):s.toList.isEmpty=false:=by
 rw [ByteArray.toList_eq,List.isEmpty_eq_false_iff];intro e;have:=congrArg List.length e;simp at this;simp [this] at h0
theorem isEmpty_yes (s:ByteArray) (h0:¬ 0<s.size):s.toList.isEmpty=true:=by
 rw [ByteArray.toList_eq,List.isEmpty_iff_length_eq_zero,Array.length_toList];exact Nat.eq_zero_of_not_pos h0
def T0:ByteArray:={ data:=#[128] }
def T1:ByteArray:={ data:=#[191] }
def T2:ByteArray:={ data:=#[128,128] }
def T3:ByteArray:={ data:=#[191,191] }
def T4:ByteArray:={ data:=#[128,128,128] }
def T5:ByteArray:={ data:=#[191,191,191] }
def cutB (h:ByteArray):Bool:=((getV (h++T0)).2==(h.size:Int)+1) || ((getV (h++T1)).2==(h.size:Int)+1) || ((getV (h++T2)).2==(h.size:Int)+2) || ((getV (h++T3)).2==(h.size:Int)+2) || ((getV (h++T4)).2==(h.size:Int)+3) || ((getV (h++T5)).2==(h.size:Int)+3)

theorem specGet_0 (s:ByteArray) (w:World) (h0:¬ 0<s.size) :
  Calls Tryz.prog 114 #[.string s] w fun e w'=>e=.returned (.tuple #[.int .i64 (getV s).1,.int .i64 (getV s).2])/\Below w.heap.size w w':=by
 have hz:nums s=[]:=List.length_eq_zero_iff.1 (by rw [nums_len];omega);have hv:Hid (getV s=(0,0)):=by show _=_;simp [getV,hz,dec]
 have he:=isEmpty_yes s h0;go_enter Tryz.func114,Tryz.ntmps114;go_wp2;go_ret2;exact ⟨by rw [hv.out];rfl,Below.refl _ _⟩

theorem specGet_none (s:ByteArray) (w:World) (h0:0<s.size) (hx:longV (s[0].toNat:Int)=0) :
  Calls Tryz.prog 114 #[.string s] w fun e w'=>e=.returned (.tuple #[.int .i64 (getV s).1,.int .i64 (getV s).2])/\Below w.heap.size w w':=by
 have hv:Hid (getV s=(65533,1)):=getV_short s h0 (Or.inl hx);have hl:Hid (longV (s[0].toNat:Int)=0):=hx;clear hx;have he:=isEmpty_no s h0;have hb0:(s[0].toNat:Int)<256:=by have:=s[0].toNat_lt;omega
 go_enter Tryz.func114,Tryz.ntmps114;go_wp2_with (first|(go_at_call 173;refine (l1Long_any _ _ (by omega)).mono ?_;rw [hl.out];rintro e w' ⟨rfl,rfl⟩));go_ret2;exact ⟨by rw [hv.out];rfl,Below.refl _ _⟩

theorem specGet_short (s:ByteArray) (w:World) (h0:0<s.size) (n:Int) (hn:1<n/\n<=4) (hs:(s.size:Int)<n) (hx:longV (s[0].toNat:Int)=n) :
  Calls Tryz.prog 114 #[.string s] w fun e w'=>e=.returned (.tuple #[.int .i64 (getV s).1,.int .i64 (getV s).2])/\Below w.heap.size w w':=by
 have hv:Hid (getV s=(65533,1)):=getV_short s h0 (Or.inr (by omega));have hl:Hid (longV (s[0].toNat:Int)=n):=hx;clear hx;have he:=isEmpty_no s h0;have hb0:(s[0].toNat:Int)<256:=by have:=s[0].toNat_lt;omega
 have hn0:(n==0)=false:=by simp;omega
 go_enter Tryz.func114,Tryz.ntmps114;go_wp2_with (first|(go_at_call 173;refine (l1Long_any _ _ (by omega)).mono ?_;rw [hl.out];rintro e w' ⟨rfl,rfl⟩));go_ret2;exact ⟨by rw [hv.out];rfl,Below.refl _ _⟩

theorem specGet_1 (s:ByteArray) (w:World) (h0:0<s.size) (hs:s.size<=maxLen) (hx:longV (s[0].toNat:Int)=1) :
  Calls Tryz.prog 114 #[.string s] w fun e w'=>e=.returned (.tuple #[.int .i64 (getV s).1,.int .i64 (getV s).2])/\Below w.heap.size w w':=by
 have hv:Hid (getV s=_):=getV_long s h0 1 (s[0].toNat:Int) hx (by omega) (by omega) (by rw [nums_take1 s h0];rfl);have hl:Hid (longV (s[0].toNat:Int)=1):=hx;have he:=isEmpty_no s h0;have hb0:(s[0].toNat:Int)<256:=by have:=s[0].toNat_lt;omega
 unfold maxLen at hs
 by_cases hk:((putS (s[0].toNat:Int)).toList==(s.extract 0 1).toList)=true
 ·have hv:Hid (getV s=((s[0].toNat:Int),1)):=by have:=hv.out;rw [if_pos hk] at this;exact this
  clear hx;go_enter Tryz.func114,Tryz.ntmps114;go_wp2_with (first|(go_at_call 173;refine (l1Long_any _ _ (by omega)).mono ?_;rw [hl.out];rintro e w' ⟨rfl,rfl⟩));refine wp_loop_rounds 1 ?_;rw [rounds_succ]
  go_wp2;go_region_with (go_at_call 174;refine (specPut_any _ _).mono ?_;rintro e w1 ⟨rfl,hb⟩)
  all_goals
   go_wp2;go_ret2;exact ⟨by rw [hv.out];rfl,(Below.refl _ _).drew.trans hb⟩
 ·have hk:((putS (s[0].toNat:Int)).toList==(s.extract 0 1).toList)=false:=by simpa using hk
  have hv:Hid (getV s=(65533,1)):=by have:=hv.out;rw [if_neg (by rw [hk];decide)] at this;exact this
  clear hx;go_enter Tryz.func114,Tryz.ntmps114;go_wp2_with (first|(go_at_call 173;refine (l1Long_any _ _ (by omega)).mono ?_;rw [hl.out];rintro e w' ⟨rfl,rfl⟩));refine wp_loop_rounds 1 ?_;rw [rounds_succ]
  go_wp2;go_region_with (go_at_call 174;refine (specPut_any _ _).mono ?_;rintro e w1 ⟨rfl,hb⟩)
  all_goals
   go_wp2;go_ret2;exact ⟨by rw [hv.out];rfl,(Below.refl _ _).drew.trans hb⟩

theorem specGet_2 (s:ByteArray) (w:World) (h0:0<s.size) (h1:1<s.size) (hs:s.size<=maxLen) (hx:longV (s[0].toNat:Int)=2) :
  Calls Tryz.prog 114 #[.string s] w fun e w'=>e=.returned (.tuple #[.int .i64 (getV s).1,.int .i64 (getV s).2])/\Below w.heap.size w w':=by
 have hv:Hid (getV s=_):=getV_long s h0 2 ((s[0].toNat:Int) % (32:Int)*(64:Int)+(s[1].toNat:Int) % (64:Int)) hx (by omega) (by omega) (by rw [nums_take2 s h1];rfl);have hl:Hid (longV (s[0].toNat:Int)=2):=hx;have he:=isEmpty_no s h0;have hb0:(s[0].toNat:Int)<256:=by have:=s[0].toNat_lt;omega
 have hb1:(s[1].toNat:Int)<256:=by have:=s[1].toNat_lt;omega
 unfold maxLen at hs
 by_cases hk:((putS ((s[0].toNat:Int) % (32:Int)*(64:Int)+(s[1].toNat:Int) % (64:Int))).toList==(s.extract 0 2).toList)=true
 ·have hv:Hid (getV s=(((s[0].toNat:Int) % (32:Int)*(64:Int)+(s[1].toNat:Int) % (64:Int)),2)):=by have:=hv.out;rw [if_pos hk] at this;exact this
  clear hx;go_enter Tryz.func114,Tryz.ntmps114;go_wp2_with (first|(go_at_call 173;refine (l1Long_any _ _ (by omega)).mono ?_;rw [hl.out];rintro e w' ⟨rfl,rfl⟩));refine wp_loop_rounds 2 ?_;rw [rounds_succ]
  go_wp2;rw [rounds_succ]
  go_wp2;go_region_with (go_at_call 174;refine (specPut_any _ _).mono ?_;rintro e w1 ⟨rfl,hb⟩)
  all_goals
   go_wp2;go_ret2;exact ⟨by rw [hv.out];rfl,(Below.refl _ _).drew.trans hb⟩
 ·have hk:((putS ((s[0].toNat:Int) % (32:Int)*(64:Int)+(s[1].toNat:Int) % (64:Int))).toList==(s.extract 0 2).toList)=false:=by simpa using hk
  have hv:Hid (getV s=(65533,1)):=by have:=hv.out;rw [if_neg (by rw [hk];decide)] at this;exact this
  clear hx;go_enter Tryz.func114,Tryz.ntmps114;go_wp2_with (first|(go_at_call 173;refine (l1Long_any _ _ (by omega)).mono ?_;rw [hl.out];rintro e w' ⟨rfl,rfl⟩));refine wp_loop_rounds 2 ?_;rw [rounds_succ]
  go_wp2;rw [rounds_succ]
  go_wp2;go_region_with (go_at_call 174;refine (specPut_any _ _).mono ?_;rintro e w1 ⟨rfl,hb⟩)
  all_goals
   go_wp2;go_ret2;exact ⟨by rw [hv.out];rfl,(Below.refl _ _).drew.trans hb⟩

theorem specGet_3 (s:ByteArray) (w:World) (h0:0<s.size) (h1:1<s.size) (h2:2<s.size) (hs:s.size<=maxLen) (hx:longV (s[0].toNat:Int)=3) :
  Calls Tryz.prog 114 #[.string s] w fun e w'=>e=.returned (.tuple #[.int .i64 (getV s).1,.int .i64 (getV s).2])/\Below w.heap.size w w':=by
 have hv:Hid (getV s=_):=getV_long s h0 3 (((s[0].toNat:Int) % (16:Int)*(64:Int)+(s[1].toNat:Int) % (64:Int))*(64:Int)+(s[2].toNat:Int) % (64:Int)) hx (by omega) (by omega) (by rw [nums_take3 s h2];rfl);have hl:Hid (longV (s[0].toNat:Int)=3):=hx;have he:=isEmpty_no s h0;have hb0:(s[0].toNat:Int)<256:=by have:=s[0].toNat_lt;omega
 have hb1:(s[1].toNat:Int)<256:=by have:=s[1].toNat_lt;omega
 have hb2:(s[2].toNat:Int)<256:=by have:=s[2].toNat_lt;omega
 unfold maxLen at hs
 by_cases hk:((putS (((s[0].toNat:Int) % (16:Int)*(64:Int)+(s[1].toNat:Int) % (64:Int))*(64:Int)+(s[2].toNat:Int) % (64:Int))).toList==(s.extract 0 3).toList)=true
 ·have hv:Hid (getV s=((((s[0].toNat:Int) % (16:Int)*(64:Int)+(s[1].toNat:Int) % (64:Int))*(64:Int)+(s[2].toNat:Int) % (64:Int)),3)):=by have:=hv.out;rw [if_pos hk] at this;exact this
  clear hx;go_enter Tryz.func114,Tryz.ntmps114;go_wp2_with (first|(go_at_call 173;refine (l1Long_any _ _ (by omega)).mono ?_;rw [hl.out];rintro e w' ⟨rfl,rfl⟩));refine wp_loop_rounds 3 ?_;rw [rounds_succ]
  go_wp2;rw [rounds_succ]
  go_wp2;rw [rounds_succ]
  go_wp2;go_region_with (go_at_call 174;refine (specPut_any _ _).mono ?_;rintro e w1 ⟨rfl,hb⟩)
  all_goals
   go_wp2;go_ret2;exact ⟨by rw [hv.out];rfl,(Below.refl _ _).drew.trans hb⟩
 ·have hk:((putS (((s[0].toNat:Int) % (16:Int)*(64:Int)+(s[1].toNat:Int) % (64:Int))*(64:Int)+(s[2].toNat:Int) % (64:Int))).toList==(s.extract 0 3).toList)=false:=by simpa using hk
  have hv:Hid (getV s=(65533,1)):=by have:=hv.out;rw [if_neg (by rw [hk];decide)] at this;exact this
  clear hx;go_enter Tryz.func114,Tryz.ntmps114;go_wp2_with (first|(go_at_call 173;refine (l1Long_any _ _ (by omega)).mono ?_;rw [hl.out];rintro e w' ⟨rfl,rfl⟩));refine wp_loop_rounds 3 ?_;rw [rounds_succ]
  go_wp2;rw [rounds_succ]
  go_wp2;rw [rounds_succ]
  go_wp2;go_region_with (go_at_call 174;refine (specPut_any _ _).mono ?_;rintro e w1 ⟨rfl,hb⟩)
  all_goals
   go_wp2;go_ret2;exact ⟨by rw [hv.out];rfl,(Below.refl _ _).drew.trans hb⟩

theorem specGet_4 (s:ByteArray) (w:World) (h0:0<s.size) (h1:1<s.size) (h2:2<s.size) (h3:3<s.size) (hs:s.size<=maxLen) (hx:longV (s[0].toNat:Int)=4) :
  Calls Tryz.prog 114 #[.string s] w fun e w'=>e=.returned (.tuple #[.int .i64 (getV s).1,.int .i64 (getV s).2])/\Below w.heap.size w w':=by
 have hv:Hid (getV s=_):=getV_long s h0 4 ((((s[0].toNat:Int) % (8:Int)*(64:Int)+(s[1].toNat:Int) % (64:Int))*(64:Int)+(s[2].toNat:Int) % (64:Int))*(64:Int)+(s[3].toNat:Int) % (64:Int)) hx (by omega) (by omega) (by rw [nums_take4 s h3];rfl);have hl:Hid (longV (s[0].toNat:Int)=4):=hx;have he:=isEmpty_no s h0;have hb0:(s[0].toNat:Int)<256:=by have:=s[0].toNat_lt;omega
 have hb1:(s[1].toNat:Int)<256:=by have:=s[1].toNat_lt;omega
 have hb2:(s[2].toNat:Int)<256:=by have:=s[2].toNat_lt;omega
 have hb3:(s[3].toNat:Int)<256:=by have:=s[3].toNat_lt;omega
 unfold maxLen at hs
 by_cases hk:((putS ((((s[0].toNat:Int) % (8:Int)*(64:Int)+(s[1].toNat:Int) % (64:Int))*(64:Int)+(s[2].toNat:Int) % (64:Int))*(64:Int)+(s[3].toNat:Int) % (64:Int))).toList==(s.extract 0 4).toList)=true
 ·have hv:Hid (getV s=(((((s[0].toNat:Int) % (8:Int)*(64:Int)+(s[1].toNat:Int) % (64:Int))*(64:Int)+(s[2].toNat:Int) % (64:Int))*(64:Int)+(s[3].toNat:Int) % (64:Int)),4)):=by have:=hv.out;rw [if_pos hk] at this;exact this
  clear hx;go_enter Tryz.func114,Tryz.ntmps114;go_wp2_with (first|(go_at_call 173;refine (l1Long_any _ _ (by omega)).mono ?_;rw [hl.out];rintro e w' ⟨rfl,rfl⟩));refine wp_loop_rounds 4 ?_;rw [rounds_succ]
  go_wp2;rw [rounds_succ]
  go_wp2;rw [rounds_succ]
  go_wp2;rw [rounds_succ]
  go_wp2;go_region_with (go_at_call 174;refine (specPut_any _ _).mono ?_;rintro e w1 ⟨rfl,hb⟩)
  all_goals
   go_wp2;go_ret2;exact ⟨by rw [hv.out];rfl,(Below.refl _ _).drew.trans hb⟩
 ·have hk:((putS ((((s[0].toNat:Int) % (8:Int)*(64:Int)+(s[1].toNat:Int) % (64:Int))*(64:Int)+(s[2].toNat:Int) % (64:Int))*(64:Int)+(s[3].toNat:Int) % (64:Int))).toList==(s.extract 0 4).toList)=false:=by simpa using hk
  have hv:Hid (getV s=(65533,1)):=by have:=hv.out;rw [if_neg (by rw [hk];decide)] at this;exact this
  clear hx;go_enter Tryz.func114,Tryz.ntmps114;go_wp2_with (first|(go_at_call 173;refine (l1Long_any _ _ (by omega)).mono ?_;rw [hl.out];rintro e w' ⟨rfl,rfl⟩));refine wp_loop_rounds 4 ?_;rw [rounds_succ]
  go_wp2;rw [rounds_succ]
  go_wp2;rw [rounds_succ]
  go_wp2;rw [rounds_succ]
  go_wp2;go_region_with (go_at_call 174;refine (specPut_any _ _).mono ?_;rintro e w1 ⟨rfl,hb⟩)
  all_goals
   go_wp2;go_ret2;exact ⟨by rw [hv.out];rfl,(Below.refl _ _).drew.trans hb⟩

theorem specGet_any (s:ByteArray) (w:World) (hs:s.size<=maxLen) :
  Calls Tryz.prog 114 #[.string s] w fun e w'=>e=.returned (.tuple #[.int .i64 (getV s).1,.int .i64 (getV s).2])/\Below w.heap.size w w':=by
 by_cases h0:0<s.size
 ·by_cases l0:longV (s[0].toNat:Int)=0
  ·exact specGet_none s w h0 l0
  ·have hlv:longV (s[0].toNat:Int)=1\/longV (s[0].toNat:Int)=2\/longV (s[0].toNat:Int)=3\/longV (s[0].toNat:Int)=4:=by
    revert l0;unfold longV;intro l0;omega
   rcases hlv with h|h|h|h
   ·exact specGet_1 s w h0 hs h
   ·by_cases k:1<s.size
    ·exact specGet_2 s w h0 k hs h
    ·exact specGet_short s w h0 2 (by omega) (by omega) h
   ·by_cases k:2<s.size
    ·exact specGet_3 s w h0 (by omega) k hs h
    ·exact specGet_short s w h0 3 (by omega) (by omega) h
   ·by_cases k:3<s.size
    ·exact specGet_4 s w h0 (by omega) (by omega) k hs h
    ·exact specGet_short s w h0 4 (by omega) (by omega) h
 ·exact specGet_0 s w h0
def fillB (h:ByteArray) (n:Nat):Bool:=((getV (h++({ data:=#[128,128,128] }:ByteArray).extract 0 (n-h.size))).2==(n:Int)) || ((getV (h++({ data:=#[160,128,128] }:ByteArray).extract 0 (n-h.size))).2==(n:Int)) || ((getV (h++({ data:=#[144,128,128] }:ByteArray).extract 0 (n-h.size))).2==(n:Int)) || ((getV (h++({ data:=#[191,191,191] }:ByteArray).extract 0 (n-h.size))).2==(n:Int)) || ((getV (h++({ data:=#[159,191,191] }:ByteArray).extract 0 (n-h.size))).2==(n:Int)) || ((getV (h++({ data:=#[143,191,191] }:ByteArray).extract 0 (n-h.size))).2==(n:Int))
def FillAt (g:Nat) (w:World):Prop :=
 g<w.heap.size/\w.cell? ⟨g,1,none⟩=some (.string ({ data:=#[160,128,128] }:ByteArray))/\w.cell? ⟨g,2,none⟩=some (.string ({ data:=#[144,128,128] }:ByteArray))/\w.cell? ⟨g,3,none⟩=some (.string ({ data:=#[191,191,191] }:ByteArray))/\w.cell? ⟨g,4,none⟩=some (.string ({ data:=#[159,191,191] }:ByteArray))/\w.cell? ⟨g,5,none⟩=some (.string ({ data:=#[143,191,191] }:ByteArray))
theorem FillAt.below {g:Nat} {w w':World} (h:FillAt g w) (hb:Below w.heap.size w w'):FillAt g w':=by
 obtain ⟨hg,q1,q2,q3,q4,q5⟩:=h;exact ⟨Nat.lt_of_lt_of_le hg hb.size,(hb.cell (p:=⟨g,1,none⟩) hg).trans q1,(hb.cell (p:=⟨g,2,none⟩) hg).trans q2,(hb.cell (p:=⟨g,3,none⟩) hg).trans q3,(hb.cell (p:=⟨g,4,none⟩) hg).trans q4,(hb.cell (p:=⟨g,5,none⟩) hg).trans q5⟩
theorem fill_new (w:World):FillAt w.heap.size (w.alloc (.cells #[(.string ({ data:=#[128,128,128] }:ByteArray):Value),(.string ({ data:=#[160,128,128] }:ByteArray):Value),(.string ({ data:=#[144,128,128] }:ByteArray):Value),(.string ({ data:=#[191,191,191] }:ByteArray):Value),(.string ({ data:=#[159,191,191] }:ByteArray):Value),(.string ({ data:=#[143,191,191] }:ByteArray):Value)] 9)):=by
 refine ⟨by simp,?_,?_,?_,?_,?_⟩<;>simp [go_sem]

theorem l1Part_long (h:ByteArray) (n:Nat) (w:World) (h0:0<h.size) (hs:h.size<=3) (hn:h.size<n/\n<=4) (hx:longV (h[0].toNat:Int)=n) :
  Calls Tryz.prog 152 #[.string h] w fun e w'=>e=.returned (.bool (fillB h n))/\Below w.heap.size w w':=by
 have hl:Hid (longV (h[0].toNat:Int)=n):=hx;clear hx;have he:=isEmpty_no h h0;have hb0:(h[0].toNat:Int)<256:=by have:=h[0].toNat_lt;omega
 have hlt:¬ ((n:Int)<=(h.size:Int)):=by omega
 have hy0:=fun o=>(Below.refl w.heap.size w).alloc (Nat.le_refl _) o
 have m0:(h++({ data:=#[128,128,128] }:ByteArray).extract 0 (n-h.size)).size<=maxLen:=by rw [ByteArray.size_append,ByteArray.size_extract];unfold maxLen;omega
 have m1:(h++({ data:=#[160,128,128] }:ByteArray).extract 0 (n-h.size)).size<=maxLen:=by rw [ByteArray.size_append,ByteArray.size_extract];unfold maxLen;omega
 have m2:(h++({ data:=#[144,128,128] }:ByteArray).extract 0 (n-h.size)).size<=maxLen:=by rw [ByteArray.size_append,ByteArray.size_extract];unfold maxLen;omega
 have m3:(h++({ data:=#[191,191,191] }:ByteArray).extract 0 (n-h.size)).size<=maxLen:=by rw [ByteArray.size_append,ByteArray.size_extract];unfold maxLen;omega
 have m4:(h++({ data:=#[159,191,191] }:ByteArray).extract 0 (n-h.size)).size<=maxLen:=by rw [ByteArray.size_append,ByteArray.size_extract];unfold maxLen;omega
 have m5:(h++({ data:=#[143,191,191] }:ByteArray).extract 0 (n-h.size)).size<=maxLen:=by rw [ByteArray.size_append,ByteArray.size_extract];unfold maxLen;omega
 have g0:=fun W=>specGet_any (h++({ data:=#[128,128,128] }:ByteArray).extract 0 (n-h.size)) W m0
 have g1:=fun W=>specGet_any (h++({ data:=#[160,128,128] }:ByteArray).extract 0 (n-h.size)) W m1
 have g2:=fun W=>specGet_any (h++({ data:=#[144,128,128] }:ByteArray).extract 0 (n-h.size)) W m2
 have g3:=fun W=>specGet_any (h++({ data:=#[191,191,191] }:ByteArray).extract 0 (n-h.size)) W m3
 have g4:=fun W=>specGet_any (h++({ data:=#[159,191,191] }:ByteArray).extract 0 (n-h.size)) W m4
 have g5:=fun W=>specGet_any (h++({ data:=#[143,191,191] }:ByteArray).extract 0 (n-h.size)) W m5
 clear m0 m1 m2 m3 m4 m5;go_enter Tryz.func152,Tryz.ntmps152;go_wp2_with (first|(go_at_call 173;refine (l1Long_any _ _ (by omega)).mono ?_;rw [hl.out];rintro e w' ⟨rfl,hw⟩;subst w'));refine wp_loop_rounds 7 ?_;rw [rounds_succ]
 go_wp2_with (go_at_call 114;refine (g0 _).mono ?_;rintro e w1 ⟨rfl,hb⟩;obtain ⟨hg,q1,q2,q3,q4,q5⟩:=(fill_new w).below hb;replace hb:=(hy0 _).trans (hb.mono (by simp)))
 ·go_ret
  exact ⟨ret_bool (by simp only [fillB, *,Bool.true_or]),hb⟩
 rw [rounds_succ]
 go_wp2_with (go_at_call 114;refine (g1 _).mono ?_;rintro e w1 ⟨rfl,hc⟩;replace hb:=hb.trans (hc.mono hb.size);obtain ⟨hgx1,q1x1,q2x1,q3x1,q4x1,q5x1⟩:=FillAt.below ⟨hg,q1,q2,q3,q4,q5⟩ hc;clear hg q1 q2 q3 q4 q5)
 ·go_ret
  exact ⟨ret_bool (by simp only [fillB, *,Bool.true_or,Bool.or_true]),hb⟩
 rw [rounds_succ]
 go_wp2_with (go_at_call 114;refine (g2 _).mono ?_;rintro e w1 ⟨rfl,hc⟩;replace hb:=hb.trans (hc.mono hb.size);obtain ⟨hgx2,q1x2,q2x2,q3x2,q4x2,q5x2⟩:=FillAt.below ⟨hgx1,q1x1,q2x1,q3x1,q4x1,q5x1⟩ hc;clear hgx1 q1x1 q2x1 q3x1 q4x1 q5x1)
 ·go_ret
  exact ⟨ret_bool (by simp only [fillB, *,Bool.true_or,Bool.false_or,Bool.or_true]),hb⟩
 rw [rounds_succ]
 go_wp2_with (go_at_call 114;refine (g3 _).mono ?_;rintro e w1 ⟨rfl,hc⟩;replace hb:=hb.trans (hc.mono hb.size);obtain ⟨hgx3,q1x3,q2x3,q3x3,q4x3,q5x3⟩:=FillAt.below ⟨hgx2,q1x2,q2x2,q3x2,q4x2,q5x2⟩ hc;clear hgx2 q1x2 q2x2 q3x2 q4x2 q5x2)
 ·go_ret
  exact ⟨ret_bool (by simp only [fillB, *,Bool.true_or,Bool.false_or,Bool.or_true]),hb⟩
 rw [rounds_succ]
 go_wp2_with (go_at_call 114;refine (g4 _).mono ?_;rintro e w1 ⟨rfl,hc⟩;replace hb:=hb.trans (hc.mono hb.size);obtain ⟨hgx4,q1x4,q2x4,q3x4,q4x4,q5x4⟩:=FillAt.below ⟨hgx3,q1x3,q2x3,q3x3,q4x3,q5x3⟩ hc;clear hgx3 q1x3 q2x3 q3x3 q4x3 q5x3)
 ·go_ret
  exact ⟨ret_bool (by simp only [fillB, *,Bool.true_or,Bool.false_or,Bool.or_true]),hb⟩
 rw [rounds_succ]
 go_wp2_with (go_at_call 114;refine (g5 _).mono ?_;rintro e w1 ⟨rfl,hc⟩;replace hb:=hb.trans (hc.mono hb.size);obtain ⟨hgx5,q1x5,q2x5,q3x5,q4x5,q5x5⟩:=FillAt.below ⟨hgx4,q1x4,q2x4,q3x4,q4x4,q5x4⟩ hc;clear hgx4 q1x4 q2x4 q3x4 q4x4 q5x4)
 ·go_ret
  exact ⟨ret_bool (by simp only [fillB, *,Bool.false_or,Bool.or_true]),hb⟩
 rw [rounds_succ]
 go_wp2;go_ret;exact ⟨ret_bool (by simp only [fillB, *,Bool.or_false]),hb⟩

theorem l1Part_no (h:ByteArray) (n:Int) (w:World) (h0:0<h.size) (hn:n<=h.size) (hx:longV (h[0].toNat:Int)=n) :
  Calls Tryz.prog 152 #[.string h] w fun e w'=>e=.returned (.bool false)/\Below w.heap.size w w':=by
 have hl:Hid (longV (h[0].toNat:Int)=n):=hx;clear hx;have he:=isEmpty_no h h0;have hb0:(h[0].toNat:Int)<256:=by have:=h[0].toNat_lt;omega
 go_enter Tryz.func152,Tryz.ntmps152;go_wp2_with (first|(go_at_call 173;refine (l1Long_any _ _ (by omega)).mono ?_;rw [hl.out];rintro e w' ⟨rfl,rfl⟩));go_ret;exact ⟨rfl,Below.refl _ _⟩

theorem l1Part_empty (h:ByteArray) (w:World) (h0:¬ 0<h.size) :
  Calls Tryz.prog 152 #[.string h] w fun e w'=>e=.returned (.bool true)/\Below w.heap.size w w':=by
 have he:=isEmpty_yes h h0;go_enter Tryz.func152,Tryz.ntmps152;go_wp2;go_ret;exact ⟨rfl,Below.refl _ _⟩
end Go.Proofs.YtgcnmjjlmcnllaaGreatDoor
namespace Go.Proofs.YtgcnmjjlmcnllaaGreatDoor
set_option maxRecDepth 20000
set_option maxHeartbeats 16000000
theorem dec2_2 (b0 b1:Int):(dec [b0,b1]).2=2 ↔ 194<=b0/\b0<224/\(128<=b1/\b1<192):=by
 simp only [dec]
 repeat' split
 all_goals (dsimp only;omega)
def p3 (b0 b1:Int):Prop:=224<=b0/\b0<240/\(128<=b1/\b1<192)/\32<=(b0-224)*64+(b1-128)/\((b0-224)*64+(b1-128)<864\/895<(b0-224)*64+(b1-128))
def p4 (b0 b1:Int):Prop:=240<=b0/\b0<248/\(128<=b1/\b1<192)/\16<=(b0-240)*64+(b1-128)/\(b0-240)*64+(b1-128)<=271
theorem dec2_3 (b0 b1 b2:Int):(dec [b0,b1,b2]).2=3 ↔ p3 b0 b1/\(128<=b2/\b2<192):=by
 unfold p3;simp only [dec,runeOk_iff]
 repeat' split
 all_goals (dsimp only;omega)
theorem dec2_4 (b0 b1 b2 b3:Int):(dec [b0,b1,b2,b3]).2=4 ↔ p4 b0 b1/\(128<=b2/\b2<192)/\(128<=b3/\b3<192):=by
 unfold p4;simp only [dec,runeOk_iff]
 repeat' split
 all_goals (dsimp only;omega)
theorem p3_any2 (b0:Int):(p3 b0 128\/p3 b0 191) ↔ (224<=b0/\b0<240):=by unfold p3;omega
theorem p3_any6 (b0:Int):(p3 b0 128\/p3 b0 160\/p3 b0 144\/p3 b0 191\/p3 b0 159\/p3 b0 143) ↔ (224<=b0/\b0<240):=by
 constructor
 ·rintro (h|h|h|h|h|h)<;>(unfold p3 at h;omega)
 ·intro h
  rcases (p3_any2 b0).2 h with h|h
  ·exact .inl h
  ·exact .inr (.inr (.inr (.inl h)))
theorem p4_any2 (b0:Int):(p4 b0 128\/p4 b0 191) ↔ (240<=b0/\b0<245):=by unfold p4;omega
theorem p4_any6 (b0:Int):(p4 b0 128\/p4 b0 160\/p4 b0 144\/p4 b0 191\/p4 b0 159\/p4 b0 143) ↔ (240<=b0/\b0<245):=by
 constructor
 ·rintro (h|h|h|h|h|h)<;>(unfold p4 at h;omega)
 ·intro h
  rcases (p4_any2 b0).2 h with h|h
  ·exact .inl h
  ·exact .inr (.inr (.inr (.inl h)))
theorem p3_long (b0 b1:Int) (h:p3 b0 b1):longV b0=3:=by unfold p3 at h;unfold longV;omega
theorem p4_long (b0 b1:Int) (h:p4 b0 b1):longV b0=4:=by unfold p4 at h;unfold longV;omega

theorem dec2_le (b0:Int) (t:List Int) (hb:0<=b0):(dec (b0::t)).2<=4:=by
 rcases put_dec b0 t hb with ⟨_,_,h3⟩|⟨h1,_⟩
 ·rw [h3];have:=putL_len (dec (b0::t)).1;omega
 ·rw [h1];simp

theorem nums_app (a b:ByteArray):nums (a++b)=nums a++nums b:=by simp [nums,ByteArray.data_append]
theorem cut_nums (h:ByteArray):cutB h=true ↔ ((dec (nums h++[128])).2=(h.size:Int)+1\/(dec (nums h++[191])).2=(h.size:Int)+1\/(dec (nums h++[128,128])).2=(h.size:Int)+2\/(dec (nums h++[191,191])).2=(h.size:Int)+2\/(dec (nums h++[128,128,128])).2=(h.size:Int)+3\/(dec (nums h++[191,191,191])).2=(h.size:Int)+3):=by
 have e0:nums T0=[128]:=rfl;have e1:nums T1=[191]:=rfl;have e2:nums T2=[128,128]:=rfl;have e3:nums T3=[191,191]:=rfl;have e4:nums T4=[128,128,128]:=rfl;have e5:nums T5=[191,191,191]:=rfl;simp only [cutB,getV,nums_app,e0,e1,e2,e3,e4,e5,Bool.or_eq_true,beq_iff_eq,or_assoc]
theorem fill_nums (h:ByteArray) (n:Nat):fillB h n=true ↔ ((dec (nums h++[128,128,128].take (n-h.size))).2=n\/(dec (nums h++[160,128,128].take (n-h.size))).2=n\/(dec (nums h++[144,128,128].take (n-h.size))).2=n\/(dec (nums h++[191,191,191].take (n-h.size))).2=n\/(dec (nums h++[159,191,191].take (n-h.size))).2=n\/(dec (nums h++[143,191,191].take (n-h.size))).2=n):=by
 have e0:nums ⟨#[128,128,128]⟩=[128,128,128]:=rfl;have e1:nums ⟨#[160,128,128]⟩=[160,128,128]:=rfl;have e2:nums ⟨#[144,128,128]⟩=[144,128,128]:=rfl;have e3:nums ⟨#[191,191,191]⟩=[191,191,191]:=rfl;have e4:nums ⟨#[159,191,191]⟩=[159,191,191]:=rfl;have e5:nums ⟨#[143,191,191]⟩=[143,191,191]:=rfl;simp only [fillB,getV,nums_app,nums_extract,e0,e1,e2,e3,e4,e5,List.drop_zero,Bool.or_eq_true,beq_iff_eq,or_assoc]

theorem no5 (b0:Int) (t:List Int) (hb:0<=b0) (k:Int) (hk:4<k):¬ (dec (b0::t)).2=k:=by
 have:=dec2_le b0 t hb;omega
theorem or6 {a b c d e f:Prop}:(a\/b\/c\/d\/e\/f) ↔ ((a\/b)\/(c\/d)\/(e\/f)):=by simp only [or_assoc]

theorem cut_1 (h:ByteArray) (b0:Int) (hd:nums h=[b0]) (hz:h.size=1):cutB h=true ↔ (194<=b0/\b0<245):=by
 rw [cut_nums,hd,hz]
 simp only [List.cons_append,List.nil_append,Int.cast_ofNat_Int,Int.reduceAdd,dec2_2,dec2_3,dec2_4,Int.reduceLE,Int.reduceLT,and_true];rw [or6,p3_any2,p4_any2]
 omega
theorem fill_1 (h:ByteArray) (b0:Int) (n:Nat) (hd:nums h=[b0]) (hz:h.size=1) (hn:longV b0=n) (h1:1<n):fillB h n=true ↔ (194<=b0/\b0<245):=by
 rw [fill_nums,hd,hz]
 have hc:n=2\/n=3\/n=4:=by unfold longV at hn;omega
 rcases hc with rfl|rfl|rfl
 ·simp only [Nat.reduceSub,List.take_succ_cons,List.take_zero,List.cons_append,List.nil_append,Int.cast_ofNat_Int,dec2_2,Int.reduceLE,Int.reduceLT,and_true]
  unfold longV at hn;omega
 ·simp only [Nat.reduceSub,List.take_succ_cons,List.take_zero,List.cons_append,List.nil_append,Int.cast_ofNat_Int,dec2_3,Int.reduceLE,Int.reduceLT,and_true]
  rw [p3_any6]
  unfold longV at hn;omega
 ·simp only [Nat.reduceSub,List.take_succ_cons,List.take_zero,List.cons_append,List.nil_append,Int.cast_ofNat_Int,dec2_4,Int.reduceLE,Int.reduceLT,and_true]
  rw [p4_any6]
  unfold longV at hn;omega
theorem cut_2 (h:ByteArray) (b0 b1:Int) (hb:0<=b0) (hd:nums h=[b0,b1]) (hz:h.size=2):cutB h=true ↔ (p3 b0 b1\/p4 b0 b1):=by
 rw [cut_nums,hd,hz]
 simp only [List.cons_append,List.nil_append,Int.cast_ofNat_Int,Int.reduceAdd,dec2_3,dec2_4,Int.reduceLE,Int.reduceLT,and_true,no5 b0 _ hb 5 (by omega),or_false,or_self];simp only [<- or_assoc,or_self]
theorem fill_2 (h:ByteArray) (b0 b1:Int) (n:Nat) (hd:nums h=[b0,b1]) (hz:h.size=2) (hn:longV b0=n) (h1:2<n):fillB h n=true ↔ (p3 b0 b1\/p4 b0 b1):=by
 rw [fill_nums,hd,hz]
 have hc:n=3\/n=4:=by unfold longV at hn;omega
 rcases hc with rfl|rfl
 ·simp only [Nat.reduceSub,List.take_succ_cons,List.take_zero,List.cons_append,List.nil_append,Int.cast_ofNat_Int,dec2_3,Int.reduceLE,Int.reduceLT,and_true,or_self]
  constructor
  ·exact .inl
  ·rintro (h|h)
   ·exact h
   ·have:=p4_long _ _ h;omega
 ·simp only [Nat.reduceSub,List.take_succ_cons,List.take_zero,List.cons_append,List.nil_append,Int.cast_ofNat_Int,dec2_4,Int.reduceLE,Int.reduceLT,and_true,or_self]
  constructor
  ·exact .inr
  ·rintro (h|h)
   ·have:=p3_long _ _ h;omega
   ·exact h
theorem cut_3 (h:ByteArray) (b0 b1 b2:Int) (hb:0<=b0) (hd:nums h=[b0,b1,b2]) (hz:h.size=3):cutB h=true ↔ (p4 b0 b1/\128<=b2/\b2<192):=by
 rw [cut_nums,hd,hz]
 simp only [List.cons_append,List.nil_append,Int.cast_ofNat_Int,Int.reduceAdd,dec2_4,Int.reduceLE,Int.reduceLT,and_true,no5 b0 _ hb 5 (by omega),no5 b0 _ hb 6 (by omega),or_false,or_self]
theorem fill_3 (h:ByteArray) (b0 b1 b2:Int) (n:Nat) (hd:nums h=[b0,b1,b2]) (hz:h.size=3) (hn:longV b0=n) (h1:3<n):fillB h n=true ↔ (p4 b0 b1/\128<=b2/\b2<192):=by
 rw [fill_nums,hd,hz]
 have hc:n=4:=by unfold longV at hn;omega
 subst hc;simp only [Nat.reduceSub,List.take_succ_cons,List.take_zero,List.cons_append,List.nil_append,Int.cast_ofNat_Int,dec2_4,Int.reduceLE,Int.reduceLT,and_true,or_self]

theorem eq_of_iff {a b:Bool} {p:Prop} (ha:a=true ↔ p) (hb:b=true ↔ p):a=b:=by rw [Bool.eq_iff_iff,ha,hb]
theorem no_of_iff {a:Bool} {p:Prop} (ha:a=true ↔ p) (hp:¬ p):a=false:=by
 cases a
 ·rfl
 ·exact absurd (ha.1 rfl) hp
theorem short_same (h:ByteArray) (h0:0<h.size) (hs:h.size<=3) (n:Nat) (hn:longV ((h[0]'h0).toNat:Int)=n) :
  (n<=h.size->cutB h=false)/\(h.size<n->cutB h=fillB h n):=by
 have hl:=nums_len h;have g0:=nums_get h 0 h0;have hbd:=nums_bd h;generalize ((h[0]'h0).toNat:Int)=x0 at *
 match hd:nums h with
 | []=>rw [hd] at hl;simp at hl;omega
 | [b0] =>
  rw [hd] at hl g0 hbd
  simp at g0;subst g0;have hz:h.size=1:=by simpa using hl.symm
  have hc:=cut_1 h b0 hd hz;refine ⟨fun h1=>no_of_iff hc ?_,fun h1=>eq_of_iff hc (fill_1 h b0 n hd hz hn (by omega))⟩;unfold longV at hn;omega
 | [b0,b1] =>
  rw [hd] at hl g0 hbd
  simp at g0;subst g0;have hz:h.size=2:=by simpa using hl.symm
  have hc:=cut_2 h b0 b1 (hbd b0 (by simp)).1 hd hz;refine ⟨fun h1=>no_of_iff hc ?_,fun h1=>eq_of_iff hc (fill_2 h b0 b1 n hd hz hn (by omega))⟩;rintro (h|h)
  ·have:=p3_long _ _ h;omega
  ·have:=p4_long _ _ h;omega
 | [b0,b1,b2] =>
  rw [hd] at hl g0 hbd
  simp at g0;subst g0;have hz:h.size=3:=by simpa using hl.symm
  have hc:=cut_3 h b0 b1 b2 (hbd b0 (by simp)).1 hd hz;refine ⟨fun h1=>no_of_iff hc ?_,fun h1=>eq_of_iff hc (fill_3 h b0 b1 b2 n hd hz hn (by omega))⟩;rintro ⟨h,_⟩;have:=p4_long _ _ h;omega
 | b0::b1::b2::b3::t=>rw [hd] at hl;simp at hl;omega
open Go.ChangeShapes Go.WideShapes Go.ChangeAt Go.RowKit
def feedOk (h:ByteArray):Bool:=if 0<h.size then decide (h.size<=3) && cutB h else true
theorem feedOk_0 (h:ByteArray) (h0:¬ 0<h.size):feedOk h=true:=by simp [feedOk,h0]
theorem feedOk_big (h:ByteArray) (h0:¬ h.size<=3):feedOk h=false:=by simp [feedOk,h0];omega
theorem feedOk_cut (h:ByteArray) (h0:0<h.size) (h1:h.size<=3):feedOk h=cutB h:=by simp [feedOk,h0,h1]

theorem l1Part_any (h:ByteArray) (w:World) (hs:h.size<=3) :
  Calls Tryz.prog 152 #[.string h] w fun e w'=>e=.returned (.bool (feedOk h))/\Below w.heap.size w w':=by
 by_cases h0:0<h.size
 ·rw [feedOk_cut h h0 hs]
  obtain ⟨n,hn,hn4⟩:∃ n:Nat,longV (h[0].toNat:Int)=n/\n<=4:=by
   have:0<=longV (h[0].toNat:Int)/\longV (h[0].toNat:Int)<=4:=by unfold longV;omega
   exact ⟨(longV (h[0].toNat:Int)).toNat,by omega,by omega⟩
  obtain ⟨s1,s2⟩:=short_same h h0 hs n hn
  by_cases hlt:h.size<n
  ·rw [s2 hlt];exact l1Part_long h n w h0 hs ⟨hlt,hn4⟩ hn
  ·rw [s1 (by omega)];exact l1Part_no h n w h0 (by omega) hn
 ·rw [feedOk_0 h h0];exact l1Part_empty h w h0

theorem specFeederOk_any (h:ByteArray) (w:World) :
  Calls Tryz.prog 77 #[.agg #[.string h]] w fun e w'=>e=.returned (.bool (feedOk h))/\Below w.heap.size w w':=by
 have hy0:=fun o=>(Below.refl w.heap.size w).alloc (Nat.le_refl _) o
 by_cases h1:h.size<=3
 ·have hi:(h.size:Int)<=3:=by omega
  go_enter Tryz.func77,Tryz.ntmps77;go_wp2_with (go_at_call 152;refine (l1Part_any h _ h1).mono ?_;rintro e w1 ⟨rfl,hb⟩);go_ret;exact ⟨rfl,(hy0 _).trans (hb.mono (by simp))⟩
 ·have hf:Hid (feedOk h=false):=feedOk_big h h1
  have hi:¬ (h.size:Int)<=3:=by omega
  go_enter Tryz.func77,Tryz.ntmps77;go_wp2;go_ret;exact ⟨ret_bool hf.out.symm,hy0 _⟩
end Go.Proofs.YtgcnmjjlmcnllaaGreatDoor
