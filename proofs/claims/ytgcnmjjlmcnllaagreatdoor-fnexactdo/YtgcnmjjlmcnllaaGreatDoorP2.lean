/- Parts of the proof. -/
import Derived.Test.YtgcnmjjlmcnllaaGreatDoorP1
import Derived.Laws.BytesArg
import Derived.WalkSpells
import Derived.Laws.RangeAny
import Derived.Lib.OthersKept
import Derived.Deep.RegionWith
import Derived.WalkLawsBesides
import Derived.Laws.CopyOwn
import Derived.OwnWalk
namespace Go.Proofs.YtgcnmjjlmcnllaaGreatDoor
set_option maxRecDepth 20000
set_option maxHeartbeats 16000000
open Go.ChangeShapes Go.WideShapes Go.ChangeAt Go.RowKit
theorem make_1 (w:World):(Instr.makeSlice 22 (.int .i64 1) (.int .i64 1)).run Tryz.prog w=.ok (.slice (some ⟨w.heap.size,0,none⟩) 1 1) (w.alloc (.cells #[.int .u8 0] 5)):=by kernel_rfl
theorem conv_1 (w:World) (g:Nat) (hg:g=w.heap.size) (a:Int):(convert 22 9 (.slice (some ⟨g,0,none⟩) 1 1)).run Tryz.prog (w.alloc (.cells #[.int .u8 a] 5))=.ok (.string (strOfNums [a])) (w.alloc (.cells #[.int .u8 a] 5))  :=by
 subst hg;refine run_convert_bytes_arg _ 22 5 Tryz.underlying22 Tryz.underlying5 _ 0 1 1 [a] rfl ?_ _ Tryz.underlying9;intro i hi
 match i,hi with
 | 0,_=>simp [go_sem]
theorem make_2 (w:World):(Instr.makeSlice 22 (.int .i64 2) (.int .i64 2)).run Tryz.prog w=.ok (.slice (some ⟨w.heap.size,0,none⟩) 2 2) (w.alloc (.cells #[.int .u8 0,.int .u8 0] 5)):=by kernel_rfl
theorem conv_2 (w:World) (g:Nat) (hg:g=w.heap.size) (a b:Int):(convert 22 9 (.slice (some ⟨g,0,none⟩) 2 2)).run Tryz.prog (w.alloc (.cells #[.int .u8 a,.int .u8 b] 5))=.ok (.string (strOfNums [a,b])) (w.alloc (.cells #[.int .u8 a,.int .u8 b] 5))  :=by
 subst hg;refine run_convert_bytes_arg _ 22 5 Tryz.underlying22 Tryz.underlying5 _ 0 2 2 [a,b] rfl ?_ _ Tryz.underlying9;intro i hi
 match i,hi with
 | 0,_=>simp [go_sem]
 | 1,_=>simp [go_sem]
theorem make_3 (w:World):(Instr.makeSlice 22 (.int .i64 3) (.int .i64 3)).run Tryz.prog w=.ok (.slice (some ⟨w.heap.size,0,none⟩) 3 3) (w.alloc (.cells #[.int .u8 0,.int .u8 0,.int .u8 0] 5)):=by kernel_rfl
theorem conv_3 (w:World) (g:Nat) (hg:g=w.heap.size) (a b c:Int):(convert 22 9 (.slice (some ⟨g,0,none⟩) 3 3)).run Tryz.prog (w.alloc (.cells #[.int .u8 a,.int .u8 b,.int .u8 c] 5))=.ok (.string (strOfNums [a,b,c])) (w.alloc (.cells #[.int .u8 a,.int .u8 b,.int .u8 c] 5))  :=by
 subst hg;refine run_convert_bytes_arg _ 22 5 Tryz.underlying22 Tryz.underlying5 _ 0 3 3 [a,b,c] rfl ?_ _ Tryz.underlying9;intro i hi
 match i,hi with
 | 0,_=>simp [go_sem]
 | 1,_=>simp [go_sem]
 | 2,_=>simp [go_sem]
theorem make_4 (w:World):(Instr.makeSlice 22 (.int .i64 4) (.int .i64 4)).run Tryz.prog w=.ok (.slice (some ⟨w.heap.size,0,none⟩) 4 4) (w.alloc (.cells #[.int .u8 0,.int .u8 0,.int .u8 0,.int .u8 0] 5)):=by kernel_rfl
theorem conv_4 (w:World) (g:Nat) (hg:g=w.heap.size) (a b c d:Int):(convert 22 9 (.slice (some ⟨g,0,none⟩) 4 4)).run Tryz.prog (w.alloc (.cells #[.int .u8 a,.int .u8 b,.int .u8 c,.int .u8 d] 5))=.ok (.string (strOfNums [a,b,c,d])) (w.alloc (.cells #[.int .u8 a,.int .u8 b,.int .u8 c,.int .u8 d] 5))  :=by
 subst hg;refine run_convert_bytes_arg _ 22 5 Tryz.underlying22 Tryz.underlying5 _ 0 4 4 [a,b,c,d] rfl ?_ _ Tryz.underlying9;intro i hi
 match i,hi with
 | 0,_=>simp [go_sem]
 | 1,_=>simp [go_sem]
 | 2,_=>simp [go_sem]
 | 3,_=>simp [go_sem]

theorem ret_str {a b:ByteArray} (h:a=b):Ending.returned (.string a)=.returned (.string b):=by rw [h]
theorem l1PutA_1 (r:Int) (w:World) (hb:0<=r/\r<=1114111) (h:r<128) :
  Calls Tryz.prog 201 #[.int .i64 r] w fun e w'=>e=.returned (.slice (some ⟨w.heap.size,0,none⟩) 1 1)/\w'=w.alloc (.cells #[.int .u8 r] 5):=by
 go_enter Tryz.func201,Tryz.ntmps201;go_wp2;go_ret;exact ⟨rfl,rfl⟩

theorem l1PutA_2 (r:Int) (w:World) (hb:0<=r/\r<=1114111) (h0:128<=r) (h:r<2048) :
  Calls Tryz.prog 201 #[.int .i64 r] w fun e w'=>e=.returned (.slice (some ⟨w.heap.size,0,none⟩) 2 2)/\w'=w.alloc (.cells #[.int .u8 (192+r / 64),.int .u8 (128+r % 64)] 5):=by
 go_enter Tryz.func201,Tryz.ntmps201;go_wp2;go_ret;exact ⟨rfl,rfl⟩

theorem l1PutA_3 (r:Int) (w:World) (hb:0<=r/\r<=1114111) (h0:2048<=r) (h:r<65536) :
  Calls Tryz.prog 201 #[.int .i64 r] w fun e w'=>e=.returned (.slice (some ⟨w.heap.size,0,none⟩) 3 3)/\w'=w.alloc (.cells #[.int .u8 (224+r / 4096),.int .u8 (128+r / 64 % 64),.int .u8 (128+r % 64)] 5):=by
 go_enter Tryz.func201,Tryz.ntmps201;go_wp2;go_ret;exact ⟨rfl,rfl⟩

theorem l1PutA_4 (r:Int) (w:World) (hb:0<=r/\r<=1114111) (h0:65536<=r) :
  Calls Tryz.prog 201 #[.int .i64 r] w fun e w'=>e=.returned (.slice (some ⟨w.heap.size,0,none⟩) 4 4)/\w'=w.alloc (.cells #[.int .u8 (240+r / 262144),.int .u8 (128+r / 4096 % 64),.int .u8 (128+r / 64 % 64),.int .u8 (128+r % 64)] 5):=by
 go_enter Tryz.func201,Tryz.ntmps201;go_wp2;go_ret;exact ⟨rfl,rfl⟩

theorem implPut_1 (r:Int) (w:World) (hk:runeOk r=true) (h:r<128) :
  Calls Tryz.prog 242 #[.int .i64 r] w fun e w'=>e=.returned (.string (strOfNums (putL r)))/\Below w.heap.size w w':=by
 have hbd:=runeOk_bd r hk;have hpl:Hid (putL r=_):=putL_1 r h;have hmk:=make_1;have hcv:=conv_1;go_enter Tryz.func242,Tryz.ntmps242;go_wp2_with (first|(go_at_call 119;refine (implRuneOk_any _ _).mono ?_;rintro e w' ⟨rfl,rfl⟩)|(go_at_call 266;refine (formOf_1 _ _ (by omega)).mono ?_;rintro e w' ⟨rfl,hb⟩));refine wp_loop_rounds 1 ?_;rw [rounds_succ]
 go_wp2;go_ret;exact ⟨ret_str (by rw [hpl.out]),((hb.alloc hb.size _).alloc (by have:=hb.size;simp;omega) _)⟩


theorem implPut_2 (r:Int) (w:World) (hk:runeOk r=true) (h0:128<=r) (h:r<2048) :
  Calls Tryz.prog 242 #[.int .i64 r] w fun e w'=>e=.returned (.string (strOfNums (putL r)))/\Below w.heap.size w w':=by
 have hbd:=runeOk_bd r hk;have hpl:Hid (putL r=_):=putL_2 r h0 h;have hmk:=make_2;have hcv:=conv_2;go_enter Tryz.func242,Tryz.ntmps242;go_wp2_with (first|(go_at_call 119;refine (implRuneOk_any _ _).mono ?_;rintro e w' ⟨rfl,rfl⟩)|(go_at_call 266;refine (formOf_2 _ _ (by omega) (by omega)).mono ?_;rintro e w' ⟨rfl,hb⟩));refine wp_loop_rounds 2 ?_;rw [rounds_succ]
 go_wp2;rw [rounds_succ]
 go_wp2;go_ret;exact ⟨ret_str (by rw [hpl.out]),((hb.alloc hb.size _).alloc (by have:=hb.size;simp;omega) _)⟩


theorem implPut_3 (r:Int) (w:World) (hk:runeOk r=true) (h0:2048<=r) (h:r<65536) :
  Calls Tryz.prog 242 #[.int .i64 r] w fun e w'=>e=.returned (.string (strOfNums (putL r)))/\Below w.heap.size w w':=by
 have hbd:=runeOk_bd r hk;have hpl:Hid (putL r=_):=putL_3 r h0 h;have hmk:=make_3;have hcv:=conv_3;go_enter Tryz.func242,Tryz.ntmps242;go_wp2_with (first|(go_at_call 119;refine (implRuneOk_any _ _).mono ?_;rintro e w' ⟨rfl,rfl⟩)|(go_at_call 266;refine (formOf_3 _ _ (by omega) (by omega)).mono ?_;rintro e w' ⟨rfl,hb⟩));refine wp_loop_rounds 3 ?_;rw [rounds_succ]
 go_wp2;rw [rounds_succ]
 go_wp2;rw [rounds_succ]
 go_wp2;go_ret;exact ⟨ret_str (by rw [hpl.out]),((hb.alloc hb.size _).alloc (by have:=hb.size;simp;omega) _)⟩


theorem implPut_4 (r:Int) (w:World) (hk:runeOk r=true) (h0:65536<=r) :
  Calls Tryz.prog 242 #[.int .i64 r] w fun e w'=>e=.returned (.string (strOfNums (putL r)))/\Below w.heap.size w w':=by
 have hbd:=runeOk_bd r hk;have hpl:Hid (putL r=_):=putL_4 r h0;have hmk:=make_4;have hcv:=conv_4;go_enter Tryz.func242,Tryz.ntmps242;go_wp2_with (first|(go_at_call 119;refine (implRuneOk_any _ _).mono ?_;rintro e w' ⟨rfl,rfl⟩)|(go_at_call 266;refine (formOf_4 _ _ (by omega) (by omega)).mono ?_;rintro e w' ⟨rfl,hb⟩));refine wp_loop_rounds 4 ?_;rw [rounds_succ]
 go_wp2;rw [rounds_succ]
 go_wp2;rw [rounds_succ]
 go_wp2;rw [rounds_succ]
 go_wp2;go_ret;exact ⟨ret_str (by rw [hpl.out]),((hb.alloc hb.size _).alloc (by have:=hb.size;simp;omega) _)⟩


theorem implPut_any (r:Int) (w:World) :
  Calls Tryz.prog 242 #[.int .i64 r] w fun e w'=>e=.returned (.string (putS r))/\Below w.heap.size w w':=by
 by_cases hk:runeOk r=true
 ·rw [putS_ok r hk]
  by_cases h1:r<128
  ·exact implPut_1 r w hk h1
  ·by_cases h2:r<2048
   ·exact implPut_2 r w hk (by omega) h2
   ·by_cases h3:r<65536
    ·exact implPut_3 r w hk (by omega) h3
    ·exact implPut_4 r w hk (by omega)
 ·have hk':runeOk r=false:=by simpa using hk
  have hp:Hid (putS r=⟨#[]⟩):=by show _=_;simp [putS,hk']
  go_enter Tryz.func242,Tryz.ntmps242;go_wp2_with (go_at_call 119;refine (implRuneOk_any _ _).mono ?_;rintro e w' ⟨rfl,rfl⟩);go_ret;exact ⟨ret_str hp.out.symm,Below.refl _ _⟩

theorem specPut_1 (r:Int) (w:World) (hk:runeOk r=true) (h:r<128) :
  Calls Tryz.prog 174 #[.int .i64 r] w fun e w'=>e=.returned (.string (strOfNums (putL r)))/\Below w.heap.size w w':=by
 have hbd:=runeOk_bd r hk;have hcv:=conv_1;go_enter Tryz.func174,Tryz.ntmps174;go_wp2_with (first|(go_at_call 140;refine (specRuneOk_any _ _).mono ?_;rintro e w' ⟨rfl,rfl⟩)|(go_at_call 201;refine (l1PutA_1 _ _ (by omega) (by omega)).mono ?_;rintro e w' ⟨rfl,rfl⟩));go_ret;exact ⟨ret_str (by simp only [putL];rw [if_pos h]),(Below.refl _ _).alloc (Nat.le_refl _) _⟩

theorem specPut_2 (r:Int) (w:World) (hk:runeOk r=true) (h0:128<=r) (h:r<2048) :
  Calls Tryz.prog 174 #[.int .i64 r] w fun e w'=>e=.returned (.string (strOfNums (putL r)))/\Below w.heap.size w w':=by
 have hbd:=runeOk_bd r hk;have hcv:=conv_2;go_enter Tryz.func174,Tryz.ntmps174;go_wp2_with (first|(go_at_call 140;refine (specRuneOk_any _ _).mono ?_;rintro e w' ⟨rfl,rfl⟩)|(go_at_call 201;refine (l1PutA_2 _ _ (by omega) (by omega) (by omega)).mono ?_;rintro e w' ⟨rfl,rfl⟩));go_ret;exact ⟨ret_str (by simp only [putL];rw [if_neg (by omega),if_pos h]),(Below.refl _ _).alloc (Nat.le_refl _) _⟩

theorem specPut_3 (r:Int) (w:World) (hk:runeOk r=true) (h0:2048<=r) (h:r<65536) :
  Calls Tryz.prog 174 #[.int .i64 r] w fun e w'=>e=.returned (.string (strOfNums (putL r)))/\Below w.heap.size w w':=by
 have hbd:=runeOk_bd r hk;have hcv:=conv_3;go_enter Tryz.func174,Tryz.ntmps174;go_wp2_with (first|(go_at_call 140;refine (specRuneOk_any _ _).mono ?_;rintro e w' ⟨rfl,rfl⟩)|(go_at_call 201;refine (l1PutA_3 _ _ (by omega) (by omega) (by omega)).mono ?_;rintro e w' ⟨rfl,rfl⟩));go_ret;exact ⟨ret_str (by simp only [putL];rw [if_neg (by omega),if_neg (by omega),if_pos h]),(Below.refl _ _).alloc (Nat.le_refl _) _⟩

theorem specPut_4 (r:Int) (w:World) (hk:runeOk r=true) (h0:65536<=r) :
  Calls Tryz.prog 174 #[.int .i64 r] w fun e w'=>e=.returned (.string (strOfNums (putL r)))/\Below w.heap.size w w':=by
 have hbd:=runeOk_bd r hk;have hcv:=conv_4;go_enter Tryz.func174,Tryz.ntmps174;go_wp2_with (first|(go_at_call 140;refine (specRuneOk_any _ _).mono ?_;rintro e w' ⟨rfl,rfl⟩)|(go_at_call 201;refine (l1PutA_4 _ _ (by omega) (by omega)).mono ?_;rintro e w' ⟨rfl,rfl⟩));go_ret;exact ⟨ret_str (by simp only [putL];rw [if_neg (by omega),if_neg (by omega),if_neg (by omega)]),(Below.refl _ _).alloc (Nat.le_refl _) _⟩

theorem specPut_any (r:Int) (w:World) :
  Calls Tryz.prog 174 #[.int .i64 r] w fun e w'=>e=.returned (.string (putS r))/\Below w.heap.size w w':=by
 by_cases hk:runeOk r=true
 ·rw [putS_ok r hk]
  by_cases h1:r<128
  ·exact specPut_1 r w hk h1
  ·by_cases h2:r<2048
   ·exact specPut_2 r w hk (by omega) h2
   ·by_cases h3:r<65536
    ·exact specPut_3 r w hk (by omega) h3
    ·exact specPut_4 r w hk (by omega)
 ·have hk':runeOk r=false:=by simpa using hk
  have hp:Hid (putS r=⟨#[]⟩):=by show _=_;simp [putS,hk']
  go_enter Tryz.func174,Tryz.ntmps174;go_wp2_with (go_at_call 140;refine (specRuneOk_any _ _).mono ?_;rintro e w' ⟨rfl,rfl⟩);go_ret;exact ⟨ret_str hp.out.symm,Below.refl _ _⟩
theorem hasPrefixLite (s p:ByteArray) (w:World) (_hs:s.size<=maxLen) (_hp:p.size<=maxLen) :
  Calls Tryz.prog 267 #[.string s,.string p] w fun e w'=>e=.returned (.bool (pref s p))/\w'=w:=by
 unfold maxLen at _hs _hp
 by_cases h:p.size<=s.size
 ·have hq:Hid (pref s p=((s.extract 0 p.size).toList==p.toList)):=by show _=_;simp [pref,h]
  go_enter Tryz.func267,Tryz.ntmps267;go_wp2;go_ret;exact ⟨ret_bool hq.out.symm,rfl⟩
 ·have hq:Hid (pref s p=false):=by show _=_;simp [pref,h]
  go_enter Tryz.func267,Tryz.ntmps267;go_wp2;go_ret;exact ⟨ret_bool hq.out.symm,rfl⟩
theorem hasPrefix_any (s p:ByteArray) (w:World) (hs:s.size<=maxLen) (hp:p.size<=maxLen) :
  Calls Tryz.prog 243 #[.string s,.string p] w fun e w'=>e=.returned (.bool (pref s p))/\w'=w:=by
 go_enter Tryz.func243,Tryz.ntmps243;go_wp2_with (go_at_call 267;refine (hasPrefixLite _ _ _ hs hp).mono ?_;rintro e w' ⟨rfl,rfl⟩);go_ret;exact ⟨rfl,rfl⟩

theorem ret_int {k:IntKind} {a b:Int} (h:a=b):Ending.returned (.int k a)=.returned (.int k b):=by rw [h]
theorem l1Long_any (b:Int) (w:World) (hb:0<=b/\b<256) :
  Calls Tryz.prog 173 #[.int .u8 b] w fun e w'=>e=.returned (.int .i64 (longV b))/\w'=w:=by
 go_enter Tryz.func173,Tryz.ntmps173;go_wp2
 all_goals
  go_ret;refine ⟨?_,rfl⟩;refine ret_int ?_;unfold longV;omega

theorem isEmpty_no (s:ByteArray) (h0:0<s.size):s.toList.isEmpty=false:=by
 rw [ByteArray.toList_eq,List.isEmpty_eq_false_iff];intro e;have:=congrArg List.length e;simp at this;simp [this] at h0
theorem isEmpty_yes (s:ByteArray) (h0:¬ 0<s.size):s.toList.isEmpty=true:=by
 rw [ByteArray.toList_eq,List.isEmpty_iff_length_eq_zero,Array.length_toList];exact Nat.eq_zero_of_not_pos h0
theorem maxLen_pos (n:Nat) (h:n<=4):n<=maxLen:=by unfold maxLen;omega
theorem implGet_any (s:ByteArray) (w:World) (hs:s.size<=maxLen) :
  Calls Tryz.prog 203 #[.string s] w fun e w'=>e=.returned (.tuple #[.int .i64 (getV s).1,.int .i64 (getV s).2])/\Below w.heap.size w w':=by
 by_cases h0:0<s.size
 ·obtain ⟨hc1,hc2⟩:=getV_decode s h0
  have hbd:=getV_bd s h0
  have hnx:∀ ty,(Instr.next (.pointer (some ⟨w.heap.size,0,none⟩)) true ty).run Tryz.prog (w.iter s 0)=.ok (.tuple #[.bool true,.int .i64 0,.int .i32 (getV s).1]) (w.iter s (Utf8.decode s 0).2):=by
   intro ty;rw [run_next_any w s 0 ty h0,hc1];simp
  have hcs:=getV_cases s h0;have h4:=maxLen_pos _ (putS_size4 (getV s).1);have h4':=putS_size4 (getV s).1;generalize getV s=d at *;obtain ⟨c,k⟩:=d;simp only at hcs hbd hnx h4 h4' ⊢
  clear hc1 hc2;rcases hcs with ⟨hr,hp,hk⟩|⟨hk,hp⟩
  ·subst hk
   go_enter Tryz.func203,Tryz.ntmps203;go_wp2;refine wp_loop_rounds 1 ?_;rw [rounds_succ]
   go_wp2_with (first|(go_at_call 242;refine (implPut_any _ _).mono ?_;rintro e w' ⟨rfl,hb⟩)|(go_at_call 243;refine (hasPrefix_any _ _ _ hs h4).mono ?_;rintro e w' ⟨rfl,rfl⟩));go_ret2;exact ⟨rfl,((Below.refl _ _).alloc (Nat.le_refl _) _).trans (hb.mono (by simp [World.iter]))⟩
  ·simp only [Prod.mk.injEq] at hk
   obtain ⟨rfl,rfl⟩:=hk;have hp:=hp 65533 (by decide);go_enter Tryz.func203,Tryz.ntmps203;go_wp2;refine wp_loop_rounds 1 ?_;rw [rounds_succ]
   go_wp2_with (first|(go_at_call 242;refine (implPut_any _ _).mono ?_;rintro e w' ⟨rfl,hb⟩)|(go_at_call 243;refine (hasPrefix_any _ _ _ hs h4).mono ?_;rintro e w' ⟨rfl,rfl⟩));go_ret2;exact ⟨rfl,((Below.refl _ _).alloc (Nat.le_refl _) _).trans (hb.mono (by simp [World.iter]))⟩
 ·have hz:nums s=[]:=List.length_eq_zero_iff.1 (by rw [nums_len];omega)
  have hv:Hid (getV s=(0,0)):=by show _=_;simp [getV,hz,dec]
  have hnx:∀ ty,(Instr.next (.pointer (some ⟨w.heap.size,0,none⟩)) true ty).run Tryz.prog (w.iter s 0)=.ok (.tuple #[.bool false]) (w.iter s 0):=fun ty=>run_next_end w s 0 ty h0
  go_enter Tryz.func203,Tryz.ntmps203;go_wp2;refine wp_loop_rounds 1 ?_;rw [rounds_succ]
  go_wp2;go_ret2;exact ⟨by rw [hv.out];rfl,(Below.refl _ _).alloc (Nat.le_refl _) _⟩
def T0:ByteArray:={ data:=#[128] }
def T1:ByteArray:={ data:=#[191] }
def T2:ByteArray:={ data:=#[128,128] }
def T3:ByteArray:={ data:=#[191,191] }
def T4:ByteArray:={ data:=#[128,128,128] }
def T5:ByteArray:={ data:=#[191,191,191] }
theorem T0_size:T0.size=1:=rfl
theorem T1_size:T1.size=1:=rfl
theorem T2_size:T2.size=2:=rfl
theorem T3_size:T3.size=2:=rfl
theorem T4_size:T4.size=3:=rfl
theorem T5_size:T5.size=3:=rfl
theorem tails_at0 (w:World):(Instr.index 195 (.agg #[.string ⟨#[128]⟩,.string ⟨#[191]⟩,.string ⟨#[128,128]⟩,.string ⟨#[191,191]⟩,.string ⟨#[128,128,128]⟩,.string ⟨#[191,191,191]⟩]) (.int .i64 0)).run Tryz.prog w=.ok (.string T0) w:=by kernel_rfl
theorem tails_at1 (w:World):(Instr.index 195 (.agg #[.string ⟨#[128]⟩,.string ⟨#[191]⟩,.string ⟨#[128,128]⟩,.string ⟨#[191,191]⟩,.string ⟨#[128,128,128]⟩,.string ⟨#[191,191,191]⟩]) (.int .i64 1)).run Tryz.prog w=.ok (.string T1) w:=by kernel_rfl
theorem tails_at2 (w:World):(Instr.index 195 (.agg #[.string ⟨#[128]⟩,.string ⟨#[191]⟩,.string ⟨#[128,128]⟩,.string ⟨#[191,191]⟩,.string ⟨#[128,128,128]⟩,.string ⟨#[191,191,191]⟩]) (.int .i64 2)).run Tryz.prog w=.ok (.string T2) w:=by kernel_rfl
theorem tails_at3 (w:World):(Instr.index 195 (.agg #[.string ⟨#[128]⟩,.string ⟨#[191]⟩,.string ⟨#[128,128]⟩,.string ⟨#[191,191]⟩,.string ⟨#[128,128,128]⟩,.string ⟨#[191,191,191]⟩]) (.int .i64 3)).run Tryz.prog w=.ok (.string T3) w:=by kernel_rfl
theorem tails_at4 (w:World):(Instr.index 195 (.agg #[.string ⟨#[128]⟩,.string ⟨#[191]⟩,.string ⟨#[128,128]⟩,.string ⟨#[191,191]⟩,.string ⟨#[128,128,128]⟩,.string ⟨#[191,191,191]⟩]) (.int .i64 4)).run Tryz.prog w=.ok (.string T4) w:=by kernel_rfl
theorem tails_at5 (w:World):(Instr.index 195 (.agg #[.string ⟨#[128]⟩,.string ⟨#[191]⟩,.string ⟨#[128,128]⟩,.string ⟨#[191,191]⟩,.string ⟨#[128,128,128]⟩,.string ⟨#[191,191,191]⟩]) (.int .i64 5)).run Tryz.prog w=.ok (.string T5) w:=by kernel_rfl
def cutB (h:ByteArray):Bool:=((getV (h++T0)).2==(h.size:Int)+1) || ((getV (h++T1)).2==(h.size:Int)+1) || ((getV (h++T2)).2==(h.size:Int)+2) || ((getV (h++T3)).2==(h.size:Int)+2) || ((getV (h++T4)).2==(h.size:Int)+3) || ((getV (h++T5)).2==(h.size:Int)+3)

theorem cutShort_any (h:ByteArray) (w:World) (hs:h.size<=3) :
  Calls Tryz.prog 150 #[.string h] w fun e w'=>e=.returned (.bool (cutB h))/\Below w.heap.size w w':=by
 have i0:=tails_at0;have z0:=T0_size;have i1:=tails_at1;have z1:=T1_size;have i2:=tails_at2;have z2:=T2_size;have i3:=tails_at3;have z3:=T3_size;have i4:=tails_at4;have z4:=T4_size;have i5:=tails_at5;have z5:=T5_size;have m0:(h++T0).size<=maxLen:=by rw [ByteArray.size_append];unfold maxLen;omega
 have m1:(h++T1).size<=maxLen:=by rw [ByteArray.size_append];unfold maxLen;omega
 have m2:(h++T2).size<=maxLen:=by rw [ByteArray.size_append];unfold maxLen;omega
 have m3:(h++T3).size<=maxLen:=by rw [ByteArray.size_append];unfold maxLen;omega
 have m4:(h++T4).size<=maxLen:=by rw [ByteArray.size_append];unfold maxLen;omega
 have m5:(h++T5).size<=maxLen:=by rw [ByteArray.size_append];unfold maxLen;omega
 have g0:=fun W=>implGet_any (h++T0) W m0
 have g1:=fun W=>implGet_any (h++T1) W m1
 have g2:=fun W=>implGet_any (h++T2) W m2
 have g3:=fun W=>implGet_any (h++T3) W m3
 have g4:=fun W=>implGet_any (h++T4) W m4
 have g5:=fun W=>implGet_any (h++T5) W m5
 have hb0:=fun o=>(Below.refl w.heap.size w).alloc (Nat.le_refl _) o
 clear m0 m1 m2 m3 m4 m5;go_enter Tryz.func150,Tryz.ntmps150;go_wp2;refine wp_loop_rounds 7 ?_;rw [rounds_succ]
 go_wp2_with (go_at_call 203;refine (g0 _).mono ?_;rintro e w' ⟨rfl,hb⟩;replace hb:=(hb0 _).trans (hb.mono (by simp)))
 ·go_ret
  exact ⟨ret_bool (by simp only [cutB,*,Bool.true_or]),hb⟩
 rw [rounds_succ]
 go_wp2_with (go_at_call 203;refine (g1 _).mono ?_;rintro e w' ⟨rfl,hc⟩;replace hb:=hb.trans (hc.mono hb.size))
 ·go_ret
  exact ⟨ret_bool (by simp only [cutB,*,Bool.true_or,Bool.or_true]),hb⟩
 rw [rounds_succ]
 go_wp2_with (go_at_call 203;refine (g2 _).mono ?_;rintro e w' ⟨rfl,hc⟩;replace hb:=hb.trans (hc.mono hb.size))
 ·go_ret
  exact ⟨ret_bool (by simp only [cutB,*,Bool.true_or,Bool.false_or,Bool.or_true]),hb⟩
 rw [rounds_succ]
 go_wp2_with (go_at_call 203;refine (g3 _).mono ?_;rintro e w' ⟨rfl,hc⟩;replace hb:=hb.trans (hc.mono hb.size))
 ·go_ret
  exact ⟨ret_bool (by simp only [cutB,*,Bool.true_or,Bool.false_or,Bool.or_true]),hb⟩
 rw [rounds_succ]
 go_wp2_with (go_at_call 203;refine (g4 _).mono ?_;rintro e w' ⟨rfl,hc⟩;replace hb:=hb.trans (hc.mono hb.size))
 ·go_ret
  exact ⟨ret_bool (by simp only [cutB,*,Bool.true_or,Bool.false_or,Bool.or_true]),hb⟩
 rw [rounds_succ]
 go_wp2_with (go_at_call 203;refine (g5 _).mono ?_;rintro e w' ⟨rfl,hc⟩;replace hb:=hb.trans (hc.mono hb.size))
 ·go_ret
  exact ⟨ret_bool (by simp only [cutB,*,Bool.false_or,Bool.or_true]),hb⟩
 rw [rounds_succ]
 go_wp2;go_ret;exact ⟨ret_bool (by simp only [cutB,*,Bool.or_false]),hb⟩
theorem specGet_0 (s:ByteArray) (w:World) (h0:¬ 0<s.size) :
  Calls Tryz.prog 114 #[.string s] w fun e w'=>e=.returned (.tuple #[.int .i64 (getV s).1,.int .i64 (getV s).2])/\Below w.heap.size w w':=by
 have hz:nums s=[]:=List.length_eq_zero_iff.1 (by rw [nums_len];omega);have hv:Hid (getV s=(0,0)):=by show _=_;simp [getV,hz,dec]
 have he:=isEmpty_yes s h0;go_enter Tryz.func114,Tryz.ntmps114;go_wp2;go_ret2;exact ⟨by rw [hv.out];rfl,Below.refl _ _⟩

theorem specGet_none (s:ByteArray) (w:World) (h0:0<s.size) (hx:longV (s[0].toNat:Int)=0) :
  Calls Tryz.prog 114 #[.string s] w fun e w'=>e=.returned (.tuple #[.int .i64 (getV s).1,.int .i64 (getV s).2])/\Below w.heap.size w w':=by
 have hv:Hid (getV s=(65533,1)):=getV_short s h0 (Or.inl hx);have hl:Hid (longV (s[0].toNat:Int)=0):=hx;clear hx;have he:=isEmpty_no s h0;have hb0:(s[0].toNat:Int)<256:=by have:=s[0].toNat_lt;omega
 go_enter Tryz.func114,Tryz.ntmps114;go_wp2_with (first|(go_at_call 173;refine (l1Long_any _ _ (by omega)).mono ?_;rw [hl.out];rintro e w' ⟨rfl,rfl⟩));go_ret2;exact ⟨by rw [hv.out];rfl,Below.refl _ _⟩

theorem specGet_short (s:ByteArray) (w:World) (h0:0<s.size) (n:Int) (hn:1<n/\n<=4) (hs:(s.size:Int)<n) (hx:longV (s[0].toNat:Int)=n) :
  Calls Tryz.prog 114 #[.string s] w fun e w'=>e=.returned (.tuple #[.int .i64 (getV s).1,.int .i64 (getV s).2])/\Below w.heap.size w w':=by
 have hv:Hid (getV s=(65533,1)):=getV_short s h0 (Or.inr (by omega));have hl:Hid (longV (s[0].toNat:Int)=n):=hx;clear hx;have he:=isEmpty_no s h0;have hb0:(s[0].toNat:Int)<256:=by have:=s[0].toNat_lt;omega
 have hn0:(n==0)=false:=by simp;omega
 go_enter Tryz.func114,Tryz.ntmps114;go_wp2_with (first|(go_at_call 173;refine (l1Long_any _ _ (by omega)).mono ?_;rw [hl.out];rintro e w' ⟨rfl,rfl⟩));go_ret2;exact ⟨by rw [hv.out];rfl,Below.refl _ _⟩

theorem specGet_1 (s:ByteArray) (w:World) (h0:0<s.size) (hs:s.size<=maxLen) (hx:longV (s[0].toNat:Int)=1) :
  Calls Tryz.prog 114 #[.string s] w fun e w'=>e=.returned (.tuple #[.int .i64 (getV s).1,.int .i64 (getV s).2])/\Below w.heap.size w w':=by
 have hv:Hid (getV s=_):=getV_long s h0 1 (s[0].toNat:Int) hx (by omega) (by omega) (by rw [nums_take1 s h0];rfl);have hl:Hid (longV (s[0].toNat:Int)=1):=hx;have he:=isEmpty_no s h0;have hb0:(s[0].toNat:Int)<256:=by have:=s[0].toNat_lt;omega
 unfold maxLen at hs
 by_cases hk:((putS (s[0].toNat:Int)).toList==(s.extract 0 1).toList)=true
 ·have hv:Hid (getV s=((s[0].toNat:Int),1)):=by have:=hv.out;rw [if_pos hk] at this;exact this
  clear hx;go_enter Tryz.func114,Tryz.ntmps114;go_wp2_with (first|(go_at_call 173;refine (l1Long_any _ _ (by omega)).mono ?_;rw [hl.out];rintro e w' ⟨rfl,rfl⟩));refine wp_loop_rounds 1 ?_;rw [rounds_succ]
  go_wp2;go_region_with (go_at_call 174;refine (specPut_any _ _).mono ?_;rintro e w1 ⟨rfl,hb⟩)
  all_goals
   go_wp2;go_ret2;exact ⟨by rw [hv.out];rfl,(Below.refl _ _).drew.trans hb⟩
 ·have hk:((putS (s[0].toNat:Int)).toList==(s.extract 0 1).toList)=false:=by simpa using hk
  have hv:Hid (getV s=(65533,1)):=by have:=hv.out;rw [if_neg (by rw [hk];decide)] at this;exact this
  clear hx;go_enter Tryz.func114,Tryz.ntmps114;go_wp2_with (first|(go_at_call 173;refine (l1Long_any _ _ (by omega)).mono ?_;rw [hl.out];rintro e w' ⟨rfl,rfl⟩));refine wp_loop_rounds 1 ?_;rw [rounds_succ]
  go_wp2;go_region_with (go_at_call 174;refine (specPut_any _ _).mono ?_;rintro e w1 ⟨rfl,hb⟩)
  all_goals
   go_wp2;go_ret2;exact ⟨by rw [hv.out];rfl,(Below.refl _ _).drew.trans hb⟩

theorem specGet_2 (s:ByteArray) (w:World) (h0:0<s.size) (h1:1<s.size) (hs:s.size<=maxLen) (hx:longV (s[0].toNat:Int)=2) :
  Calls Tryz.prog 114 #[.string s] w fun e w'=>e=.returned (.tuple #[.int .i64 (getV s).1,.int .i64 (getV s).2])/\Below w.heap.size w w':=by
 have hv:Hid (getV s=_):=getV_long s h0 2 ((s[0].toNat:Int) % (32:Int)*(64:Int)+(s[1].toNat:Int) % (64:Int)) hx (by omega) (by omega) (by rw [nums_take2 s h1];rfl);have hl:Hid (longV (s[0].toNat:Int)=2):=hx;have he:=isEmpty_no s h0;have hb0:(s[0].toNat:Int)<256:=by have:=s[0].toNat_lt;omega
 have hb1:(s[1].toNat:Int)<256:=by have:=s[1].toNat_lt;omega
 unfold maxLen at hs
 by_cases hk:((putS ((s[0].toNat:Int) % (32:Int)*(64:Int)+(s[1].toNat:Int) % (64:Int))).toList==(s.extract 0 2).toList)=true
 ·have hv:Hid (getV s=(((s[0].toNat:Int) % (32:Int)*(64:Int)+(s[1].toNat:Int) % (64:Int)),2)):=by have:=hv.out;rw [if_pos hk] at this;exact this
  clear hx;go_enter Tryz.func114,Tryz.ntmps114;go_wp2_with (first|(go_at_call 173;refine (l1Long_any _ _ (by omega)).mono ?_;rw [hl.out];rintro e w' ⟨rfl,rfl⟩));refine wp_loop_rounds 2 ?_;rw [rounds_succ]
  go_wp2;rw [rounds_succ]
  go_wp2;go_region_with (go_at_call 174;refine (specPut_any _ _).mono ?_;rintro e w1 ⟨rfl,hb⟩)
  all_goals
   go_wp2;go_ret2;exact ⟨by rw [hv.out];rfl,(Below.refl _ _).drew.trans hb⟩
 ·have hk:((putS ((s[0].toNat:Int) % (32:Int)*(64:Int)+(s[1].toNat:Int) % (64:Int))).toList==(s.extract 0 2).toList)=false:=by simpa using hk
  have hv:Hid (getV s=(65533,1)):=by have:=hv.out;rw [if_neg (by rw [hk];decide)] at this;exact this
  clear hx;go_enter Tryz.func114,Tryz.ntmps114;go_wp2_with (first|(go_at_call 173;refine (l1Long_any _ _ (by omega)).mono ?_;rw [hl.out];rintro e w' ⟨rfl,rfl⟩));refine wp_loop_rounds 2 ?_;rw [rounds_succ]
  go_wp2;rw [rounds_succ]
  go_wp2;go_region_with (go_at_call 174;refine (specPut_any _ _).mono ?_;rintro e w1 ⟨rfl,hb⟩)
  all_goals
   go_wp2;go_ret2;exact ⟨by rw [hv.out];rfl,(Below.refl _ _).drew.trans hb⟩

theorem specGet_3 (s:ByteArray) (w:World) (h0:0<s.size) (h1:1<s.size) (h2:2<s.size) (hs:s.size<=maxLen) (hx:longV (s[0].toNat:Int)=3) :
  Calls Tryz.prog 114 #[.string s] w fun e w'=>e=.returned (.tuple #[.int .i64 (getV s).1,.int .i64 (getV s).2])/\Below w.heap.size w w':=by
 have hv:Hid (getV s=_):=getV_long s h0 3 (((s[0].toNat:Int) % (16:Int)*(64:Int)+(s[1].toNat:Int) % (64:Int))*(64:Int)+(s[2].toNat:Int) % (64:Int)) hx (by omega) (by omega) (by rw [nums_take3 s h2];rfl);have hl:Hid (longV (s[0].toNat:Int)=3):=hx;have he:=isEmpty_no s h0;have hb0:(s[0].toNat:Int)<256:=by have:=s[0].toNat_lt;omega
 have hb1:(s[1].toNat:Int)<256:=by have:=s[1].toNat_lt;omega
 have hb2:(s[2].toNat:Int)<256:=by have:=s[2].toNat_lt;omega
 unfold maxLen at hs
 by_cases hk:((putS (((s[0].toNat:Int) % (16:Int)*(64:Int)+(s[1].toNat:Int) % (64:Int))*(64:Int)+(s[2].toNat:Int) % (64:Int))).toList==(s.extract 0 3).toList)=true
 ·have hv:Hid (getV s=((((s[0].toNat:Int) % (16:Int)*(64:Int)+(s[1].toNat:Int) % (64:Int))*(64:Int)+(s[2].toNat:Int) % (64:Int)),3)):=by have:=hv.out;rw [if_pos hk] at this;exact this
  clear hx;go_enter Tryz.func114,Tryz.ntmps114;go_wp2_with (first|(go_at_call 173;refine (l1Long_any _ _ (by omega)).mono ?_;rw [hl.out];rintro e w' ⟨rfl,rfl⟩));refine wp_loop_rounds 3 ?_;rw [rounds_succ]
  go_wp2;rw [rounds_succ]
  go_wp2;rw [rounds_succ]
  go_wp2;go_region_with (go_at_call 174;refine (specPut_any _ _).mono ?_;rintro e w1 ⟨rfl,hb⟩)
  all_goals
   go_wp2;go_ret2;exact ⟨by rw [hv.out];rfl,(Below.refl _ _).drew.trans hb⟩
 ·have hk:((putS (((s[0].toNat:Int) % (16:Int)*(64:Int)+(s[1].toNat:Int) % (64:Int))*(64:Int)+(s[2].toNat:Int) % (64:Int))).toList==(s.extract 0 3).toList)=false:=by simpa using hk
  have hv:Hid (getV s=(65533,1)):=by have:=hv.out;rw [if_neg (by rw [hk];decide)] at this;exact this
  clear hx;go_enter Tryz.func114,Tryz.ntmps114;go_wp2_with (first|(go_at_call 173;refine (l1Long_any _ _ (by omega)).mono ?_;rw [hl.out];rintro e w' ⟨rfl,rfl⟩));refine wp_loop_rounds 3 ?_;rw [rounds_succ]
  go_wp2;rw [rounds_succ]
  go_wp2;rw [rounds_succ]
  go_wp2;go_region_with (go_at_call 174;refine (specPut_any _ _).mono ?_;rintro e w1 ⟨rfl,hb⟩)
  all_goals
   go_wp2;go_ret2;exact ⟨by rw [hv.out];rfl,(Below.refl _ _).drew.trans hb⟩

theorem specGet_4 (s:ByteArray) (w:World) (h0:0<s.size) (h1:1<s.size) (h2:2<s.size) (h3:3<s.size) (hs:s.size<=maxLen) (hx:longV (s[0].toNat:Int)=4) :
  Calls Tryz.prog 114 #[.string s] w fun e w'=>e=.returned (.tuple #[.int .i64 (getV s).1,.int .i64 (getV s).2])/\Below w.heap.size w w':=by
 have hv:Hid (getV s=_):=getV_long s h0 4 ((((s[0].toNat:Int) % (8:Int)*(64:Int)+(s[1].toNat:Int) % (64:Int))*(64:Int)+(s[2].toNat:Int) % (64:Int))*(64:Int)+(s[3].toNat:Int) % (64:Int)) hx (by omega) (by omega) (by rw [nums_take4 s h3];rfl);have hl:Hid (longV (s[0].toNat:Int)=4):=hx;have he:=isEmpty_no s h0;have hb0:(s[0].toNat:Int)<256:=by have:=s[0].toNat_lt;omega
 have hb1:(s[1].toNat:Int)<256:=by have:=s[1].toNat_lt;omega
 have hb2:(s[2].toNat:Int)<256:=by have:=s[2].toNat_lt;omega
 have hb3:(s[3].toNat:Int)<256:=by have:=s[3].toNat_lt;omega
 unfold maxLen at hs
 by_cases hk:((putS ((((s[0].toNat:Int) % (8:Int)*(64:Int)+(s[1].toNat:Int) % (64:Int))*(64:Int)+(s[2].toNat:Int) % (64:Int))*(64:Int)+(s[3].toNat:Int) % (64:Int))).toList==(s.extract 0 4).toList)=true
 ·have hv:Hid (getV s=(((((s[0].toNat:Int) % (8:Int)*(64:Int)+(s[1].toNat:Int) % (64:Int))*(64:Int)+(s[2].toNat:Int) % (64:Int))*(64:Int)+(s[3].toNat:Int) % (64:Int)),4)):=by have:=hv.out;rw [if_pos hk] at this;exact this
  clear hx;go_enter Tryz.func114,Tryz.ntmps114;go_wp2_with (first|(go_at_call 173;refine (l1Long_any _ _ (by omega)).mono ?_;rw [hl.out];rintro e w' ⟨rfl,rfl⟩));refine wp_loop_rounds 4 ?_;rw [rounds_succ]
  go_wp2;rw [rounds_succ]
  go_wp2;rw [rounds_succ]
  go_wp2;rw [rounds_succ]
  go_wp2;go_region_with (go_at_call 174;refine (specPut_any _ _).mono ?_;rintro e w1 ⟨rfl,hb⟩)
  all_goals
   go_wp2;go_ret2;exact ⟨by rw [hv.out];rfl,(Below.refl _ _).drew.trans hb⟩
 ·have hk:((putS ((((s[0].toNat:Int) % (8:Int)*(64:Int)+(s[1].toNat:Int) % (64:Int))*(64:Int)+(s[2].toNat:Int) % (64:Int))*(64:Int)+(s[3].toNat:Int) % (64:Int))).toList==(s.extract 0 4).toList)=false:=by simpa using hk
  have hv:Hid (getV s=(65533,1)):=by have:=hv.out;rw [if_neg (by rw [hk];decide)] at this;exact this
  clear hx;go_enter Tryz.func114,Tryz.ntmps114;go_wp2_with (first|(go_at_call 173;refine (l1Long_any _ _ (by omega)).mono ?_;rw [hl.out];rintro e w' ⟨rfl,rfl⟩));refine wp_loop_rounds 4 ?_;rw [rounds_succ]
  go_wp2;rw [rounds_succ]
  go_wp2;rw [rounds_succ]
  go_wp2;rw [rounds_succ]
  go_wp2;go_region_with (go_at_call 174;refine (specPut_any _ _).mono ?_;rintro e w1 ⟨rfl,hb⟩)
  all_goals
   go_wp2;go_ret2;exact ⟨by rw [hv.out];rfl,(Below.refl _ _).drew.trans hb⟩

theorem specGet_any (s:ByteArray) (w:World) (hs:s.size<=maxLen) :
  Calls Tryz.prog 114 #[.string s] w fun e w'=>e=.returned (.tuple #[.int .i64 (getV s).1,.int .i64 (getV s).2])/\Below w.heap.size w w':=by
 by_cases h0:0<s.size
 ·by_cases l0:longV (s[0].toNat:Int)=0
  ·exact specGet_none s w h0 l0
  ·have hlv:longV (s[0].toNat:Int)=1\/longV (s[0].toNat:Int)=2\/longV (s[0].toNat:Int)=3\/longV (s[0].toNat:Int)=4:=by
    revert l0;unfold longV;intro l0;omega
   rcases hlv with h|h|h|h
   ·exact specGet_1 s w h0 hs h
   ·by_cases k:1<s.size
    ·exact specGet_2 s w h0 k hs h
    ·exact specGet_short s w h0 2 (by omega) (by omega) h
   ·by_cases k:2<s.size
    ·exact specGet_3 s w h0 (by omega) k hs h
    ·exact specGet_short s w h0 3 (by omega) (by omega) h
   ·by_cases k:3<s.size
    ·exact specGet_4 s w h0 (by omega) (by omega) k hs h
    ·exact specGet_short s w h0 4 (by omega) (by omega) h
 ·exact specGet_0 s w h0
def fillB (h:ByteArray) (n:Nat):Bool:=((getV (h++({ data:=#[128,128,128] }:ByteArray).extract 0 (n-h.size))).2==(n:Int)) || ((getV (h++({ data:=#[160,128,128] }:ByteArray).extract 0 (n-h.size))).2==(n:Int)) || ((getV (h++({ data:=#[144,128,128] }:ByteArray).extract 0 (n-h.size))).2==(n:Int)) || ((getV (h++({ data:=#[191,191,191] }:ByteArray).extract 0 (n-h.size))).2==(n:Int)) || ((getV (h++({ data:=#[159,191,191] }:ByteArray).extract 0 (n-h.size))).2==(n:Int)) || ((getV (h++({ data:=#[143,191,191] }:ByteArray).extract 0 (n-h.size))).2==(n:Int))
def FillAt (g:Nat) (w:World):Prop :=
 g<w.heap.size/\w.cell? ⟨g,1,none⟩=some (.string ({ data:=#[160,128,128] }:ByteArray))/\w.cell? ⟨g,2,none⟩=some (.string ({ data:=#[144,128,128] }:ByteArray))/\w.cell? ⟨g,3,none⟩=some (.string ({ data:=#[191,191,191] }:ByteArray))/\w.cell? ⟨g,4,none⟩=some (.string ({ data:=#[159,191,191] }:ByteArray))/\w.cell? ⟨g,5,none⟩=some (.string ({ data:=#[143,191,191] }:ByteArray))
theorem FillAt.below {g:Nat} {w w':World} (h:FillAt g w) (hb:Below w.heap.size w w'):FillAt g w':=by
 obtain ⟨hg,q1,q2,q3,q4,q5⟩:=h;exact ⟨Nat.lt_of_lt_of_le hg hb.size,(hb.cell (p:=⟨g,1,none⟩) hg).trans q1,(hb.cell (p:=⟨g,2,none⟩) hg).trans q2,(hb.cell (p:=⟨g,3,none⟩) hg).trans q3,(hb.cell (p:=⟨g,4,none⟩) hg).trans q4,(hb.cell (p:=⟨g,5,none⟩) hg).trans q5⟩
theorem fill_new (w:World):FillAt w.heap.size (w.alloc (.cells #[(.string ({ data:=#[128,128,128] }:ByteArray):Value),(.string ({ data:=#[160,128,128] }:ByteArray):Value),(.string ({ data:=#[144,128,128] }:ByteArray):Value),(.string ({ data:=#[191,191,191] }:ByteArray):Value),(.string ({ data:=#[159,191,191] }:ByteArray):Value),(.string ({ data:=#[143,191,191] }:ByteArray):Value)] 9)):=by
 refine ⟨by simp,?_,?_,?_,?_,?_⟩<;>simp [go_sem]

theorem l1Part_long (h:ByteArray) (n:Nat) (w:World) (h0:0<h.size) (hs:h.size<=3) (hn:h.size<n/\n<=4) (hx:longV (h[0].toNat:Int)=n) :
  Calls Tryz.prog 152 #[.string h] w fun e w'=>e=.returned (.bool (fillB h n))/\Below w.heap.size w w':=by
 have hl:Hid (longV (h[0].toNat:Int)=n):=hx;clear hx;have he:=isEmpty_no h h0;have hb0:(h[0].toNat:Int)<256:=by have:=h[0].toNat_lt;omega
 have hlt:¬ ((n:Int)<=(h.size:Int)):=by omega
 have hy0:=fun o=>(Below.refl w.heap.size w).alloc (Nat.le_refl _) o
 have m0:(h++({ data:=#[128,128,128] }:ByteArray).extract 0 (n-h.size)).size<=maxLen:=by rw [ByteArray.size_append,ByteArray.size_extract];unfold maxLen;omega
 have m1:(h++({ data:=#[160,128,128] }:ByteArray).extract 0 (n-h.size)).size<=maxLen:=by rw [ByteArray.size_append,ByteArray.size_extract];unfold maxLen;omega
 have m2:(h++({ data:=#[144,128,128] }:ByteArray).extract 0 (n-h.size)).size<=maxLen:=by rw [ByteArray.size_append,ByteArray.size_extract];unfold maxLen;omega
 have m3:(h++({ data:=#[191,191,191] }:ByteArray).extract 0 (n-h.size)).size<=maxLen:=by rw [ByteArray.size_append,ByteArray.size_extract];unfold maxLen;omega
 have m4:(h++({ data:=#[159,191,191] }:ByteArray).extract 0 (n-h.size)).size<=maxLen:=by rw [ByteArray.size_append,ByteArray.size_extract];unfold maxLen;omega
 have m5:(h++({ data:=#[143,191,191] }:ByteArray).extract 0 (n-h.size)).size<=maxLen:=by rw [ByteArray.size_append,ByteArray.size_extract];unfold maxLen;omega
 have g0:=fun W=>specGet_any (h++({ data:=#[128,128,128] }:ByteArray).extract 0 (n-h.size)) W m0
 have g1:=fun W=>specGet_any (h++({ data:=#[160,128,128] }:ByteArray).extract 0 (n-h.size)) W m1
 have g2:=fun W=>specGet_any (h++({ data:=#[144,128,128] }:ByteArray).extract 0 (n-h.size)) W m2
 have g3:=fun W=>specGet_any (h++({ data:=#[191,191,191] }:ByteArray).extract 0 (n-h.size)) W m3
 have g4:=fun W=>specGet_any (h++({ data:=#[159,191,191] }:ByteArray).extract 0 (n-h.size)) W m4
 have g5:=fun W=>specGet_any (h++({ data:=#[143,191,191] }:ByteArray).extract 0 (n-h.size)) W m5
 clear m0 m1 m2 m3 m4 m5;go_enter Tryz.func152,Tryz.ntmps152;go_wp2_with (first|(go_at_call 173;refine (l1Long_any _ _ (by omega)).mono ?_;rw [hl.out];rintro e w' ⟨rfl,hw⟩;subst w'));refine wp_loop_rounds 7 ?_;rw [rounds_succ]
 go_wp2_with (go_at_call 114;refine (g0 _).mono ?_;rintro e w1 ⟨rfl,hb⟩;obtain ⟨hg,q1,q2,q3,q4,q5⟩:=(fill_new w).below hb;replace hb:=(hy0 _).trans (hb.mono (by simp)))
 ·go_ret
  exact ⟨ret_bool (by simp only [fillB,*,Bool.true_or]),hb⟩
 rw [rounds_succ]
 go_wp2_with (go_at_call 114;refine (g1 _).mono ?_;rintro e w1 ⟨rfl,hc⟩;replace hb:=hb.trans (hc.mono hb.size);obtain ⟨hgx1,q1x1,q2x1,q3x1,q4x1,q5x1⟩:=FillAt.below ⟨hg,q1,q2,q3,q4,q5⟩ hc;clear hg q1 q2 q3 q4 q5)
 ·go_ret
  exact ⟨ret_bool (by simp only [fillB,*,Bool.true_or,Bool.or_true]),hb⟩
 rw [rounds_succ]
 go_wp2_with (go_at_call 114;refine (g2 _).mono ?_;rintro e w1 ⟨rfl,hc⟩;replace hb:=hb.trans (hc.mono hb.size);obtain ⟨hgx2,q1x2,q2x2,q3x2,q4x2,q5x2⟩:=FillAt.below ⟨hgx1,q1x1,q2x1,q3x1,q4x1,q5x1⟩ hc;clear hgx1 q1x1 q2x1 q3x1 q4x1 q5x1)
 ·go_ret
  exact ⟨ret_bool (by simp only [fillB,*,Bool.true_or,Bool.false_or,Bool.or_true]),hb⟩
 rw [rounds_succ]
 go_wp2_with (go_at_call 114;refine (g3 _).mono ?_;rintro e w1 ⟨rfl,hc⟩;replace hb:=hb.trans (hc.mono hb.size);obtain ⟨hgx3,q1x3,q2x3,q3x3,q4x3,q5x3⟩:=FillAt.below ⟨hgx2,q1x2,q2x2,q3x2,q4x2,q5x2⟩ hc;clear hgx2 q1x2 q2x2 q3x2 q4x2 q5x2)
 ·go_ret
  exact ⟨ret_bool (by simp only [fillB,*,Bool.true_or,Bool.false_or,Bool.or_true]),hb⟩
 rw [rounds_succ]
 go_wp2_with (go_at_call 114;refine (g4 _).mono ?_;rintro e w1 ⟨rfl,hc⟩;replace hb:=hb.trans (hc.mono hb.size);obtain ⟨hgx4,q1x4,q2x4,q3x4,q4x4,q5x4⟩:=FillAt.below ⟨hgx3,q1x3,q2x3,q3x3,q4x3,q5x3⟩ hc;clear hgx3 q1x3 q2x3 q3x3 q4x3 q5x3)
 ·go_ret
  exact ⟨ret_bool (by simp only [fillB,*,Bool.true_or,Bool.false_or,Bool.or_true]),hb⟩
 rw [rounds_succ]
 go_wp2_with (go_at_call 114;refine (g5 _).mono ?_;rintro e w1 ⟨rfl,hc⟩;replace hb:=hb.trans (hc.mono hb.size);obtain ⟨hgx5,q1x5,q2x5,q3x5,q4x5,q5x5⟩:=FillAt.below ⟨hgx4,q1x4,q2x4,q3x4,q4x4,q5x4⟩ hc;clear hgx4 q1x4 q2x4 q3x4 q4x4 q5x4)
 ·go_ret
  exact ⟨ret_bool (by simp only [fillB,*,Bool.false_or,Bool.or_true]),hb⟩
 rw [rounds_succ]
 go_wp2;go_ret;exact ⟨ret_bool (by simp only [fillB,*,Bool.or_false]),hb⟩

theorem l1Part_no (h:ByteArray) (n:Int) (w:World) (h0:0<h.size) (hn:n<=h.size) (hx:longV (h[0].toNat:Int)=n) :
  Calls Tryz.prog 152 #[.string h] w fun e w'=>e=.returned (.bool false)/\Below w.heap.size w w':=by
 have hl:Hid (longV (h[0].toNat:Int)=n):=hx;clear hx;have he:=isEmpty_no h h0;have hb0:(h[0].toNat:Int)<256:=by have:=h[0].toNat_lt;omega
 go_enter Tryz.func152,Tryz.ntmps152;go_wp2_with (first|(go_at_call 173;refine (l1Long_any _ _ (by omega)).mono ?_;rw [hl.out];rintro e w' ⟨rfl,rfl⟩));go_ret;exact ⟨rfl,Below.refl _ _⟩

theorem l1Part_empty (h:ByteArray) (w:World) (h0:¬ 0<h.size) :
  Calls Tryz.prog 152 #[.string h] w fun e w'=>e=.returned (.bool true)/\Below w.heap.size w w':=by
 have he:=isEmpty_yes h h0;go_enter Tryz.func152,Tryz.ntmps152;go_wp2;go_ret;exact ⟨rfl,Below.refl _ _⟩
end Go.Proofs.YtgcnmjjlmcnllaaGreatDoor
namespace Go.Proofs.YtgcnmjjlmcnllaaGreatDoor
set_option maxRecDepth 20000
set_option maxHeartbeats 16000000
theorem dec2_2 (b0 b1:Int):(dec [b0,b1]).2=2 ↔ 194<=b0/\b0<224/\(128<=b1/\b1<192):=by
 simp only [dec]
 repeat' split
 all_goals (dsimp only;omega)
def p3 (b0 b1:Int):Prop:=224<=b0/\b0<240/\(128<=b1/\b1<192)/\32<=(b0-224)*64+(b1-128)/\((b0-224)*64+(b1-128)<864\/895<(b0-224)*64+(b1-128))
def p4 (b0 b1:Int):Prop:=240<=b0/\b0<248/\(128<=b1/\b1<192)/\16<=(b0-240)*64+(b1-128)/\(b0-240)*64+(b1-128)<=271
theorem dec2_3 (b0 b1 b2:Int):(dec [b0,b1,b2]).2=3 ↔ p3 b0 b1/\(128<=b2/\b2<192):=by
 unfold p3;simp only [dec,runeOk_iff]
 repeat' split
 all_goals (dsimp only;omega)
theorem dec2_4 (b0 b1 b2 b3:Int):(dec [b0,b1,b2,b3]).2=4 ↔ p4 b0 b1/\(128<=b2/\b2<192)/\(128<=b3/\b3<192):=by
 unfold p4;simp only [dec,runeOk_iff]
 repeat' split
 all_goals (dsimp only;omega)
theorem p3_any2 (b0:Int):(p3 b0 128\/p3 b0 191) ↔ (224<=b0/\b0<240):=by unfold p3;omega
theorem p3_any6 (b0:Int):(p3 b0 128\/p3 b0 160\/p3 b0 144\/p3 b0 191\/p3 b0 159\/p3 b0 143) ↔ (224<=b0/\b0<240):=by
 constructor
 ·rintro (h|h|h|h|h|h)<;>(unfold p3 at h;omega)
 ·intro h
  rcases (p3_any2 b0).2 h with h|h
  ·exact .inl h
  ·exact .inr (.inr (.inr (.inl h)))
theorem p4_any2 (b0:Int):(p4 b0 128\/p4 b0 191) ↔ (240<=b0/\b0<245):=by unfold p4;omega
theorem p4_any6 (b0:Int):(p4 b0 128\/p4 b0 160\/p4 b0 144\/p4 b0 191\/p4 b0 159\/p4 b0 143) ↔ (240<=b0/\b0<245):=by
 constructor
 ·rintro (h|h|h|h|h|h)<;>(unfold p4 at h;omega)
 ·intro h
  rcases (p4_any2 b0).2 h with h|h
  ·exact .inl h
  ·exact .inr (.inr (.inr (.inl h)))
theorem p3_long (b0 b1:Int) (h:p3 b0 b1):longV b0=3:=by unfold p3 at h;unfold longV;omega
theorem p4_long (b0 b1:Int) (h:p4 b0 b1):longV b0=4:=by unfold p4 at h;unfold longV;omega

theorem dec2_le (b0:Int) (t:List Int) (hb:0<=b0):(dec (b0::t)).2<=4:=by
 rcases put_dec b0 t hb with ⟨_,_,h3⟩|⟨h1,_⟩
 ·rw [h3];have:=putL_len (dec (b0::t)).1;omega
 ·rw [h1];simp

theorem nums_app (a b:ByteArray):nums (a++b)=nums a++nums b:=by simp [nums,ByteArray.data_append]
theorem cut_nums (h:ByteArray):cutB h=true ↔ ((dec (nums h++[128])).2=(h.size:Int)+1\/(dec (nums h++[191])).2=(h.size:Int)+1\/(dec (nums h++[128,128])).2=(h.size:Int)+2\/(dec (nums h++[191,191])).2=(h.size:Int)+2\/(dec (nums h++[128,128,128])).2=(h.size:Int)+3\/(dec (nums h++[191,191,191])).2=(h.size:Int)+3):=by
 have e0:nums T0=[128]:=rfl;have e1:nums T1=[191]:=rfl;have e2:nums T2=[128,128]:=rfl;have e3:nums T3=[191,191]:=rfl;have e4:nums T4=[128,128,128]:=rfl;have e5:nums T5=[191,191,191]:=rfl;simp only [cutB,getV,nums_app,e0,e1,e2,e3,e4,e5,Bool.or_eq_true,beq_iff_eq,or_assoc]
theorem fill_nums (h:ByteArray) (n:Nat):fillB h n=true ↔ ((dec (nums h++[128,128,128].take (n-h.size))).2=n\/(dec (nums h++[160,128,128].take (n-h.size))).2=n\/(dec (nums h++[144,128,128].take (n-h.size))).2=n\/(dec (nums h++[191,191,191].take (n-h.size))).2=n\/(dec (nums h++[159,191,191].take (n-h.size))).2=n\/(dec (nums h++[143,191,191].take (n-h.size))).2=n):=by
 have e0:nums ⟨#[128,128,128]⟩=[128,128,128]:=rfl;have e1:nums ⟨#[160,128,128]⟩=[160,128,128]:=rfl;have e2:nums ⟨#[144,128,128]⟩=[144,128,128]:=rfl;have e3:nums ⟨#[191,191,191]⟩=[191,191,191]:=rfl;have e4:nums ⟨#[159,191,191]⟩=[159,191,191]:=rfl;have e5:nums ⟨#[143,191,191]⟩=[143,191,191]:=rfl;simp only [fillB,getV,nums_app,nums_extract,e0,e1,e2,e3,e4,e5,List.drop_zero,Bool.or_eq_true,beq_iff_eq,or_assoc]

theorem no5 (b0:Int) (t:List Int) (hb:0<=b0) (k:Int) (hk:4<k):¬ (dec (b0::t)).2=k:=by
 have:=dec2_le b0 t hb;omega
theorem or6 {a b c d e f:Prop}:(a\/b\/c\/d\/e\/f) ↔ ((a\/b)\/(c\/d)\/(e\/f)):=by simp only [or_assoc]

theorem cut_1 (h:ByteArray) (b0:Int) (hd:nums h=[b0]) (hz:h.size=1):cutB h=true ↔ (194<=b0/\b0<245):=by
 rw [cut_nums,hd,hz]
 simp only [List.cons_append,List.nil_append,Int.cast_ofNat_Int,Int.reduceAdd,dec2_2,dec2_3,dec2_4,Int.reduceLE,Int.reduceLT,and_true];rw [or6,p3_any2,p4_any2]
 omega
theorem fill_1 (h:ByteArray) (b0:Int) (n:Nat) (hd:nums h=[b0]) (hz:h.size=1) (hn:longV b0=n) (h1:1<n):fillB h n=true ↔ (194<=b0/\b0<245):=by
 rw [fill_nums,hd,hz]
 have hc:n=2\/n=3\/n=4:=by unfold longV at hn;omega
 rcases hc with rfl|rfl|rfl
 ·simp only [Nat.reduceSub,List.take_succ_cons,List.take_zero,List.cons_append,List.nil_append,Int.cast_ofNat_Int,dec2_2,Int.reduceLE,Int.reduceLT,and_true]
  unfold longV at hn;omega
 ·simp only [Nat.reduceSub,List.take_succ_cons,List.take_zero,List.cons_append,List.nil_append,Int.cast_ofNat_Int,dec2_3,Int.reduceLE,Int.reduceLT,and_true]
  rw [p3_any6]
  unfold longV at hn;omega
 ·simp only [Nat.reduceSub,List.take_succ_cons,List.take_zero,List.cons_append,List.nil_append,Int.cast_ofNat_Int,dec2_4,Int.reduceLE,Int.reduceLT,and_true]
  rw [p4_any6]
  unfold longV at hn;omega
theorem cut_2 (h:ByteArray) (b0 b1:Int) (hb:0<=b0) (hd:nums h=[b0,b1]) (hz:h.size=2):cutB h=true ↔ (p3 b0 b1\/p4 b0 b1):=by
 rw [cut_nums,hd,hz]
 simp only [List.cons_append,List.nil_append,Int.cast_ofNat_Int,Int.reduceAdd,dec2_3,dec2_4,Int.reduceLE,Int.reduceLT,and_true,no5 b0 _ hb 5 (by omega),or_false,or_self];simp only [<- or_assoc,or_self]
theorem fill_2 (h:ByteArray) (b0 b1:Int) (n:Nat) (hd:nums h=[b0,b1]) (hz:h.size=2) (hn:longV b0=n) (h1:2<n):fillB h n=true ↔ (p3 b0 b1\/p4 b0 b1):=by
 rw [fill_nums,hd,hz]
 have hc:n=3\/n=4:=by unfold longV at hn;omega
 rcases hc with rfl|rfl
 ·simp only [Nat.reduceSub,List.take_succ_cons,List.take_zero,List.cons_append,List.nil_append,Int.cast_ofNat_Int,dec2_3,Int.reduceLE,Int.reduceLT,and_true,or_self]
  constructor
  ·exact .inl
  ·rintro (h|h)
   ·exact h
   ·have:=p4_long _ _ h;omega
 ·simp only [Nat.reduceSub,List.take_succ_cons,List.take_zero,List.cons_append,List.nil_append,Int.cast_ofNat_Int,dec2_4,Int.reduceLE,Int.reduceLT,and_true,or_self]
  constructor
  ·exact .inr
  ·rintro (h|h)
   ·have:=p3_long _ _ h;omega
   ·exact h
theorem cut_3 (h:ByteArray) (b0 b1 b2:Int) (hb:0<=b0) (hd:nums h=[b0,b1,b2]) (hz:h.size=3):cutB h=true ↔ (p4 b0 b1/\128<=b2/\b2<192):=by
 rw [cut_nums,hd,hz]
 simp only [List.cons_append,List.nil_append,Int.cast_ofNat_Int,Int.reduceAdd,dec2_4,Int.reduceLE,Int.reduceLT,and_true,no5 b0 _ hb 5 (by omega),no5 b0 _ hb 6 (by omega),or_false,or_self]
theorem fill_3 (h:ByteArray) (b0 b1 b2:Int) (n:Nat) (hd:nums h=[b0,b1,b2]) (hz:h.size=3) (hn:longV b0=n) (h1:3<n):fillB h n=true ↔ (p4 b0 b1/\128<=b2/\b2<192):=by
 rw [fill_nums,hd,hz]
 have hc:n=4:=by unfold longV at hn;omega
 subst hc;simp only [Nat.reduceSub,List.take_succ_cons,List.take_zero,List.cons_append,List.nil_append,Int.cast_ofNat_Int,dec2_4,Int.reduceLE,Int.reduceLT,and_true,or_self]

theorem eq_of_iff {a b:Bool} {p:Prop} (ha:a=true ↔ p) (hb:b=true ↔ p):a=b:=by rw [Bool.eq_iff_iff,ha,hb]
theorem no_of_iff {a:Bool} {p:Prop} (ha:a=true ↔ p) (hp:¬ p):a=false:=by
 cases a
 ·rfl
 ·exact absurd (ha.1 rfl) hp
theorem short_same (h:ByteArray) (h0:0<h.size) (hs:h.size<=3) (n:Nat) (hn:longV ((h[0]'h0).toNat:Int)=n) :
  (n<=h.size->cutB h=false)/\(h.size<n->cutB h=fillB h n):=by
 have hl:=nums_len h;have g0:=nums_get h 0 h0;have hbd:=nums_bd h;generalize ((h[0]'h0).toNat:Int)=x0 at *
 match hd:nums h with
 | []=>rw [hd] at hl;simp at hl;omega
 | [b0] =>
  rw [hd] at hl g0 hbd
  simp at g0;subst g0;have hz:h.size=1:=by simpa using hl.symm
  have hc:=cut_1 h b0 hd hz;refine ⟨fun h1=>no_of_iff hc ?_,fun h1=>eq_of_iff hc (fill_1 h b0 n hd hz hn (by omega))⟩;unfold longV at hn;omega
 | [b0,b1] =>
  rw [hd] at hl g0 hbd
  simp at g0;subst g0;have hz:h.size=2:=by simpa using hl.symm
  have hc:=cut_2 h b0 b1 (hbd b0 (by simp)).1 hd hz;refine ⟨fun h1=>no_of_iff hc ?_,fun h1=>eq_of_iff hc (fill_2 h b0 b1 n hd hz hn (by omega))⟩;rintro (h|h)
  ·have:=p3_long _ _ h;omega
  ·have:=p4_long _ _ h;omega
 | [b0,b1,b2] =>
  rw [hd] at hl g0 hbd
  simp at g0;subst g0;have hz:h.size=3:=by simpa using hl.symm
  have hc:=cut_3 h b0 b1 b2 (hbd b0 (by simp)).1 hd hz;refine ⟨fun h1=>no_of_iff hc ?_,fun h1=>eq_of_iff hc (fill_3 h b0 b1 b2 n hd hz hn (by omega))⟩;rintro ⟨h,_⟩;have:=p4_long _ _ h;omega
 | b0::b1::b2::b3::t=>rw [hd] at hl;simp at hl;omega
open Go.ChangeShapes Go.WideShapes Go.ChangeAt Go.RowKit
def feedOk (h:ByteArray):Bool:=if 0<h.size then decide (h.size<=3) && cutB h else true
theorem feedOk_0 (h:ByteArray) (h0:¬ 0<h.size):feedOk h=true:=by simp [feedOk,h0]
theorem feedOk_big (h:ByteArray) (h0:¬ h.size<=3):feedOk h=false:=by simp [feedOk,h0];omega
theorem feedOk_cut (h:ByteArray) (h0:0<h.size) (h1:h.size<=3):feedOk h=cutB h:=by simp [feedOk,h0,h1]

theorem implFeederOk_any (h:ByteArray) (w:World) :
  Calls Tryz.prog 70 #[.agg #[.string h]] w fun e w'=>e=.returned (.bool (feedOk h))/\Below w.heap.size w w':=by
 have hy0:=fun o=>(Below.refl w.heap.size w).alloc (Nat.le_refl _) o
 by_cases h0:0<h.size
 ·have he:=isEmpty_no h h0
  by_cases h1:h.size<=3
  ·have hf:Hid (feedOk h=cutB h):=feedOk_cut h h0 h1
   have hi:(h.size:Int)<=3:=by omega
   go_enter Tryz.func70,Tryz.ntmps70;go_wp2_with (go_at_call 150;refine (cutShort_any h _ h1).mono ?_;rintro e w1 ⟨rfl,hb⟩);go_ret;exact ⟨ret_bool hf.out.symm,(hy0 _).trans (hb.mono (by simp))⟩
  ·have hf:Hid (feedOk h=false):=feedOk_big h h1
   have hi:¬ (h.size:Int)<=3:=by omega
   go_enter Tryz.func70,Tryz.ntmps70;go_wp2;go_ret;exact ⟨ret_bool hf.out.symm,hy0 _⟩
 ·have he:=isEmpty_yes h h0
  have hf:Hid (feedOk h=true):=feedOk_0 h h0;go_enter Tryz.func70,Tryz.ntmps70;go_wp2;go_ret;exact ⟨ret_bool hf.out.symm,hy0 _⟩

theorem l1Part_any (h:ByteArray) (w:World) (hs:h.size<=3) :
  Calls Tryz.prog 152 #[.string h] w fun e w'=>e=.returned (.bool (feedOk h))/\Below w.heap.size w w':=by
 by_cases h0:0<h.size
 ·rw [feedOk_cut h h0 hs]
  obtain ⟨n,hn,hn4⟩:∃ n:Nat,longV (h[0].toNat:Int)=n/\n<=4:=by
   have:0<=longV (h[0].toNat:Int)/\longV (h[0].toNat:Int)<=4:=by unfold longV;omega
   exact ⟨(longV (h[0].toNat:Int)).toNat,by omega,by omega⟩
  obtain ⟨s1,s2⟩:=short_same h h0 hs n hn
  by_cases hlt:h.size<n
  ·rw [s2 hlt];exact l1Part_long h n w h0 hs ⟨hlt,hn4⟩ hn
  ·rw [s1 (by omega)];exact l1Part_no h n w h0 (by omega) hn
 ·rw [feedOk_0 h h0];exact l1Part_empty h w h0

theorem specFeederOk_any (h:ByteArray) (w:World) :
  Calls Tryz.prog 77 #[.agg #[.string h]] w fun e w'=>e=.returned (.bool (feedOk h))/\Below w.heap.size w w':=by
 have hy0:=fun o=>(Below.refl w.heap.size w).alloc (Nat.le_refl _) o
 by_cases h1:h.size<=3
 ·have hi:(h.size:Int)<=3:=by omega
  go_enter Tryz.func77,Tryz.ntmps77;go_wp2_with (go_at_call 152;refine (l1Part_any h _ h1).mono ?_;rintro e w1 ⟨rfl,hb⟩);go_ret;exact ⟨rfl,(hy0 _).trans (hb.mono (by simp))⟩
 ·have hf:Hid (feedOk h=false):=feedOk_big h h1
  have hi:¬ (h.size:Int)<=3:=by omega
  go_enter Tryz.func77,Tryz.ntmps77;go_wp2;go_ret;exact ⟨ret_bool hf.out.symm,hy0 _⟩
structure Te where
 gc:Int
 g:List (List Ce)
 oc:Int
 o:List (List Ce)
 row:Int
 col:Int
 st:St
 top:Int
 bot:Int
 full:Bool
 wrap:Bool
 away:Bool
 hid:Bool
 sr:Int
 sc:Int
 ss:St
 ti:List Int
 pa:Pa
 fe:ByteArray
structure Tv where
 g:Value
 o:Value
 ti:Value
 pp:Value
 pt:Value
def cellB (gc:Int) (n:Nat) (r c:Int):Bool:=decide (0<=r/\r<=(n:Int)-1) && decide (0<=c/\c<=gc-1)
def termOkB (t:Te):Bool :=
 (gridOkB t.gc t.g && (gridOkB t.oc t.o && (decide (t.gc=t.oc) && decide (t.g.length=t.o.length)))) && ((cellB t.gc t.g.length t.row t.col && cellB t.gc t.g.length t.sr t.sc) &&
  (decide (0<=t.top/\t.top<=t.bot/\t.bot<=(t.g.length:Int)-1/\¬ (t.top=t.bot/\0<(t.g.length:Int)-1)) && (decide (t.full=true->t.col=t.gc-1) && ((t.st.ok && t.ss.ok) && ((decide (t.ti.length<=40) && runesB t.ti) && (okV t.pa && feedOk t.fe))))))
def teCs (t:Te) (v:Tv):Array Value:=#[.int .i64 t.gc,v.g,.int .i64 t.oc,v.o,.int .i64 t.row,.int .i64 t.col,.int .i64 t.st.fore,.int .i64 t.st.back,.bool t.st.bold,.bool t.st.under,.bool t.st.turned,.int .i64 t.top,.int .i64 t.bot,.bool t.full,.bool t.wrap,.bool t.away,.bool t.hid,.int .i64 t.sr,.int .i64 t.sc,.int .i64 t.ss.fore,.int .i64 t.ss.back,.bool t.ss.bold,.bool t.ss.under,.bool t.ss.turned,v.ti,.int .i64 t.pa.state,v.pp,.int .i64 t.pa.mark,v.pt,.string t.fe]
def teV (t:Te) (v:Tv):Value:=.agg (teCs t v)
def TeB (w:World) (B:Nat) (T:TypeId) (t:Te) (v:Tv):Prop:=w.heap[B]?=some (.cells (teCs t v) T (0,0))
theorem TeB.lt {w:World} {B:Nat} {T:TypeId} {t:Te} {v:Tv} (h:TeB w B T t v):B<w.heap.size:=(Array.getElem?_eq_some_iff.1 h).1
theorem TeB.kept {w w':World} {B:Nat} {T:TypeId} {t:Te} {v:Tv} {row:Option Nat} (h:TeB w B T t v) (hg:w.grownBy w' row) (hne:row≠some B):TeB w' B T t v:=by
 unfold TeB;rw [hg.block B h.lt (Ne.symm hne)]
 exact h
theorem TeB.below {w w':World} {B:Nat} {T:TypeId} {t:Te} {v:Tv} (h:TeB w B T t v) (hb:Below w.heap.size w w'):TeB w' B T t v:=h.kept (gbl hb none) (by simp)
theorem TeB.new (w:World) (T:TypeId) (t:Te) (v:Tv):TeB (w.alloc (.cells (teCs t v) T)) w.heap.size T t v:=heap_alloc_new w _
theorem TeB.cells {w:World} {B:Nat} {T:TypeId} {t:Te} {v:Tv} (h:TeB w B T t v) :
  w.cell? ⟨B,0,none⟩=some (.int .i64 t.gc)/\w.cell? ⟨B,1,none⟩=some (v.g)/\w.cell? ⟨B,2,none⟩=some (.int .i64 t.oc)/\w.cell? ⟨B,3,none⟩=some (v.o)/\w.cell? ⟨B,4,none⟩=some (.int .i64 t.row)/\w.cell? ⟨B,5,none⟩=some (.int .i64 t.col)/\w.cell? ⟨B,6,none⟩=some (.int .i64 t.st.fore)/\w.cell? ⟨B,7,none⟩=some (.int .i64 t.st.back)/\w.cell? ⟨B,8,none⟩=some (.bool t.st.bold)/\w.cell? ⟨B,9,none⟩=some (.bool t.st.under)/\w.cell? ⟨B,10,none⟩=some (.bool t.st.turned)/\w.cell? ⟨B,11,none⟩=some (.int .i64 t.top)/\w.cell? ⟨B,12,none⟩=some (.int .i64 t.bot)/\w.cell? ⟨B,13,none⟩=some (.bool t.full)/\w.cell? ⟨B,14,none⟩=some (.bool t.wrap)/\w.cell? ⟨B,15,none⟩=some (.bool t.away)/\w.cell? ⟨B,16,none⟩=some (.bool t.hid)/\w.cell? ⟨B,17,none⟩=some (.int .i64 t.sr)/\w.cell? ⟨B,18,none⟩=some (.int .i64 t.sc)/\w.cell? ⟨B,19,none⟩=some (.int .i64 t.ss.fore)/\w.cell? ⟨B,20,none⟩=some (.int .i64 t.ss.back)/\w.cell? ⟨B,21,none⟩=some (.bool t.ss.bold)/\w.cell? ⟨B,22,none⟩=some (.bool t.ss.under)/\w.cell? ⟨B,23,none⟩=some (.bool t.ss.turned)/\w.cell? ⟨B,24,none⟩=some (v.ti)/\w.cell? ⟨B,25,none⟩=some (.int .i64 t.pa.state)/\w.cell? ⟨B,26,none⟩=some (v.pp)/\w.cell? ⟨B,27,none⟩=some (.int .i64 t.pa.mark)/\w.cell? ⟨B,28,none⟩=some (v.pt)/\w.cell? ⟨B,29,none⟩=some (.string t.fe):=by
 refine ⟨?_,?_,?_,?_,?_,?_,?_,?_,?_,?_,?_,?_,?_,?_,?_,?_,?_,?_,?_,?_,?_,?_,?_,?_,?_,?_,?_,?_,?_,?_⟩<;>(rw [cell_of_row w B _ _ _ (0,0) h];rfl)
def SlT (w:World) (t:Te) (v:Tv):Prop:=SlG w v.g t.g/\SlG w v.o t.o/\SlN w v.ti t.ti/\SlN w v.pp t.pa.params/\SlN w v.pt t.pa.text
theorem SlT.below {w w':World} {t:Te} {v:Tv} (h:SlT w t v) (hb:Below w.heap.size w w'):SlT w' t v:=⟨h.1.below hb,h.2.1.below hb,h.2.2.1.below hb,h.2.2.2.1.below hb,h.2.2.2.2.below hb⟩
def SzT (n:Nat) (t:Te):Prop:=t.g.length<=n/\(∀ i,i<t.g.length->(rowX t.g i).length<=n)/\t.o.length<=n/\(∀ i,i<t.o.length->(rowX t.o i).length<=n)/\t.ti.length<=n/\t.pa.params.length<=n/\t.pa.text.length<=n
theorem slG_shp {w:World} {v:Value} {rows:List (List Ce)} (h:SlG w v rows):∃ a c,v=.slice a rows.length c:=by
 obtain ⟨a,c,vs,rfl,_⟩:=h;exact ⟨a,c,rfl⟩
theorem info_te:(Tryz.prog.info? 35).map (·.size)=some 30:=by kernel_rfl
theorem load_te {w:World} {ops:Array Oper} {rest:List Oper} {o:Oper} {a:Act} {Q:Exit->Act->World->Prop} {B:Nat} {t:Te} {v:Tv} (hb:TeB w B 35 t v) (hgd:Region.wanted o (yielded ops a.tmps)=true) (x:Operand)
  (ho:o.op=.load 35 x) (hx:a.eval x=.pointer (some ⟨B,0,none⟩))
  (h:wpList Tryz.prog ops Q rest (a.put o.dst (.agg (teCs t v))) w):wpList Tryz.prog ops Q (o::rest) a w :=
 load_T (cs:=teCs t v) hgd 35 x ho Tryz.underlying35 rfl info_te hb hx h
theorem eqStyle_same (s:St) (w:World) :
  Calls Tryz.prog 97 #[stV s,stV s] w fun e w'=>e=.returned (.bool true)/\Below w.heap.size w w':=by
 obtain ⟨f,b,bo,un,tu⟩:=s;unfold stV;simp only;go_enter Tryz.func97,Tryz.ntmps97;go_wp2;go_ret;exact ⟨rfl,((Below.refl _ _).alloc (Nat.le_refl _) _).alloc (by simp) _⟩
def CeF (w:World) (B:Nat) (c:Ce):Prop :=
 B<w.heap.size/\(w.cell? ⟨B,0,none⟩=some (.int .i64 c.rune)/\w.cell? ⟨B,1,none⟩=some (.int .i64 c.st.fore)/\w.cell? ⟨B,2,none⟩=some (.int .i64 c.st.back)/\w.cell? ⟨B,3,none⟩=some (.bool c.st.bold)/\w.cell? ⟨B,4,none⟩=some (.bool c.st.under)/\w.cell? ⟨B,5,none⟩=some (.bool c.st.turned)/\w.cell? ⟨B,6,none⟩=some (.int .i64 c.part)) /\
  (w.frozen? ⟨B,0,none⟩=false/\w.frozen? ⟨B,1,none⟩=false/\w.frozen? ⟨B,2,none⟩=false/\w.frozen? ⟨B,3,none⟩=false/\w.frozen? ⟨B,4,none⟩=false/\w.frozen? ⟨B,5,none⟩=false/\w.frozen? ⟨B,6,none⟩=false)
theorem CeF.new (w:World) (c:Ce) (t:TypeId):CeF (w.alloc (.cells #[.int .i64 c.rune,.int .i64 c.st.fore,.int .i64 c.st.back,.bool c.st.bold,.bool c.st.under,.bool c.st.turned,.int .i64 c.part] t)) w.heap.size c :=
 ⟨by simp,⟨by simp [go_sem],by simp [go_sem],by simp [go_sem],by simp [go_sem],by simp [go_sem],by simp [go_sem],by simp [go_sem]⟩,⟨by simp [go_sem],by simp [go_sem],by simp [go_sem],by simp [go_sem],by simp [go_sem],by simp [go_sem],by simp [go_sem]⟩⟩
theorem CeF.grown {w w':World} {B:Nat} {c:Ce} {row:Option Nat} (h:CeF w B c) (hg:w.grownBy w' row) (hr:row≠some B):CeF w' B c:=by
 have hb:=hg.block B h.1 (Ne.symm hr);have hc:∀ k,w'.cell? ⟨B,k,none⟩=w.cell? ⟨B,k,none⟩:=fun k=>World.cell?_of_block (w:=w) hb
 have hz:∀ k,w'.frozen? ⟨B,k,none⟩=w.frozen? ⟨B,k,none⟩:=fun k=>World.frozen?_of_block (w:=w) hb
 refine ⟨Nat.lt_of_lt_of_le h.1 hg.size,?_,?_⟩
 ·rw [hc,hc,hc,hc,hc,hc,hc];exact h.2.1
 ·rw [hz,hz,hz,hz,hz,hz,hz];exact h.2.2
theorem CeF.below {w w':World} {B:Nat} {c:Ce} (h:CeF w B c) (hb:Below w.heap.size w w'):CeF w' B c:=h.grown (gbl hb none) (by simp)
def putF (w:World) (B:Nat) (c:Ce):World:=(((((((w.setCell ⟨B,0,none⟩ (.int .i64 c.rune)).setCell ⟨B,1,none⟩ (.int .i64 c.st.fore)).setCell ⟨B,2,none⟩ (.int .i64 c.st.back)).setCell ⟨B,3,none⟩ (.bool c.st.bold)).setCell ⟨B,4,none⟩ (.bool c.st.under)).setCell ⟨B,5,none⟩ (.bool c.st.turned)).setCell ⟨B,6,none⟩ (.int .i64 c.part))
theorem putF_grown (w:World) (B:Nat) (c:Ce):w.grownBy (putF w B c) (some B) :=
 grown_tr (grown_tr (grown_tr (grown_tr (grown_tr (grown_tr (setCell_gr w B 0 _) (setCell_gr _ B 1 _)) (setCell_gr _ B 2 _)) (setCell_gr _ B 3 _)) (setCell_gr _ B 4 _)) (setCell_gr _ B 5 _)) (setCell_gr _ B 6 _)
def BS (a w:World):Prop:=Below a.heap.size a w/\a.heap.size<=w.heap.size
theorem BS.out {a w:World} (h:BS a w):Below a.heap.size a w:=h.1
theorem BS.set {a w:World} (h:BS a w) (g k:Nat) (u:Value) (hg:a.heap.size<=g):BS a (w.setCell ⟨g,k,none⟩ u) :=
 ⟨h.1.grown (setCell_gr w g k u) h.2 (fun k hk=>by cases hk;exact hg),by simpa using h.2⟩
theorem eqCell_same (c:Ce) (w:World) :
  Calls Tryz.prog 249 #[ceV c,ceV c] w fun e w'=>e=.returned (.bool true)/\Below w.heap.size w w':=by
 have heq:=fun W=>eqStyle_same c.st W
 have b1:=bal' w (Obj.cells #[.int .i64 c.rune,.int .i64 c.st.fore,.int .i64 c.st.back,.bool c.st.bold,.bool c.st.under,.bool c.st.turned,.int .i64 c.part] 146);have b2:=b1.trans ((bal' _ (Obj.cells #[.int .i64 c.rune,.int .i64 c.st.fore,.int .i64 c.st.back,.bool c.st.bold,.bool c.st.under,.bool c.st.turned,.int .i64 c.part] 146)).mono b1.size);have s2:=(CeF.new w c 146).below (bal' _ (Obj.cells #[.int .i64 c.rune,.int .i64 c.st.fore,.int .i64 c.st.back,.bool c.st.bold,.bool c.st.under,.bool c.st.turned,.int .i64 c.part] 146));have r2:=CeF.new (w.alloc (Obj.cells #[.int .i64 c.rune,.int .i64 c.st.fore,.int .i64 c.st.back,.bool c.st.bold,.bool c.st.under,.bool c.st.turned,.int .i64 c.part] 146)) c 146;have z1:(w.alloc (Obj.cells #[.int .i64 c.rune,.int .i64 c.st.fore,.int .i64 c.st.back,.bool c.st.bold,.bool c.st.under,.bool c.st.turned,.int .i64 c.part] 146)).heap.size=w.heap.size+1:=by simp
 rw [z1] at r2
 unfold ceV stV at *;go_enter Tryz.func249,Tryz.ntmps249;go_wp2_with fail;refine (heq _).mono ?_;rintro e w1 ⟨rfl,hb1⟩;have s3:=s2.below hb1;have r3:=r2.below hb1;have b3:=b2.trans (hb1.mono b2.size);clear s2 r2 b1 b2 hb1 z1 heq;obtain ⟨_,⟨c0,c1,c2,c3,c4,c5,c6⟩,_⟩:=s3;obtain ⟨_,⟨d0,d1,d2,d3,d4,d5,d6⟩,_⟩:=r3;go_wp2;go_ret;exact ⟨rfl,b3⟩
theorem toStyle_any (s:St) (w:World) :
  Calls Tryz.prog 92 #[stV s] w fun e w'=>e=.returned (stV s)/\Below w.heap.size w w':=by
 obtain ⟨f,b,bo,un,tu⟩:=s;unfold stV;simp only;go_enter Tryz.func92,Tryz.ntmps92;go_wp2;refine bodyPost_ret (v:=.agg #[.int .i64 f,.int .i64 b,.bool bo,.bool un,.bool tu]) (by simp [results,Tryz.results92,go_sem]) rfl ⟨rfl,?_⟩;exact (((Below.refl _ _).alloc (Nat.le_refl _) _).alloc (by simp) _).alloc (by simp;omega) _
theorem szC_any (v:Value) (xs:List Ce) (left:Nat) (w:World) (hv:SlC w v xs) (hl:xs.length<=maxLen) (hf:left<=4611686018427387904) :
  Calls Tryz.prog 223 #[v,.int .i64 left] w fun e w'=>e=.returned (.int .i64 (if left<xs.length then -1 else ((left-xs.length:Nat):Int)))/\w'=w:=by
 unfold maxLen at hl;obtain ⟨a,c,rfl,_⟩:=hv;generalize xs.length=n at *
 by_cases h:left<n
 ·have h2:(left:Int)-(n:Int)<0:=by omega
  rw [if_pos h]
  go_enter Tryz.func223,Tryz.ntmps223;go_wp2;go_ret;exact ⟨rfl,rfl⟩
 ·have h2:¬ (left:Int)-(n:Int)<0:=by omega
  have h3:Hid (((left-n:Nat):Int)=(left:Int)-(n:Int)):=by show _=_;omega
  rw [if_neg h]
  go_enter Tryz.func223,Tryz.ntmps223;go_wp2;go_ret;exact ⟨by rw [h3.out];rfl,rfl⟩
theorem toCell_any (c:Ce) (w:World) :
  Calls Tryz.prog 248 #[ceV c] w fun e w'=>e=.returned (ceV c)/\Below w.heap.size w w':=by
 have hto:=fun W=>toStyle_any c.st W
 have b1:=bal' w (Obj.cells #[.int .i64 c.rune,.int .i64 c.st.fore,.int .i64 c.st.back,.bool c.st.bold,.bool c.st.under,.bool c.st.turned,.int .i64 c.part] 222);have b2:=b1.trans ((bal' _ (Obj.cells #[.int .i64 0,.int .i64 0,.int .i64 0,.bool false,.bool false,.bool false,.int .i64 0] 146)).mono b1.size);have b3:=b2.trans ((bal' _ (Obj.cells #[.int .i64 c.rune,.int .i64 0,.int .i64 0,.bool false,.bool false,.bool false,.int .i64 0] 146)).mono b2.size);have s3:=((CeF.new w c 222).below (bal' _ (Obj.cells #[.int .i64 0,.int .i64 0,.int .i64 0,.bool false,.bool false,.bool false,.int .i64 0] 146))).below (bal' _ (Obj.cells #[.int .i64 c.rune,.int .i64 0,.int .i64 0,.bool false,.bool false,.bool false,.int .i64 0] 146));have r3:=(CeF.new (w.alloc (Obj.cells #[.int .i64 c.rune,.int .i64 c.st.fore,.int .i64 c.st.back,.bool c.st.bold,.bool c.st.under,.bool c.st.turned,.int .i64 c.part] 222)) Ce.zero 146).below (bal' _ (Obj.cells #[.int .i64 c.rune,.int .i64 0,.int .i64 0,.bool false,.bool false,.bool false,.int .i64 0] 146));have o3:=CeF.new ((w.alloc (Obj.cells #[.int .i64 c.rune,.int .i64 c.st.fore,.int .i64 c.st.back,.bool c.st.bold,.bool c.st.under,.bool c.st.turned,.int .i64 c.part] 222)).alloc (Obj.cells #[.int .i64 0,.int .i64 0,.int .i64 0,.bool false,.bool false,.bool false,.int .i64 0] 146)) ⟨c.rune,St.zero,0⟩ 146;have z1:(w.alloc (Obj.cells #[.int .i64 c.rune,.int .i64 c.st.fore,.int .i64 c.st.back,.bool c.st.bold,.bool c.st.under,.bool c.st.turned,.int .i64 c.part] 222)).heap.size=w.heap.size+1:=by simp
 have z2:((w.alloc (Obj.cells #[.int .i64 c.rune,.int .i64 c.st.fore,.int .i64 c.st.back,.bool c.st.bold,.bool c.st.under,.bool c.st.turned,.int .i64 c.part] 222)).alloc (Obj.cells #[.int .i64 0,.int .i64 0,.int .i64 0,.bool false,.bool false,.bool false,.int .i64 0] 146)).heap.size=w.heap.size+1+1:=by simp
 rw [z1] at r3
 rw [z2] at o3
 simp only [Ce.zero,St.zero] at r3 o3;unfold ceV stV at *;go_enter Tryz.func248,Tryz.ntmps248;go_wp2_with fail;refine (hto _).mono ?_;rintro e w1 ⟨rfl,hb1⟩;have s4:=s3.below hb1;have r4:=r3.below hb1;have o4:=o3.below hb1;have b4:=b3.trans (hb1.mono b3.size);clear s3 r3 o3 b1 b2 b3 hb1 z1 z2 hto;obtain ⟨_,⟨c0,c1,c2,c3,c4,c5,c6⟩,_⟩:=s4;obtain ⟨_,⟨d0,d1,d2,d3,d4,d5,d6⟩,⟨x0,x1,x2,x3,x4,x5,x6⟩⟩:=r4;obtain ⟨_,⟨e0,e1,e2,e3,e4,e5,e6⟩,⟨y0,y1,y2,y3,y4,y5,y6⟩⟩:=o4;go_wp2;refine bodyPost_ret (v:=.agg #[.int .i64 c.rune,.int .i64 c.st.fore,.int .i64 c.st.back,.bool c.st.bold,.bool c.st.under,.bool c.st.turned,.int .i64 c.part]) (by simp [results,Tryz.results248,go_sem,setCell_ne',*]) rfl ⟨rfl,?_⟩;clear c0 c1 c2 c3 c4 c5 c6 d0 d1 d2 d3 d4 d5 d6 e0 e1 e2 e3 e4 e5 e6 x0 x1 x2 x3 x4 x5 x6 y0 y1 y2 y3 y4 y5 y6;have bs:BS w w1:=⟨b4,b4.size⟩;refine BS.out ?_
 repeat (first|with_reducible exact bs|with_reducible refine BS.set ?_ _ _ _ (by omega))
theorem eqC_same (va vb:Value) (xs:List Ce) (w:World) (ha:SlC w va xs) (hb:SlC w vb xs) (hl:xs.length<=1073741824) :
  Calls Tryz.prog 225 #[va,vb] w fun e w'=>e=.returned (.bool true)/\Below w.heap.size w w':=by
 have heq:=fun c W=>eqCell_same c W
 obtain ⟨a,c,rfl,hc1,hn1,hr1⟩:=ha;obtain ⟨a',c',rfl,hc2,hn2,hr2⟩:=hb;rcases hr1 with h|⟨b,off,rfl,hbb,hs1⟩
 ·subst h
  go_enter Tryz.func225,Tryz.ntmps225;go_wp2;refine wp_loop_rounds 1 ?_;rw [rounds_succ]
  go_wp2;go_ret;exact ⟨rfl,Below.refl _ _⟩
 ·rcases hr2 with h|⟨b',off',rfl,hbb',hs2⟩
  ·subst h
   go_enter Tryz.func225,Tryz.ntmps225;go_wp2;refine wp_loop_rounds 1 ?_;rw [rounds_succ]
   go_wp2;go_ret;exact ⟨rfl,Below.refl _ _⟩
  ·unfold ceV at heq
   go_enter Tryz.func225,Tryz.ntmps225;go_wp2;go_loopw [5] (fun i wr=>∃ j:Nat,i=.int .i64 j/\j<=xs.length/\Below w.heap.size w wr) (fun i _=>xs.length-(intOf i).toNat)
   case atStart=>exact ⟨0,rfl,Nat.zero_le _,Below.refl _ _⟩
   case round =>
    obtain ⟨j,rfl,hj,kb⟩:=hrel
    by_cases hlt:j<xs.length
    ·have hji:(j:Int)<(xs.length:Int):=by omega
     have hj0:(0:Int)<=(j:Int):=by omega
     have kd:Below w.heap.size w wr.drew:=kb.trans ((bdr _).mono kb.size);have hat1:=(hs1 j hlt).below kd hbb;have hat2:=(hs2 j hlt).below kd hbb';obtain ⟨c0,c1,c2,c3,c4,c5,c6⟩:=hat1;obtain ⟨d0,d1,d2,d3,d4,d5,d6⟩:=hat2;clear hs1 hs2 ;go_wp2;go_region_with (go_at_call 249;refine (heq (atC xs j) _).mono ?_;rintro e w1 ⟨rfl,hb1⟩)
     all_goals
      have kb1:=kd.trans (hb1.mono kd.size);clear c0 c1 c2 c3 c4 c5 c6 d0 d1 d2 d3 d4 d5 d6 kd kb hb1 heq;go_wp2;go_roundw
      case rel=>exact ⟨j+1,by go_num,by omega,kb1⟩
      case measure=>simp [intOf];omega
    ·have hji:¬ (j:Int)<(xs.length:Int):=by omega
     go_wp2;go_ret;exact ⟨rfl,kb⟩
theorem SlC.at {w:World} {a:Option Addr} {n c:Nat} {xs:List Ce} (h:SlC w (.slice a n c) xs) (j:Nat) (hj:j<xs.length):∃ b off,a=some ⟨b,off,none⟩/\b<w.heap.size/\CeAt w b (off+j*7) (atC xs j):=by
 obtain ⟨a',c',e,_,_,hr⟩:=h;simp only [Value.slice.injEq] at e;obtain ⟨rfl,rfl,rfl⟩:=e;rcases hr with h|⟨b,off,ha,hb,hi⟩
 ·rw [h] at hj;simp at hj
 ·exact ⟨b,off,ha,hb,hi j hj⟩
end Go.Proofs.YtgcnmjjlmcnllaaGreatDoor
namespace Go.Proofs.YtgcnmjjlmcnllaaGreatDoor
set_option maxRecDepth 20000
set_option maxHeartbeats 16000000
theorem atC_ge {l:List Ce} {i:Nat} (h:l.length<=i):atC l i=Ce.zero:=by simp [atC,List.getD,List.getElem?_eq_none h]
def genL (n:Nat) (f:Nat->Ce):List Ce:=(List.range n).map f
theorem genL_len (n:Nat) (f:Nat->Ce):(genL n f).length=n:=by simp [genL]
theorem genL_at (n:Nat) (f:Nat->Ce) (i:Nat) (h:i<n):atC (genL n f) i=f i:=by
 rw [atC_lt (by rw [genL_len];exact h)];simp [genL]
theorem alone_iff (l:List Ce) (i:Nat):aloneB l i=true ↔ ((atC l i).part=1/\(atC l (i+1)).part≠2)\/((atC l i).part=2/\(i=0\/(atC l (i-1)).part≠1)):=by
 unfold aloneB
 by_cases h:i+1=l.length
 ·rw [atC_ge (l:=l) (i:=i+1) (by omega)]
  simp [Ce.zero,h]
 ·simp [h]
theorem mendV_all (l:List Ce) (i:Nat):atC (mendV l) i=mendC l i:=by
 by_cases h:i<l.length
 ·exact mendV_at l i h
 ·rw [atC_ge (by rw [mendV_len];omega),mendC,atC_ge (by omega)]
  have:¬ aloneB l i=true:=by rw [alone_iff,atC_ge (l:=l) (i:=i) (by omega)];simp [Ce.zero]
  rw [if_neg this]
def c1 (c:Ce):Prop:=c.st.ok=true/\((c.part=0/\wdV c.rune=1)\/(c.part=1/\wdV c.rune=2)\/(c.part=2/\c.rune=0))
def Right (l:List Ce):Prop :=
 (∀ i,i<l.length->c1 (atC l i))/\(∀ i,(atC l i).part=1->(atC l (i+1)).part=2/\(atC l (i+1)).st=(atC l i).st)/\(∀ i,(atC l i).part=2->0<i/\(atC l (i-1)).part=1)
def Semi (l:List Ce):Prop :=
 (∀ i,i<l.length->c1 (atC l i))/\(∀ i,(atC l i).part=1->(atC l (i+1)).part=2->(atC l (i+1)).st=(atC l i).st)
theorem Right.semi {l:List Ce} (h:Right l):Semi l:=⟨h.1,fun i h1 _=>(h.2.1 i h1).2⟩
theorem part_lt {l:List Ce} {i:Nat} (h:(atC l i).part≠0):i<l.length:=by
 rcases Nat.lt_or_ge i l.length with h1|h1
 ·exact h1
 ·rw [atC_ge h1] at h;exact absurd rfl h
theorem right_iff (l:List Ce):rowOkB l=true ↔ (1<=l.length/\l.length<=60)/\Right l:=by
 rw [rowOkB_iff]
 constructor
 ·rintro ⟨hl,h⟩
  refine ⟨hl,?_,?_,?_⟩
  ·intro i hi
   have:=h i hi;unfold cellOkB at this;rw [Bool.and_eq_true] at this
   refine ⟨this.1,?_⟩;have h2:=this.2
   by_cases h0:(atC l i).part=0
   ·rw [if_pos h0] at h2;exact .inl ⟨h0,by simpa using h2⟩
   ·rw [if_neg h0] at h2
    by_cases h1:(atC l i).part=1
    ·rw [if_pos h1] at h2;simp at h2;exact .inr (.inl ⟨h1,h2.1⟩)
    ·rw [if_neg h1] at h2
     by_cases h3:(atC l i).part=2
     ·rw [if_pos h3] at h2;simp at h2;exact .inr (.inr ⟨h3,h2.1⟩)
     ·rw [if_neg h3] at h2;cases h2
  ·intro i h1
   have hi:i<l.length:=part_lt (by rw [h1];decide);have:=h i hi;unfold cellOkB at this;rw [Bool.and_eq_true,if_neg (by rw [h1];decide),if_pos h1] at this
   have h2:=this.2;simp at h2;exact ⟨h2.2.2.1,h2.2.2.2⟩
  ·intro i h1
   have hi:i<l.length:=part_lt (by rw [h1];decide);have:=h i hi;unfold cellOkB at this;rw [Bool.and_eq_true,if_neg (by rw [h1];decide),if_neg (by rw [h1];decide),if_pos h1] at this
   have h2:=this.2;simp at h2;exact h2.2
 ·rintro ⟨hl,h1,h2,h3⟩
  refine ⟨hl,fun i hi=>?_⟩;have hc:=h1 i hi;unfold cellOkB;rw [hc.1,Bool.true_and]
  rcases hc.2 with ⟨e,ew⟩|⟨e,ew⟩|⟨e,ew⟩
  ·rw [if_pos e,ew];rfl
  ·have:=h2 i e
   have hlt:i+1<l.length:=part_lt (by rw [this.1];decide);rw [if_neg (by rw [e];decide),if_pos e,ew]
   simp [hlt,this.1,this.2]
  ·have:=h3 i e
   rw [if_neg (by rw [e];decide),if_neg (by rw [e];decide),if_pos e,ew]
   simp [this.1,this.2]
theorem c1_blank {s:St} (h:s.ok=true):c1 (blankC s):=⟨h,.inl ⟨rfl,by show wdV 32=1;decide⟩⟩
theorem Semi.mend {l:List Ce} (h:Semi l):Right (mendV l):=by
 have hp:∀ i,(atC (mendV l) i).part≠0->aloneB l i=false/\atC (mendV l) i=atC l i:=by
  intro i hi;rw [mendV_all,mendC] at hi ⊢
  by_cases ha:aloneB l i=true
  ·rw [if_pos ha] at hi;exact absurd rfl hi
  ·rw [if_neg ha];exact ⟨by simpa using ha,rfl⟩
 refine ⟨fun i hi=>?_,fun i h1=>?_,fun i h2=>?_⟩
 ·rw [mendV_len] at hi
  rw [mendV_all,mendC]
  split
  ·exact c1_blank (h.1 i hi).1
  ·exact h.1 i hi
 ·obtain ⟨ha,e⟩:=hp i (by rw [h1];decide)
  rw [e] at h1
  have hn:(atC l (i+1)).part=2:=by
   apply Classical.byContradiction
   intro hc;have:=(alone_iff l i).2 (.inl ⟨h1,hc⟩);rw [ha] at this;cases this
  have hb:aloneB l (i+1)=false:=by
   apply Classical.byContradiction
   intro hc;rcases (alone_iff l (i+1)).1 (by simpa using hc) with ⟨q,_⟩|⟨_,q⟩
   ·rw [hn] at q;exact absurd q (by decide)
   ·rcases q with q|q
    ·omega
    ·rw [Nat.add_sub_cancel] at q;exact q h1
  have e2:atC (mendV l) (i+1)=atC l (i+1):=by rw [mendV_all,mendC,if_neg (by rw [hb];decide)]
  rw [e2,e]
  exact ⟨hn,h.2 i h1 hn⟩
 ·obtain ⟨ha,e⟩:=hp i (by rw [h2];decide)
  rw [e] at h2
  have hn:¬ (i=0\/(atC l (i-1)).part≠1):=by
   intro hc;have:=(alone_iff l i).2 (.inr ⟨h2,hc⟩);rw [ha] at this;cases this
  have h0:0<i:=by omega
  have h1:(atC l (i-1)).part=1:=by
   apply Classical.byContradiction
   intro hc;exact hn (.inr hc)
  have hb:aloneB l (i-1)=false:=by
   apply Classical.byContradiction
   intro hc;rcases (alone_iff l (i-1)).1 (by simpa using hc) with ⟨_,q⟩|⟨q,_⟩
   ·have:i-1+1=i:=by omega
    rw [this] at q;exact q h2
   ·rw [h1] at q;exact absurd q (by decide)
  have e2:atC (mendV l) (i-1)=atC l (i-1):=by rw [mendV_all,mendC,if_neg (by rw [hb];decide)]
  rw [e2];exact ⟨h0,h1⟩
theorem fill_at (l:List Ce) (a b:Nat) (s:St) (i:Nat) (hb:b<=l.length):atC (fillUp l a b s) i=if a<=i/\i<b then blankC s else atC l i:=by
 by_cases h:i<l.length
 ·exact fillUp_at l a b s i h
 ·rw [atC_ge (by rw [fillUp_len];omega),if_neg (by omega),atC_ge (by omega)]
theorem Semi.fill {l:List Ce} (h:Semi l) (a b:Nat) (s:St) (hs:s.ok=true) (hb:b<=l.length):Semi (fillUp l a b s):=by
 refine ⟨fun i hi=>?_,fun i h1 h2=>?_⟩
 ·rw [fillUp_len] at hi
  rw [fill_at l a b s i hb]
  split
  ·exact c1_blank hs
  ·exact h.1 i hi
 ·rw [fill_at l a b s _ hb] at h1 h2 ⊢
  rw [fill_at l a b s _ hb]
  split at h1
  ·exact absurd h1 (by simp [blankC])
  ·split at h2
   ·exact absurd h2 (by simp [blankC])
   ·rename_i q1 q2
    rw [if_neg q2,if_neg q1]
    exact h.2 i h1 h2
theorem clearL_right {l:List Ce} (h:Right l) (a b:Nat) (s:St) (hs:s.ok=true) (hb:b<=l.length):Right (clearL l a b s):=(h.semi.fill a b s hs hb).mend
theorem Semi.take {l:List Ce} (h:Semi l) (n:Nat):Semi (l.take n):=by
 have e:∀ i,atC (l.take n) i=if i<n then atC l i else Ce.zero:=fun i=>by
  by_cases hi:i<n
  ·rw [if_pos hi,atC_take l n i hi]
  ·rw [if_neg hi,atC_ge (by rw [List.length_take];omega)]
 refine ⟨fun i hi=>?_,fun i h1 h2=>?_⟩
 ·rw [List.length_take] at hi
  rw [e,if_pos (by omega)]
  exact h.1 i (by omega)
 ·rw [e] at h1 h2 ⊢
  rw [e]
  split at h1
  ·split at h2
   ·rename_i q1 q2
    rw [if_pos q2,if_pos q1]
    exact h.2 i h1 h2
   ·exact absurd h2 (by decide)
  ·exact absurd h1 (by decide)
theorem Semi.drop {l:List Ce} (h:Semi l) (n:Nat):Semi (l.drop n):=by
 refine ⟨fun i hi=>?_,fun i h1 h2=>?_⟩
 ·rw [List.length_drop] at hi
  rw [atC_drop];exact h.1 (n+i) (by omega)
 ·rw [atC_drop] at h1 h2 ⊢
  rw [atC_drop]
  have:=h.2 (n+i) h1 (by rw [Nat.add_assoc];exact h2)
  rwa [Nat.add_assoc] at this
theorem app_at (l m:List Ce) (i:Nat):atC (l++m) i=if i<l.length then atC l i else atC m (i-l.length):=by
 by_cases h:i<l.length
 ·rw [if_pos h,atC_append_left l m i h]
 ·rw [if_neg h]
  have:=atC_append_right l m (i-l.length)
  rwa [show l.length+(i-l.length)=i by omega] at this
theorem Right.append {l m:List Ce} (h:Right l) (k:Right m):Right (l++m):=by
 refine ⟨fun i hi=>?_,fun i h1=>?_,fun i h2=>?_⟩
 ·rw [List.length_append] at hi
  rw [app_at]
  split
  ·rename_i q;exact h.1 i q
  ·exact k.1 _ (by omega)
 ·rw [app_at] at h1
  split at h1
  ·have:=h.2.1 i h1
   have hlt:i+1<l.length:=part_lt (by rw [this.1];decide)
   rename_i q
   rw [app_at,app_at,if_pos hlt,if_pos q];exact this
  ·rename_i q
   have:=k.2.1 _ h1;rw [app_at,app_at,if_neg (by omega),if_neg q]
   rwa [show i+1-l.length=i-l.length+1 by omega]
 ·rw [app_at] at h2
  split at h2
  ·rename_i q
   have:=h.2.2 i h2;rw [app_at,if_pos (by omega)];exact this
  ·rename_i q
   have:=k.2.2 _ h2;rw [app_at,if_neg (by omega)]
   refine ⟨by omega,?_⟩;rw [show i-1-l.length=i-l.length-1 by omega];exact this.2
theorem rowL_at (n:Nat) (s:St) (i:Nat) (h:i<n):atC (rowL n s) i=blankC s:=by
 rw [atC_lt (by simp [rowL];exact h)];simp [rowL]
theorem rowL_right (n:Nat) (s:St) (hs:s.ok=true):Right (rowL n s):=by
 have e:∀ i,(atC (rowL n s) i).part=0:=fun i=>by
  by_cases h:i<n
  ·rw [rowL_at n s i h];rfl
  ·rw [atC_ge (by simp [rowL];omega)];rfl
 refine ⟨fun i hi=>?_,fun i h1=>?_,fun i h1=>?_⟩
 ·rw [rowL_at n s i (by simpa [rowL] using hi)];exact c1_blank hs
 ·rw [e] at h1;exact absurd h1 (by decide)
 ·rw [e] at h1;exact absurd h1 (by decide)
def partW (l:List Ce) (p:Nat):List Ce:=if (atC l p).part=2 then fillUp l (p-1) (p+1) (atC l p).st else l
theorem partW_len (l:List Ce) (p:Nat):(partW l p).length=l.length:=by unfold partW;split;exact fillUp_len _ _ _ _;rfl
theorem partW_at {l:List Ce} (h:Right l) (p i:Nat):atC (partW l p) i=if (atC l p).part=2/\(i+1=p\/i=p) then blankC (atC l i).st else atC l i:=by
 unfold partW
 by_cases h2:(atC l p).part=2
 ·obtain ⟨h0,hl,h1,hst⟩:=h.two h2
  rw [if_pos h2,fill_at _ _ _ _ _ (by omega)]
  by_cases e:i+1=p\/i=p
  ·rw [if_pos (by omega),if_pos ⟨h2,e⟩]
   rcases e with e|e
   ·rw [hst,show p-1=i by omega]
   ·rw [e]
  ·rw [if_neg (by omega),if_neg (fun q=>e q.2)]
 ·rw [if_neg h2,if_neg (fun q=>h2 q.1)]
theorem partW_right {l:List Ce} (h:Right l) (p:Nat):Right (partW l p):=by
 by_cases h2:(atC l p).part=2
 ·obtain ⟨h0,hl,hp,hst⟩:=h.two h2
  have e:=partW_at h p;refine ⟨fun i hi=>?_,fun i h1=>?_,fun i h1=>?_⟩
  ·rw [partW_len] at hi
   rw [e]
   split
   ·exact c1_blank (h.1 i hi).1
   ·exact h.1 i hi
  ·rw [e] at h1
   split at h1
   ·exact absurd h1 (by simp [blankC])
   ·rename_i q
    have hq:¬ (i+1=p\/i=p):=fun c=>q ⟨h2,c⟩
    have:=h.2.1 i h1
    have hn:¬ ((atC l p).part=2/\(i+1+1=p\/i+1=p)):=by
     rintro ⟨_,c|c⟩
     ·have e1:p-1=i+1:=by omega
      rw [e1] at hp;rw [hp] at this;exact absurd this.1 (by decide)
     ·exact hq (.inl c)
    rw [e,e,if_neg hn,if_neg q]
    exact this
  ·rw [e] at h1
   split at h1
   ·exact absurd h1 (by simp [blankC])
   ·rename_i q
    have hq:¬ (i+1=p\/i=p):=fun c=>q ⟨h2,c⟩
    have:=h.2.2 i h1
    have hn:¬ ((atC l p).part=2/\(i-1+1=p\/i-1=p)):=by
     rintro ⟨_,c|c⟩
     ·exact hq (.inr (by omega))
     ·rw [c] at this;rw [h2] at this;exact absurd this.2 (by decide)
    rw [e,if_neg hn]
    exact this
 ·unfold partW;rw [if_neg h2];exact h
theorem clear_way {l:List Ce} (h:Right l) (a b:Nat) (s:St) (hab:a<b) (hb:b<=l.length):fillUp (partW (partW l a) b) a b s=clearL l a b s:=by
 refine ext_atC _ _ (by rw [fillUp_len,partW_len,partW_len,clearL_len]) fun i hi=>?_
 rw [fillUp_len,partW_len,partW_len] at hi
 rw [fill_at _ _ _ _ _ (by rw [partW_len,partW_len];exact hb),clearL,mendV_all,mendC]
 by_cases hin:a<=i/\i<b
 ·rw [if_pos hin]
  have:¬ aloneB (fillUp l a b s) i=true:=by
   rw [alone_iff,fill_at _ _ _ _ _ hb,if_pos hin];simp [blankC]
  rw [if_neg this,fill_at _ _ _ _ _ hb,if_pos hin]
 ·rw [if_neg hin,partW_at (partW_right h a),partW_at h a b,partW_at h a i]
  have hF:=fun j=>fill_at l a b s j hb
  have eb:¬ ((atC l a).part=2/\(b+1=a\/b=a)):=by omega
  rw [if_neg eb]
  have hal:aloneB (fillUp l a b s) i=true ↔ (((atC l a).part=2/\i+1=a)\/((atC l b).part=2/\i=b)):=by
   rw [alone_iff,hF i,if_neg hin]
   constructor
   ·rintro (⟨q1,q2⟩|⟨q1,q2⟩)
    ·left
     have:=(h.2.1 i q1).1;rw [hF] at q2
     by_cases c:a<=i+1/\i+1<b
     ·have:i+1=a:=by omega
      rw [<- this];exact ⟨(h.2.1 i q1).1,rfl⟩
     ·rw [if_neg c] at q2;exact absurd this q2
    ·right
     have:=h.2.2 i q1;rcases q2 with q2|q2
     ·omega
     ·rw [hF] at q2
      by_cases c:a<=i-1/\i-1<b
      ·have:i=b:=by omega
       rw [<- this];exact ⟨q1,rfl⟩
      ·rw [if_neg c] at q2;exact absurd this.2 q2
   ·rintro (⟨q1,q2⟩|⟨q1,q2⟩)
    ·left
     have:=h.two q1;have e:a-1=i:=by omega
     rw [e] at this
     refine ⟨this.2.2.1,?_⟩;rw [hF,if_pos (by omega)];simp [blankC]
    ·right
     rw [q2]
     refine ⟨q1,.inr ?_⟩;rw [hF,if_pos (by omega)];simp [blankC]
  by_cases ha:(((atC l a).part=2/\i+1=a)\/((atC l b).part=2/\i=b))
  ·rw [if_pos (hal.2 ha),hF i,if_neg hin]
   rcases ha with ⟨q1,q2⟩|⟨q1,q2⟩
   ·have c1:¬ ((atC l b).part=2/\(i+1=b\/i=b)):=by omega
    rw [if_neg c1,if_pos ⟨q1,.inl q2⟩]
   ·have c1:¬ ((atC l a).part=2/\(i+1=a\/i=a)):=by omega
    rw [if_pos ⟨q1,.inr q2⟩,if_neg c1]
  ·rw [if_neg (fun c=>ha (hal.1 c)),hF i,if_neg hin]
   have c1:¬ ((atC l b).part=2/\(i+1=b\/i=b)):=by
    rintro ⟨q1,q2⟩;apply ha;right;exact ⟨q1,by omega⟩
   have c2:¬ ((atC l a).part=2/\(i+1=a\/i=a)):=by
    rintro ⟨q1,q2⟩;apply ha;left;exact ⟨q1,by omega⟩
   rw [if_neg c1,if_neg c2]
theorem clear_none {l:List Ce} (h:Right l) (a:Nat) (s:St):clearL l a a s=l:=by rw [clearL,fillUp_zero,h.mend]
def moveL (l:List Ce) (q p n:Nat):List Ce:=genL l.length fun i=>if q<=i/\i<q+n then atC l (p+(i-q)) else atC l i
theorem moveL_len (l:List Ce) (q p n:Nat):(moveL l q p n).length=l.length:=genL_len _ _
theorem moveL_at (l:List Ce) (q p n i:Nat) (h:i<l.length):atC (moveL l q p n) i=if q<=i/\i<q+n then atC l (p+(i-q)) else atC l i:=genL_at _ _ _ h
theorem partW2_at {l:List Ce} (h:Right l) (p q i:Nat) (hpq:p<=q) :
  atC (partW (partW l p) q) i=if ((atC l p).part=2/\(i+1=p\/i=p))\/((atC l q).part=2/\(i+1=q\/i=q)) then blankC (atC l i).st else atC l i:=by
 have hq:(atC (partW l p) q).part=2 ↔ (atC l q).part=2/\¬ ((atC l p).part=2/\q=p):=by
  rw [partW_at h p q]
  by_cases c:(atC l p).part=2/\(q+1=p\/q=p)
  ·rw [if_pos c]
   constructor
   ·intro x;exact absurd x (by simp [blankC])
   ·intro x;exact absurd ⟨c.1,by omega⟩ x.2
  ·rw [if_neg c]
   constructor
   ·intro x;exact ⟨x,fun y=>c ⟨y.1,.inr y.2⟩⟩
   ·intro x;exact x.1
 rw [partW_at (partW_right h p) q i,partW_at h p i]
 by_cases c2:(atC (partW l p) q).part=2/\(i+1=q\/i=q)
 ·have c3:((atC l p).part=2/\(i+1=p\/i=p))\/((atC l q).part=2/\(i+1=q\/i=q)):=.inr ⟨(hq.1 c2.1).1,c2.2⟩
  rw [if_pos c2,if_pos c3]
  split<;>rfl
 ·rw [if_neg c2]
  by_cases c1:(atC l p).part=2/\(i+1=p\/i=p)
  ·rw [if_pos c1,if_pos (.inl c1)]
  ·rw [if_neg c1,if_neg]
   rintro (x|x)
   ·exact c1 x
   ·apply c2
    refine ⟨hq.2 ⟨x.1,fun y=>c1 ⟨y.1,?_⟩⟩,x.2⟩;have:=x.2;have:=y.2;omega
theorem mendT {l:List Ce} (h:Right l) (p i:Nat) (hi:i<p):atC (mendV (l.take p)) i=if (atC l p).part=2/\i+1=p then blankC (atC l i).st else atC l i:=by
 have ht:∀ j,atC (l.take p) j=if j<p then atC l j else Ce.zero:=fun j=>by
  by_cases hj:j<p
  ·rw [if_pos hj,atC_take l p j hj]
  ·rw [if_neg hj,atC_ge (by rw [List.length_take];omega)]
 rw [mendV_all,mendC,ht i,if_pos hi]
 have hal:aloneB (l.take p) i=true ↔ (atC l p).part=2/\i+1=p:=by
  rw [alone_iff,ht i,if_pos hi]
  constructor
  ·rintro (⟨q1,q2⟩|⟨q1,q2⟩)
   ·have:=h.2.1 i q1
    rw [ht] at q2
    by_cases c:i+1<p
    ·rw [if_pos c] at q2;exact absurd this.1 q2
    ·have e:i+1=p:=by omega
     rw [<- e];exact ⟨this.1,rfl⟩
   ·have:=h.2.2 i q1
    rcases q2 with q2|q2
    ·omega
    ·rw [ht,if_pos (by omega)] at q2;exact absurd this.2 q2
  ·rintro ⟨q1,q2⟩
   left
   have:=h.two q1;rw [show p-1=i by omega] at this
   refine ⟨this.2.2.1,?_⟩;rw [ht,if_neg (by omega)];decide
 by_cases c:(atC l p).part=2/\i+1=p
 ·rw [if_pos c,if_pos (hal.2 c)]
 ·rw [if_neg c,if_neg (fun x=>c (hal.1 x))]
theorem mendD {l:List Ce} (h:Right l) (p i:Nat):atC (mendV (l.drop p)) i=if (atC l p).part=2/\i=0 then blankC (atC l p).st else atC l (p+i):=by
 rw [mendV_all,mendC,atC_drop]
 have hal:aloneB (l.drop p) i=true ↔ (atC l p).part=2/\i=0:=by
  rw [alone_iff,atC_drop,atC_drop]
  constructor
  ·rintro (⟨q1,q2⟩|⟨q1,q2⟩)
   ·have:=h.2.1 (p+i) q1
    rw [Nat.add_assoc] at this;exact absurd this.1 q2
   ·have:=h.2.2 (p+i) q1
    rcases q2 with q2|q2
    ·subst q2;exact ⟨q1,rfl⟩
    ·by_cases c:i=0
     ·subst c;exact ⟨q1,rfl⟩
     ·rw [atC_drop,show p+(i-1)=p+i-1 by omega] at q2;exact absurd this.2 q2
  ·rintro ⟨q1,q2⟩
   subst q2;exact .inr ⟨q1,.inl rfl⟩
 by_cases c:(atC l p).part=2/\i=0
 ·rw [if_pos c,if_pos (hal.2 c),c.2,Nat.add_zero]
 ·rw [if_neg c,if_neg (fun x=>c (hal.1 x))]
theorem rowL_len (n:Nat) (s:St):(rowL n s).length=n:=by simp [rowL]
def pushV (xs:List Ce) (p n:Nat) (s:St):List Ce:=if n=0 then xs else mendV ((mendV (xs.take p)++rowL n s++mendV (xs.drop p)).take xs.length)
def pullV (xs:List Ce) (p n:Nat) (s:St):List Ce:=if min n (xs.length-p)=0 then xs else mendV (xs.take p)++mendV (xs.drop (p+min n (xs.length-p)))++rowL (min n (xs.length-p)) s
theorem three_at {l:List Ce} (h:Right l) (p m:Nat) (s:St) (hp:p<=l.length) (i:Nat) :
  atC (mendV (l.take p)++rowL m s++mendV (l.drop p)) i =
   if i<p then (if (atC l p).part=2/\i+1=p then blankC (atC l i).st else atC l i)
   else if i<p+m then blankC s else (if (atC l p).part=2/\i=p+m then blankC (atC l p).st else atC l (i-m)):=by
 have h1:(mendV (l.take p)).length=p:=by rw [mendV_len,List.length_take];omega
 rw [app_at,app_at,List.length_append,h1,rowL_len]
 by_cases c1:i<p
 ·rw [if_pos c1,if_pos (by omega),if_pos c1,mendT h p i c1]
 ·rw [if_neg c1,if_neg c1]
  by_cases c2:i<p+m
  ·rw [if_pos c2,if_pos c2,rowL_at _ _ _ (by omega)]
  ·rw [if_neg c2,if_neg c2,mendD h p]
   by_cases c3:(atC l p).part=2/\i=p+m
   ·rw [if_pos c3,if_pos ⟨c3.1,by omega⟩]
   ·rw [if_neg c3,if_neg (fun x=>c3 ⟨x.1,by omega⟩),show p+(i-(p+m))=i-m by omega]
theorem three_right {l:List Ce} (h:Right l) (p m:Nat) (s:St) (hs:s.ok=true):Right (mendV (l.take p)++rowL m s++mendV (l.drop p)) :=
 ((h.semi.take p).mend.append (rowL_right m s hs)).append (h.semi.drop p).mend
theorem pushV_right {l:List Ce} (h:Right l) (p n:Nat) (s:St) (hs:s.ok=true):Right (pushV l p n s):=by
 unfold pushV;split
 ·exact h
 ·exact ((three_right h p n s hs).semi.take _).mend
theorem pushV_len (l:List Ce) (p n:Nat) (s:St):(pushV l p n s).length=l.length:=by
 unfold pushV;split
 ·rfl
 ·rw [mendV_len,List.length_take,List.length_append,List.length_append,mendV_len,mendV_len,rowL_len,List.length_take,List.length_drop];omega
theorem pullV_right {l:List Ce} (h:Right l) (p n:Nat) (s:St) (hs:s.ok=true):Right (pullV l p n s):=by
 unfold pullV;split
 ·exact h
 ·exact ((h.semi.take p).mend.append (h.semi.drop _).mend).append (rowL_right _ s hs)
theorem pullV_len (l:List Ce) (p n:Nat) (s:St) (hp:p<=l.length):(pullV l p n s).length=l.length:=by
 unfold pullV;split
 ·rfl
 ·rw [List.length_append,List.length_append,mendV_len,mendV_len,rowL_len,List.length_take,List.length_drop];omega
theorem pushV_at {l:List Ce} (h:Right l) (p n:Nat) (s:St) (hs:s.ok=true) (hp:p<l.length) (hn:n≠0) (i:Nat) (hi:i<l.length) :
  atC (pushV l p n s) i =
   if i<p then (if (atC l p).part=2/\i+1=p then blankC (atC l i).st else atC l i)
   else if i<p+n then blankC s
   else (if ((atC l p).part=2/\i=p+n)\/((atC l (i-n)).part=1/\i+1=l.length) then blankC (atC l (i-n)).st else atC l (i-n)):=by
 have hR:=three_right h p n s hs;have hA:=fun j=>three_at h p n s (by omega:p<=l.length) j
 unfold pushV;rw [if_neg hn]
 generalize mendV (l.take p)++rowL n s++mendV (l.drop p)=Z at *;rw [mendT hR l.length i hi,hA i]
 by_cases c1:i<p
 ·rw [if_pos c1,if_pos c1]
  have:¬ ((atC Z l.length).part=2/\i+1=l.length):=by omega
  rw [if_neg this]
 ·rw [if_neg c1,if_neg c1]
  by_cases c2:i<p+n
  ·rw [if_pos c2,if_pos c2]
   have:¬ ((atC Z l.length).part=2/\i+1=l.length):=by
    rintro ⟨q1,q2⟩;have:=hR.two q1;rw [show l.length-1=i by omega,hA i,if_neg c1,if_pos c2] at this
    exact absurd this.2.2.1 (by simp [blankC])
   rw [if_neg this]
  ·rw [if_neg c2,if_neg c2]
   have e:(atC Z l.length).part=2/\i+1=l.length ↔ (atC l (i-n)).part=1/\i+1=l.length/\¬ ((atC l p).part=2/\i=p+n):=by
    constructor
    ·rintro ⟨q1,q2⟩
     have:=hR.two q1;rw [show l.length-1=i by omega,hA i,if_neg c1,if_neg c2] at this
     by_cases c3:(atC l p).part=2/\i=p+n
     ·rw [if_pos c3] at this;exact absurd this.2.2.1 (by simp [blankC])
     ·rw [if_neg c3] at this;exact ⟨this.2.2.1,q2,c3⟩
    ·rintro ⟨q1,q2,q3⟩
     have:(atC Z i).part=1:=by rw [hA i,if_neg c1,if_neg c2,if_neg q3];exact q1
     have:=hR.2.1 i this;rw [q2] at this;exact ⟨this.1,q2⟩
   by_cases c3:(atC l p).part=2/\i=p+n
   ·have e2:¬ ((atC Z l.length).part=2/\i+1=l.length):=fun x=>(e.1 x).2.2 c3
    rw [if_neg e2,if_pos c3,if_pos (.inl c3),show i-n=p by omega]
   ·by_cases c4:(atC l (i-n)).part=1/\i+1=l.length
    ·have c5:((atC l p).part=2/\i=p+n)\/((atC l (i-n)).part=1/\i+1=l.length):=.inr c4
     rw [if_pos (e.2 ⟨c4.1,c4.2,c3⟩),if_pos c5,if_neg c3]
    ·have e2:¬ ((atC Z l.length).part=2/\i+1=l.length):=fun x=>c4 ⟨(e.1 x).1,(e.1 x).2.1⟩
     rw [if_neg e2,if_neg c3,if_neg (by rintro (x|x);exact c3 x;exact c4 x)]
theorem push_way {l:List Ce} (h:Right l) (p n m:Nat) (s:St) (hs:s.ok=true) (hp:p<l.length) (hn:n≠0) (hm:m=min n (l.length-p)) :
  fillUp (moveL (partW (partW l p) (l.length-m)) (p+m) p (l.length-m-p)) p (p+m) s=pushV l p n s:=by
 refine ext_atC _ _ (by rw [fillUp_len,moveL_len,partW_len,partW_len,pushV_len]) fun i hi=>?_
 rw [fillUp_len,moveL_len,partW_len,partW_len] at hi
 have hQ:∀ j,atC (partW (partW l p) (l.length-m)) j=_:=fun j=>partW2_at h p (l.length-m) j (by omega)
 have hQl:(partW (partW l p) (l.length-m)).length=l.length:=by rw [partW_len,partW_len]
 rw [fill_at _ _ _ _ _ (by rw [moveL_len,hQl];omega),pushV_at h p n s hs hp hn i hi]
 by_cases c1:i<p
 ·rw [if_neg (by omega),if_pos c1,moveL_at _ _ _ _ _ (by rw [hQl];exact hi),if_neg (by omega),hQ i]
  by_cases c2:(atC l p).part=2/\i+1=p
  ·rw [if_pos c2,if_pos (.inl ⟨c2.1,.inl c2.2⟩)]
  ·have:¬ (((atC l p).part=2/\(i+1=p\/i=p))\/((atC l (l.length-m)).part=2/\(i+1=l.length-m\/i=l.length-m))):=by
    rintro (⟨x,y⟩|⟨x,y⟩)
    ·exact c2 ⟨x,by omega⟩
    ·have e:l.length-m=p:=by omega
     rw [e] at x;exact c2 ⟨x,by omega⟩
   rw [if_neg c2,if_neg this]
 ·rw [if_neg c1]
  by_cases c2:i<p+n
  ·by_cases c3:i<p+m
   ·rw [if_pos ⟨by omega,c3⟩,if_pos c2]
   ·omega
  ·rw [if_neg c2,if_neg (by omega),moveL_at _ _ _ _ _ (by rw [hQl];exact hi),if_pos (by omega),hQ]
   have em:m=n:=by omega
   subst em;have e1:p+(i-(p+m))=i-m:=by omega
   rw [e1]
   have e2:(((atC l p).part=2/\(i-m+1=p\/i-m=p))\/((atC l (l.length-m)).part=2/\(i-m+1=l.length-m\/i-m=l.length-m))) ↔ (((atC l p).part=2/\i=p+m)\/((atC l (i-m)).part=1/\i+1=l.length)):=by
    constructor
    ·rintro (⟨x,y⟩|⟨x,y⟩)
     ·left;exact ⟨x,by omega⟩
     ·right
      have e3:i-m+1=l.length-m:=by omega
      have:=h.two x;rw [show l.length-m-1=i-m by omega] at this
      exact ⟨this.2.2.1,by omega⟩
    ·rintro (⟨x,y⟩|⟨x,y⟩)
     ·left;exact ⟨x,by omega⟩
     ·right
      have:=h.2.1 _ x;rw [show i-m+1=l.length-m by omega] at this
      exact ⟨this.1,by omega⟩
   by_cases c4:((atC l p).part=2/\i=p+m)\/((atC l (i-m)).part=1/\i+1=l.length)
   ·rw [if_pos c4,if_pos (e2.2 c4)]
   ·rw [if_neg c4,if_neg (fun x=>c4 (e2.1 x))]
theorem pullV_at {l:List Ce} (h:Right l) (p n m:Nat) (s:St) (hp:p<l.length) (hn:n≠0) (hm:m=min n (l.length-p)) (i:Nat) (hi:i<l.length) :
  atC (pullV l p n s) i =
   if i<p then (if (atC l p).part=2/\i+1=p then blankC (atC l i).st else atC l i)
   else if i<l.length-m then (if (atC l (p+m)).part=2/\i=p then blankC (atC l (p+m)).st else atC l (i+m))
   else blankC s:=by
 unfold pullV;rw [<- hm,if_neg (by omega)]
 have h1:(mendV (l.take p)).length=p:=by rw [mendV_len,List.length_take];omega
 have h2:(mendV (l.drop (p+m))).length=l.length-(p+m):=by rw [mendV_len,List.length_drop]
 rw [app_at,app_at,List.length_append,h1,h2]
 by_cases c1:i<p
 ·rw [if_pos c1,if_pos (by omega),if_pos c1,mendT h p i c1]
 ·rw [if_neg c1,if_neg c1]
  by_cases c2:i<l.length-m
  ·rw [if_pos c2,if_pos (by omega),mendD h (p+m)]
   by_cases c3:(atC l (p+m)).part=2/\i=p
   ·rw [if_pos c3,if_pos ⟨c3.1,by omega⟩]
   ·rw [if_neg c3,if_neg (fun x=>c3 ⟨x.1,by omega⟩),show p+m+(i-p)=i+m by omega]
  ·rw [if_neg c2,if_neg (by omega),rowL_at _ _ _ (by omega)]
theorem pull_way {l:List Ce} (h:Right l) (p n m:Nat) (s:St) (hp:p<l.length) (hn:n≠0) (hm:m=min n (l.length-p)) :
  fillUp (moveL (partW (partW l p) (p+m)) p (p+m) (l.length-m-p)) (l.length-m) l.length s=pullV l p n s:=by
 refine ext_atC _ _ (by rw [fillUp_len,moveL_len,partW_len,partW_len,pullV_len l p n s (by omega)]) fun i hi=>?_
 rw [fillUp_len,moveL_len,partW_len,partW_len] at hi
 have hQ:∀ j,atC (partW (partW l p) (p+m)) j=_:=fun j=>partW2_at h p (p+m) j (by omega)
 have hQl:(partW (partW l p) (p+m)).length=l.length:=by rw [partW_len,partW_len]
 rw [fill_at _ _ _ _ _ (by rw [moveL_len,hQl];exact Nat.le_refl _),pullV_at h p n m s hp hn hm i hi]
 by_cases c1:i<p
 ·rw [if_neg (by omega),if_pos c1,moveL_at _ _ _ _ _ (by rw [hQl];exact hi),if_neg (by omega),hQ i]
  by_cases c2:(atC l p).part=2/\i+1=p
  ·rw [if_pos c2,if_pos (.inl ⟨c2.1,.inl c2.2⟩)]
  ·have:¬ (((atC l p).part=2/\(i+1=p\/i=p))\/((atC l (p+m)).part=2/\(i+1=p+m\/i=p+m))):=by
    rintro (⟨x,y⟩|⟨x,y⟩)
    ·exact c2 ⟨x,by omega⟩
    ·omega
   rw [if_neg c2,if_neg this]
 ·rw [if_neg c1]
  by_cases c2:i<l.length-m
  ·rw [if_pos c2,if_neg (by omega),moveL_at _ _ _ _ _ (by rw [hQl];exact hi),if_pos (by omega),hQ]
   have e1:p+m+(i-p)=i+m:=by omega
   rw [e1]
   by_cases c3:(atC l (p+m)).part=2/\i=p
   ·rw [if_pos c3,if_pos (.inr ⟨c3.1,.inr (by omega)⟩),c3.2]
   ·have:¬ (((atC l p).part=2/\(i+m+1=p\/i+m=p))\/((atC l (p+m)).part=2/\(i+m+1=p+m\/i+m=p+m))):=by
     rintro (⟨x,y⟩|⟨x,y⟩)
     ·omega
     ·exact c3 ⟨x,by omega⟩
    rw [if_neg c3,if_neg this]
  ·rw [if_neg c2,if_pos (by omega)]
open Go.ChangeShapes Go.WideShapes Go.ChangeAt Go.RowKit
def windL (L:List Ce) (q:Nat) (M:List Ce):List Ce:=L.take q++M++L.drop (q+M.length)
theorem windL_len (L:List Ce) (q:Nat) (M:List Ce) (h:q+M.length<=L.length):(windL L q M).length=L.length:=by unfold windL;simp;omega
theorem windL_at (L:List Ce) (q:Nat) (M:List Ce) (h:q+M.length<=L.length) (i:Nat):atC (windL L q M) i=if q<=i/\i<q+M.length then atC M (i-q) else atC L i:=by
 have h1:(L.take q).length=q:=by rw [List.length_take];omega
 unfold windL;rw [app_at,app_at,List.length_append,h1]
 by_cases c1:i<q
 ·rw [if_pos (by omega),if_pos c1,if_neg (by omega),atC_take L q i c1]
 ·by_cases c2:i<q+M.length
  ·rw [if_pos c2,if_neg c1,if_pos (by omega)]
  ·rw [if_neg c2,if_neg (by omega),atC_drop,show q+M.length+(i-(q+M.length))=i by omega]
theorem replC_flat (z:Ce) (k:Nat):(Builtin.zeroCells (ceL z).toArray k).toList=(List.replicate k z).flatMap ceL:=by
 apply List.ext_getElem?
 intro j;have hl:(ceL z).length=7:=rfl
 by_cases hj:j<k*7
 ·have h2:j % 7<7:=Nat.mod_lt _ (by decide)
  have e:=flat_get (List.replicate k z) (j / 7) (j % 7) (by simp;omega) h2;rw [show j / 7*7+j % 7=j by omega] at e
  rw [e]
  have ea:atC (List.replicate k z) (j / 7)=z:=by rw [atC_lt (by simp;omega)];simp
  rw [ea]
  simp only [Builtin.zeroCells,List.size_toArray,hl];rw [Array.getElem?_toList,Array.getElem?_map,Array.getElem?_range]
  rw [if_pos hj]
  simp only [Option.map_some];rw [getElem!_pos _ _ (by simpa [hl] using h2)]
  simp
 ·have h1:((Builtin.zeroCells (ceL z).toArray k).toList)[j]?=none:=by
   apply List.getElem?_eq_none;simp [Builtin.zeroCells,hl];omega
  have h2:((List.replicate k z).flatMap ceL)[j]?=none:=by
   apply List.getElem?_eq_none;rw [flat_len];simp;omega
  rw [h1,h2]
theorem under_cells:Tryz.prog.underlying 120=some (.slice 146):=by kernel_rfl
theorem zero_cell (w:World):(zeroValue 146).run Tryz.prog w=.ok (ceV Ce.zero) w:=by
 obtain ⟨i,hi,hz,_⟩:=info_parts info_cell;simp [zeroValue,typeInfo,hi,hz]
theorem clear_oc {w:World} {ops:Array Oper} {rest:List Oper} {o:Oper} {ac:Act} {Q:Exit->Act->World->Prop} (hgd:o.guard=none) (s:Operand)
  (ho:o.op=.call { callee:=.builtin .clear,args:=#[s],argTypes:=#[120] })
  (base g n cap q k c off:Nat) (L:List Ce) (h:OwnC w base (.slice (some ⟨g,0,none⟩) n cap) L) (hn:L.length=n) (hq:q+k<=n) (hoff:off=q*7) (hs:ac.eval s=.slice (some ⟨g,off,none⟩) k c)
  (hK:∀ w',OwnC w' base (.slice (some ⟨g,0,none⟩) n cap) (windL L q (List.replicate k Ce.zero))->w.grownBy w' (some g)->wpList Tryz.prog ops Q rest (ac.put o.dst (.tuple #[])) w') :
  wpList Tryz.prog ops Q (o::rest) ac w:=by
 subst hoff;refine wpList_plain hgd fun K hK'=>?_
 obtain ⟨cur,hg,hb,hc,hm,hsz,ht⟩:=h.cur hn;have hwin:=h.relaid hn cur hg q (List.replicate k Ce.zero) (by simpa using hq)
 by_cases h0:k=0
 ·subst h0
  have hrun:∀ ty,(Builtin.clear_ #[120] ty #[.slice (some ⟨g,q*7,none⟩) 0 c]).run Tryz.prog w=.ok (.tuple #[]) w:=fun ty=>by
   simp [Builtin.clear_,run_underlying under_cells]
  unfold Oper.wp;simp [execOp,ho,resolve,invoke,builtin,hs,hrun,Result.andThen];refine hK' _ _ (hK w ?_ ⟨rfl,rfl,rfl,Nat.le_refl _,fun _ _ _=>rfl⟩);have e:windL L q (List.replicate 0 Ce.zero)=L:=by simp [windL]
  rw [e];exact h
 ·have hfl:=flat_len (List.replicate k Ce.zero)
  rw [List.length_replicate] at hfl
  have hz:(ceV Ce.zero).cells=(ceL Ce.zero).toArray:=rfl;have hst:=run_storeCells_at Tryz.prog g (q*7) 146 ((List.replicate k Ce.zero).flatMap ceL) 0 cur w hg (by rw [hfl,hsz];omega) (flat_one _);rw [Nat.add_zero] at hst
  obtain ⟨m,rfl⟩:∃ m,k=m+1:=⟨k-1,by omega⟩
  have hrun:∀ ty,(Builtin.clear_ #[120] ty #[.slice (some ⟨g,q*7,none⟩) (m+1) c]).run Tryz.prog w=.ok (.tuple #[]) (w.setRow g (cur.toList.take (q*7)++(List.replicate (m+1) Ce.zero).flatMap ceL++cur.toList.drop (q*7+((List.replicate (m+1) Ce.zero).flatMap ceL).length)).toArray):=fun ty=>by
   simp only [Builtin.clear_];simp only [Sem.run_bind,run_underlying under_cells,Result.andThen_ok,zero_cell,hz,replC_flat,hst,List.getElem?_toArray,List.getElem?_cons_zero];simp
  unfold Oper.wp;simp [execOp,ho,resolve,invoke,builtin,hs,hrun,Result.andThen];have:=hK _ hwin.1 hwin.2;simp at this;exact hK' _ _ this
theorem made_zero (n:Nat):(madeCells (ceV Ce.zero).cells (n*7)).toList=(List.replicate n Ce.zero).flatMap ceL:=by
 apply List.ext_getElem?
 intro i
 by_cases hi:i<n*7
 ·have h1:i / 7<n:=by omega
  have h2:i % 7<7:=Nat.mod_lt _ (by decide);have e:i=i / 7*7+i % 7:=by omega
  have hr:((List.replicate n Ce.zero).flatMap ceL)[i]?=(ceL Ce.zero)[i % 7]?:=by
   conv=>lhs;rw [e]
   rw [flat_get _ (i / 7) (i % 7) (by simpa using h1) h2]
   simp [atC,h1]
  rw [hr]
  simp only [madeCells,Array.toList_map,List.getElem?_map,Array.toList_range];rw [List.getElem?_range hi]
  generalize he:i % 7=k at *;have hz:(ceV Ce.zero).cells.size=7:=rfl;simp only [Option.map_some,hz,he]
  match k,h2 with
  | 0,_=>rfl
  | 1,_=>rfl
  | 2,_=>rfl
  | 3,_=>rfl
  | 4,_=>rfl
  | 5,_=>rfl
  | 6,_=>rfl
 ·rw [List.getElem?_eq_none (by simp [size_madeCells];omega),List.getElem?_eq_none (by rw [flat_len];simp;omega)]
theorem make_oc {w:World} {ops:Array Oper} {rest:List Oper} {o:Oper} {ac:Act} {Q:Exit->Act->World->Prop} (hgd:o.guard=none) (x y:Operand)
  (ho:o.op=Op.makeSlice 120 x y) (n:Nat) (hx:ac.eval x=.int .i64 (n:Int)) (hy:ac.eval y=.int .i64 (n:Int)) (hn:n<=1073741824)
  (h:∀ w',OwnC w' w.heap.size (.slice (some ⟨w.heap.size,0,none⟩) n n) (List.replicate n Ce.zero)->Below w.heap.size w w'->wpList Tryz.prog ops Q rest (ac.put o.dst (.slice (some ⟨w.heap.size,0,none⟩) n n)) w') :
  wpList Tryz.prog ops Q (o::rest) ac w:=by
 obtain ⟨i0,hi,hz0,hz1,hz2⟩:=info_parts info_cell;refine wpList_make_full _ hgd x y 120 ho w.heap.size 146 i0 (ceV Ce.zero) 7 Tryz.underlying120 hi hz0 hz1 .i64 .i64 (n:Int) (n:Int) n hx hy rfl rfl (by rw [hz2];omega) (by unfold maxLen;omega) (Nat.le_refl _) (fun w' ho' hg=>?_);refine h w' ?_ ((Below.refl _ _).grown hg (Nat.le_refl _) (fun k hk=>by cases hk));rw [made_zero] at ho'
 unfold OwnC;rw [List.length_replicate]
 exact ho'
theorem run_copy_oc {w:World} (ty:TypeId) (base g n cap q:Nat) (L M:List Ce) (h:OwnC w base (.slice (some ⟨g,0,none⟩) n cap) L) (hn:L.length=n) (dp sp:Option Addr) (dLen dCap sLen sCap:Nat) (hM:M.length=Nat.min sLen dLen) (hq:q+M.length<=n)
  (hpos:0<M.length->dp=some ⟨g,q*7,none⟩/\∃ b off,sp=some ⟨b,off,none⟩/\∀ i,i<M.length->CeAt w b (off+i*7) (atC M i)) :
  ∃ w',(Builtin.copy_ #[120,120] ty #[.slice dp dLen dCap,.slice sp sLen sCap]).run Tryz.prog w=.ok (goInt M.length) w'/\OwnC w' base (.slice (some ⟨g,0,none⟩) n cap) (windL L q M)/\w.grownBy w' (some g):=by
 obtain ⟨i0,hi,hz0,hz1,hz2⟩:=info_parts info_cell;obtain ⟨cur,hg,hb,hc,hm,hsz,ht⟩:=h.cur hn;have hwin:=h.relaid hn cur hg q M hq
 by_cases h0:M.length=0
 ·have hM0:M=[]:=List.eq_nil_of_length_eq_zero h0
  subst hM0;have e:windL L q []=L:=by simp [windL]
  refine ⟨w,?_,by rw [e];exact h,⟨rfl,rfl,rfl,Nat.le_refl _,fun _ _ _=>rfl⟩⟩;have hm0:Nat.min sLen dLen=0:=by simpa using hM.symm
  cases sp<;>cases dp<;>simp [Builtin.copy_,run_underlying under_cells,Builtin.lenOf,Builtin.firstCells,sizeOf,typeInfo,hi,hm0,loadCells,loadCellsFrom,storeCells]
 ·obtain ⟨rfl,b,off,rfl,hsrc⟩:=hpos (by omega)
  refine ⟨_,?_,hwin.1,hwin.2⟩;have hl:=run_loadCells_list (P:=Tryz.prog) w ⟨b,off,none⟩ (M.flatMap ceL) (fun j v hj=>by rw [Addr.add_mid];exact flat_cells hsrc j v hj);rw [flat_len] at hl
  have hst:=run_storeCells_at Tryz.prog g (q*7) 146 (M.flatMap ceL) 0 cur w hg (by rw [flat_len,hsz];omega) (flat_one _);rw [Nat.add_zero] at hst
  simp [Builtin.copy_,run_underlying under_cells,Builtin.lenOf,Builtin.firstCells,sizeOf,typeInfo,hi,hz1,<- hM,hl,hst]
theorem copy_oc {w:World} {ops:Array Oper} {rest:List Oper} {o:Oper} {ac:Act} {Q:Exit->Act->World->Prop} (hgd:o.guard=none) (d s:Operand)
  (ho:o.op=.call { callee:=.builtin .copy,args:=#[d,s],argTypes:=#[120,120] })
  (base g n cap q:Nat) (L M:List Ce) (h:OwnC w base (.slice (some ⟨g,0,none⟩) n cap) L) (hn:L.length=n) (dp sp:Option Addr) (dLen dCap sLen sCap:Nat) (hd:ac.eval d=.slice dp dLen dCap) (hs:ac.eval s=.slice sp sLen sCap) (hM:M.length=Nat.min sLen dLen) (hq:q+M.length<=n)
  (hpos:0<M.length->dp=some ⟨g,q*7,none⟩/\∃ b off,sp=some ⟨b,off,none⟩/\∀ i,i<M.length->CeAt w b (off+i*7) (atC M i))
  (hK:∀ w',OwnC w' base (.slice (some ⟨g,0,none⟩) n cap) (windL L q M)->w.grownBy w' (some g)->wpList Tryz.prog ops Q rest (ac.put o.dst (goInt M.length)) w') :
  wpList Tryz.prog ops Q (o::rest) ac w:=by
 refine wpList_plain hgd fun K hK'=>?_
 obtain ⟨w',hrun,h1,h2⟩:=run_copy_oc (w:=w) o.type base g n cap q L M h hn dp sp dLen dCap sLen sCap hM hq hpos;unfold Oper.wp;simp [execOp,ho,resolve,invoke,builtin,hd,hs,hrun,Result.andThen];exact hK' _ _ (hK w' h1 h2)
theorem step_copy_oc {ops:Array Oper} {o:Oper} {ac:Act} {w:World} {K:Act->World->Prop} {Q:Exit->Act->World->Prop} {E:Prop} (hgd:o.guard=none) (d s:Operand)
  (ho:o.op=.call { callee:=.builtin .copy,args:=#[d,s],argTypes:=#[120,120] })
  (base g n cap q:Nat) (L M:List Ce) (h:OwnC w base (.slice (some ⟨g,0,none⟩) n cap) L) (hn:L.length=n) (dp sp:Option Addr) (dLen dCap sLen sCap:Nat) (hd:ac.eval d=.slice dp dLen dCap) (hs:ac.eval s=.slice sp sLen sCap) (hM:M.length=Nat.min sLen dLen) (hq:q+M.length<=n)
  (hpos:0<M.length->dp=some ⟨g,q*7,none⟩/\∃ b off,sp=some ⟨b,off,none⟩/\∀ i,i<M.length->CeAt w b (off+i*7) (atC M i))
  (hK:∀ w',OwnC w' base (.slice (some ⟨g,0,none⟩) n cap) (windL L q M)->w.grownBy w' (some g)->K (ac.put o.dst (goInt M.length)) w') :
  if Region.wanted o (yielded ops ac.tmps)=true then Oper.wp Tryz.prog o ac w K Q else E:=by
 have hw:Region.wanted o (yielded ops ac.tmps)=true:=by simp [Region.wanted,hgd]
 rw [if_pos hw]
 obtain ⟨w',hrun,h1,h2⟩:=run_copy_oc (w:=w) o.type base g n cap q L M h hn dp sp dLen dCap sLen sCap hM hq hpos;unfold Oper.wp;simp [execOp,ho,resolve,invoke,builtin,hd,hs,hrun,Result.andThen];exact hK w' h1 h2
def putRS (w:World) (g o:Nat) (r:Int) (s:St):World :=
 (((((w.setCell ⟨g,o,none⟩ (.int .i64 r)).setCell ⟨g,o+1,none⟩ (.int .i64 s.fore)).setCell ⟨g,o+2,none⟩ (.int .i64 s.back)).setCell ⟨g,o+3,none⟩ (.bool s.bold)).setCell ⟨g,o+4,none⟩ (.bool s.under)).setCell ⟨g,o+5,none⟩ (.bool s.turned)
theorem ownC_none (w:World) (base:Nat):OwnC w base (.slice none 0 0) []:=⟨rfl,.inl ⟨rfl,rfl⟩⟩
theorem toCS_copy (v:Value) (xs:List Ce) (w:World) (hv:SlC w v xs) (hl:xs.length<=1073741824) :
  Calls Tryz.prog 224 #[v] w fun e w'=>∃ u,e=.returned u/\OwnC w' w.heap.size u xs/\Below w.heap.size w w':=by
 have hto:=fun c W=>toCell_any c W
 unfold ceV at hto;obtain ⟨a,c,rfl,hc0⟩:=id hv;clear hc0;go_enter Tryz.func224,Tryz.ntmps224;go_wp2_with (refine make_oc rfl _ _ rfl xs.length rfl rfl hl ?_;intro w1 ho1 hb1);go_wp2;go_loopw [4] (fun i wr=>∃ (j:Nat) (ys:List Ce),i=.int .i64 j/\j<=xs.length/\ys.length=xs.length/\(∀ t,t<j->atC ys t=atC xs t)/\OC w.heap.size (.slice (some ⟨w.heap.size,0,none⟩) xs.length xs.length) ys w wr) (fun i _=>xs.length-(intOf i).toNat)
 case atStart=>exact ⟨0,_,rfl,Nat.zero_le _,List.length_replicate,(fun t h=>absurd h (Nat.not_lt_zero t)),ho1,hb1,hb1.size,Nat.le_refl _⟩
 case round =>
  clear ho1 hb1;obtain ⟨j,ys,rfl,hj,hyl,hys,k⟩:=hrel
  by_cases hlt:j<xs.length
  ·have hji:(j:Int)<(xs.length:Int):=by omega
   have hj0:(0:Int)<=(j:Int):=by omega
   obtain ⟨b,off,rfl,hbb,hat⟩:=(hv.below k.2.1).at j hlt;obtain ⟨c0,c1,c2,c3,c4,c5,c6⟩:=hat;go_wp2_with fail;refine (hto (atC xs j) _).mono ?_;rintro e w2 ⟨rfl,hb2⟩;have k2:=k.below hb2;have hp:=k2.1.put hyl j hlt (atC xs j);have kk:OC w.heap.size (.slice (some ⟨w.heap.size,0,none⟩) xs.length xs.length) (ys.set j (atC xs j)) w (putCe w2 w.heap.size (j*7) (atC xs j)):=k2.own hp.1 hp.2
   have hys2:∀ t,t<j+1->atC (ys.set j (atC xs j)) t=atC xs t:=by
    intro t ht;rw [atC_set]
    by_cases e:t=j
    ·subst e;rw [if_pos ⟨rfl,by omega⟩]
    ·rw [if_neg (fun h=>e h.1)];exact hys t (by omega)
   have hyl2:(ys.set j (atC xs j)).length=xs.length:=by simpa using hyl
   have hat:=k2.1.at hyl j hlt;have f0:=k2.1.frozen hyl (j*7);have f1:=k2.1.frozen hyl (j*7+1);have f2:=k2.1.frozen hyl (j*7+2);have f3:=k2.1.frozen hyl (j*7+3);have f4:=k2.1.frozen hyl (j*7+4);have f5:=k2.1.frozen hyl (j*7+5);have f6:=k2.1.frozen hyl (j*7+6);clear hp k hb2 hto hys c0 c1 c2 c3 c4 c5 c6 k2 hv hyl;generalize ys.set j (atC xs j)=ys2 at *;obtain ⟨c0,c1,c2,c3,c4,c5,c6⟩:=hat;simp only [putCe] at kk;go_wp2;go_roundw
   case rel=>exact ⟨j+1,ys2,by go_num,by omega,hyl2,hys2,kk⟩
   case measure=>simp [intOf];omega
  ·have hjn:j=xs.length:=by omega
   have hji:¬ (j:Int)<(xs.length:Int):=by omega
   have hye:ys=xs:=ext_atC _ _ hyl (fun i hi=>hys i (by omega));subst hye;clear hys hyl hv hto;go_wp2;go_ret;exact ⟨_,rfl,k.1,k.2.1⟩
theorem rowV_set {vs:List Value} {i:Nat} (hi:i<vs.length) (r:Value) (k:Nat):rowV (vs.set i r) k=if k=i then r else rowV vs k:=by
 unfold rowV
 by_cases e:k=i
 ·subst e;rw [if_pos rfl];simp [List.getD,hi]
 ·rw [if_neg e];simp [List.getD,Ne.symm e]
theorem rowX_set {rows:List (List Ce)} {i:Nat} (hi:i<rows.length) (x:List Ce) (k:Nat):rowX (rows.set i x) k=if k=i then x else rowX rows k:=by
 unfold rowX
 by_cases e:k=i
 ·subst e;rw [if_pos rfl];simp [List.getD,hi]
 ·rw [if_neg e];simp [List.getD,Ne.symm e]
theorem OwnG.set {w:World} {base B g n cap:Nat} {rows:List (List Ce)} (h:OwnG w base B (.slice (some ⟨g,0,none⟩) n cap) rows) (hn:rows.length=n) (i:Nat) (hi:i<n) (r:Value) (xs:List Ce) (hr:OwnC w base r xs) (hB:∀ q,r.ownBlock=some q->B<=q) :
  OwnG (w.setCell ⟨g,i,none⟩ r) base (w.setCell ⟨g,i,none⟩ r).heap.size (.slice (some ⟨g,0,none⟩) n cap) (rows.set i xs)/\w.grownBy (w.setCell ⟨g,i,none⟩ r) (some g):=by
 subst hn;obtain ⟨vs,hvl,hown,hrs,hlt,hd⟩:=h;have h0:=World.ownsRow.stored hown i r;have hap:∀ {u:Value} {ys:List Ce},OwnC w base u ys->OwnC (w.setCell ⟨g,i,none⟩ r) base u ys:=fun hu=>hu.kept h0.2 (outer_apart hown hu)
 have hs2:=h0.2.size;refine ⟨⟨vs.set i r,by simp [hvl],by rw [List.length_set];exact h0.1,fun k hk=>?_,fun k hk q e=>?_,fun a b hab hb q e=>?_⟩,h0.2⟩
 ·rw [List.length_set] at hk
  rw [rowV_set (by omega),rowX_set hi]
  by_cases e:k=i
  ·rw [if_pos e,if_pos e];exact hap hr
  ·rw [if_neg e,if_neg e];exact hap (hrs k hk)
 ·rw [List.length_set] at hk
  rw [rowV_set (by omega)] at e
  by_cases c:k=i
  ·rw [if_pos c] at e;have:=(hr.lt q e).2;omega
  ·rw [if_neg c] at e;have:=((hrs k hk).lt q e).2;omega
 ·rw [List.length_set] at hb
  rw [rowV_set (by omega)] at e
  rw [rowV_set (by omega)]
  by_cases c:a=i
  ·rw [if_pos c] at e
   rw [if_neg (by omega)]
   intro e2;have:=hlt b hb q e2;have:=hB q e;omega
  ·rw [if_neg c] at e
   by_cases c2:b=i
   ·rw [if_pos c2]
    intro e2;have:=hlt a (by omega) q e;have:=hB q e2;omega
   ·rw [if_neg c2];exact hd a b hab hb q e
theorem made_none (n:Nat):(madeCells (Value.slice none 0 0).cells (n*1)).toList=List.replicate n (Value.slice none 0 0):=by
 apply List.ext_getElem?
 intro i
 by_cases hi:i<n
 ·simp [madeCells,Value.cells,hi,Nat.mod_one]
 ·simp [madeCells,Value.cells,hi]
theorem make_og {w:World} {ops:Array Oper} {rest:List Oper} {o:Oper} {ac:Act} {Q:Exit->Act->World->Prop} (hgd:o.guard=none) (x y:Operand)
  (ho:o.op=Op.makeSlice 24 x y) (n:Nat) (hx:ac.eval x=.int .i64 (n:Int)) (hy:ac.eval y=.int .i64 (n:Int)) (hn:n<=1073741824)
  (h:∀ w',OwnG w' w.heap.size w'.heap.size (.slice (some ⟨w.heap.size,0,none⟩) n n) (List.replicate n [])->Below w.heap.size w w'->wpList Tryz.prog ops Q rest (ac.put o.dst (.slice (some ⟨w.heap.size,0,none⟩) n n)) w') :
  wpList Tryz.prog ops Q (o::rest) ac w:=by
 obtain ⟨i0,hi,hz0,hz1,hz2⟩:=info_parts info_row;refine wpList_make_full _ hgd x y 24 ho w.heap.size 120 i0 (.slice none 0 0) 1 under_rows hi hz0 hz1 .i64 .i64 (n:Int) (n:Int) n hx hy rfl rfl (by rw [hz2];omega) (by unfold maxLen;omega) (Nat.le_refl _) (fun w' ho' hg=>?_);rw [made_none] at ho'
 have hv:∀ i,rowV (List.replicate n (Value.slice none 0 0)) i=.slice none 0 0:=fun i=>by
  unfold rowV;by_cases hi:i<n<;>simp [List.getD,hi]
 have hr:∀ i,rowX (List.replicate n ([]:List Ce)) i=[]:=fun i=>by
  unfold rowX;by_cases hi:i<n<;>simp [List.getD,hi]
 have hG:OwnG w' w.heap.size w'.heap.size (.slice (some ⟨w.heap.size,0,none⟩) n n) (List.replicate n []) :=
  ⟨List.replicate n (.slice none 0 0),by simp,by rw [List.length_replicate];exact ho',fun i _=>by rw [hv,hr];exact ownC_none _ _,(fun i _ g e=>by rw [hv] at e;cases e),(fun i j _ _ g e=>by rw [hv] at e;cases e)⟩
 exact h w' hG ((Below.refl _ _).grown hg (Nat.le_refl _) (fun k hk=>by cases hk))
theorem toCSS_copy (v:Value) (rows:List (List Ce)) (w:World) (hv:SlG w v rows) (hl:rows.length<=1073741824) (hx:∀ i,i<rows.length->(rowX rows i).length<=1073741824) :
  Calls Tryz.prog 162 #[v] w fun e w'=>∃ u,e=.returned u/\OwnG w' w.heap.size w'.heap.size u rows/\Below w.heap.size w w':=by
 obtain ⟨a,c,vs,rfl,hcp,_,hr,hs⟩:=id hv;go_enter Tryz.func162,Tryz.ntmps162;go_wp2_with (refine make_og rfl _ _ rfl rows.length rfl rfl hl ?_;intro w1 ho1 hb1);go_wp2;go_loopw [4] (fun i wr=>∃ (j:Nat) (R:List (List Ce)),i=.int .i64 j/\j<=rows.length/\R.length=rows.length/\(∀ t,t<j->rowX R t=rowX rows t)/\OwnG wr w.heap.size wr.heap.size (.slice (some ⟨w.heap.size,0,none⟩) rows.length rows.length) R/\Below w.heap.size w wr) (fun i _=>rows.length-(intOf i).toNat)
 case atStart=>exact ⟨0,_,rfl,Nat.zero_le _,List.length_replicate,(fun t h=>absurd h (Nat.not_lt_zero t)),ho1,hb1⟩
 case round =>
  clear ho1 hb1;obtain ⟨j,R,rfl,hj,hRl,hR,k,kb⟩:=hrel
  by_cases hlt:j<rows.length
  ·have hji:(j:Int)<(rows.length:Int):=by omega
   have hj0:(0:Int)<=(j:Int):=by omega
   rcases hr with h|⟨b,off,rfl,hbb,hrc⟩
   ·rw [h] at hlt;simp at hlt
   have hsj:=(hs j hlt).below kb;have hcj:=(kb.cell (p:=⟨b,off+j,none⟩) hbb).trans (hrc j hlt);obtain ⟨aj,cj,ev,_⟩:=id hsj;rw [ev] at hcj hsj
   have hto:=toCS_copy _ _ wr hsj (hx j hlt);clear hs hrc ev hsj hv;go_wp2_with fail;refine hto.mono ?_;rintro e w2 ⟨r,rfl,hor,hb2⟩;have hk2:=(k.below hb2).set hRl j hlt r _ (hor.low kb.size) (fun q e=>(hor.lt q e).1)
   have hw0:∃ cur,w2.cell? ⟨w.heap.size,j,none⟩=some cur:=by
    obtain ⟨vs2,hvl2,hown2,_⟩:=k.below hb2;rw [hRl] at hown2
    exact ⟨_,by rw [World.ownsRow.cellAt hown2 j (by omega),rowV_get (by omega)]⟩
   have hfz:w2.frozen? ⟨w.heap.size,j,none⟩=false:=by
    obtain ⟨vs2,hvl2,hown2,_⟩:=k.below hb2;rw [hRl] at hown2
    exact World.ownsRow.frozenAt hown2 j
   have kb3:=(kb.trans (hb2.mono kb.size)).grown hk2.2 (by have:=kb.size;have:=hb2.size;omega) (fun g e=>by cases e;exact Nat.le_refl _)
   have hR2:∀ t,t<j+1->rowX (R.set j (rowX rows j)) t=rowX rows t:=fun t ht=>by
    rw [rowX_set (by omega)]
    by_cases e:t=j
    ·rw [if_pos e,e]
    ·rw [if_neg e];exact hR t (by omega)
   have hRl2:(R.set j (rowX rows j)).length=rows.length:=by simpa using hRl
   have kk:=hk2.1;obtain ⟨cur,hcur⟩:=hw0;obtain ⟨ra,rn,rc,rfl⟩:∃ a n c,r=Value.slice a n c:=by rcases hor.shape with ⟨h,_⟩|⟨_,_,h,_⟩<;>exact ⟨_,_,_,h⟩
   clear k kb hor hb2 hto hk2 hR hRl hcj;generalize R.set j (rowX rows j)=R2 at *;go_wp2;go_roundw
   case rel=>exact ⟨j+1,R2,by go_num,by omega,hRl2,hR2,kk,kb3⟩
   case measure=>simp [intOf];omega
  ·have hjn:j=rows.length:=by omega
   have hji:¬ (j:Int)<(rows.length:Int):=by omega
   have hye:R=rows:=by
    apply List.ext_getElem hRl
    intro i h1 h2;rw [<- rowX_lt h1,<- rowX_lt h2]
    exact hR i (by omega)
   subst hye;clear hs hr hR hv;go_wp2;go_ret;exact ⟨_,rfl,k,kb⟩
def NG (M B:Nat) (cols:Int) (u:Value) (rows:List (List Ce)) (w0 W:World):Prop :=
 GrW W M 0 (.slice none 0 0)/\GrW W (M+1) cols u/\OwnG W (M+2) B u rows/\M+2<=W.heap.size/\B<=W.heap.size/\Below M w0 W
theorem NG.below {M B:Nat} {cols:Int} {u:Value} {rows:List (List Ce)} {w0 W W':World} (k:NG M B cols u rows w0 W) (hb:Below W.heap.size W W'):NG M B cols u rows w0 W' :=
 ⟨k.1.below hb,k.2.1.below hb,k.2.2.1.below hb,Nat.le_trans k.2.2.2.1 hb.size,Nat.le_trans k.2.2.2.2.1 hb.size,k.2.2.2.2.2.trans (hb.mono (by have:=k.2.2.2.1;omega))⟩
theorem NG.drew {M B:Nat} {cols:Int} {u:Value} {rows:List (List Ce)} {w0 W:World} (k:NG M B cols u rows w0 W):NG M B cols u rows w0 W.drew:=k.below (bdr W)
theorem NG.more {M B:Nat} {cols:Int} {u v':Value} {rows rows':List (List Ce)} {w0 W W':World} (k:NG M B cols u rows w0 W) (ho:OwnG W' (M+2) W'.heap.size v' rows') (hg:W.grownBy W' u.ownBlock) :
  GrW W' M 0 (.slice none 0 0)/\GrW W' (M+1) cols u/\OwnG W' (M+2) W'.heap.size v' rows'/\M+2<=W'.heap.size/\W'.heap.size<=W'.heap.size/\Below M w0 W':=by
 have hne:∀ g,u.ownBlock=some g->M+2<=g:=fun g e=>(k.2.2.1.lt g e).1
 refine ⟨k.1.grown hg (fun e=>by have:=hne _ e;omega),k.2.1.grown hg (fun e=>by have:=hne _ e;omega),ho,Nat.le_trans k.2.2.2.1 hg.size,Nat.le_refl _,?_⟩;exact k.2.2.2.2.2.grown hg (by have:=k.2.2.2.1;omega) (fun g e=>by have:=hne g e;omega)
theorem ng_put {M:Nat} {cols:Int} {u:Value} {rows:List (List Ce)} {w0 W:World} {v':Value} (k:GrW W M 0 (.slice none 0 0)/\GrW W (M+1) cols u/\OwnG W (M+2) W.heap.size v' rows/\M+2<=W.heap.size/\W.heap.size<=W.heap.size/\Below M w0 W) :
  NG M (putG W (M+1) v').heap.size cols v' rows w0 (putG W (M+1) v'):=by
 have hg:=putG_grown W (M+1) v';refine ⟨k.1.grown hg (fun e=>by cases e),k.2.1.put v',((k.2.2.1).kept hg (fun g e=>by cases e;omega)).up hg.size,Nat.le_trans k.2.2.2.1 hg.size,Nat.le_refl _,?_⟩;exact k.2.2.2.2.2.grown hg (by have:=k.2.2.2.1;omega) (fun g e=>by cases e;omega)
theorem l5New_any (cols n:Nat) (w:World) (hc:cols<=1000) (hn:n<=1000) :
  Calls Tryz.prog 138 #[.int .i64 cols,.int .i64 n] w fun e w'=>∃ u,e=.returned (gridV cols u)/\OwnG w' w.heap.size w'.heap.size u (newR cols n)/\Below w.heap.size w w':=by
 have hrow:=fun W=>l4Row_any cols St.zero W hc
 unfold stV at hrow;simp only [St.zero] at hrow
 have k0:NG w.heap.size ((w.alloc (Obj.cells #[Value.int IntKind.i64 0,Value.slice none 0 0] 26)).alloc (Obj.cells #[Value.int IntKind.i64 cols,Value.slice none 0 0] 26)).heap.size cols (.slice none 0 0) [] w ((w.alloc (Obj.cells #[Value.int IntKind.i64 0,Value.slice none 0 0] 26)).alloc (Obj.cells #[Value.int IntKind.i64 cols,Value.slice none 0 0] 26)):=by
  have h1:=GrW.new w 0 (.slice none 0 0) 26;have h2:=GrW.new (w.alloc (Obj.cells #[Value.int IntKind.i64 0,Value.slice none 0 0] 26)) cols (.slice none 0 0) 26;have hb1:=bal' w (Obj.cells #[Value.int IntKind.i64 0,Value.slice none 0 0] 26);have e:(w.alloc (Obj.cells #[Value.int IntKind.i64 0,Value.slice none 0 0] 26)).heap.size=w.heap.size+1:=by simp
  rw [e] at h2
  exact ⟨h1.below (bal' _ _),h2,ownG_none _ _ _,by simp,Nat.le_refl _,hb1.trans ((bal' _ _).mono (by simp))⟩
 go_enter Tryz.func138,Tryz.ntmps138;go_wp2;go_loopw [6] (fun i wr=>∃ j:Nat,i=.int .i64 j/\j<=n/\∃ u,NG w.heap.size wr.heap.size cols u (newR cols j) w wr) (fun i _=>n-(intOf i).toNat)
 case atStart=>exact ⟨0,rfl,Nat.zero_le _,_,k0⟩
 case round =>
  clear k0;obtain ⟨j,rfl,hj,u,k⟩:=hrel
  by_cases hlt:j<n
  ·have hji:(j:Int)<(n:Int):=by omega
   have hsn:Hid (newR cols (j+1)=newR cols j++[rowL cols St.zero]):=newR_snoc cols j;have hlr:(newR cols j).length<2000000:=by simp [newR];omega
   generalize hBB:wr.heap.size=B at k;generalize newR cols j=rows at *;obtain ⟨⟨_,⟨d0,d1⟩,⟨y0,y1⟩⟩,⟨_,⟨c0,c1⟩,⟨z0,z1⟩⟩,_⟩:=id k;go_wp2;refine wp_region_noPanic ?_;refine wp_region_held_drew (S:=fun _=>True) (by kernel_rfl) trivial (fun hHeld=>?_);refine tk 0 ?_;refine tk 2 ?_;refine tk 3 ?_;refine rd2 1 4 (fun K hK=>?_) fun K hK=>?_
   ·go_simp
    refine hK.out _ _ trivial (fun hHeld=>?_);clear hK K;refine rd 4 fun K hK=>?_
    go_simp;refine (hrow _).mono ?_;rintro e w2 ⟨r,rfl,hor,hb2⟩;have k2:=k.drew.below hb2;have hB2:∀ g,r.ownBlock=some g->B<=g:=fun g e=>Nat.le_trans k.2.2.2.2.1 ((hor.lt g e).1)
    have hor2:=hor.low k.2.2.2.1;clear hor hb2 k hrow;obtain ⟨⟨_,⟨d0,d1⟩,⟨y0,y1⟩⟩,⟨_,⟨c0,c1⟩,⟨z0,z1⟩⟩,_⟩:=id k2;obtain ⟨ra,rn,rc,rfl⟩:∃ a n c,r=Value.slice a n c:=by rcases hor2.shape with ⟨h,_⟩|⟨_,_,h,_⟩<;>exact ⟨_,_,_,h⟩
    go_wp2_with fail;refine hK.out _ _ trivial (fun hHeld=>?_);clear hK K;refine rd 5 fun K hK=>?_
    go_simp;refine hK.out _ _ trivial (fun hHeld=>?_);clear hK K;refine rd 6 fun K hK=>?_
    refine step_append_og (by rfl) _ _ (by rfl) (w.heap.size+2) B _ _ _ _ (by rfl) k2.2.2.1 hor2 hB2 k2.2.2.2.1 hlr _ rfl (by rfl) ?_;intro v' w' ho' hg';have k4:=(k2.below (bal' _ _)).more ho' hg';clear k2 ho' hg' hor2 hB2 d0 d1 y0 y1 c0 c1 z0 z1;obtain ⟨⟨_,⟨d0,d1⟩,⟨y0,y1⟩⟩,⟨_,⟨c0,c1⟩,⟨z0,z1⟩⟩,_⟩:=id k4;obtain ⟨va,vn,vc,rfl⟩:∃ a n c,v'=Value.slice a n c:=by rcases k4.2.2.1.shape with ⟨h,_⟩|⟨_,_,h,_⟩<;>exact ⟨_,_,_,h⟩
    refine hK.out _ _ trivial (fun hHeld=>?_);clear hK K;refine tk 7 ?_;refine rd 8 fun K hK=>?_
    go_simp;refine hK.out _ _ trivial (fun hHeld=>?_);clear hK K
    (try simp only [Act.put,ZA,ZB,ZC,ZD,ZE,ZF])
    refine dn ?_;have k5:=ng_put k4;simp only [putG] at k5;clear k4 d0 d1 y0 y1 c0 c1 z0 z1;go_wp2;go_roundw
    case rel=>exact ⟨j+1,by go_num,by omega,_,by rw [hsn.out];exact k5⟩
    case measure=>simp [intOf];omega
   ·go_simp
    refine (hrow _).mono ?_;rintro e w2 ⟨r,rfl,hor,hb2⟩;have k2:=k.drew.below hb2;have hB2:∀ g,r.ownBlock=some g->B<=g:=fun g e=>Nat.le_trans k.2.2.2.2.1 ((hor.lt g e).1)
    have hor2:=hor.low k.2.2.2.1;clear hor hb2 k hrow;obtain ⟨⟨_,⟨d0,d1⟩,⟨y0,y1⟩⟩,⟨_,⟨c0,c1⟩,⟨z0,z1⟩⟩,_⟩:=id k2;obtain ⟨ra,rn,rc,rfl⟩:∃ a n c,r=Value.slice a n c:=by rcases hor2.shape with ⟨h,_⟩|⟨_,_,h,_⟩<;>exact ⟨_,_,_,h⟩
    go_wp2_with fail;refine hK.out _ _ trivial (fun hHeld=>?_);clear hK K;refine rd2 1 5 (fun K hK=>?_) fun K hK=>?_
    ·go_simp
     refine hK.out _ _ trivial (fun hHeld=>?_);clear hK K;refine rd 5 fun K hK=>?_
     go_simp;refine hK.out _ _ trivial (fun hHeld=>?_);clear hK K;refine rd 6 fun K hK=>?_
     refine step_append_og (by rfl) _ _ (by rfl) (w.heap.size+2) B _ _ _ _ (by rfl) k2.2.2.1 hor2 hB2 k2.2.2.2.1 hlr _ rfl (by rfl) ?_;intro v' w' ho' hg';have k4:=(k2.below (bal' _ _)).more ho' hg';clear k2 ho' hg' hor2 hB2 d0 d1 y0 y1 c0 c1 z0 z1;obtain ⟨⟨_,⟨d0,d1⟩,⟨y0,y1⟩⟩,⟨_,⟨c0,c1⟩,⟨z0,z1⟩⟩,_⟩:=id k4;obtain ⟨va,vn,vc,rfl⟩:∃ a n c,v'=Value.slice a n c:=by rcases k4.2.2.1.shape with ⟨h,_⟩|⟨_,_,h,_⟩<;>exact ⟨_,_,_,h⟩
     refine hK.out _ _ trivial (fun hHeld=>?_);clear hK K;refine tk 7 ?_;refine rd 8 fun K hK=>?_
     go_simp;refine hK.out _ _ trivial (fun hHeld=>?_);clear hK K
     (try simp only [Act.put,ZA,ZB,ZC,ZD,ZE,ZF])
     refine dn ?_;have k5:=ng_put k4;simp only [putG] at k5;clear k4 d0 d1 y0 y1 c0 c1 z0 z1;go_wp2;go_roundw
     case rel=>exact ⟨j+1,by go_num,by omega,_,by rw [hsn.out];exact k5⟩
     case measure=>simp [intOf];omega
    ·go_simp
     refine hK.out _ _ trivial (fun hHeld=>?_);clear hK K;refine rd 1 fun K hK=>?_
     go_simp;refine hK.out _ _ trivial (fun hHeld=>?_);clear hK K;refine rd 6 fun K hK=>?_
     refine step_append_og (by rfl) _ _ (by rfl) (w.heap.size+2) B _ _ _ _ (by rfl) k2.2.2.1 hor2 hB2 k2.2.2.2.1 hlr _ rfl (by rfl) ?_;intro v' w' ho' hg';have k4:=(k2.below (bal' _ _)).more ho' hg';clear k2 ho' hg' hor2 hB2 d0 d1 y0 y1 c0 c1 z0 z1;obtain ⟨⟨_,⟨d0,d1⟩,⟨y0,y1⟩⟩,⟨_,⟨c0,c1⟩,⟨z0,z1⟩⟩,_⟩:=id k4;obtain ⟨va,vn,vc,rfl⟩:∃ a n c,v'=Value.slice a n c:=by rcases k4.2.2.1.shape with ⟨h,_⟩|⟨_,_,h,_⟩<;>exact ⟨_,_,_,h⟩
     refine hK.out _ _ trivial (fun hHeld=>?_);clear hK K;refine tk 7 ?_;refine rd 8 fun K hK=>?_
     go_simp;refine hK.out _ _ trivial (fun hHeld=>?_);clear hK K
     (try simp only [Act.put,ZA,ZB,ZC,ZD,ZE,ZF])
     refine dn ?_;have k5:=ng_put k4;simp only [putG] at k5;clear k4 d0 d1 y0 y1 c0 c1 z0 z1;go_wp2;go_roundw
     case rel=>exact ⟨j+1,by go_num,by omega,_,by rw [hsn.out];exact k5⟩
     case measure=>simp [intOf];omega
  ·have hjn:j=n:=by omega
   have hji:¬ (j:Int)<(n:Int):=by omega
   subst hjn;clear hrow;obtain ⟨⟨_,⟨d0,d1⟩,⟨y0,y1⟩⟩,⟨_,⟨c0,c1⟩,⟨z0,z1⟩⟩,_⟩:=id k;obtain ⟨ua,un,uc,rfl⟩:∃ a n c,u=Value.slice a n c:=by rcases k.2.2.1.shape with ⟨h,_⟩|⟨_,_,h,_⟩<;>exact ⟨_,_,_,h⟩
   have kF:=(k.1.put2 cols (.slice ua un uc)).2.1;have hgF:=putG2_grown wr w.heap.size cols (.slice ua un uc);have hoF:=((k.2.2.1).kept hgF (fun g e=>by cases e;omega)).up hgF.size;have hbF:=k.2.2.2.2.2.grown hgF (by omega) (fun g e=>by cases e;omega);obtain ⟨f0,f1⟩:=kF;simp only [putG2] at f0 f1 hoF hbF;clear hgF;go_wp2;exact bodyPost_ret (v:=.agg #[.int .i64 cols,.slice ua un uc]) (by simp [results,Tryz.results138,go_sem,f0,f1]) rfl ⟨_,rfl,hoF.low (by omega),hbF⟩
def newOk (cols n:Int):Prop:=(1<=cols/\cols<=60)/\(1<=n/\n<=30)
instance (cols n:Int):Decidable (newOk cols n):=by unfold newOk;exact inferInstance
theorem toGrid_copy (cols:Int) (v:Value) (rows:List (List Ce)) (w:World) (hv:SlG w v rows) (hl:rows.length<=1073741824) (hx:∀ i,i<rows.length->(rowX rows i).length<=1073741824) :
  Calls Tryz.prog 91 #[gridV cols v] w fun e w'=>∃ u,e=.returned (gridV cols u)/\OwnG w' w.heap.size w'.heap.size u rows/\Below w.heap.size w w':=by
 have hto:=fun W h=>toCSS_copy v rows W h hl hx
 have hG0:=GrN.new w cols v 60;have hb0:=bal' w (Obj.cells #[.int .i64 cols,v] 60);have e0:(w.alloc (Obj.cells #[.int .i64 cols,v] 60)).heap.size=w.heap.size+1:=by simp
 have hvv:=hv;obtain ⟨a,c,vs,rfl,_⟩:=id hv;have hv1:=hvv.below hb0;unfold gridV;generalize hw1:w.alloc (Obj.cells #[.int .i64 cols,.slice a rows.length c] 60)=w1 at *;have hR:=GrW.new w1 0 (.slice none 0 0) 26;have hb1:=bal' w1 (Obj.cells #[Value.int IntKind.i64 0,Value.slice none 0 0] 26);have e1:(w1.alloc (Obj.cells #[Value.int IntKind.i64 0,Value.slice none 0 0] 26)).heap.size=w.heap.size+2:=by simp;omega
 have hO:=GrW.new (w1.alloc (Obj.cells #[Value.int IntKind.i64 0,Value.slice none 0 0] 26)) cols (.slice none 0 0) 26;have hb2:=bal' (w1.alloc (Obj.cells #[Value.int IntKind.i64 0,Value.slice none 0 0] 26)) (Obj.cells #[Value.int IntKind.i64 cols,Value.slice none 0 0] 26);rw [e1] at hO
 rw [e0] at hR
 have hR2:=hR.below hb2;have hbb:=hb1.trans (hb2.mono hb1.size);have hv2:=hv1.below hbb;have e3:((w1.alloc (Obj.cells #[Value.int IntKind.i64 0,Value.slice none 0 0] 26)).alloc (Obj.cells #[Value.int IntKind.i64 cols,Value.slice none 0 0] 26)).heap.size=w.heap.size+3:=by simp;omega
 subst hw1;obtain ⟨_,g0,g1⟩:=id hG0;go_enter Tryz.func91,Tryz.ntmps91;go_wp2_with fail;refine (hto _ hv2).mono ?_;rintro e w4 ⟨u,rfl,hou,hb4⟩;have hR4:=hR2.below hb4;have hO4:=hO.below hb4;obtain ⟨ua,un,uc,rfl⟩:∃ a n c,u=Value.slice a n c:=by rcases hou.shape with ⟨h,_⟩|⟨_,_,h,_⟩<;>exact ⟨_,_,_,h⟩
 have hs4:=hb4.size;rw [e3] at hou hs4
 have hg5:=putG_grown w4 (w.heap.size+2) (.slice ua un uc);have hO5:=hO4.put (.slice ua un uc);have hR5:=hR4.grown hg5 (fun e=>by simp at e);have ho5:=(hou.kept hg5 (fun g e=>by cases e;omega)).up hg5.size;have hbase:=hb0.trans ((hbb.trans (hb4.mono hbb.size)).mono hb0.size);have hb5:=hbase.grown hg5 (by omega) (fun g e=>by cases e;omega);have hs5:=hg5.size;have hg6:=putG2_grown (putG w4 (w.heap.size+2) (.slice ua un uc)) (w.heap.size+1) cols (.slice ua un uc);have kF:=(hR5.put2 cols (.slice ua un uc)).2.1;have ho6:=(ho5.kept hg6 (fun g e=>by cases e;omega)).up hg6.size;have hb6:=hb5.grown hg6 (by omega) (fun g e=>by cases e;omega);clear hG0 hb0 e0 hR hb1 e1 hO hb2 hR2 hbb hv1 hv2 hvv hto e3 hbase hb4 hs4 hs5 hg5 hg6 hb5 ho5 hou g0 g1;obtain ⟨_,⟨d0,d1⟩,⟨y0,y1⟩⟩:=hR4;obtain ⟨_,⟨c0,c1⟩,⟨z0,z1⟩⟩:=hO4;obtain ⟨_,⟨p0,p1⟩,⟨q0,q1⟩⟩:=hO5;obtain ⟨_,⟨r0,r1⟩,⟨s0,s1⟩⟩:=hR5;obtain ⟨f0,f1⟩:=kF;simp only [putG,putG2] at f0 f1 ho6 hb6 p0 p1 q0 q1 r0 r1 s0 s1;go_wp2;exact bodyPost_ret (v:=.agg #[.int .i64 cols,.slice ua un uc]) (by simp [results,Tryz.results91,go_sem,f0,f1]) rfl ⟨_,rfl,ho6.low (by omega),hb6⟩
def leftG (rows:List (List Ce)) (left:Nat):Nat->Option Nat
 | 0=>if left<rows.length then none else some (left-rows.length)
 | j+1=>match leftG rows left j with
  | none=>none
  | some m=>if m<(rowX rows j).length then none else some (m-(rowX rows j).length)
def szG (rows:List (List Ce)) (left:Nat):Int:=match leftG rows left rows.length with|none=>-1|some m=>m
theorem leftG_none {rows:List (List Ce)} {left j:Nat} (h:leftG rows left j=none):∀ k,j<=k->leftG rows left k=none
 | 0,hk=>by have:j=0:=by omega
        subst this;exact h
 | k+1,hk=>by
  by_cases e:j=k+1
  ·subst e;exact h
  ·have:=leftG_none h k (by omega)
   rw [leftG,this]
theorem leftG_le {rows:List (List Ce)} {left:Nat}:∀ {j m:Nat},leftG rows left j=some m->m<=left/\rows.length<=left/\∀ i,i<j->(rowX rows i).length<=left
 | 0,m,h=>by
  rw [leftG] at h
  split at h
  ·cases h
  ·cases h;exact ⟨by omega,by omega,fun i hi=>absurd hi (Nat.not_lt_zero i)⟩
 | j+1,m,h=>by
  rw [leftG] at h
  split at h
  ·cases h
  ·rename_i q hq
   split at h
   ·cases h
   ·cases h
    obtain ⟨h1,h2,h3⟩:=leftG_le hq;refine ⟨by omega,h2,fun i hi=>?_⟩
    by_cases e:i=j
    ·subst e;omega
    ·exact h3 i (by omega)
theorem szCSS_any (v:Value) (rows:List (List Ce)) (left:Nat) (w:World) (hv:SlG w v rows) (hl:rows.length<=maxLen) (hx:∀ i,i<rows.length->(rowX rows i).length<=maxLen) (hf:left<=4611686018427387904) :
  Calls Tryz.prog 161 #[v,.int .i64 left] w fun e w'=>e=.returned (.int .i64 (szG rows left))/\w'=w:=by
 unfold maxLen at hl;obtain ⟨a,c,vs,rfl,hcp,_,hr,hs⟩:=id hv
 by_cases h:left<rows.length
 ·have h2:(left:Int)-(rows.length:Int)<0:=by omega
  have hz:Hid (szG rows left=-1):=by show _=_;unfold szG;rw [leftG_none (j:=0) (by rw [leftG,if_pos h]) _ (Nat.zero_le _)]
  clear hs hr;go_enter Tryz.func161,Tryz.ntmps161;go_wp2;go_ret;exact ⟨by rw [hz.out];rfl,rfl⟩
 ·have h2:¬ (left:Int)-(rows.length:Int)<0:=by omega
  have h3:Hid (leftG rows left 0=some (left-rows.length)):=by show _=_;rw [leftG,if_neg h]
  have h4:Hid ((left:Int)-(rows.length:Int)=((left-rows.length:Nat):Int)):=by show _=_;omega
  go_enter Tryz.func161,Tryz.ntmps161;go_wp2;go_loopw [1,5] (fun u i wr=>∃ j m:Nat,i=.int .i64 j/\u=.int .i64 m/\j<=rows.length/\Hid (leftG rows left j=some m)/\wr=w) (fun _ i _=>rows.length-(intOf i).toNat)
  case atStart=>exact ⟨0,left-rows.length,rfl,by rw [<- h4.out],Nat.zero_le _,h3,rfl⟩
  case round =>
   clear h3 h4 h2 h;obtain ⟨j,m,rfl,rfl,hj,hm,hw⟩:=hrel;subst hw
   by_cases hlt:j<rows.length
   ·have hji:(j:Int)<(rows.length:Int):=by omega
    have hj0:(0:Int)<=(j:Int):=by omega
    rcases hr with h|⟨b,off,rfl,hbb,hrc⟩
    ·rw [h] at hlt;simp at hlt
    have hsj:=hs j hlt;have hcj:=hrc j hlt;obtain ⟨aj,cj,ev,_⟩:=id hsj;rw [ev] at hcj hsj
    have hsz:=szC_any _ _ m wr hsj (hx j hlt) (by have:=(leftG_le hm.out).1;omega);clear hs hrc ev hsj hv
    by_cases h5:m<(rowX rows j).length
    ·have hz:Hid (szG rows left=-1):=by show _=_;unfold szG;rw [leftG_none (j:=j+1) (by rw [leftG,hm.out];simp [h5]) _ hlt]
     rw [if_pos h5] at hsz
     go_wp2_with fail;refine hsz.mono ?_;rintro e w2 ⟨rfl,hw2⟩;subst hw2;go_wp2;go_ret;exact ⟨by rw [hz.out];rfl,rfl⟩
    ·have hm2:Hid (leftG rows left (j+1)=some (m-(rowX rows j).length)):=by show _=_;rw [leftG,hm.out];simp [h5]
     have h6:¬ (((m-(rowX rows j).length:Nat):Int)<0):=by omega
     rw [if_neg h5] at hsz
     generalize m-(rowX rows j).length=m2 at *;go_wp2_with fail;refine hsz.mono ?_;rintro e w2 ⟨rfl,hw2⟩;subst hw2;go_wp2;go_roundw
     case rel=>exact ⟨j+1,m2,by go_num,rfl,by omega,hm2,trivial⟩
     case measure=>simp [intOf];omega
   ·have hjn:j=rows.length:=by omega
    have hji:¬ (j:Int)<(rows.length:Int):=by omega
    subst hjn;have hz:Hid (szG rows left=(m:Int)):=by show _=_;unfold szG;rw [hm.out]
    clear hs hr hv;go_wp2;go_ret;exact ⟨by rw [hz.out];rfl,rfl⟩
theorem szGrid_any (cols:Int) (v:Value) (rows:List (List Ce)) (left:Nat) (w:World) (hv:SlG w v rows) (hl:rows.length<=maxLen) (hx:∀ i,i<rows.length->(rowX rows i).length<=maxLen) (hf:left<=4611686018427387904) :
  Calls Tryz.prog 87 #[gridV cols v,.int .i64 left] w fun e w'=>e=.returned (.int .i64 (szG rows left))/\Below w.heap.size w w':=by
 have hb0:=bal' w (Obj.cells #[.int .i64 cols,v] 60);have hG0:=GrN.new w cols v 60;have hsz:=fun W h=>szCSS_any v rows left W h hl hx hf
 have hv1:=hv.below hb0;obtain ⟨a,c,vs,rfl,_⟩:=id hv;unfold gridV;obtain ⟨_,g0,g1⟩:=id hG0;go_enter Tryz.func87,Tryz.ntmps87;go_wp2_with fail;refine (hsz _ hv1).mono ?_;rintro e w2 ⟨rfl,hw⟩;subst hw
 by_cases h:szG rows left<0
 ·have hz:Hid (szG rows left=-1):=by
   show _=_
   unfold szG at *;split at h
   ·rfl
   ·omega
  go_wp2;go_ret;exact ⟨by rw [hz.out];rfl,hb0⟩
 ·go_wp2
  go_ret;exact ⟨rfl,hb0⟩
def mkC (q:Nat):Ce:=⟨(q:Int),⟨(q:Int)+1,(q:Int)+1+1,((q:Int)+1+1+1).tmod 3==0,((q:Int)+1+1+1+1).tmod 3==0,((q:Int)+1+1+1+1+1).tmod 3==0⟩,(q:Int)+1+1+1+1+1+1⟩
def marksC (k n:Nat):List Ce:=(List.range n).map fun i=>mkC (k+7*i)
theorem marksC_len (k n:Nat):(marksC k n).length=n:=by simp [marksC]
theorem marksC_at (k n i:Nat) (h:i<n):atC (marksC k n) i=mkC (k+7*i):=by
 rw [atC_lt (by rw [marksC_len];exact h)]
 simp [marksC]
theorem heldC_marks (v:Value) (k n:Nat) (w:World) (hv:SlC w v (marksC k n)) (hk:k<=1073741824) (hl:n<=1073741824) :
  Calls Tryz.prog 227 #[v,.int .i64 k] w fun e w'=>e=.returned (.int .i64 ((k+7*n:Nat):Int))/\w'=w:=by
 obtain ⟨a,c,rfl,hc0⟩:=id hv;rw [marksC_len] at hv ⊢
 clear hc0;go_enter Tryz.func227,Tryz.ntmps227;go_wp2;go_loop [1,5] (fun q i=>∃ j:Nat,j<=n/\i=.int .i64 j/\q=.int .i64 ((k+7*j:Nat):Int)) (fun _ i=>n-(intOf i).toNat)
 case atStart=>exact ⟨0,Nat.zero_le _,rfl,by simp⟩
 case round =>
  obtain ⟨j,hj,rfl,rfl⟩:=hrel
  by_cases hlt:j<n
  ·have hji:(j:Int)<(n:Int):=by omega
   have hj0:(0:Int)<=(j:Int):=by omega
   obtain ⟨b,off,rfl,hbb,hat⟩:=hv.at j (by rw [marksC_len];exact hlt);rw [marksC_at k n j hlt] at hat
   have hq:k+7*j<=8*1073741824:=by omega
   have hq7:Hid (((k+7*(j+1):Nat):Int)=((k+7*j:Nat):Int)+1+1+1+1+1+1+1):=by show _=_;omega
   generalize k+7*j=q at *;obtain ⟨c0,c1,c2,c3,c4,c5,c6⟩:=hat;simp only [mkC] at c0 c1 c2 c3 c4 c5 c6;clear hv;go_wp2;go_round
   case rel=>exact ⟨j+1,by omega,by go_num,by rw [hq7.out]⟩
   case measure=>simp [intOf];omega
  ·have hjn:j=n:=by omega
   subst hjn;go_wp2;go_ret;exact ⟨rfl,rfl⟩
theorem markC_own (base:Nat) (v:Value) (k:Nat) (xs:List Ce) (w:World) (hown:OwnC w base v xs) (hk:k<=1073741824) (hl:xs.length<=1073741824) :
  Calls Tryz.prog 226 #[v,.int .i64 k] w fun e w'=>e=.returned (.int .i64 ((k+7*xs.length:Nat):Int))/\OwnC w' base v (marksC k xs.length)/\w.grownBy w' v.ownBlock:=by
 rcases hown.shape with ⟨rfl,rfl⟩|⟨g,cap,rfl,hbg,hlg,hcap⟩
 ·go_enter Tryz.func226,Tryz.ntmps226
  go_wp2;refine wp_loop_rounds 1 ?_;rw [rounds_succ]
  go_wp2;go_ret;exact ⟨by simp,by simpa [marksC] using hown,World.grownBy.refl _ _⟩
 ·generalize hn:xs.length=n at *
  go_enter Tryz.func226,Tryz.ntmps226;go_wp2;go_loopw [1,5] (fun q i wr=>∃ (j:Nat) (ys:List Ce),j<=n/\i=.int .i64 j/\q=.int .i64 ((k+7*j:Nat):Int)/\ys.length=n/\(∀ t,t<j->atC ys t=mkC (k+7*t))/\OwnC wr base (.slice (some ⟨g,0,none⟩) n cap) ys/\w.grownBy wr (some g)) (fun _ i _=>n-(intOf i).toNat)
  case atStart=>exact ⟨0,xs,Nat.zero_le _,rfl,by simp,hn,(fun t h=>absurd h (Nat.not_lt_zero t)),hown,World.grownBy.refl _ _⟩
  case round =>
   obtain ⟨j,ys,hj,rfl,rfl,hyl,hys,ho,hgr⟩:=hrel
   by_cases hlt:j<n
   ·have hji:(j:Int)<(n:Int):=by omega
    have hj0:(0:Int)<=(j:Int):=by omega
    have hq:k+7*j<=8*1073741824:=by omega
    have hq7:Hid (((k+7*(j+1):Nat):Int)=((k+7*j:Nat):Int)+1+1+1+1+1+1+1):=by show _=_;omega
    have hp:=ho.put hyl j hlt (mkC (k+7*j))
    have hys2:∀ t,t<j+1->atC (ys.set j (mkC (k+7*j))) t=mkC (k+7*t):=by
     intro t ht;rw [atC_set]
     by_cases e:t=j
     ·subst e;rw [if_pos ⟨rfl,by omega⟩]
     ·rw [if_neg (fun h=>e h.1)];exact hys t (by omega)
    have hyl2:(ys.set j (mkC (k+7*j))).length=n:=by simpa using hyl
    obtain ⟨kk,kg⟩:=hp;have hgr2:=grown_tr hgr kg;have hat:=ho.at hyl j hlt;have f0:=ho.frozen hyl (j*7);have f1:=ho.frozen hyl (j*7+1);have f2:=ho.frozen hyl (j*7+2);have f3:=ho.frozen hyl (j*7+3);have f4:=ho.frozen hyl (j*7+4);have f5:=ho.frozen hyl (j*7+5);have f6:=ho.frozen hyl (j*7+6);clear hown ho hgr kg hys hyl hbg hlg;generalize ys.set j (mkC (k+7*j))=ys2 at *;generalize k+7*j=q at *;obtain ⟨c0,c1,c2,c3,c4,c5,c6⟩:=hat;simp only [putCe,mkC] at kk hgr2;go_wp2;go_roundw
    case rel=>exact ⟨j+1,ys2,by omega,by go_num,by rw [hq7.out],hyl2,hys2,kk,hgr2⟩
    case measure=>simp [intOf];omega
   ·have hjn:j=n:=by omega
    have hji:¬ (j:Int)<(n:Int):=by omega
    have hye:ys=marksC k n:=ext_atC _ _ (by rw [marksC_len];exact hyl) (fun i hi=>by rw [marksC_at k n i (by omega)];exact hys i (by omega));subst hjn;clear hys hyl hown;subst hye;go_wp2;go_ret;exact ⟨rfl,ho,hgr⟩
def sumG (rows:List (List Ce)):Nat->Nat
 | 0=>0
 | j+1=>sumG rows j+(rowX rows j).length
theorem sumG_mono (rows:List (List Ce)) {i j:Nat} (h:i<=j):sumG rows i<=sumG rows j:=by
 induction h with
 | refl=>exact Nat.le_refl _
 | step _ ih=>exact Nat.le_trans ih (Nat.le_add_right _ _)
theorem sumG_row (rows:List (List Ce)) {i j:Nat} (h:i<j):(rowX rows i).length<=sumG rows j:=by
 have:=sumG_mono rows (show i+1<=j from h);have e:sumG rows (i+1)=sumG rows i+(rowX rows i).length:=rfl;omega
def markUpG (k:Nat) (rows:List (List Ce)) (j:Nat):List (List Ce):=genR rows.length fun i=>if i<j then marksC (k+7*sumG rows i) (rowX rows i).length else rowX rows i
def marksG (k:Nat) (rows:List (List Ce)):List (List Ce):=markUpG k rows rows.length
theorem markUpG_len (k:Nat) (rows:List (List Ce)) (j:Nat):(markUpG k rows j).length=rows.length:=genR_len _ _
theorem markUpG_zero (k:Nat) (rows:List (List Ce)):markUpG k rows 0=rows:=ext_rowX _ _ (markUpG_len _ _ _) fun i hi=>by
 rw [markUpG_len] at hi
 unfold markUpG;rw [genR_at _ _ _ hi,if_neg (Nat.not_lt_zero i)]
theorem markUpG_step (k:Nat) (rows:List (List Ce)) (j:Nat) (hj:j<rows.length):markUpG k rows (j+1)=(markUpG k rows j).set j (marksC (k+7*sumG rows j) (rowX rows j).length):=ext_rowX _ _ (by rw [List.length_set,markUpG_len,markUpG_len]) fun i hi=>by
 rw [markUpG_len] at hi
 rw [rowX_set' (by rw [markUpG_len];exact hj)]
 unfold markUpG;rw [genR_at _ _ _ hi,genR_at _ _ _ hi]
 by_cases e:i=j
 ·rw [if_pos (by omega),if_pos e,e]
 ·rw [if_neg e]
  by_cases c:i<j
  ·rw [if_pos c,if_pos (by omega)]
  ·rw [if_neg c,if_neg (by omega)]
theorem markUpG_at (k:Nat) (rows:List (List Ce)) (j i:Nat) (hi:i<rows.length):rowX (markUpG k rows j) i=if i<j then marksC (k+7*sumG rows i) (rowX rows i).length else rowX rows i:=by
 unfold markUpG;rw [genR_at _ _ _ hi]
theorem marksG_at (k:Nat) (rows:List (List Ce)) (i:Nat) (hi:i<rows.length):rowX (marksG k rows) i=marksC (k+7*sumG rows i) (rowX rows i).length:=by
 unfold marksG;rw [markUpG_at _ _ _ _ hi,if_pos hi]
theorem heldCSS_marks (v:Value) (k:Nat) (rows:List (List Ce)) (w:World) (hv:SlG w v (marksG k rows)) (hk:k<=1048576) (hl:sumG rows rows.length<=1048576) (hn:rows.length<=1048576) :
  Calls Tryz.prog 165 #[v,.int .i64 k] w fun e w'=>e=.returned (.int .i64 ((k+7*sumG rows rows.length:Nat):Int))/\w'=w:=by
 obtain ⟨a,c,vs,rfl,hcp,_,hr,hs⟩:=hv;have hlen:(marksG k rows).length=rows.length:=markUpG_len _ _ _;rw [hlen] at hr hs hcp ⊢
 generalize hN:rows.length=n at *;go_enter Tryz.func165,Tryz.ntmps165;go_wp2;go_loop [1,5] (fun q i=>∃ j:Nat,j<=n/\i=.int .i64 j/\q=.int .i64 ((k+7*sumG rows j:Nat):Int)) (fun _ i=>n-(intOf i).toNat)
 case atStart=>exact ⟨0,Nat.zero_le _,rfl,rfl⟩
 case round =>
  obtain ⟨j,hj,rfl,rfl⟩:=hrel
  by_cases hlt:j<n
  ·have hji:(j:Int)<(n:Int):=by omega
   have hj0:(0:Int)<=(j:Int):=by omega
   rcases hr with h|⟨b,off,rfl,hbb,hrc⟩
   ·rw [h] at hlen;simp at hlen;omega
   have hsj:=hs j hlt;have hcj:=hrc j hlt;rw [marksG_at k rows j (by omega)] at hsj
   obtain ⟨aj,cj,ev,_⟩:=id hsj;rw [ev] at hcj hsj
   have hs1:=sumG_mono rows (show j<=n by omega);have hs2:=sumG_row rows hlt;have hm:=heldC_marks _ (k+7*sumG rows j) (rowX rows j).length w hsj (by omega) (by omega);have hsum:Hid ((k+7*sumG rows j)+7*(rowX rows j).length=k+7*sumG rows (j+1)):=by show _=_;rw [sumG];omega
   rw [hsum.out] at hm
   have hnn:¬ (((k+7*sumG rows (j+1):Nat):Int)<0):=by omega
   clear hs hrc ev hsj hs1 hs2 hsum hlen;rw [marksC_len] at hm hcj
   generalize (rowX rows j).length=m at *;go_wp2_with fail;refine hm.mono ?_;rintro e w2 ⟨rfl,hw⟩;subst hw;go_wp2;go_round
   case rel=>exact ⟨j+1,by omega,by go_num,rfl⟩
   case measure=>simp [intOf];omega
  ·have hjn:j=n:=by omega
   have hji:¬ (j:Int)<(n:Int):=by omega
   subst hjn;clear hs hr;go_wp2;go_ret;exact ⟨rfl,rfl⟩
theorem heldGrid_marks (cols:Int) (v:Value) (k:Nat) (rows:List (List Ce)) (w:World) (hv:SlG w v (marksG k rows)) (hk:k<=1048576) (hl:sumG rows rows.length<=1048576) (hn:rows.length<=1048576) :
  Calls Tryz.prog 104 #[gridV cols v,.int .i64 k] w fun e w'=>e=.returned (.int .i64 ((k+7*sumG rows rows.length:Nat):Int))/\Below w.heap.size w w':=by
 have hb0:=bal' w (Obj.cells #[.int .i64 cols,v] 26);have hG0:=GrN.new w cols v 26;have hm:=heldCSS_marks v k rows _ (hv.below hb0) hk hl hn;obtain ⟨a,c,vs,rfl,_⟩:=hv;unfold gridV;obtain ⟨_,g0,g1⟩:=id hG0;have hnn:¬ (((k+7*sumG rows rows.length:Nat):Int)<0):=by omega
 generalize k+7*sumG rows rows.length=q at *;go_enter Tryz.func104,Tryz.ntmps104;go_wp2_with fail;refine hm.mono ?_;rintro e w2 ⟨rfl,hw⟩;subst hw;go_wp2;go_ret;exact ⟨rfl,hb0⟩
theorem leftG_sum {rows:List (List Ce)} {left:Nat}:∀ {j m:Nat},leftG rows left j=some m->m+rows.length+sumG rows j=left
 | 0,m,h=>by
  rw [leftG] at h
  split at h
  ·cases h
  ·cases h;rw [sumG];omega
 | j+1,m,h=>by
  rw [leftG] at h
  split at h
  ·cases h
  ·rename_i q hq
   split at h
   ·cases h
   ·cases h
    have:=leftG_sum hq;rw [sumG];omega
theorem sumG_bd (rows:List (List Ce)) (m:Nat) (h:∀ i,i<rows.length->(rowX rows i).length<=m):∀ j,j<=rows.length->sumG rows j<=j*m
 | 0,_=>Nat.zero_le _
 | j+1,hj=>by
  have:=sumG_bd rows m h j (by omega);have:=h j (by omega);rw [sumG,Nat.add_mul];omega
theorem slShp {w:World} {v:Value} {rows:List (List Ce)} (h:SlG w v rows):∃ a n c,v=Value.slice a n c:=by
 obtain ⟨a,c,vs,rfl,_⟩:=h;exact ⟨_,_,_,rfl⟩
def PbB (w:World) (B:Nat) (s:Int) (pv:Value) (m:Int) (tv:Value):Prop:=w.heap[B]?=some (.cells #[.int .i64 s,pv,.int .i64 m,tv] 31 (0,0))
theorem PbB.lt {w:World} {B:Nat} {s m:Int} {pv tv:Value} (h:PbB w B s pv m tv):B<w.heap.size:=(Array.getElem?_eq_some_iff.1 h).1
theorem PbB.cells {w:World} {B:Nat} {s m:Int} {pv tv:Value} (h:PbB w B s pv m tv) :
  w.cell? ⟨B,0,none⟩=some (.int .i64 s)/\w.cell? ⟨B,1,none⟩=some pv/\w.cell? ⟨B,2,none⟩=some (.int .i64 m)/\w.cell? ⟨B,3,none⟩=some tv:=by
 refine ⟨?_,?_,?_,?_⟩<;>(rw [cell_of_row w B _ _ _ (0,0) h];rfl)
theorem PbB.frozen {w:World} {B:Nat} {s m:Int} {pv tv:Value} (h:PbB w B s pv m tv):w.frozen? ⟨B,0,none⟩=false/\w.frozen? ⟨B,1,none⟩=false/\w.frozen? ⟨B,2,none⟩=false/\w.frozen? ⟨B,3,none⟩=false :=
 ⟨frozen_of_row w B 0 _ _ h,frozen_of_row w B 1 _ _ h,frozen_of_row w B 2 _ _ h,frozen_of_row w B 3 _ _ h⟩
theorem PbB.set {w:World} {B:Nat} {s m:Int} {pv tv:Value} (h:PbB w B s pv m tv) (j:Nat) (u:Value):(w.setCell ⟨B,j,none⟩ u).heap[B]?=some (.cells ((#[.int .i64 s,pv,.int .i64 m,tv]:Array Value).setIfInBounds j u) 31 (0,0)):=heap_setCell_same w B j _ _ u h
theorem PbB.put {w:World} {B:Nat} {s m:Int} {pv tv:Value} (h:PbB w B s pv m tv) (s' m':Int) (pv' tv':Value):PbB (putP w B s' pv' m' tv') B s' pv' m' tv':=by
 have k0:PbB (w.setCell ⟨B,0,none⟩ (.int .i64 s')) B s' pv m tv:=h.set 0 _;have k1:PbB _ B s' pv' m tv:=k0.set 1 _;have k2:PbB _ B s' pv' m' tv:=k1.set 2 _;exact k2.set 3 _
theorem PbB.kept {w w':World} {B:Nat} {s m:Int} {pv tv:Value} {row:Option Nat} (h:PbB w B s pv m tv) (hg:w.grownBy w' row) (hne:row≠some B):PbB w' B s pv m tv:=by
 unfold PbB;rw [hg.block B h.lt (Ne.symm hne)]
 exact h
theorem PbB.below {w w':World} {B:Nat} {s m:Int} {pv tv:Value} (h:PbB w B s pv m tv) (hb:Below w.heap.size w w'):PbB w' B s pv m tv:=h.kept (gbl hb none) (by simp)
theorem PbB.new (w:World) (s m:Int) (pv tv:Value):PbB (w.alloc (.cells #[.int .i64 s,pv,.int .i64 m,tv] 31)) w.heap.size s pv m tv:=heap_alloc_new w _
theorem eqI_same (va vb:Value) (xs:List Int) (w:World) (ha:SlI w va xs) (hb:SlI w vb xs) (hl:xs.length<=1073741824) :
  Calls Tryz.prog 98 #[va,vb] w fun e w'=>e=.returned (.bool true)/\∃ n,w'=w.drewN n:=by
 by_cases h0:xs=[]
 ·subst h0
  obtain ⟨a,c,rfl,_⟩:=ha;obtain ⟨a',c',rfl,_⟩:=hb;go_enter Tryz.func98,Tryz.ntmps98;go_wp2;refine wp_loop_rounds 1 ?_;rw [rounds_succ]
  go_wp2;go_ret;exact ⟨rfl,0,rfl⟩
 ·obtain ⟨_,c,rfl,e|⟨b,off,rfl,_,hca⟩⟩:=ha
  ·exact absurd e h0
  ·obtain ⟨_,c',rfl,e|⟨b',off',rfl,_,hcb⟩⟩:=hb
   ·exact absurd e h0
   ·generalize hn:xs.length=n at *
    clear h0 hn;go_enter Tryz.func98,Tryz.ntmps98;go_wp2;go_loopw [5] (fun i wr=>∃ k:Nat,k<=n/\i=.int .i64 k/\∃ m,wr=w.drewN m) (fun i _=>n-(intOf i).toNat)
    case atStart=>exact ⟨0,Nat.zero_le _,rfl,0,rfl⟩
    case round =>
     obtain ⟨k,hk,rfl,m,rfl⟩:=hrel
     by_cases hlt:k<n
     ·have h1:w.cell? ⟨b,off+k,none⟩=some (.int .i64 (xs.getD k 0)):=hca k hlt
      have h2:w.cell? ⟨b',off'+k,none⟩=some (.int .i64 (xs.getD k 0)):=hcb k hlt;have hi:(k:Int)<(n:Int):=by omega
      generalize xs.getD k 0=x at *;clear hca hcb;go_wp2;go_quiet (fail);go_wp2;go_roundw
      case rel=>exact ⟨k+1,by omega,by go_num,m+nq,by simp⟩
      case measure=>simp [intOf];omega
     ·go_wp2
      go_ret;exact ⟨rfl,m,rfl⟩

theorem grown_trans {a b c:World} {row:Option Nat} (h:a.grownBy b row) (k:b.grownBy c row):a.grownBy c row :=
 ⟨k.os.trans h.os,k.tape.trans h.tape,k.output.trans h.output,Nat.le_trans h.size k.size,fun i hi hr=>(k.block i (Nat.lt_of_lt_of_le hi h.size) hr).trans (h.block i hi hr)⟩
def marksI (k:Int) (n:Nat):List Int:=(List.range n).map fun (i:Nat)=>k+(i:Int)
theorem marksI_len (k:Int) (n:Nat):(marksI k n).length=n:=by simp [marksI]
theorem marksI_at (k:Int) (n i:Nat) (h:i<n):(marksI k n).getD i 0=k+(i:Int):=by simp [marksI,h]

theorem heldI_marks (v:Value) (k:Int) (n:Nat) (w:World) (hv:SlI w v (marksI k n)) (hk:0<=k/\k<=1073741824) (hl:n<=1073741824) :
  Calls Tryz.prog 105 #[v,.int .i64 k] w fun e w'=>e=.returned (.int .i64 (k+n))/\w'=w:=by
 obtain ⟨a,c,rfl,e|⟨b,off,rfl,_,hc⟩⟩:=hv
 ·have h0:n=0:=by have:=marksI_len k n;rw [e] at this;simpa using this.symm
  subst h0;rw [marksI_len]
  go_enter Tryz.func105,Tryz.ntmps105;go_wp2;refine wp_loop_rounds 1 ?_;rw [rounds_succ]
  go_wp2;go_ret;exact ⟨by simp,rfl⟩
 ·rw [marksI_len] at hc ⊢
  have hc2:∀ i,i<n->w.cell? ⟨b,off+i,none⟩=some (.int .i64 (k+(i:Int))):=fun i hi=>by rw [hc i hi,marksI_at k n i hi]
  clear hc;go_enter Tryz.func105,Tryz.ntmps105;go_wp2;go_loop [1,5] (fun q i=>∃ j:Nat,j<=n/\i=.int .i64 j/\q=.int .i64 (k+(j:Int))) (fun _ i=>n-(intOf i).toNat)
  case atStart=>exact ⟨0,Nat.zero_le _,rfl,by simp⟩
  case round =>
   obtain ⟨j,hj,rfl,rfl⟩:=hrel
   by_cases hlt:j<n
   ·have h1:=hc2 j hlt
    clear hc2;go_wp2;go_round
    case rel=>exact ⟨j+1,by omega,by go_num,by go_num⟩
    case measure=>simp [intOf];omega
   ·have hjn:j=n:=by omega
    subst hjn;go_wp2;go_ret;exact ⟨rfl,rfl⟩

theorem marked_all (k:Int) (n:Nat) (ys:List Value) (hl:ys.length=n) (h:∀ i,i<n->ys[i]?=some (.int .i64 (k+(i:Int)))):ys=(marksI k n).map (Value.int .i64):=by
 apply List.ext_getElem?
 intro i
 by_cases hi:i<n
 ·rw [h i hi];simp [marksI,hi]
 ·rw [List.getElem?_eq_none (by omega),List.getElem?_eq_none (by simp [marksI];omega)]

theorem markI_own (base:Nat) (v:Value) (k:Int) (n:Nat) (xs:List Value) (w:World) (hown:w.ownsRow base 2 1 v n xs) (hk:0<=k/\k<=1073741824) (hl:n<=1073741824) :
  Calls Tryz.prog 102 #[v,.int .i64 k] w fun e w'=>e=.returned (.int .i64 (k+n))/\w'.ownsRow base 2 1 v n ((marksI k n).map (Value.int .i64))/\w.grownBy w' v.ownBlock:=by
 have hlen:=hown.1;rcases hown.2 with ⟨rfl,rfl⟩|⟨g,cap,cur,rfl,hb,hg,_⟩
 ·go_enter Tryz.func102,Tryz.ntmps102
  go_wp2;refine wp_loop_rounds 1 ?_;rw [rounds_succ]
  go_wp2;go_ret;exact ⟨by simp,World.ownsRow_nil _ _ _ _,World.grownBy.refl _ _⟩
 ·clear hg
  go_enter Tryz.func102,Tryz.ntmps102;go_wp2;go_loopw [1,5] (fun q i wr=>∃ (j:Nat) (ys:List Value),j<=n/\i=.int .i64 j/\q=.int .i64 (k+(j:Int))/\wr.ownsRow base 2 1 (.slice (some ⟨g,0,none⟩) n cap) n ys/\ys.length=n/\(∀ t,t<j->ys[t]?=some (.int .i64 (k+(t:Int))))/\w.grownBy wr (some g)) (fun _ i _=>n-(intOf i).toNat)
  case atStart=>exact ⟨0,xs,Nat.zero_le _,rfl,by simp,hown,by simpa using hlen,by simp,World.grownBy.refl _ _⟩
  case round =>
   obtain ⟨j,ys,hj,rfl,rfl,ho,hyl,hys,hgr⟩:=hrel
   by_cases hlt:j<n
   ·have h1:∃ u,wr.cell? ⟨g,j,none⟩=some u:=by
     rw [ho.cellAt j (by omega)];exact ⟨_,List.getElem?_eq_getElem (by omega)⟩
    obtain ⟨u,h1⟩:=h1;have h2:=ho.frozenAt j;have hst:=ho.stored j (.int .i64 (k+(j:Int)));obtain ⟨hst1,hst2⟩:=hst;clear ho;go_wp2;go_roundw
    case rel =>
     refine ⟨j+1,ys.set j (.int .i64 (k+(j:Int))),by omega,by go_num,by go_num,hst1,by simpa using hyl,?_,grown_trans hgr hst2⟩;intro t ht
     by_cases e:t=j
     ·subst e;simp [hyl,hlt]
     ·rw [List.getElem?_set_ne (by omega)];exact hys t (by omega)
    case measure=>simp [intOf];omega
   ·have hjn:j=n:=by omega
    subst hjn;go_wp2;go_ret;exact ⟨rfl,by rw [<- marked_all k j ys hyl hys];exact ho,hgr⟩

end Go.Proofs.YtgcnmjjlmcnllaaGreatDoor
