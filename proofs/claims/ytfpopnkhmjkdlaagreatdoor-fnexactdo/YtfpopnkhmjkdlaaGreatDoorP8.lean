import Derived.Test.YtfpopnkhmjkdlaaGreatDoorP4
import Derived.Test.YtfpopnkhmjkdlaaGreatDoorP5
import Derived.OneCell
import Derived.Deep.RegionLaw
import Derived.Laws.RangeAny
import Derived.Lib.OthersKept
set_option maxRecDepth 20000
set_option maxHeartbeats 16000000
namespace Go.Proofs.YtfpopnkhmjkdlaaGreatDoor
open Go.ChangeShapes Go.WideShapes Go.ChangeAt Go.RowKit
def Yp (cols:Int) (v:Value):Value:=.agg #[.int .i64 cols,v]
def GrN (w:World) (B:Nat) (cols:Int) (v:Value):Prop:=B<w.heap.size/\w.cell? ⟨B,0,none⟩=some (.int .i64 cols)/\w.cell? ⟨B,1,none⟩=some v
theorem GrN.new (w:World) (cols:Int) (v:Value) (t:TypeId):GrN (w.alloc (.cells #[.int .i64 cols,v] t)) w.heap.size cols v:=⟨by simp,by simp [go_sem],by simp [go_sem]⟩
theorem GrN.below {w w':World} {B:Nat} {cols:Int} {v:Value} (h:GrN w B cols v) (hb:Below w.heap.size w w'):GrN w' B cols v :=
 ⟨Nat.lt_of_lt_of_le h.1 hb.size,(hb.cell (p:=⟨B,0,none⟩) h.1).trans h.2.1,(hb.cell (p:=⟨B,1,none⟩) h.1).trans h.2.2⟩
def SlL (w:World) (v:Value) (xs:List Int):Prop :=
 ∃ a c,v=.slice a xs.length c/\xs.length<=c/\(xs=[]\/∃ b off,a=some ⟨b,off,none⟩/\b<w.heap.size/\∀ i,i<xs.length->w.cell? ⟨b,off+i,none⟩=some (.int .i64 (xs.getD i 0)))
theorem SlL.sl {w:World} {v:Value} {xs:List Int} (h:SlL w v xs):SlI w v xs:=by
 obtain ⟨a,c,hv,_,hr⟩:=h;exact ⟨a,c,hv,hr⟩
theorem XaA (s p:ByteArray) (w:World) (_hs:s.size<=maxLen) (_hp:p.size<=maxLen) :
  Calls Tryz.prog 267 #[.string s,.string p] w fun e w'=>e=.returned (.bool (UC s p))/\w'=w:=by
 unfold maxLen at _hs _hp
 by_cases h:p.size<=s.size
 ·have hq:Hid (UC s p=((s.extract 0 p.size).toList==p.toList)):=by show _=_;simp [UC,h]
  go_enter Tryz.func267,Tryz.ntmps267;go_wp2;go_ret;exact ⟨Xe hq.out.symm,rfl⟩
 ·have hq:Hid (UC s p=false):=by show _=_;simp [UC,h]
  go_enter Tryz.func267,Tryz.ntmps267;go_wp2;go_ret;exact ⟨Xe hq.out.symm,rfl⟩
theorem J8 (s p:ByteArray) (w:World) (hs:s.size<=maxLen) (hp:p.size<=maxLen) :
  Calls Tryz.prog 243 #[.string s,.string p] w fun e w'=>e=.returned (.bool (UC s p))/\w'=w:=by
 go_enter Tryz.func243,Tryz.ntmps243;go_wp2_with (go_at_call 267;refine (XaA _ _ _ hs hp).mono ?_;rintro e w' ⟨rfl,rfl⟩);go_ret;exact ⟨rfl,rfl⟩
theorem Xhr {k:IntKind} {a b:Int} (h:a=b):Ending.returned (.int k a)=.returned (.int k b):=by rw [h]
theorem Ym (b:Int) (w:World) (hb:0<=b/\b<256) :
  Calls Tryz.prog 173 #[.int .u8 b] w fun e w'=>e=.returned (.int .i64 (XO b))/\w'=w:=by
 go_enter Tryz.func173,Tryz.ntmps173;go_wp2
 all_goals
  go_ret;refine ⟨?_,rfl⟩;refine Xhr ?_;unfold XO;omega
theorem YV (s:ByteArray) (h0:0<s.size):s.toList.isEmpty=false:=by
 rw [ByteArray.toList_eq,List.isEmpty_eq_false_iff];intro e;have:=congrArg List.length e;simp at this;simp [this] at h0
theorem JI (s:ByteArray) (h0:¬ 0<s.size):s.toList.isEmpty=true:=by
 rw [ByteArray.toList_eq,List.isEmpty_iff_length_eq_zero,Array.length_toList];exact Nat.eq_zero_of_not_pos h0
theorem XdH (n:Nat) (h:n<=4):n<=maxLen:=by unfold maxLen;omega
theorem Zv (s:ByteArray) (w:World) (hs:s.size<=maxLen) :
  Calls Tryz.prog 203 #[.string s] w fun e w'=>e=.returned (.tuple #[.int .i64 (XP s).1,.int .i64 (XP s).2])/\Below w.heap.size w w':=by
 by_cases h0:0<s.size
 ·obtain ⟨hc1,hc2⟩:=Xcc s h0
  have hbd:=Xhd s h0
  have hnx:∀ ty,(Instr.next (.pointer (some ⟨w.heap.size,0,none⟩)) true ty).run Tryz.prog (w.iter s 0)=.ok (.tuple #[.bool true,.int .i64 0,.int .i32 (XP s).1]) (w.iter s (Utf8.decode s 0).2):=by
   intro ty;rw [run_next_any w s 0 ty h0,hc1];simp
  have hcs:=Jj s h0;have h4:=XdH _ (Un (XP s).1);have h4':=Un (XP s).1;generalize XP s=d at *;obtain ⟨c,k⟩:=d;simp only at hcs hbd hnx h4 h4' ⊢
  clear hc1 hc2;rcases hcs with ⟨hr,hp,hk⟩|⟨hk,hp⟩
  ·subst hk
   go_enter Tryz.func203,Tryz.ntmps203;go_wp2;refine wp_loop_rounds 1 ?_;rw [rounds_succ]
   go_wp2_with (first|(go_at_call 242;refine (Qg _ _).mono ?_;rintro e w' ⟨rfl,hb⟩)|(go_at_call 243;refine (J8 _ _ _ hs h4).mono ?_;rintro e w' ⟨rfl,rfl⟩));go_ret2;exact ⟨rfl,((Below.refl _ _).alloc (Nat.le_refl _) _).trans (hb.mono (by simp [World.iter]))⟩
  ·simp only [Prod.mk.injEq] at hk
   obtain ⟨rfl,rfl⟩:=hk;have hp:=hp 65533 (by decide);go_enter Tryz.func203,Tryz.ntmps203;go_wp2;refine wp_loop_rounds 1 ?_;rw [rounds_succ]
   go_wp2_with (first|(go_at_call 242;refine (Qg _ _).mono ?_;rintro e w' ⟨rfl,hb⟩)|(go_at_call 243;refine (J8 _ _ _ hs h4).mono ?_;rintro e w' ⟨rfl,rfl⟩));go_ret2;exact ⟨rfl,((Below.refl _ _).alloc (Nat.le_refl _) _).trans (hb.mono (by simp [World.iter]))⟩
 ·have hz:XN s=[]:=List.length_eq_zero_iff.1 (by rw [Yx];omega)
  have hv:Hid (XP s=(0,0)):=by show _=_;simp [XP,hz,dec]
  have hnx:∀ ty,(Instr.next (.pointer (some ⟨w.heap.size,0,none⟩)) true ty).run Tryz.prog (w.iter s 0)=.ok (.tuple #[.bool false]) (w.iter s 0):=fun ty=>run_next_end w s 0 ty h0
  go_enter Tryz.func203,Tryz.ntmps203;go_wp2;refine wp_loop_rounds 1 ?_;rw [rounds_succ]
  go_wp2;go_ret2;exact ⟨by rw [hv.out];rfl,(Below.refl _ _).alloc (Nat.le_refl _) _⟩
def BS (a w:World):Prop:=Below a.heap.size a w/\a.heap.size<=w.heap.size
theorem BS.out {a w:World} (h:BS a w):Below a.heap.size a w:=h.1
theorem BS.set {a w:World} (h:BS a w) (g k:Nat) (u:Value) (hg:a.heap.size<=g):BS a (w.setCell ⟨g,k,none⟩ u) :=
 ⟨h.1.grown (sCc w g k u) h.2 (fun k hk=>by cases hk;exact hg),by simpa using h.2⟩
theorem Xb7 (c:Ce) (w:World) :
  Calls Tryz.prog 249 #[ceV c,ceV c] w fun e w'=>e=.returned (.bool true)/\Below w.heap.size w w':=by
 have heq:=fun W=>Ji c.st W
 have b1:=Xd w (Obj.cells #[.int .i64 c.rune,.int .i64 c.st.fore,.int .i64 c.st.back,.bool c.st.bold,.bool c.st.under,.bool c.st.turned,.int .i64 c.part] 146);have b2:=b1.trans ((Xd _ (Obj.cells #[.int .i64 c.rune,.int .i64 c.st.fore,.int .i64 c.st.back,.bool c.st.bold,.bool c.st.under,.bool c.st.turned,.int .i64 c.part] 146)).mono b1.size);have s2:=(CeF.new w c 146).below (Xd _ (Obj.cells #[.int .i64 c.rune,.int .i64 c.st.fore,.int .i64 c.st.back,.bool c.st.bold,.bool c.st.under,.bool c.st.turned,.int .i64 c.part] 146));have r2:=CeF.new (w.alloc (Obj.cells #[.int .i64 c.rune,.int .i64 c.st.fore,.int .i64 c.st.back,.bool c.st.bold,.bool c.st.under,.bool c.st.turned,.int .i64 c.part] 146)) c 146;have z1:(w.alloc (Obj.cells #[.int .i64 c.rune,.int .i64 c.st.fore,.int .i64 c.st.back,.bool c.st.bold,.bool c.st.under,.bool c.st.turned,.int .i64 c.part] 146)).heap.size=w.heap.size+1:=by simp
 rw [z1] at r2
 unfold ceV stV at *;go_enter Tryz.func249,Tryz.ntmps249;go_wp2_with fail;refine (heq _).mono ?_;rintro e w1 ⟨rfl,hb1⟩;have s3:=s2.below hb1;have r3:=r2.below hb1;have b3:=b2.trans (hb1.mono b2.size);clear s2 r2 b1 b2 hb1 z1 heq;obtain ⟨_,⟨c0,c1,c2,c3,c4,c5,c6⟩,_⟩:=s3;obtain ⟨_,⟨d0,d1,d2,d3,d4,d5,d6⟩,_⟩:=r3;go_wp2;go_ret;exact ⟨rfl,b3⟩
