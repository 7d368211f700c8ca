import Derived.Test.YtfpopnkhmjkdlaaGreatDoorP6
import Derived.Test.YtfpopnkhmjkdlaaGreatDoorP7
import Derived.Test.YtfpopnkhmjkdlaaGreatDoorP8
import Derived.Deep.RegionWith
import Derived.WalkLawsBesides
set_option maxRecDepth 20000
set_option maxHeartbeats 16000000
namespace Go.Proofs.YtfpopnkhmjkdlaaGreatDoor
open Go.ChangeShapes Go.WideShapes Go.ChangeAt Go.RowKit
def GrW (w:World) (B:Nat) (cols:Int) (v:Value):Prop :=
 B<w.heap.size/\(w.cell? ⟨B,0,none⟩=some (.int .i64 cols)/\w.cell? ⟨B,1,none⟩=some v)/\(w.frozen? ⟨B,0,none⟩=false/\w.frozen? ⟨B,1,none⟩=false)
theorem GrW.grown {w w':World} {B:Nat} {cols:Int} {v:Value} {row:Option Nat} (h:GrW w B cols v) (hg:w.grownBy w' row) (hr:row≠some B):GrW w' B cols v:=by
 have hb:=hg.block B h.1 (Ne.symm hr);have hc:∀ k,w'.cell? ⟨B,k,none⟩=w.cell? ⟨B,k,none⟩:=fun k=>World.cell?_of_block (w:=w) hb
 have hz:∀ k,w'.frozen? ⟨B,k,none⟩=w.frozen? ⟨B,k,none⟩:=fun k=>World.frozen?_of_block (w:=w) hb
 refine ⟨Nat.lt_of_lt_of_le h.1 hg.size,?_,?_⟩
 ·rw [hc,hc];exact h.2.1
 ·rw [hz,hz];exact h.2.2
theorem GrW.below {w w':World} {B:Nat} {cols:Int} {v:Value} (h:GrW w B cols v) (hb:Below w.heap.size w w'):GrW w' B cols v:=h.grown (gbl hb none) (by simp)
theorem GrW.new (w:World) (cols:Int) (v:Value) (t:TypeId):GrW (w.alloc (.cells #[.int .i64 cols,v] t)) w.heap.size cols v :=
 ⟨by simp,⟨by simp [go_sem],by simp [go_sem]⟩,⟨by simp [go_sem],by simp [go_sem]⟩⟩
def Um (w:World) (B:Nat) (v:Value):World:=w.setCell ⟨B,1,none⟩ v
theorem Xab (w:World) (B:Nat) (v:Value):w.grownBy (Um w B v) (some B):=sCc w B 1 _
theorem GrW.put {w:World} {B:Nat} {cols:Int} {v:Value} (h:GrW w B cols v) (v':Value):GrW (Um w B v') B cols v':=by
 obtain ⟨hlt,⟨c0,c1⟩,⟨z0,z1⟩⟩:=h;refine ⟨by simpa [Um] using hlt,⟨?_,?_⟩,⟨?_,?_⟩⟩
 all_goals simp only [Um]
 ·rw [Xc _ _ _ _ _ (by decide)];exact c0
 ·simp [go_sem,c1]
 ·simp [go_sem,z0]
 ·simp [go_sem,z1]
def Qj (w:World) (B:Nat) (cols:Int) (v:Value):World:=(w.setCell ⟨B,0,none⟩ (.int .i64 cols)).setCell ⟨B,1,none⟩ v
theorem KQ (w:World) (B:Nat) (cols:Int) (v:Value):w.grownBy (Qj w B cols v) (some B):=Xf (sCc w B 0 _) (sCc _ B 1 _)
theorem GrW.put2 {w:World} {B:Nat} {cols:Int} {v:Value} (h:GrW w B cols v) (cols':Int) (v':Value):GrW (Qj w B cols' v') B cols' v':=by
 obtain ⟨hlt,⟨c0,c1⟩,⟨z0,z1⟩⟩:=h;refine ⟨by simpa [Qj] using hlt,⟨?_,?_⟩,⟨?_,?_⟩⟩
 all_goals simp only [Qj]
 ·rw [Xc _ _ _ _ _ (by decide)];simp [go_sem,c0]
 ·simp [go_sem,c1]
 ·simp [go_sem,z0]
 ·simp [go_sem,z1]
theorem Yu.kept {w w':World} {base B:Nat} {v:Value} {rows:List (List Ce)} {row:Option Nat} (h:Yu w base B v rows) (hg:w.grownBy w' row) (hne:∀ g,row=some g->g<base):Yu w' base B v rows:=by
 obtain ⟨vs,hl,ho,hr,hB,hd⟩:=h;refine ⟨vs,hl,World.ownsRow.kept ho hg ?_,fun i hi=>(hr i hi).kept hg ?_,hB,hd⟩
 ·cases hv:v.ownBlock with
  | none=>exact .inl rfl
  | some q=>right;intro e;have:=hne q e.symm;have:=(ho.lt q hv).1;omega
 ·cases hv:(Xw vs i).ownBlock with
  | none=>exact .inl rfl
  | some q=>right;intro e;have:=hne q e.symm;have:=((hr i hi).lt q hv).1;omega
theorem Yu.lt {w:World} {base B:Nat} {v:Value} {rows:List (List Ce)} (h:Yu w base B v rows):∀ g,v.ownBlock=some g->base<=g/\g<w.heap.size:=by
 obtain ⟨vs,hl,ho,_⟩:=h;exact fun g e=>ho.lt g e
theorem Yu.up {w:World} {base B B':Nat} {v:Value} {rows:List (List Ce)} (h:Yu w base B v rows) (hb:B<=B'):Yu w base B' v rows:=by
 obtain ⟨vs,hl,ho,hr,hB,hd⟩:=h;exact ⟨vs,hl,ho,hr,fun i hi g e=>Nat.lt_of_lt_of_le (hB i hi g e) hb,hd⟩
theorem Yz {w:World} {ops:Array Oper} {o:Oper} {ac:Act} {K:Act->World->Prop} {Q:Exit->Act->World->Prop} {E:Prop} (hgd:o.guard=none) (s x:Operand)
  (ho:o.op=.call { callee:=.builtin .append,args:=#[s,x],argTypes:=#[24,24] })
  (base B:Nat) (v:Value) (rows:List (List Ce)) (r:Value) (xs:List Ce) (hs:ac.eval s=v) (k:Yu w base B v rows) (hr:Xl w base r xs) (hB:∀ g,r.ownBlock=some g->B<=g) (hb:base<=w.heap.size) (hl:rows.length<2000000)
  (g:Nat) (hg0:w.heap.size=g) (hx:ac.eval x=.slice (some ⟨g,0,none⟩) 1 1)
  (h:∀ v' w',Yu w' base w'.heap.size v' (rows++[xs])->(w.alloc (.cells #[r] 120)).grownBy w' v.ownBlock->K (ac.put o.dst v') w') :
  if Region.wanted o (yielded ops ac.tmps)=true then Oper.wp Tryz.prog o ac (w.alloc (.cells #[r] 120)) K Q else E:=by
 have hw:Region.wanted o (yielded ops ac.tmps)=true:=by simp [Region.wanted,hgd]
 rw [if_pos hw]
 subst hg0;obtain ⟨i0,hi,hz0,hz1,hz2⟩:=info_parts Z4;obtain ⟨vs,hvl,hown,hrs,hlt,hd⟩:=k;have hba:=Xd w (Obj.cells #[r] 120);have hown2:=World.ownsRow.below hown hba;refine wp_append_own _ s x _ ho base 120 i0 (.slice none 0 0) 1 24 Jq hi hz0 hz1 hz2 rfl (by decide) v rows.length vs hs hown2 ⟨w.heap.size,0,none⟩ 1 1 [r] hx rfl ?_ ?_ (by unfold maxLen;omega) (by omega) (by simp;omega) (fun v' w' ho' hg' _=>h v' w' (XgL hvl hown2 (fun i hi=>(hrs i hi).below hba) hlt hd (hr.below hba) hB ho' hg') hg')
 ·intro j u hj
  match j,hj with
  | 0,hj=>simp at hj;subst hj;simp [Addr.add,go_sem]
 ·intro u hu
  simp at hu;subst hu;rcases hr.shape with ⟨rfl,_⟩|⟨g,cap,rfl,_⟩<;>rfl
def T0:ByteArray:={ data:=#[128] }
def T1:ByteArray:={ data:=#[191] }
def T2:ByteArray:={ data:=#[128,128] }
def T3:ByteArray:={ data:=#[191,191] }
def T4:ByteArray:={ data:=#[128,128,128] }
def T5:ByteArray:={ data:=#[191,191,191] }
theorem Xg2:T0.size=1:=rfl
theorem Xg3:T1.size=1:=rfl
theorem Xg4:T2.size=2:=rfl
theorem Xg5:T3.size=2:=rfl
theorem Xg6:T4.size=3:=rfl
theorem Xg7:T5.size=3:=rfl
theorem XfC (w:World):(Instr.index 195 (.agg #[.string ⟨#[128]⟩,.string ⟨#[191]⟩,.string ⟨#[128,128]⟩,.string ⟨#[191,191]⟩,.string ⟨#[128,128,128]⟩,.string ⟨#[191,191,191]⟩]) (.int .i64 0)).run Tryz.prog w=.ok (.string T0) w:=by kernel_rfl
theorem XfD (w:World):(Instr.index 195 (.agg #[.string ⟨#[128]⟩,.string ⟨#[191]⟩,.string ⟨#[128,128]⟩,.string ⟨#[191,191]⟩,.string ⟨#[128,128,128]⟩,.string ⟨#[191,191,191]⟩]) (.int .i64 1)).run Tryz.prog w=.ok (.string T1) w:=by kernel_rfl
theorem XfE (w:World):(Instr.index 195 (.agg #[.string ⟨#[128]⟩,.string ⟨#[191]⟩,.string ⟨#[128,128]⟩,.string ⟨#[191,191]⟩,.string ⟨#[128,128,128]⟩,.string ⟨#[191,191,191]⟩]) (.int .i64 2)).run Tryz.prog w=.ok (.string T2) w:=by kernel_rfl
theorem XfF (w:World):(Instr.index 195 (.agg #[.string ⟨#[128]⟩,.string ⟨#[191]⟩,.string ⟨#[128,128]⟩,.string ⟨#[191,191]⟩,.string ⟨#[128,128,128]⟩,.string ⟨#[191,191,191]⟩]) (.int .i64 3)).run Tryz.prog w=.ok (.string T3) w:=by kernel_rfl
theorem XfG (w:World):(Instr.index 195 (.agg #[.string ⟨#[128]⟩,.string ⟨#[191]⟩,.string ⟨#[128,128]⟩,.string ⟨#[191,191]⟩,.string ⟨#[128,128,128]⟩,.string ⟨#[191,191,191]⟩]) (.int .i64 4)).run Tryz.prog w=.ok (.string T4) w:=by kernel_rfl
theorem XfH (w:World):(Instr.index 195 (.agg #[.string ⟨#[128]⟩,.string ⟨#[191]⟩,.string ⟨#[128,128]⟩,.string ⟨#[191,191]⟩,.string ⟨#[128,128,128]⟩,.string ⟨#[191,191,191]⟩]) (.int .i64 5)).run Tryz.prog w=.ok (.string T5) w:=by kernel_rfl
def Jx (h:ByteArray):Bool:=((XP (h++T0)).2==(h.size:Int)+1) || ((XP (h++T1)).2==(h.size:Int)+1) || ((XP (h++T2)).2==(h.size:Int)+2) || ((XP (h++T3)).2==(h.size:Int)+2) || ((XP (h++T4)).2==(h.size:Int)+3) || ((XP (h++T5)).2==(h.size:Int)+3)
theorem Xbd (h:ByteArray) (w:World) (hs:h.size<=3) :
  Calls Tryz.prog 150 #[.string h] w fun e w'=>e=.returned (.bool (Jx h))/\Below w.heap.size w w':=by
 have i0:=XfC;have z0:=Xg2;have i1:=XfD;have z1:=Xg3;have i2:=XfE;have z2:=Xg4;have i3:=XfF;have z3:=Xg5;have i4:=XfG;have z4:=Xg6;have i5:=XfH;have z5:=Xg7;have m0:(h++T0).size<=maxLen:=by rw [ByteArray.size_append];unfold maxLen;omega
 have m1:(h++T1).size<=maxLen:=by rw [ByteArray.size_append];unfold maxLen;omega
 have m2:(h++T2).size<=maxLen:=by rw [ByteArray.size_append];unfold maxLen;omega
 have m3:(h++T3).size<=maxLen:=by rw [ByteArray.size_append];unfold maxLen;omega
 have m4:(h++T4).size<=maxLen:=by rw [ByteArray.size_append];unfold maxLen;omega
 have m5:(h++T5).size<=maxLen:=by rw [ByteArray.size_append];unfold maxLen;omega
 have g0:=fun W=>Zv (h++T0) W m0
 have g1:=fun W=>Zv (h++T1) W m1
 have g2:=fun W=>Zv (h++T2) W m2
 have g3:=fun W=>Zv (h++T3) W m3
 have g4:=fun W=>Zv (h++T4) W m4
 have g5:=fun W=>Zv (h++T5) W m5
 have hb0:=fun o=>(Below.refl w.heap.size w).alloc (Nat.le_refl _) o
 clear m0 m1 m2 m3 m4 m5;go_enter Tryz.func150,Tryz.ntmps150;go_wp2;refine wp_loop_rounds 7 ?_;rw [rounds_succ]
 go_wp2_with (go_at_call 203;refine (g0 _).mono ?_;rintro e w' ⟨rfl,hb⟩;replace hb:=(hb0 _).trans (hb.mono (by simp)))
 ·go_ret
  exact ⟨Xe (by simp only [Jx, *,Bool.true_or]),hb⟩
 rw [rounds_succ]
 go_wp2_with (go_at_call 203;refine (g1 _).mono ?_;rintro e w' ⟨rfl,hc⟩;replace hb:=hb.trans (hc.mono hb.size))
 ·go_ret
  exact ⟨Xe (by simp only [Jx, *,Bool.true_or,Bool.or_true]),hb⟩
 rw [rounds_succ]
 go_wp2_with (go_at_call 203;refine (g2 _).mono ?_;rintro e w' ⟨rfl,hc⟩;replace hb:=hb.trans (hc.mono hb.size))
 ·go_ret
  exact ⟨Xe (by simp only [Jx, *,Bool.true_or,Bool.false_or,Bool.or_true]),hb⟩
 rw [rounds_succ]
 go_wp2_with (go_at_call 203;refine (g3 _).mono ?_;rintro e w' ⟨rfl,hc⟩;replace hb:=hb.trans (hc.mono hb.size))
 ·go_ret
  exact ⟨Xe (by simp only [Jx, *,Bool.true_or,Bool.false_or,Bool.or_true]),hb⟩
 rw [rounds_succ]
 go_wp2_with (go_at_call 203;refine (g4 _).mono ?_;rintro e w' ⟨rfl,hc⟩;replace hb:=hb.trans (hc.mono hb.size))
 ·go_ret
  exact ⟨Xe (by simp only [Jx, *,Bool.true_or,Bool.false_or,Bool.or_true]),hb⟩
 rw [rounds_succ]
 go_wp2_with (go_at_call 203;refine (g5 _).mono ?_;rintro e w' ⟨rfl,hc⟩;replace hb:=hb.trans (hc.mono hb.size))
 ·go_ret
  exact ⟨Xe (by simp only [Jx, *,Bool.false_or,Bool.or_true]),hb⟩
 rw [rounds_succ]
 go_wp2;go_ret;exact ⟨Xe (by simp only [Jx, *,Bool.or_false]),hb⟩
theorem Xfr (s:ByteArray) (w:World) (h0:¬ 0<s.size) :
  Calls Tryz.prog 114 #[.string s] w fun e w'=>e=.returned (.tuple #[.int .i64 (XP s).1,.int .i64 (XP s).2])/\Below w.heap.size w w':=by
 have hz:XN s=[]:=List.length_eq_zero_iff.1 (by rw [Yx];omega);have hv:Hid (XP s=(0,0)):=by show _=_;simp [XP,hz,dec]
 have he:=JI s h0;go_enter Tryz.func114,Tryz.ntmps114;go_wp2;go_ret2;exact ⟨by rw [hv.out];rfl,Below.refl _ _⟩
theorem XbP (s:ByteArray) (w:World) (h0:0<s.size) (hx:XO (s[0].toNat:Int)=0) :
  Calls Tryz.prog 114 #[.string s] w fun e w'=>e=.returned (.tuple #[.int .i64 (XP s).1,.int .i64 (XP s).2])/\Below w.heap.size w w':=by
 have hv:Hid (XP s=(65533,1)):=QL s h0 (Or.inl hx);have hl:Hid (XO (s[0].toNat:Int)=0):=hx;clear hx;have he:=YV s h0;have hb0:(s[0].toNat:Int)<256:=by have:=s[0].toNat_lt;omega
 go_enter Tryz.func114,Tryz.ntmps114;go_wp2_with (first|(go_at_call 173;refine (Ym _ _ (by omega)).mono ?_;rw [hl.out];rintro e w' ⟨rfl,rfl⟩));go_ret2;exact ⟨by rw [hv.out];rfl,Below.refl _ _⟩
theorem KY (s:ByteArray) (w:World) (h0:0<s.size) (n:Int) (hn:1<n/\n<=4) (hs:(s.size:Int)<n) (hx:XO (s[0].toNat:Int)=n) :
  Calls Tryz.prog 114 #[.string s] w fun e w'=>e=.returned (.tuple #[.int .i64 (XP s).1,.int .i64 (XP s).2])/\Below w.heap.size w w':=by
 have hv:Hid (XP s=(65533,1)):=QL s h0 (Or.inr (by omega));have hl:Hid (XO (s[0].toNat:Int)=n):=hx;clear hx;have he:=YV s h0;have hb0:(s[0].toNat:Int)<256:=by have:=s[0].toNat_lt;omega
 have hn0:(n==0)=false:=by simp;omega
 go_enter Tryz.func114,Tryz.ntmps114;go_wp2_with (first|(go_at_call 173;refine (Ym _ _ (by omega)).mono ?_;rw [hl.out];rintro e w' ⟨rfl,rfl⟩));go_ret2;exact ⟨by rw [hv.out];rfl,Below.refl _ _⟩
theorem Xfs (s:ByteArray) (w:World) (h0:0<s.size) (hs:s.size<=maxLen) (hx:XO (s[0].toNat:Int)=1) :
  Calls Tryz.prog 114 #[.string s] w fun e w'=>e=.returned (.tuple #[.int .i64 (XP s).1,.int .i64 (XP s).2])/\Below w.heap.size w w':=by
 have hv:Hid (XP s=_):=JY s h0 1 (s[0].toNat:Int) hx (by omega) (by omega) (by rw [XdJ s h0];rfl);have hl:Hid (XO (s[0].toNat:Int)=1):=hx;have he:=YV s h0;have hb0:(s[0].toNat:Int)<256:=by have:=s[0].toNat_lt;omega
 unfold maxLen at hs
 by_cases hk:((Zt (s[0].toNat:Int)).toList==(s.extract 0 1).toList)=true
 ·have hv:Hid (XP s=((s[0].toNat:Int),1)):=by have:=hv.out;rw [if_pos hk] at this;exact this
  clear hx;go_enter Tryz.func114,Tryz.ntmps114;go_wp2_with (first|(go_at_call 173;refine (Ym _ _ (by omega)).mono ?_;rw [hl.out];rintro e w' ⟨rfl,rfl⟩));refine wp_loop_rounds 1 ?_;rw [rounds_succ]
  go_wp2;go_region_with (go_at_call 174;refine (YR _ _).mono ?_;rintro e w1 ⟨rfl,hb⟩)
  all_goals
   go_wp2;go_ret2;exact ⟨by rw [hv.out];rfl,(Below.refl _ _).drew.trans hb⟩
 ·have hk:((Zt (s[0].toNat:Int)).toList==(s.extract 0 1).toList)=false:=by simpa using hk
  have hv:Hid (XP s=(65533,1)):=by have:=hv.out;rw [if_neg (by rw [hk];decide)] at this;exact this
  clear hx;go_enter Tryz.func114,Tryz.ntmps114;go_wp2_with (first|(go_at_call 173;refine (Ym _ _ (by omega)).mono ?_;rw [hl.out];rintro e w' ⟨rfl,rfl⟩));refine wp_loop_rounds 1 ?_;rw [rounds_succ]
  go_wp2;go_region_with (go_at_call 174;refine (YR _ _).mono ?_;rintro e w1 ⟨rfl,hb⟩)
  all_goals
   go_wp2;go_ret2;exact ⟨by rw [hv.out];rfl,(Below.refl _ _).drew.trans hb⟩
theorem Xft (s:ByteArray) (w:World) (h0:0<s.size) (h1:1<s.size) (hs:s.size<=maxLen) (hx:XO (s[0].toNat:Int)=2) :
  Calls Tryz.prog 114 #[.string s] w fun e w'=>e=.returned (.tuple #[.int .i64 (XP s).1,.int .i64 (XP s).2])/\Below w.heap.size w w':=by
 have hv:Hid (XP s=_):=JY s h0 2 ((s[0].toNat:Int) % (32:Int)*(64:Int)+(s[1].toNat:Int) % (64:Int)) hx (by omega) (by omega) (by rw [XdK s h1];rfl);have hl:Hid (XO (s[0].toNat:Int)=2):=hx;have he:=YV s h0;have hb0:(s[0].toNat:Int)<256:=by have:=s[0].toNat_lt;omega
 have hb1:(s[1].toNat:Int)<256:=by have:=s[1].toNat_lt;omega
 unfold maxLen at hs
 by_cases hk:((Zt ((s[0].toNat:Int) % (32:Int)*(64:Int)+(s[1].toNat:Int) % (64:Int))).toList==(s.extract 0 2).toList)=true
 ·have hv:Hid (XP s=(((s[0].toNat:Int) % (32:Int)*(64:Int)+(s[1].toNat:Int) % (64:Int)),2)):=by have:=hv.out;rw [if_pos hk] at this;exact this
  clear hx;go_enter Tryz.func114,Tryz.ntmps114;go_wp2_with (first|(go_at_call 173;refine (Ym _ _ (by omega)).mono ?_;rw [hl.out];rintro e w' ⟨rfl,rfl⟩));refine wp_loop_rounds 2 ?_;rw [rounds_succ]
  go_wp2;rw [rounds_succ]
  go_wp2;go_region_with (go_at_call 174;refine (YR _ _).mono ?_;rintro e w1 ⟨rfl,hb⟩)
  all_goals
   go_wp2;go_ret2;exact ⟨by rw [hv.out];rfl,(Below.refl _ _).drew.trans hb⟩
 ·have hk:((Zt ((s[0].toNat:Int) % (32:Int)*(64:Int)+(s[1].toNat:Int) % (64:Int))).toList==(s.extract 0 2).toList)=false:=by simpa using hk
  have hv:Hid (XP s=(65533,1)):=by have:=hv.out;rw [if_neg (by rw [hk];decide)] at this;exact this
  clear hx;go_enter Tryz.func114,Tryz.ntmps114;go_wp2_with (first|(go_at_call 173;refine (Ym _ _ (by omega)).mono ?_;rw [hl.out];rintro e w' ⟨rfl,rfl⟩));refine wp_loop_rounds 2 ?_;rw [rounds_succ]
  go_wp2;rw [rounds_succ]
  go_wp2;go_region_with (go_at_call 174;refine (YR _ _).mono ?_;rintro e w1 ⟨rfl,hb⟩)
  all_goals
   go_wp2;go_ret2;exact ⟨by rw [hv.out];rfl,(Below.refl _ _).drew.trans hb⟩
theorem Xfu (s:ByteArray) (w:World) (h0:0<s.size) (h1:1<s.size) (h2:2<s.size) (hs:s.size<=maxLen) (hx:XO (s[0].toNat:Int)=3) :
  Calls Tryz.prog 114 #[.string s] w fun e w'=>e=.returned (.tuple #[.int .i64 (XP s).1,.int .i64 (XP s).2])/\Below w.heap.size w w':=by
 have hv:Hid (XP s=_):=JY s h0 3 (((s[0].toNat:Int) % (16:Int)*(64:Int)+(s[1].toNat:Int) % (64:Int))*(64:Int)+(s[2].toNat:Int) % (64:Int)) hx (by omega) (by omega) (by rw [XdL s h2];rfl);have hl:Hid (XO (s[0].toNat:Int)=3):=hx;have he:=YV s h0;have hb0:(s[0].toNat:Int)<256:=by have:=s[0].toNat_lt;omega
 have hb1:(s[1].toNat:Int)<256:=by have:=s[1].toNat_lt;omega
 have hb2:(s[2].toNat:Int)<256:=by have:=s[2].toNat_lt;omega
 unfold maxLen at hs
 by_cases hk:((Zt (((s[0].toNat:Int) % (16:Int)*(64:Int)+(s[1].toNat:Int) % (64:Int))*(64:Int)+(s[2].toNat:Int) % (64:Int))).toList==(s.extract 0 3).toList)=true
 ·have hv:Hid (XP s=((((s[0].toNat:Int) % (16:Int)*(64:Int)+(s[1].toNat:Int) % (64:Int))*(64:Int)+(s[2].toNat:Int) % (64:Int)),3)):=by have:=hv.out;rw [if_pos hk] at this;exact this
  clear hx;go_enter Tryz.func114,Tryz.ntmps114;go_wp2_with (first|(go_at_call 173;refine (Ym _ _ (by omega)).mono ?_;rw [hl.out];rintro e w' ⟨rfl,rfl⟩));refine wp_loop_rounds 3 ?_;rw [rounds_succ]
  go_wp2;rw [rounds_succ]
  go_wp2;rw [rounds_succ]
  go_wp2;go_region_with (go_at_call 174;refine (YR _ _).mono ?_;rintro e w1 ⟨rfl,hb⟩)
  all_goals
   go_wp2;go_ret2;exact ⟨by rw [hv.out];rfl,(Below.refl _ _).drew.trans hb⟩
 ·have hk:((Zt (((s[0].toNat:Int) % (16:Int)*(64:Int)+(s[1].toNat:Int) % (64:Int))*(64:Int)+(s[2].toNat:Int) % (64:Int))).toList==(s.extract 0 3).toList)=false:=by simpa using hk
  have hv:Hid (XP s=(65533,1)):=by have:=hv.out;rw [if_neg (by rw [hk];decide)] at this;exact this
  clear hx;go_enter Tryz.func114,Tryz.ntmps114;go_wp2_with (first|(go_at_call 173;refine (Ym _ _ (by omega)).mono ?_;rw [hl.out];rintro e w' ⟨rfl,rfl⟩));refine wp_loop_rounds 3 ?_;rw [rounds_succ]
  go_wp2;rw [rounds_succ]
  go_wp2;rw [rounds_succ]
  go_wp2;go_region_with (go_at_call 174;refine (YR _ _).mono ?_;rintro e w1 ⟨rfl,hb⟩)
  all_goals
   go_wp2;go_ret2;exact ⟨by rw [hv.out];rfl,(Below.refl _ _).drew.trans hb⟩
theorem Xfv (s:ByteArray) (w:World) (h0:0<s.size) (h1:1<s.size) (h2:2<s.size) (h3:3<s.size) (hs:s.size<=maxLen) (hx:XO (s[0].toNat:Int)=4) :
  Calls Tryz.prog 114 #[.string s] w fun e w'=>e=.returned (.tuple #[.int .i64 (XP s).1,.int .i64 (XP s).2])/\Below w.heap.size w w':=by
 have hv:Hid (XP s=_):=JY s h0 4 ((((s[0].toNat:Int) % (8:Int)*(64:Int)+(s[1].toNat:Int) % (64:Int))*(64:Int)+(s[2].toNat:Int) % (64:Int))*(64:Int)+(s[3].toNat:Int) % (64:Int)) hx (by omega) (by omega) (by rw [XdM s h3];rfl);have hl:Hid (XO (s[0].toNat:Int)=4):=hx;have he:=YV s h0;have hb0:(s[0].toNat:Int)<256:=by have:=s[0].toNat_lt;omega
 have hb1:(s[1].toNat:Int)<256:=by have:=s[1].toNat_lt;omega
 have hb2:(s[2].toNat:Int)<256:=by have:=s[2].toNat_lt;omega
 have hb3:(s[3].toNat:Int)<256:=by have:=s[3].toNat_lt;omega
 unfold maxLen at hs
 by_cases hk:((Zt ((((s[0].toNat:Int) % (8:Int)*(64:Int)+(s[1].toNat:Int) % (64:Int))*(64:Int)+(s[2].toNat:Int) % (64:Int))*(64:Int)+(s[3].toNat:Int) % (64:Int))).toList==(s.extract 0 4).toList)=true
 ·have hv:Hid (XP s=(((((s[0].toNat:Int) % (8:Int)*(64:Int)+(s[1].toNat:Int) % (64:Int))*(64:Int)+(s[2].toNat:Int) % (64:Int))*(64:Int)+(s[3].toNat:Int) % (64:Int)),4)):=by have:=hv.out;rw [if_pos hk] at this;exact this
  clear hx;go_enter Tryz.func114,Tryz.ntmps114;go_wp2_with (first|(go_at_call 173;refine (Ym _ _ (by omega)).mono ?_;rw [hl.out];rintro e w' ⟨rfl,rfl⟩));refine wp_loop_rounds 4 ?_;rw [rounds_succ]
  go_wp2;rw [rounds_succ]
  go_wp2;rw [rounds_succ]
  go_wp2;rw [rounds_succ]
  go_wp2;go_region_with (go_at_call 174;refine (YR _ _).mono ?_;rintro e w1 ⟨rfl,hb⟩)
  all_goals
   go_wp2;go_ret2;exact ⟨by rw [hv.out];rfl,(Below.refl _ _).drew.trans hb⟩
 ·have hk:((Zt ((((s[0].toNat:Int) % (8:Int)*(64:Int)+(s[1].toNat:Int) % (64:Int))*(64:Int)+(s[2].toNat:Int) % (64:Int))*(64:Int)+(s[3].toNat:Int) % (64:Int))).toList==(s.extract 0 4).toList)=false:=by simpa using hk
  have hv:Hid (XP s=(65533,1)):=by have:=hv.out;rw [if_neg (by rw [hk];decide)] at this;exact this
  clear hx;go_enter Tryz.func114,Tryz.ntmps114;go_wp2_with (first|(go_at_call 173;refine (Ym _ _ (by omega)).mono ?_;rw [hl.out];rintro e w' ⟨rfl,rfl⟩));refine wp_loop_rounds 4 ?_;rw [rounds_succ]
  go_wp2;rw [rounds_succ]
  go_wp2;rw [rounds_succ]
  go_wp2;rw [rounds_succ]
  go_wp2;go_region_with (go_at_call 174;refine (YR _ _).mono ?_;rintro e w1 ⟨rfl,hb⟩)
  all_goals
   go_wp2;go_ret2;exact ⟨by rw [hv.out];rfl,(Below.refl _ _).drew.trans hb⟩
theorem ZG (s:ByteArray) (w:World) (hs:s.size<=maxLen) :
  Calls Tryz.prog 114 #[.string s] w fun e w'=>e=.returned (.tuple #[.int .i64 (XP s).1,.int .i64 (XP s).2])/\Below w.heap.size w w':=by
 by_cases h0:0<s.size
 ·by_cases l0:XO (s[0].toNat:Int)=0
  ·exact XbP s w h0 l0
  ·have hlv:XO (s[0].toNat:Int)=1\/XO (s[0].toNat:Int)=2\/XO (s[0].toNat:Int)=3\/XO (s[0].toNat:Int)=4:=by
    revert l0;unfold XO;intro l0;omega
   rcases hlv with h|h|h|h
   ·exact Xfs s w h0 hs h
   ·by_cases k:1<s.size
    ·exact Xft s w h0 k hs h
    ·exact KY s w h0 2 (by omega) (by omega) h
   ·by_cases k:2<s.size
    ·exact Xfu s w h0 (by omega) k hs h
    ·exact KY s w h0 3 (by omega) (by omega) h
   ·by_cases k:3<s.size
    ·exact Xfv s w h0 (by omega) (by omega) k hs h
    ·exact KY s w h0 4 (by omega) (by omega) h
 ·exact Xfr s w h0
theorem Xga (va vb:Value) (xs:List Ce) (w:World) (ha:SlC w va xs) (hb:SlC w vb xs) (hl:xs.length<=1073741824) :
  Calls Tryz.prog 225 #[va,vb] w fun e w'=>e=.returned (.bool true)/\Below w.heap.size w w':=by
 have heq:=fun c W=>Xb7 c W
 obtain ⟨a,c,rfl,hc1,hn1,hr1⟩:=ha;obtain ⟨a',c',rfl,hc2,hn2,hr2⟩:=hb;rcases hr1 with h|⟨b,off,rfl,hbb,hs1⟩
 ·subst h
  go_enter Tryz.func225,Tryz.ntmps225;go_wp2;refine wp_loop_rounds 1 ?_;rw [rounds_succ]
  go_wp2;go_ret;exact ⟨rfl,Below.refl _ _⟩
 ·rcases hr2 with h|⟨b',off',rfl,hbb',hs2⟩
  ·subst h
   go_enter Tryz.func225,Tryz.ntmps225;go_wp2;refine wp_loop_rounds 1 ?_;rw [rounds_succ]
   go_wp2;go_ret;exact ⟨rfl,Below.refl _ _⟩
  ·unfold ceV at heq
   go_enter Tryz.func225,Tryz.ntmps225;go_wp2;go_loopw [5] (fun i wr=>∃ j:Nat,i=.int .i64 j/\j<=xs.length/\Below w.heap.size w wr) (fun i _=>xs.length-(intOf i).toNat)
   case atStart=>exact ⟨0,rfl,Nat.zero_le _,Below.refl _ _⟩
   case round =>
    obtain ⟨j,rfl,hj,kb⟩:=hrel
    by_cases hlt:j<xs.length
    ·have hji:(j:Int)<(xs.length:Int):=by omega
     have hj0:(0:Int)<=(j:Int):=by omega
     have kd:Below w.heap.size w wr.drew:=kb.trans ((bdr _).mono kb.size);have hat1:=(hs1 j hlt).below kd hbb;have hat2:=(hs2 j hlt).below kd hbb';obtain ⟨c0,c1,c2,c3,c4,c5,c6⟩:=hat1;obtain ⟨d0,d1,d2,d3,d4,d5,d6⟩:=hat2;clear hs1 hs2 ;go_wp2;go_region_with (go_at_call 249;refine (heq (atC xs j) _).mono ?_;rintro e w1 ⟨rfl,hb1⟩)
     all_goals
      have kb1:=kd.trans (hb1.mono kd.size);clear c0 c1 c2 c3 c4 c5 c6 d0 d1 d2 d3 d4 d5 d6 kd kb hb1 heq;go_wp2;go_roundw
      case rel=>exact ⟨j+1,by go_num,by omega,kb1⟩
      case measure=>simp [intOf];omega
    ·have hji:¬ (j:Int)<(xs.length:Int):=by omega
     go_wp2;go_ret;exact ⟨rfl,kb⟩
theorem SlC.at {w:World} {a:Option Addr} {n c:Nat} {xs:List Ce} (h:SlC w (.slice a n c) xs) (j:Nat) (hj:j<xs.length):∃ b off,a=some ⟨b,off,none⟩/\b<w.heap.size/\Je w b (off+j*7) (atC xs j):=by
 obtain ⟨a',c',e,_,_,hr⟩:=h;simp only [Value.slice.injEq] at e;obtain ⟨rfl,rfl,rfl⟩:=e;rcases hr with h|⟨b,off,ha,hb,hi⟩
 ·rw [h] at hj;simp at hj
 ·exact ⟨b,off,ha,hb,hi j hj⟩
def Zn (L:List Ce) (q k j:Nat) (s:St):List Ce:=XeE L.length fun i=>if q<=i/\i<q+j then Xz s else if q<=i/\i<q+k then Ce.zero else atC L i
theorem Zu (L:List Ce) (q k j:Nat) (s:St):(Zn L q k j s).length=L.length:=QK _ _
theorem Jd (L:List Ce) (q k j:Nat) (s:St) (i:Nat) (h:i<L.length):atC (Zn L q k j s) i=if q<=i/\i<q+j then Xz s else if q<=i/\i<q+k then Ce.zero else atC L i:=Xd9 _ _ _ h
theorem XbX (L:List Ce) (q k:Nat) (s:St) (h:q+k<=L.length):YH L q (List.replicate k Ce.zero)=Zn L q k 0 s:=YF _ _ (by rw [ZZ _ _ _ (by simpa using h),Zu]) fun i hi=>by
 rw [ZZ _ _ _ (by simpa using h)] at hi
 rw [XcW _ _ _ (by simpa using h),Jd _ _ _ _ _ _ hi,if_neg (show ¬ (q<=i/\i<q+0) by omega),List.length_replicate]
 by_cases c:q<=i/\i<q+k
 ·rw [if_pos c,if_pos c,Jg (by simp;omega)];simp
 ·rw [if_neg c,if_neg c]
theorem Xd5 (L:List Ce) (q k:Nat) (s:St):Zn L q k k s=XI L q (q+k) s:=YF _ _ (by rw [Zu,Xq]) fun i hi=>by
 rw [Zu] at hi
 rw [Jd _ _ _ _ _ _ hi,ZS _ _ _ _ _ hi]
 by_cases c:q<=i/\i<q+k
 ·rw [if_pos c,if_pos c]
 ·rw [if_neg c,if_neg c,if_neg c]
theorem XcZ (L:List Ce) (q k j:Nat) (s:St) (hj:j<k) (h:q+k<=L.length):Zn L q k (j+1) s=(Zn L q k j s).set (q+j) ⟨32,s,(atC (Zn L q k j s) (q+j)).part⟩:=YF _ _ (by simp [Zu]) fun i hi=>by
 rw [Zu] at hi
 rw [Jd _ _ _ _ _ _ hi,Kj,Zu,Jd _ _ _ _ _ _ hi,Jd _ _ _ _ _ (q+j) (by omega),if_neg (show ¬ (q<=q+j/\q+j<q+j) by omega),if_pos (show q<=q+j/\q+j<q+k by omega)]
 by_cases e:i=q+j
 ·rw [if_pos (show q<=i/\i<q+(j+1) by omega),if_pos (show i=q+j/\q+j<L.length from ⟨e,by omega⟩)];rfl
 ·rw [if_neg (show ¬ (i=q+j/\q+j<L.length) from fun x=>e x.1)]
  by_cases c:q<=i/\i<q+j
  ·rw [if_pos c,if_pos (show q<=i/\i<q+(j+1) by omega)]
  ·rw [if_neg c,if_neg (show ¬ (q<=i/\i<q+(j+1)) by omega)]
theorem Kk (base g n cap q k c off:Nat) (L:List Ce) (s:St) (w:World) (h:Xl w base (.slice (some ⟨g,0,none⟩) n cap) L) (hn:L.length=n) (hq:q+k<=n) (hk:0<k) (hl:n<=1000) (hoff:off=q*7) :
  Calls Tryz.prog 206 #[.slice (some ⟨g,off,none⟩) k c,stV s] w fun e w'=>e=.returned (.tuple #[])/\Xl w' base (.slice (some ⟨g,0,none⟩) n cap) (XI L q (q+k) s)/\w.grownBy w' (some g):=by
 have h2:=XT.new w s 28;have hbA:=Xd w (Obj.cells #[.int .i64 s.fore,.int .i64 s.back,.bool s.bold,.bool s.under,.bool s.turned] 28);have hlt:g<w.heap.size:=(h.lt g rfl).2;have hA:=h.below hbA;have hgA:w.grownBy (w.alloc (Obj.cells #[.int .i64 s.fore,.int .i64 s.back,.bool s.bold,.bool s.under,.bool s.turned] 28)) (some g):=World.grownBy_alloc w _ _;have hHo:Hid (off=q*7):=hoff;have hfin:Hid (Zn L q k k s=XI L q (q+k) s):=Xd5 L q k s;have hsta:Hid (YH L q (List.replicate k Ce.zero)=Zn L q k 0 s):=XbX L q k s (by omega);have hnG:w.heap.size≠g:=by omega
 clear hbA hoff h;unfold stV;go_enter Tryz.func206,Tryz.ntmps206;go_wp2_with (refine Xf0 rfl _ rfl base g n cap q k c off L hA hn hq hHo.out rfl ?_;intro w1 ho1 hg1);have k1:Xl w1 base (.slice (some ⟨g,0,none⟩) n cap) (Zn L q k 0 s):=by rw [<- hsta.out];exact ho1
 have hs1:=h2.grown hg1 (by simp;omega);have hw1:=Xf hgA hg1;clear ho1 hg1 hA h2 hgA;go_wp2;go_loopw [8,4] (fun i _ wr=>∃ j:Nat,i=.int .i64 j/\j<=k/\Xl wr base (.slice (some ⟨g,0,none⟩) n cap) (Zn L q k j s)/\XT wr w.heap.size s/\w.grownBy wr (some g)) (fun i _ _=>k-(intOf i).toNat)
 case atStart=>exact ⟨0,rfl,Nat.zero_le _,k1,hs1,hw1⟩
 case round =>
  clear k1 hs1 hw1;obtain ⟨j,rfl,hj,ko,hs,hw⟩:=hrel
  by_cases hlt:j<k
  ·have hji:(j:Int)<(k:Int):=by omega
   have hj0:(0:Int)<=(j:Int):=by omega
   have hst:Hid (Zn L q k (j+1) s=(Zn L q k j s).set (q+j) ⟨32,s,(atC (Zn L q k j s) (q+j)).part⟩):=XcZ L q k j s hlt (by omega);have hsz:(Zn L q k j s).length=n:=by rw [Zu];exact hn
   have hp:=ko.putRS hsz (q+j) (by omega) 32 s;have kk:Xl (XgT wr g ((q+j)*7) 32 s) base (.slice (some ⟨g,0,none⟩) n cap) (Zn L q k (j+1) s):=by rw [hst.out];exact hp.1
   have hsk:=hs.grown hp.2 (by simp;omega);have hwk:=Xf hw hp.2;have hat:=ko.at hsz (q+j) (by omega);have f0:=ko.frozen hsz ((q+j)*7);have f1:=ko.frozen hsz ((q+j)*7+1);have f2:=ko.frozen hsz ((q+j)*7+2);have f3:=ko.frozen hsz ((q+j)*7+3);have f4:=ko.frozen hsz ((q+j)*7+4);have f5:=ko.frozen hsz ((q+j)*7+5);have eo:(q+j)*7=off+j*7:=by have:=hHo.out;omega
   rw [eo] at f0 f1 f2 f3 f4 f5 kk hsk hwk hat
   obtain ⟨c0,c1,c2,c3,c4,c5,c6⟩:=hat;obtain ⟨_,⟨d0,d1,d2,d3,d4⟩,_⟩:=id hs;clear hp hst ko hs hw eo;simp only [XgT] at kk hsk hwk;go_wp2;go_roundw
   case rel=>exact ⟨j+1,by go_num,by omega,kk,hsk,hwk⟩
   case measure=>simp [intOf];omega
  ·have hjn:j=k:=by omega
   have hji:¬ (j:Int)<(k:Int):=by omega
   subst hjn;go_wp2;refine be ?_;exact ⟨rfl,by rw [<- hfin.out];exact ko,hw⟩
theorem Jh (B base g n cap q k c off:Nat) (L:List Ce) (s:St) (w:World) (hs:XT w B s) (hBg:B≠g) (h:Xl w base (.slice (some ⟨g,0,none⟩) n cap) L) (hn:L.length=n) (hq:q+k<=n) (hk:0<k) (hl:n<=1000) (hoff:off=q*7) :
  Calls Tryz.prog 206 #[.slice (some ⟨g,off,none⟩) k c,.agg #[.int .i64 s.fore,.int .i64 s.back,.bool s.bold,.bool s.under,.bool s.turned]] w fun e w'=>e=.returned (.tuple #[])/\(w'.cell? ⟨B,0,none⟩=some (.int .i64 s.fore)/\w'.cell? ⟨B,1,none⟩=some (.int .i64 s.back)/\w'.cell? ⟨B,2,none⟩=some (.bool s.bold)/\w'.cell? ⟨B,3,none⟩=some (.bool s.under)/\w'.cell? ⟨B,4,none⟩=some (.bool s.turned))/\Xl w' base (.slice (some ⟨g,0,none⟩) n cap) (XI L q (q+k) s)/\w.grownBy w' (some g) :=
 (Kk base g n cap q k c off L s w h hn hq hk hl hoff).mono fun _ _ ⟨he,ho,hg⟩=>⟨he,(hs.grown hg (by simpa using Ne.symm hBg)).2.1,ho,hg⟩
def KG (M:Nat) (w0:World) (r:Value) (x:List Ce) (W:World):Prop:=SlC W r x/\M<=W.heap.size/\Below w0.heap.size w0 W
theorem KG.below {M:Nat} {w0:World} {r:Value} {x:List Ce} {W W':World} (k:KG M w0 r x W) (hb:Below W.heap.size W W'):KG M w0 r x W' :=
 ⟨k.1.below hb,Nat.le_trans k.2.1 hb.size,k.2.2.trans (hb.mono k.2.2.size)⟩
theorem KG.drew {M:Nat} {w0:World} {r:Value} {x:List Ce} {W:World} (k:KG M w0 r x W):KG M w0 r x W.drew:=k.below (Below.refl _ _).drew
theorem XcK (M B b o:Nat) (w0:World) (r:Value) (x:List Ce) (u0 u1 u2:Value) (hl:x.length<=1048576) (hB:B<M) (hb:b<M) {W:World}
  (h:W.cell? ⟨B,0,none⟩=some u0/\W.cell? ⟨B,1,none⟩=some u1/\W.cell? ⟨b,o,none⟩=some u2/\KG M w0 r x W) :
  Calls Tryz.prog 151 #[r] W fun e W'=>e=.returned (.bool (Xu x))/\(W'.cell? ⟨B,0,none⟩=some u0/\W'.cell? ⟨B,1,none⟩=some u1/\W'.cell? ⟨b,o,none⟩=some u2/\KG M w0 r x W'):=by
 obtain ⟨h0,h1,h2,k⟩:=h;refine (XaK r x W k.1 hl).mono ?_;rintro e W' ⟨rfl,hw⟩;have hM:=k.2.1;exact ⟨rfl,(hw.cell (p:=⟨B,0,none⟩) (show B<_ by omega)).trans h0,(hw.cell (p:=⟨B,1,none⟩) (show B<_ by omega)).trans h1,(hw.cell (p:=⟨b,o,none⟩) (show b<_ by omega)).trans h2,k.below hw⟩
theorem JS (cols:Int) (v:Value) (rows:List (List Ce)) (w:World) (hv:SlG w v rows) (hl:rows.length<=1048576) (hx:∀ i,i<rows.length->(Xb rows i).length<=1048576) :
  Calls Tryz.prog 71 #[Yp cols v] w fun e w'=>e=.returned (.bool (Xy cols rows))/\Below w.heap.size w w':=by
 have hbB:=Xd w (Obj.cells #[.int .i64 cols,v] 26);have hG:=GrN.new w cols v 26;obtain ⟨a,c,vs,rfl,hcp,_,hr,hs⟩:=id hv;have hin:=fun W=>XQ cols 1 60 W
 unfold Yp
 by_cases h1:(1:Int)<=cols/\cols<=60
 ·have e1:decide ((1:Int)<=cols/\cols<=60)=true:=decide_eq_true h1
  rw [e1] at hin
  by_cases hn:1<=rows.length/\rows.length<=30
  ·obtain ⟨hn1,hn2⟩:=hn
   have hn1i:¬ (rows.length:Int)<1:=by omega
   have hn2i:¬ 30<(rows.length:Int):=by omega
   rcases hr with h|⟨b,off,rfl,hbb,hrc⟩
   ·rw [h] at hn1;simp at hn1
   go_enter Tryz.func71,Tryz.ntmps71;go_wp2_with (go_at_call 73;refine (hin _).mono ?_;rintro e w1 ⟨rfl,hw⟩;subst hw);go_loopw [3] (fun i wr=>∃ j:Nat,i=.int .i64 j/\j<=rows.length/\Hid (∀ k,k<j->KV cols (Xb rows k)=true)/\GrN wr w.heap.size cols (.slice (some ⟨b,off,none⟩) rows.length c)/\Below w.heap.size w wr) (fun i _=>rows.length-(intOf i).toNat)
   case atStart=>exact ⟨0,rfl,Nat.zero_le _,(fun k hk=>absurd hk (Nat.not_lt_zero k)),hG,hbB⟩
   case round =>
    clear hG hbB;obtain ⟨j,rfl,hj,hall,hG,kb⟩:=hrel;obtain ⟨hB,c0,c1⟩:=id hG
    by_cases hlt:j<rows.length
    ·have hji:(j:Int)<(rows.length:Int):=by omega
     have hj0:(0:Int)<=(j:Int):=by omega
     have c2:=(kb.cell (p:=⟨b,off+j,none⟩) hbb).trans (hrc j hlt);have hsj:=(hs j hlt).below kb;obtain ⟨aj,cj,ev,hjc,_,_⟩:=id hsj;have kg:KG (w.heap.size+1) w (Xw vs j) (Xb rows j) wr:=⟨hsj,hB,kb⟩;rw [ev] at c2 kg
     clear hsj hG hrc hs hv ev hin
     by_cases e2:((Xb rows j).length:Int)=cols
     ·have b1:(((Xb rows j).length:Int) != cols)=false:=by simp [e2]
      cases hro:Xu (Xb rows j)
      ·have hno:Xy cols rows=false:=UT hlt (by show KV cols (Xb rows j)=false;unfold KV;rw [hro,Bool.and_false])
       clear hall;go_wp2;refine wp_region_noPanic ?_;refine wp_region_held_drew (S:=(fun W=>W.cell? ⟨w.heap.size,0,none⟩=some (.int .i64 cols)/\W.cell? ⟨w.heap.size,1,none⟩=some (.slice (some ⟨b,off,none⟩) rows.length c)/\W.cell? ⟨b,off+j,none⟩=some (.slice aj (Xb rows j).length cj)/\KG (w.heap.size+1) w (.slice aj (Xb rows j).length cj) (Xb rows j) W)) (by kernel_rfl) ⟨c0,c1,c2,kg.drew⟩ (fun Hh=>?_);refine tK 0 ?_;refine tK 1 ?_;refine tK 2 ?_;refine tK 3 ?_;refine tK 4 ?_;refine tK 5 ?_;refine tK 6 ?_;refine tK 7 ?_;refine tK 8 ?_;refine tK 9 ?_;refine tK 10 ?_;refine tK 11 ?_;refine tK 12 ?_;refine tK 13 ?_;refine tk 14 ?_;refine rd 15 fun K hK=>?_
       go_simp;refine (XcK (w.heap.size+1) w.heap.size b (off+j) w _ (Xb rows j) _ _ _ (hx j hlt) (by omega) (by omega) (by assumption)).mono ?_;rintro e wk ⟨rfl,hk⟩;go_wp2_with fail;refine hK.out _ _ (by assumption) (fun Hh=>?_);clear hK K;refine tK 16 ?_;refine tk 17 ?_;simp only [Act.put,ZA,ZB,ZC,ZD,ZE,ZF];refine dn ?_;have kb2:=Hh.2.2.2.2.2;clear Hh;go_wp2;go_ret
       first|exact ⟨Xe hno.symm,kb2⟩|exact ⟨rfl,kb2⟩
      ·have hyes:KV cols (Xb rows j)=true:=by unfold KV;rw [hro,decide_eq_true e2];rfl
       have hall':Hid (∀ k,k<j+1->KV cols (Xb rows k)=true):=fun k hk=>by rcases Nat.lt_succ_iff_lt_or_eq.1 hk with h|rfl;exact hall.out k h;exact hyes
       clear hall hyes;go_wp2;refine wp_region_noPanic ?_;refine wp_region_held_drew (S:=(fun W=>W.cell? ⟨w.heap.size,0,none⟩=some (.int .i64 cols)/\W.cell? ⟨w.heap.size,1,none⟩=some (.slice (some ⟨b,off,none⟩) rows.length c)/\W.cell? ⟨b,off+j,none⟩=some (.slice aj (Xb rows j).length cj)/\KG (w.heap.size+1) w (.slice aj (Xb rows j).length cj) (Xb rows j) W)) (by kernel_rfl) ⟨c0,c1,c2,kg.drew⟩ (fun Hh=>?_);refine tK 0 ?_;refine tK 1 ?_;refine tK 2 ?_;refine tK 3 ?_;refine tK 4 ?_;refine tK 5 ?_;refine tK 6 ?_;refine tK 7 ?_;refine tK 8 ?_;refine tK 9 ?_;refine tK 10 ?_;refine tK 11 ?_;refine tK 12 ?_;refine tK 13 ?_;refine tk 14 ?_;refine rd 15 fun K hK=>?_
       go_simp;refine (XcK (w.heap.size+1) w.heap.size b (off+j) w _ (Xb rows j) _ _ _ (hx j hlt) (by omega) (by omega) (by assumption)).mono ?_;rintro e wk ⟨rfl,hk⟩;go_wp2_with fail;refine hK.out _ _ (by assumption) (fun Hh=>?_);clear hK K;refine tK 16 ?_;refine tk 17 ?_;simp only [Act.put,ZA,ZB,ZC,ZD,ZE,ZF];refine dn ?_;have kb2:=Hh.2.2.2.2.2;have hG2:GrN _ w.heap.size cols (.slice (some ⟨b,off,none⟩) rows.length c):=⟨Nat.lt_of_lt_of_le (Nat.lt_succ_self _) Hh.2.2.2.2.1,Hh.1,Hh.2.1⟩;clear Hh;go_wp2;go_roundw
       case rel=>exact ⟨j+1,by go_num,by omega,hall',hG2,kb2⟩
       case measure=>simp [intOf];omega
     ·have b1:(((Xb rows j).length:Int) != cols)=true:=by simp [e2]
      have hno:Xy cols rows=false:=UT hlt (by show KV cols (Xb rows j)=false;unfold KV;rw [decide_eq_false e2,Bool.false_and]);clear hall;go_wp2;refine wp_region_noPanic ?_;refine wp_region_held_drew (S:=(fun W=>W.cell? ⟨w.heap.size,0,none⟩=some (.int .i64 cols)/\W.cell? ⟨w.heap.size,1,none⟩=some (.slice (some ⟨b,off,none⟩) rows.length c)/\W.cell? ⟨b,off+j,none⟩=some (.slice aj (Xb rows j).length cj)/\KG (w.heap.size+1) w (.slice aj (Xb rows j).length cj) (Xb rows j) W)) (by kernel_rfl) ⟨c0,c1,c2,kg.drew⟩ (fun Hh=>?_);refine tK 0 ?_;refine tK 1 ?_;refine tK 2 ?_;refine tK 3 ?_;refine tK 4 ?_;refine tK 5 ?_;refine tK 6 ?_;refine tK 7 ?_;refine tK 8 ?_;refine tK 9 ?_;refine sK 10 ?_;refine sK 11 ?_;refine sK 12 ?_;refine sK 13 ?_;refine sK 14 ?_;refine sK 15 ?_;refine sK 16 ?_;refine tk 17 ?_;simp only [Act.put,ZA,ZB,ZC,ZD,ZE,ZF];refine dn ?_;have kb2:=Hh.2.2.2.2.2;clear Hh;go_wp2;go_ret
      first|exact ⟨Xe hno.symm,kb2⟩|exact ⟨rfl,kb2⟩
    ·have hjn:j=rows.length:=by omega
     have hji:¬ (j:Int)<(rows.length:Int):=by omega
     subst hjn;have hyes:Xy cols rows=true:=(YU cols rows).2 ⟨h1,⟨hn1,hn2⟩,hall.out⟩;clear hall hv hin hs;go_wp2;go_ret
     first|exact ⟨Xe hyes.symm,kb⟩|exact ⟨rfl,kb⟩
  ·have hno:=Uh (cols:=cols) hn
   clear hs hr
   by_cases h0:rows.length<1
   ·have hi:(rows.length:Int)<1:=by omega
    go_enter Tryz.func71,Tryz.ntmps71;go_wp2_with (go_at_call 73;refine (hin _).mono ?_;rintro e w1 ⟨rfl,hw⟩;subst hw);go_ret
    first|exact ⟨Xe hno.symm,hbB⟩|exact ⟨rfl,hbB⟩
   ·have hi:¬ (rows.length:Int)<1:=by omega
    have hi2:30<(rows.length:Int):=by omega
    go_enter Tryz.func71,Tryz.ntmps71;go_wp2_with (go_at_call 73;refine (hin _).mono ?_;rintro e w1 ⟨rfl,hw⟩;subst hw);go_ret
    first|exact ⟨Xe hno.symm,hbB⟩|exact ⟨rfl,hbB⟩
 ·have e1:decide ((1:Int)<=cols/\cols<=60)=false:=decide_eq_false h1
  rw [e1] at hin
  have hno:=Xce (rows:=rows) h1;clear e1 h1 hs hr;go_enter Tryz.func71,Tryz.ntmps71;go_wp2_with (go_at_call 73;refine (hin _).mono ?_;rintro e w1 ⟨rfl,hw⟩;subst hw);go_ret
  first|exact ⟨Xe hno.symm,hbB⟩|exact ⟨rfl,hbB⟩
def X4 (xs:List Ce) (f t:Int) (s:St):List Ce:=if Xu xs=true/\s.ok=true/\(0<=f/\f<=t)/\t<=xs.length then XU xs f.toNat t.toNat s else []
def Ko (xs:List Ce) (f t:Int) (s:St):List Ce:=if Xu xs=true/\s.ok=true/\(0<=f/\f<=xs.length-1)/\(0<=t/\t<=xs.length) then KP xs f.toNat t.toNat s else []
def Kn (xs:List Ce) (f t:Int) (s:St):List Ce:=if Xu xs=true/\s.ok=true/\(0<=f/\f<=xs.length-1)/\(0<=t/\t<=xs.length) then K6 xs f.toNat t.toNat s else []
end Go.Proofs.YtfpopnkhmjkdlaaGreatDoor
namespace Go.Proofs.YtfpopnkhmjkdlaaGreatDoor
open Go.ChangeShapes Go.WideShapes Go.ChangeAt Go.RowKit
attribute [local go_sem ↓] Go.wp_at_zero Go.wp_at_succ
theorem Xic (n:Int) (h:-9223372036854775808<=n/\n<=9223372036854775807):(Lit.int .i64 n).wf=true:=WalkArith.wf_i64 h
theorem Qs (s:St) (bb off c:Nat) (xs:List Int) (w:World) (hbb:bb<w.heap.size) (hc:∀ j,j<xs.length->w.cell? ⟨bb,off+j,none⟩=some (.int .i64 (xs.getD j 0))) (hwf:∀ j,j<xs.length->(Lit.int .i64 (xs.getD j 0)).wf=true) (h0:0<xs.length) (h16:xs.length<=16) (hok:s.ok=true) :
  Calls Tryz.prog 241 #[stV s,.slice (some ⟨bb,off,none⟩) xs.length c] w fun e w'=>e=.returned (stV (X8 s xs))/\Below w.heap.size w w':=by
 have hxz:((xs.length:Int)==0)=false:=by simp;intro e;simp [e] at h0
 have hi16:¬ 16<(xs.length:Int):=by omega
 have hmm:=@run_makeMap Tryz.prog;have h2:=XT.new w s 28;have h4:=XT.new (w.alloc (Obj.cells #[.int .i64 s.fore,.int .i64 s.back,.bool s.bold,.bool s.under,.bool s.turned] 28)) St.zero 28;have h2':=h2.below (w':=(w.alloc (Obj.cells #[.int .i64 s.fore,.int .i64 s.back,.bool s.bold,.bool s.under,.bool s.turned] 28)).alloc (Obj.cells #[.int .i64 0,.int .i64 0,.bool false,.bool false,.bool false] 28)) ((Below.refl _ _).alloc (Nat.le_refl _) _);have e4:(w.alloc (Obj.cells #[.int .i64 s.fore,.int .i64 s.back,.bool s.bold,.bool s.under,.bool s.turned] 28)).heap.size=w.heap.size+1:=by simp
 rw [e4] at h4
 have hbA:Below w.heap.size w ((w.alloc (Obj.cells #[.int .i64 s.fore,.int .i64 s.back,.bool s.bold,.bool s.under,.bool s.turned] 28)).alloc (Obj.cells #[.int .i64 0,.int .i64 0,.bool false,.bool false,.bool false] 28)):=((Below.refl _ _).alloc (Nat.le_refl _) _).alloc (by simp) _;have hOK:=Yc s;rw [hok] at hOK
 unfold stV at *;go_enter Tryz.func241,Tryz.ntmps241;go_wp2_with fail;refine (hOK _).mono ?_;rintro e w2 ⟨rfl,hb2⟩;have k2:=h2'.below hb2;have k4:=h4.below hb2;have kb:=hbA.trans (hb2.mono hbA.size);clear h2 h4 h2' e4 hbA hb2 hOK hok;have hk:=MK.start k2 k4 kb (Nat.le_refl _) (by omega);clear k2 k4 kb;go_wp2_with (refine MK.ins hk rfl _ _ _ rfl (by decide) rfl _ _ rfl (by decide) rfl ?_;clear hk;intro w' hk);have hk:MK w2.heap.size w.heap.size (w.heap.size+1) s w w' CH:=hk;generalize w2.heap.size=Bm at *;clear hmm;go_loopw [57] (fun i wr=>∃ j:Nat,i=.int .i64 j/\j<=xs.length/\MK Bm w.heap.size (w.heap.size+1) (X8 s (xs.take j)) w wr CH) (fun i _=>xs.length-(intOf i).toNat)
 case atStart=>exact ⟨0,rfl,Nat.zero_le _,hk⟩
 case round =>
  clear hk;obtain ⟨j,rfl,hj,hk⟩:=hrel
  by_cases hlt:j<xs.length
  ·have hji:(j:Int)<(xs.length:Int):=by omega
   have hj0:(0:Int)<=(j:Int):=by omega
   have hst:Hid (X8 s (xs.take (j+1))=Yf (X8 s (xs.take j)) (xs.getD j 0)):=by
    show _=_
    rw [List.take_succ_eq_append_getElem hlt,X8,List.foldl_append]
    simp [X8,hlt]
   have hcj:=(hk.2.2.2.1.cell (p:=⟨bb,off+j,none⟩) hbb).trans (hc j hlt);have hwj:=hwf j hlt;clear hc hwf;generalize xs.getD j 0=n at *;generalize X8 s (xs.take j)=y at *;rcases Xib w.heap.size n with ⟨hlk,hpv⟩|⟨f,g,hlk,hcg,hpv,hf⟩
   ·have hst':Hid (X8 s (xs.take (j+1))=y):=by show _=_;rw [hst.out,hpv]
    clear hst hpv;go_wp2_with (refine MK.look hk rfl _ _ rfl rfl _ _ _ hlk rfl hwj ?_);go_roundw
    case rel=>exact ⟨j+1,by go_num,by omega,by rw [hst'.out];exact hk⟩
    case measure=>simp [intOf];omega
   ·have hst':Hid (X8 s (xs.take (j+1))=g y):=by show _=_;rw [hst.out,hpv]
    have hcl:=fun W h=>hcg y W h
    clear hst hpv hcg;simp only [List.mem_cons,List.not_mem_nil,or_false] at hf;rcases hf with rfl|rfl|rfl|rfl|rfl|rfl|rfl|rfl|rfl|rfl|rfl
    all_goals
     unfold clo at hlk;go_wp2_with (refine MK.look hk rfl _ _ rfl rfl _ _ _ hlk rfl hwj ?_);refine (hcl _ hk.2.1).mono ?_;rintro e w3 ⟨rfl,hs3,hg3⟩;have hk3:=hk.chg hs3 hg3;clear hk hcl hs3 hg3;go_wp2;go_roundw
     case rel=>exact ⟨j+1,by go_num,by omega,by rw [hst'.out];exact hk3⟩
     case measure=>simp [intOf];omega
  ·have hjn:j=xs.length:=by omega
   have hji:¬ (j:Int)<(xs.length:Int):=by omega
   rw [hjn,List.take_length] at hk
   have HY:Hid (∃ y,y=X8 s xs):=⟨_,rfl⟩;obtain ⟨y,hy⟩:=HY.out;rw [<- hy] at hk
   have HYY:Hid (y=X8 s xs):=hy;clear hy HY hc hwf;obtain ⟨_,k2,k4,kb,_⟩:=hk;have kP:=k4.put y;have kbP:=UA kb (Zz wr (w.heap.size+1) y) (by omega);obtain ⟨_,⟨c0,c1,c2,c3,c4⟩,⟨z0,z1,z2,z3,z4⟩⟩:=k2;obtain ⟨_,⟨d0,d1,d2,d3,d4⟩,⟨x0,x1,x2,x3,x4⟩⟩:=k4;obtain ⟨_,⟨e0,e1,e2,e3,e4⟩,_⟩:=kP;simp only [UG] at kbP e0 e1 e2 e3 e4;go_wp2;exact bodyPost_ret (v:=.agg #[.int .i64 y.fore,.int .i64 y.back,.bool y.bold,.bool y.under,.bool y.turned]) (by simp [results,Tryz.results241,go_sem,e0,e1,e2,e3,e4]) rfl ⟨by rw [<- HYY.out],kbP⟩
