import Derived.Test.YtfpopnkhmjkdlaaGreatDoorP2
import Derived.Test.YtfpopnkhmjkdlaaGreatDoorP3
import Derived.LaidMore
import Derived.OpenVars
import Derived.ChangeVars
import Derived.Deep.Strs
import Derived.Stop.Joined
set_option maxRecDepth 20000
set_option maxHeartbeats 16000000
namespace Go.Proofs.YtfpopnkhmjkdlaaGreatDoor
open Go.ChangeShapes Go.WideShapes Go.ChangeAt Go.RowKit
theorem Xfw (r:Int) (w:World) (hk:Xh r=true) (h:r<128) :
  Calls Tryz.prog 174 #[.int .i64 r] w fun e w'=>e=.returned (.string (strOfNums (Yg r)))/\Below w.heap.size w w':=by
 have hbd:=YO r hk;have hcv:=Xf1;go_enter Tryz.func174,Tryz.ntmps174;go_wp2_with (first|(go_at_call 140;refine (Yb _ _).mono ?_;rintro e w' ⟨rfl,rfl⟩)|(go_at_call 201;refine (Xgs _ _ (by omega) (by omega)).mono ?_;rintro e w' ⟨rfl,rfl⟩));go_ret;exact ⟨Z0 (by simp only [Yg];rw [if_pos h]),(Below.refl _ _).alloc (Nat.le_refl _) _⟩
theorem Xfx (r:Int) (w:World) (hk:Xh r=true) (h0:128<=r) (h:r<2048) :
  Calls Tryz.prog 174 #[.int .i64 r] w fun e w'=>e=.returned (.string (strOfNums (Yg r)))/\Below w.heap.size w w':=by
 have hbd:=YO r hk;have hcv:=Xf2;go_enter Tryz.func174,Tryz.ntmps174;go_wp2_with (first|(go_at_call 140;refine (Yb _ _).mono ?_;rintro e w' ⟨rfl,rfl⟩)|(go_at_call 201;refine (Xgt _ _ (by omega) (by omega) (by omega)).mono ?_;rintro e w' ⟨rfl,rfl⟩));go_ret;exact ⟨Z0 (by simp only [Yg];rw [if_neg (by omega),if_pos h]),(Below.refl _ _).alloc (Nat.le_refl _) _⟩
theorem Xfy (r:Int) (w:World) (hk:Xh r=true) (h0:2048<=r) (h:r<65536) :
  Calls Tryz.prog 174 #[.int .i64 r] w fun e w'=>e=.returned (.string (strOfNums (Yg r)))/\Below w.heap.size w w':=by
 have hbd:=YO r hk;have hcv:=Xf3;go_enter Tryz.func174,Tryz.ntmps174;go_wp2_with (first|(go_at_call 140;refine (Yb _ _).mono ?_;rintro e w' ⟨rfl,rfl⟩)|(go_at_call 201;refine (Xgu _ _ (by omega) (by omega) (by omega)).mono ?_;rintro e w' ⟨rfl,rfl⟩));go_ret;exact ⟨Z0 (by simp only [Yg];rw [if_neg (by omega),if_neg (by omega),if_pos h]),(Below.refl _ _).alloc (Nat.le_refl _) _⟩
theorem Xfz (r:Int) (w:World) (hk:Xh r=true) (h0:65536<=r) :
  Calls Tryz.prog 174 #[.int .i64 r] w fun e w'=>e=.returned (.string (strOfNums (Yg r)))/\Below w.heap.size w w':=by
 have hbd:=YO r hk;have hcv:=Xf4;go_enter Tryz.func174,Tryz.ntmps174;go_wp2_with (first|(go_at_call 140;refine (Yb _ _).mono ?_;rintro e w' ⟨rfl,rfl⟩)|(go_at_call 201;refine (Xgv _ _ (by omega) (by omega)).mono ?_;rintro e w' ⟨rfl,rfl⟩));go_ret;exact ⟨Z0 (by simp only [Yg];rw [if_neg (by omega),if_neg (by omega),if_neg (by omega)]),(Below.refl _ _).alloc (Nat.le_refl _) _⟩
theorem YR (r:Int) (w:World) :
  Calls Tryz.prog 174 #[.int .i64 r] w fun e w'=>e=.returned (.string (Zt r))/\Below w.heap.size w w':=by
 by_cases hk:Xh r=true
 ·rw [XbK r hk]
  by_cases h1:r<128
  ·exact Xfw r w hk h1
  ·by_cases h2:r<2048
   ·exact Xfx r w hk (by omega) h2
   ·by_cases h3:r<65536
    ·exact Xfy r w hk (by omega) h3
    ·exact Xfz r w hk (by omega)
 ·have hk':Xh r=false:=by simpa using hk
  have hp:Hid (Zt r=⟨#[]⟩):=by show _=_;simp [Zt,hk']
  go_enter Tryz.func174,Tryz.ntmps174;go_wp2_with (go_at_call 140;refine (Yb _ _).mono ?_;rintro e w' ⟨rfl,rfl⟩);go_ret;exact ⟨Z0 hp.out.symm,Below.refl _ _⟩
def CeF (w:World) (B:Nat) (c:Ce):Prop :=
 B<w.heap.size/\(w.cell? ⟨B,0,none⟩=some (.int .i64 c.rune)/\w.cell? ⟨B,1,none⟩=some (.int .i64 c.st.fore)/\w.cell? ⟨B,2,none⟩=some (.int .i64 c.st.back)/\w.cell? ⟨B,3,none⟩=some (.bool c.st.bold)/\w.cell? ⟨B,4,none⟩=some (.bool c.st.under)/\w.cell? ⟨B,5,none⟩=some (.bool c.st.turned)/\w.cell? ⟨B,6,none⟩=some (.int .i64 c.part)) /\
  (w.frozen? ⟨B,0,none⟩=false/\w.frozen? ⟨B,1,none⟩=false/\w.frozen? ⟨B,2,none⟩=false/\w.frozen? ⟨B,3,none⟩=false/\w.frozen? ⟨B,4,none⟩=false/\w.frozen? ⟨B,5,none⟩=false/\w.frozen? ⟨B,6,none⟩=false)
theorem CeF.new (w:World) (c:Ce) (t:TypeId):CeF (w.alloc (.cells #[.int .i64 c.rune,.int .i64 c.st.fore,.int .i64 c.st.back,.bool c.st.bold,.bool c.st.under,.bool c.st.turned,.int .i64 c.part] t)) w.heap.size c :=
 ⟨by simp,⟨by simp [go_sem],by simp [go_sem],by simp [go_sem],by simp [go_sem],by simp [go_sem],by simp [go_sem],by simp [go_sem]⟩,⟨by simp [go_sem],by simp [go_sem],by simp [go_sem],by simp [go_sem],by simp [go_sem],by simp [go_sem],by simp [go_sem]⟩⟩
theorem CeF.grown {w w':World} {B:Nat} {c:Ce} {row:Option Nat} (h:CeF w B c) (hg:w.grownBy w' row) (hr:row≠some B):CeF w' B c:=by
 have hb:=hg.block B h.1 (Ne.symm hr);have hc:∀ k,w'.cell? ⟨B,k,none⟩=w.cell? ⟨B,k,none⟩:=fun k=>World.cell?_of_block (w:=w) hb
 have hz:∀ k,w'.frozen? ⟨B,k,none⟩=w.frozen? ⟨B,k,none⟩:=fun k=>World.frozen?_of_block (w:=w) hb
 refine ⟨Nat.lt_of_lt_of_le h.1 hg.size,?_,?_⟩
 ·rw [hc,hc,hc,hc,hc,hc,hc];exact h.2.1
 ·rw [hz,hz,hz,hz,hz,hz,hz];exact h.2.2
theorem CeF.below {w w':World} {B:Nat} {c:Ce} (h:CeF w B c) (hb:Below w.heap.size w w'):CeF w' B c:=h.grown (gbl hb none) (by simp)
def XgR (w:World) (B:Nat) (c:Ce):World:=(((((((w.setCell ⟨B,0,none⟩ (.int .i64 c.rune)).setCell ⟨B,1,none⟩ (.int .i64 c.st.fore)).setCell ⟨B,2,none⟩ (.int .i64 c.st.back)).setCell ⟨B,3,none⟩ (.bool c.st.bold)).setCell ⟨B,4,none⟩ (.bool c.st.under)).setCell ⟨B,5,none⟩ (.bool c.st.turned)).setCell ⟨B,6,none⟩ (.int .i64 c.part))
theorem XdQ (w:World) (B:Nat) (c:Ce):w.grownBy (XgR w B c) (some B) :=
 Xf (Xf (Xf (Xf (Xf (Xf (sCc w B 0 _) (sCc _ B 1 _)) (sCc _ B 2 _)) (sCc _ B 3 _)) (sCc _ B 4 _)) (sCc _ B 5 _)) (sCc _ B 6 _)
theorem CeF.put {w:World} {B:Nat} {c:Ce} (h:CeF w B c) (c':Ce):CeF (XgR w B c') B c':=by
 obtain ⟨hlt,⟨c0,c1,c2,c3,c4,c5,c6⟩,⟨z0,z1,z2,z3,z4,z5,z6⟩⟩:=h;refine ⟨by simpa [XgR] using hlt,⟨?_,?_,?_,?_,?_,?_,?_⟩,⟨?_,?_,?_,?_,?_,?_,?_⟩⟩
 all_goals simp only [XgR]
 ·rw [Xc _ _ _ _ _ (by decide),Xc _ _ _ _ _ (by decide),Xc _ _ _ _ _ (by decide),Xc _ _ _ _ _ (by decide),Xc _ _ _ _ _ (by decide),Xc _ _ _ _ _ (by decide)];simp [go_sem,c0]
 ·rw [Xc _ _ _ _ _ (by decide),Xc _ _ _ _ _ (by decide),Xc _ _ _ _ _ (by decide),Xc _ _ _ _ _ (by decide),Xc _ _ _ _ _ (by decide)];simp [go_sem,c1]
 ·rw [Xc _ _ _ _ _ (by decide),Xc _ _ _ _ _ (by decide),Xc _ _ _ _ _ (by decide),Xc _ _ _ _ _ (by decide)];simp [go_sem,c2]
 ·rw [Xc _ _ _ _ _ (by decide),Xc _ _ _ _ _ (by decide),Xc _ _ _ _ _ (by decide)];simp [go_sem,c3]
 ·rw [Xc _ _ _ _ _ (by decide),Xc _ _ _ _ _ (by decide)];simp [go_sem,c4]
 ·rw [Xc _ _ _ _ _ (by decide)];simp [go_sem,c5]
 ·simp [go_sem,c6]
 ·simp [go_sem,z0]
 ·simp [go_sem,z1]
 ·simp [go_sem,z2]
 ·simp [go_sem,z3]
 ·simp [go_sem,z4]
 ·simp [go_sem,z5]
 ·simp [go_sem,z6]
theorem SlC.src {w:World} {a:Option Addr} {n c:Nat} {xs:List Ce} (h:SlC w (.slice a n c) xs) (h0:0<xs.length):∃ b off,a=some ⟨b,off,none⟩/\∀ i,i<xs.length->Je w b (off+i*7) (atC xs i):=by
 obtain ⟨a',c',e,_,_,hr⟩:=h;simp only [Value.slice.injEq] at e;obtain ⟨rfl,_,rfl⟩:=e;rcases hr with h|⟨b,off,ha,_,hi⟩
 ·rw [h] at h0;simp at h0
 ·exact ⟨b,off,ha,hi⟩
end Go.Proofs.YtfpopnkhmjkdlaaGreatDoor
namespace Go.Proofs.YtfpopnkhmjkdlaaGreatDoor
open Go.ChangeShapes Go.WideShapes Go.ChangeAt Go.RowKit
attribute [local go_sem ↓] Xhx
def c1B (c:Ce):Bool:=c.st.ok && (if c.part=0 then decide (wdV c.rune=1) else if c.part=1 then decide (wdV c.rune=2) else if c.part=2 then decide (c.rune=0) else false)
theorem Xd6 (c:Ce):c1B c=true ↔ c1 c:=by
 unfold c1B c1;rw [Bool.and_eq_true]
 constructor
 ·rintro ⟨h,h2⟩
  refine ⟨h,?_⟩;split at h2
  ·rename_i e;exact .inl ⟨e,by simpa using h2⟩
  ·split at h2
   ·rename_i e;exact .inr (.inl ⟨e,by simpa using h2⟩)
   ·split at h2
    ·rename_i e;exact .inr (.inr ⟨e,by simpa using h2⟩)
    ·cases h2
 ·rintro ⟨h,⟨e,h2⟩|⟨e,h2⟩|⟨e,h2⟩⟩
  ·exact ⟨h,by rw [if_pos e];simpa using h2⟩
  ·exact ⟨h,by rw [if_neg (by rw [e];decide),if_pos e];simpa using h2⟩
  ·exact ⟨h,by rw [if_neg (by rw [e];decide),if_neg (by rw [e];decide),if_pos e];simpa using h2⟩
def Ki (a c:Ce):Bool:=if a.part=1 then decide (c.part=2) && decide (c.st=a.st) else !decide (c.part=2)
theorem Xc1 (c:Ce) (w:World) (hS:Xo w) :
  Calls Tryz.prog 220 #[ceV c] w fun e w'=>e=.returned (.bool (c1B c))/\Below w.heap.size w w':=by
 obtain ⟨r,⟨f,b,bo,un,tu⟩,p⟩:=c;have hok:=fun W=>Yc ⟨f,b,bo,un,tu⟩ W
 have hwd:=fun W h=>Yr r W h
 have hB:Hid (c1B ⟨r,⟨f,b,bo,un,tu⟩,p⟩=((St.mk f b bo un tu).ok && (if p=0 then decide (wdV r=1) else if p=1 then decide (wdV r=2) else if p=2 then decide (r=0) else false))):=rfl;have hbA:=Xd w (Obj.cells #[.int .i64 r,.int .i64 f,.int .i64 b,.bool bo,.bool un,.bool tu,.int .i64 p] 146);have hlt:=hS.lt;unfold ceV stV at *;generalize (St.mk f b bo un tu).ok=ok at *;generalize wdV r=wd at *
 cases ok
 ·go_enter Tryz.func220,Tryz.ntmps220
  go_wp2_with fail;refine (hok _).mono ?_;rintro e w1 ⟨rfl,hb1⟩;go_wp2;go_ret;exact ⟨by rw [hB.out];rfl,hbA.trans (hb1.mono hbA.size)⟩
 ·have hsp:=hS.below hbA hlt
  have hcp:(w.alloc (Obj.cells #[.int .i64 r,.int .i64 f,.int .i64 b,.bool bo,.bool un,.bool tu,.int .i64 p] 146)).cell? ⟨w.heap.size,6,none⟩=some (.int .i64 p):=by simp [go_sem]
  have hcr:(w.alloc (Obj.cells #[.int .i64 r,.int .i64 f,.int .i64 b,.bool bo,.bool un,.bool tu,.int .i64 p] 146)).cell? ⟨w.heap.size,0,none⟩=some (.int .i64 r):=by simp [go_sem]
  have hsz:w.heap.size<(w.alloc (Obj.cells #[.int .i64 r,.int .i64 f,.int .i64 b,.bool bo,.bool un,.bool tu,.int .i64 p] 146)).heap.size:=by simp
  go_enter Tryz.func220,Tryz.ntmps220;go_wp2_with fail;generalize w.alloc (Obj.cells #[.int .i64 r,.int .i64 f,.int .i64 b,.bool bo,.bool un,.bool tu,.int .i64 p] 146)=W0 at *;refine (hok _).mono ?_;rintro e w1 ⟨rfl,hb1⟩;have d6:w1.cell? ⟨w.heap.size,6,none⟩=some (.int .i64 p):=(hb1.cell (p:=⟨w.heap.size,6,none⟩) hsz).trans hcp;have d0:w1.cell? ⟨w.heap.size,0,none⟩=some (.int .i64 r):=(hb1.cell (p:=⟨w.heap.size,0,none⟩) hsz).trans hcr;have hs1:=hsp.below hb1 hsp.lt;have kb:=hbA.trans (hb1.mono hbA.size);clear hb1 hcp hcr hok hsp hbA hsz;have hwd1:=hwd w1 hs1;clear hwd hs1 hS
  by_cases p0:p=0
  ·have e0:(p==0)=true:=by simp [p0]
   have hB2:Hid (c1B ⟨r,⟨f,b,bo,un,tu⟩,p⟩=decide (wd=1)):=by show _=_;rw [hB.out,if_pos p0];rfl
   clear p0 hB;go_wp2_with fail;refine hwd1.mono ?_;rintro e w2 ⟨rfl,hb2⟩;go_wp2;go_ret;exact ⟨by rw [hB2.out];first|rfl|(simp;done),kb.trans (hb2.mono kb.size)⟩
  ·have e0:(p==0)=false:=by simp [p0]
   by_cases p1:p=1
   ·have e1:(p==1)=true:=by simp [p1]
    have hB2:Hid (c1B ⟨r,⟨f,b,bo,un,tu⟩,p⟩=decide (wd=2)):=by show _=_;rw [hB.out,if_neg p0,if_pos p1];rfl
    clear p0 p1 hB;go_wp2_with fail;refine hwd1.mono ?_;rintro e w2 ⟨rfl,hb2⟩;go_wp2;go_ret;exact ⟨by rw [hB2.out];first|rfl|(simp;done),kb.trans (hb2.mono kb.size)⟩
   ·have e1:(p==1)=false:=by simp [p1]
    clear hwd1
    by_cases p2:p=2
    ·have e2:(p==2)=true:=by simp [p2]
     have hB2:Hid (c1B ⟨r,⟨f,b,bo,un,tu⟩,p⟩=decide (r=0)):=by show _=_;rw [hB.out,if_neg p0,if_neg p1,if_pos p2];rfl
     clear p0 p1 p2 hB;go_wp2;go_ret;exact ⟨by rw [hB2.out];first|rfl|(simp;done),kb⟩
    ·have e2:(p==2)=false:=by simp [p2]
     have hB2:Hid (c1B ⟨r,⟨f,b,bo,un,tu⟩,p⟩=false):=by show _=_;rw [hB.out,if_neg p0,if_neg p1,if_neg p2];rfl
     clear p0 p1 p2 hB;go_wp2;go_ret;exact ⟨by rw [hB2.out];rfl,kb⟩
theorem XeM (a c:Ce) (w:World) :
  Calls Tryz.prog 221 #[ceV a,ceV c] w fun e w'=>e=.returned (.bool (Ki a c))/\Below w.heap.size w w':=by
 have hB:Hid (Ki a c=if a.part=1 then decide (c.part=2) && decide (c.st=a.st) else !decide (c.part=2)):=rfl;have kb:Below w.heap.size w ((w.alloc (Obj.cells #[.int .i64 a.rune,.int .i64 a.st.fore,.int .i64 a.st.back,.bool a.st.bold,.bool a.st.under,.bool a.st.turned,.int .i64 a.part] 146)).alloc (Obj.cells #[.int .i64 c.rune,.int .i64 c.st.fore,.int .i64 c.st.back,.bool c.st.bold,.bool c.st.under,.bool c.st.turned,.int .i64 c.part] 146)):=((Below.refl _ _).alloc (Nat.le_refl _) _).alloc (by simp) _;unfold ceV
 by_cases h1:a.part=1
 ·have b1:(a.part==1)=true:=by simp [h1]
  by_cases h2:c.part=2
  ·have b2:(c.part==2)=true:=by simp [h2]
   have hB2:Hid (Ki a c=decide (c.st=a.st)):=by show _=_;rw [hB.out,if_pos h1,decide_eq_true h2];rfl
   clear h1 h2 hB;go_enter Tryz.func221,Tryz.ntmps221;go_wp2;go_ret;exact ⟨by rw [hB2.out];first|rfl|(simp;done),kb⟩
  ·have b2:(c.part==2)=false:=by simp [h2]
   have hB2:Hid (Ki a c=false):=by show _=_;rw [hB.out,if_pos h1,decide_eq_false h2];rfl
   clear h1 h2 hB;go_enter Tryz.func221,Tryz.ntmps221;go_wp2;go_ret;exact ⟨by rw [hB2.out];first|rfl|(simp;done),kb⟩
 ·have b1:(a.part==1)=false:=by simp [h1]
  have hB2:Hid (Ki a c=!decide (c.part=2)):=by show _=_;rw [hB.out,if_neg h1]
  clear h1 hB;go_enter Tryz.func221,Tryz.ntmps221;go_wp2;go_ret;exact ⟨by rw [hB2.out];first|rfl|(simp;done),kb⟩
end Go.Proofs.YtfpopnkhmjkdlaaGreatDoor
namespace Go.Proofs.YtfpopnkhmjkdlaaGreatDoor
open Go.ChangeShapes Go.WideShapes Go.ChangeAt Go.RowKit
def Kx (n:Int) (s:St):List Ce:=if 1<=n/\n<=60/\s.ok=true then X0 n.toNat s else []
end Go.Proofs.YtfpopnkhmjkdlaaGreatDoor
namespace Go.Proofs.YtfpopnkhmjkdlaaGreatDoor
open Go.ChangeShapes Go.WideShapes Go.ChangeAt Go.WideElems Go.RowKit
theorem Xgi : Tryz.prog.globalNamed "loop.example/g00215/impl.spans" = some 0 := by kernel_rfl
theorem Xh4:(Tryz.prog.globals[0]?).map (·.type)=some 209:=by kernel_rfl
theorem Xh5:Tryz.prog.cellsOf 2=1:=by kernel_rfl
theorem XfS:Tryz.prog.cellsOf 208=3:=by kernel_rfl
theorem Xg9:Tryz.prog.cellsOf 209=18:=by kernel_rfl
section
variable {H : Type} {enc : TypeId × Value → H} {w : World} {base : Nat} {spare : Nat → Bool} {held : Bool}
theorem Xfq {fuel:Nat} {cs:List Value} {a b c:Int} {p:List MemPlace}
  (h:DataW.trod enc Tryz.prog w base spare held fuel 208 cs=some (.agg [.lit (.int .i64 a),.lit (.int .i64 b),.lit (.int .i64 c)],p)):cs=[.int .i64 a,.int .i64 b,.int .i64 c]:=by
 obtain ⟨y0,y1,y2,n,e,hl,h0,h1,h2⟩:=Go.Deep.trod_struct3 Tryz.underlying208 h;rw [XfS] at hl
 simp only [Prod.mk.injEq,DataW.agg.injEq,List.cons.injEq,and_true] at e;obtain ⟨⟨e0,e1,e2⟩,_⟩:=e
 match cs,hl with
 | [x0,x1,x2],_ =>
  obtain ⟨k0,q0,r0,_⟩:=DataW.trod_int Tryz.underlying2 h0;obtain ⟨k1,q1,r1,_⟩:=DataW.trod_int Tryz.underlying2 h1;obtain ⟨k2,q2,r2,_⟩:=DataW.trod_int Tryz.underlying2 h2;subst r0;subst r1;subst r2;simp only [DataW.lit.injEq,Lit.int.injEq,true_and] at e0 e1 e2;subst e0;subst e1;subst e2;rw [Xh5] at q0 q1 q2
  simp at q0 q1 q2;subst q0;subst q1;subst q2
  rfl
theorem XdX {fuel:Nat} {cs:List Value} {p:List MemPlace}
  (h:DataW.trod enc Tryz.prog w base spare held fuel 209 cs=some (Rows.laid_loop_example_g00215_impl_spans,p)):cs=Zm.toList:=by
 obtain ⟨xs,m,rfl,e,hl,hn,hel⟩:=DataW.trod_array Tryz.underlying209 h;rw [Xg9] at hl
 simp only [Rows.laid_loop_example_g00215_impl_spans,Prod.mk.injEq,DataW.agg.injEq] at e;obtain ⟨e,_⟩:=e
 match xs,hn with
 | [x0,x1,x2,x3,x4,x5],_ =>
  simp only [List.map_cons,List.map_nil,List.cons.injEq,and_true] at e;obtain ⟨e0,e1,e2,e3,e4,e5⟩:=e
  have go:∀ (i:Nat) (x:DataW H×List MemPlace) (a b c:Int),i<6->[x0,x1,x2,x3,x4,x5][i]?=some x->DataW.agg [.lit (.int .i64 a),.lit (.int .i64 b),.lit (.int .i64 c)]=x.1->(cs.drop (i*3)).take 3=[.int .i64 a,.int .i64 b,.int .i64 c]:=by
   intro i x a b c hi hx he;have:=hel i hi;rw [XfS,hx] at this
   obtain ⟨x1,x2⟩:=x;simp only at he;rw [<- he] at this
   exact Xfq this
  have g0:=go 0 x0 _ _ _ (by decide) rfl e0;have g1:=go 1 x1 _ _ _ (by decide) rfl e1;have g2:=go 2 x2 _ _ _ (by decide) rfl e2;have g3:=go 3 x3 _ _ _ (by decide) rfl e3;have g4:=go 4 x4 _ _ _ (by decide) rfl e4;have g5:=go 5 x5 _ _ _ (by decide) rfl e5
  match cs,hl with
  | [a0,a1,a2,a3,a4,a5,a6,a7,a8,a9,b0,b1,b2,b3,b4,b5,b6,b7],_ =>
   simp at g0 g1 g2 g3 g4 g5;simp [Zm,g0,g1,g2,g3,g4,g5]
end
theorem XaJ {W : World} (h : laidMetH Tryz.prog [("loop.example/g00215/impl.spans", Rows.laid_loop_example_g00215_impl_spans)] W) : Xo W := by
 rw [MakeChecks.laidMetH_plain _ _ _ (by kernel_rfl)] at h
 obtain ⟨ps,⟨g0,t0,cs0,f0,p0,q0,hg0,ht0,hv0,hd0,_⟩,_⟩:=h;obtain rfl:=Option.some.inj (Xgi.symm.trans hg0);obtain rfl:=Option.some.inj (Xh4.symm.trans ht0);have hcs:=XdX hd0;have e:cs0=Zm:=by cases cs0;simp at hcs;rw [hcs]
 subst e;unfold World.var? at hv0;rw [Xgi] at hv0
 simp only [Option.bind_some] at hv0
 cases hh:W.heap[0]? with
 | none=>rw [hh] at hv0;cases hv0
 | some o =>
  rw [hh] at hv0
  cases o with
  | cells c t fr=>simp at hv0;subst hv0;exact ⟨t,fr,hh⟩
  | _=>simp at hv0
theorem XdW (os : Os) (args : Array Value) : laidMetH Tryz.prog [("loop.example/g00215/impl.spans", Rows.laid_loop_example_g00215_impl_spans)] ((World.doorLaid Tryz.prog 400 os).forCall (fun _ _ => 0) ⟨#[], args, []⟩).memory :=
 laidMetH_of_parts3 (fuel:=8) (laidMet_of_run' 8 (by kernel_rfl) (by kernel_rfl)) (by kernel_rfl) (by kernel_rfl)
