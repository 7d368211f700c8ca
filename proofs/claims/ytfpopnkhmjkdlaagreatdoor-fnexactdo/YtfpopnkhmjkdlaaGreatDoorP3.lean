import Derived.Test.YtfpopnkhmjkdlaaGreatDoorP1
import Derived.Deep.DrawnRows
set_option maxRecDepth 20000
set_option maxHeartbeats 16000000
namespace Go.Proofs.YtfpopnkhmjkdlaaGreatDoor
open Go.ChangeShapes Go.WideShapes Go.ChangeAt Go.RowKit
theorem XhU (w:World):(Instr.makeSlice 22 (.int .i64 1) (.int .i64 1)).run Tryz.prog w=.ok (.slice (some ⟨w.heap.size,0,none⟩) 1 1) (w.alloc (.cells #[.int .u8 0] 5)):=by kernel_rfl
theorem Xf1 (w:World) (g:Nat) (hg:g=w.heap.size) (a:Int):(convert 22 9 (.slice (some ⟨g,0,none⟩) 1 1)).run Tryz.prog (w.alloc (.cells #[.int .u8 a] 5))=.ok (.string (strOfNums [a])) (w.alloc (.cells #[.int .u8 a] 5))  :=by
 subst hg;refine run_convert_bytes_arg _ 22 5 Tryz.underlying22 Tryz.underlying5 _ 0 1 1 [a] rfl ?_ _ Tryz.underlying9;intro i hi
 match i,hi with
 | 0,_=>simp [go_sem]
theorem XhV (w:World):(Instr.makeSlice 22 (.int .i64 2) (.int .i64 2)).run Tryz.prog w=.ok (.slice (some ⟨w.heap.size,0,none⟩) 2 2) (w.alloc (.cells #[.int .u8 0,.int .u8 0] 5)):=by kernel_rfl
theorem Xf2 (w:World) (g:Nat) (hg:g=w.heap.size) (a b:Int):(convert 22 9 (.slice (some ⟨g,0,none⟩) 2 2)).run Tryz.prog (w.alloc (.cells #[.int .u8 a,.int .u8 b] 5))=.ok (.string (strOfNums [a,b])) (w.alloc (.cells #[.int .u8 a,.int .u8 b] 5))  :=by
 subst hg;refine run_convert_bytes_arg _ 22 5 Tryz.underlying22 Tryz.underlying5 _ 0 2 2 [a,b] rfl ?_ _ Tryz.underlying9;intro i hi
 match i,hi with
 | 0,_=>simp [go_sem]
 | 1,_=>simp [go_sem]
theorem XhW (w:World):(Instr.makeSlice 22 (.int .i64 3) (.int .i64 3)).run Tryz.prog w=.ok (.slice (some ⟨w.heap.size,0,none⟩) 3 3) (w.alloc (.cells #[.int .u8 0,.int .u8 0,.int .u8 0] 5)):=by kernel_rfl
theorem Xf3 (w:World) (g:Nat) (hg:g=w.heap.size) (a b c:Int):(convert 22 9 (.slice (some ⟨g,0,none⟩) 3 3)).run Tryz.prog (w.alloc (.cells #[.int .u8 a,.int .u8 b,.int .u8 c] 5))=.ok (.string (strOfNums [a,b,c])) (w.alloc (.cells #[.int .u8 a,.int .u8 b,.int .u8 c] 5))  :=by
 subst hg;refine run_convert_bytes_arg _ 22 5 Tryz.underlying22 Tryz.underlying5 _ 0 3 3 [a,b,c] rfl ?_ _ Tryz.underlying9;intro i hi
 match i,hi with
 | 0,_=>simp [go_sem]
 | 1,_=>simp [go_sem]
 | 2,_=>simp [go_sem]
theorem XhX (w:World):(Instr.makeSlice 22 (.int .i64 4) (.int .i64 4)).run Tryz.prog w=.ok (.slice (some ⟨w.heap.size,0,none⟩) 4 4) (w.alloc (.cells #[.int .u8 0,.int .u8 0,.int .u8 0,.int .u8 0] 5)):=by kernel_rfl
theorem Xf4 (w:World) (g:Nat) (hg:g=w.heap.size) (a b c d:Int):(convert 22 9 (.slice (some ⟨g,0,none⟩) 4 4)).run Tryz.prog (w.alloc (.cells #[.int .u8 a,.int .u8 b,.int .u8 c,.int .u8 d] 5))=.ok (.string (strOfNums [a,b,c,d])) (w.alloc (.cells #[.int .u8 a,.int .u8 b,.int .u8 c,.int .u8 d] 5))  :=by
 subst hg;refine run_convert_bytes_arg _ 22 5 Tryz.underlying22 Tryz.underlying5 _ 0 4 4 [a,b,c,d] rfl ?_ _ Tryz.underlying9;intro i hi
 match i,hi with
 | 0,_=>simp [go_sem]
 | 1,_=>simp [go_sem]
 | 2,_=>simp [go_sem]
 | 3,_=>simp [go_sem]
theorem Z0 {a b:ByteArray} (h:a=b):Ending.returned (.string a)=.returned (.string b):=by rw [h]
theorem Xgs (r:Int) (w:World) (hb:0<=r/\r<=1114111) (h:r<128) :
  Calls Tryz.prog 201 #[.int .i64 r] w fun e w'=>e=.returned (.slice (some ⟨w.heap.size,0,none⟩) 1 1)/\w'=w.alloc (.cells #[.int .u8 r] 5):=by
 go_enter Tryz.func201,Tryz.ntmps201;go_wp2;go_ret;exact ⟨rfl,rfl⟩
theorem Xgt (r:Int) (w:World) (hb:0<=r/\r<=1114111) (h0:128<=r) (h:r<2048) :
  Calls Tryz.prog 201 #[.int .i64 r] w fun e w'=>e=.returned (.slice (some ⟨w.heap.size,0,none⟩) 2 2)/\w'=w.alloc (.cells #[.int .u8 (192+r / 64),.int .u8 (128+r % 64)] 5):=by
 go_enter Tryz.func201,Tryz.ntmps201;go_wp2;go_ret;exact ⟨rfl,rfl⟩
theorem Xgu (r:Int) (w:World) (hb:0<=r/\r<=1114111) (h0:2048<=r) (h:r<65536) :
  Calls Tryz.prog 201 #[.int .i64 r] w fun e w'=>e=.returned (.slice (some ⟨w.heap.size,0,none⟩) 3 3)/\w'=w.alloc (.cells #[.int .u8 (224+r / 4096),.int .u8 (128+r / 64 % 64),.int .u8 (128+r % 64)] 5):=by
 go_enter Tryz.func201,Tryz.ntmps201;go_wp2;go_ret;exact ⟨rfl,rfl⟩
theorem Xgv (r:Int) (w:World) (hb:0<=r/\r<=1114111) (h0:65536<=r) :
  Calls Tryz.prog 201 #[.int .i64 r] w fun e w'=>e=.returned (.slice (some ⟨w.heap.size,0,none⟩) 4 4)/\w'=w.alloc (.cells #[.int .u8 (240+r / 262144),.int .u8 (128+r / 4096 % 64),.int .u8 (128+r / 64 % 64),.int .u8 (128+r % 64)] 5):=by
 go_enter Tryz.func201,Tryz.ntmps201;go_wp2;go_ret;exact ⟨rfl,rfl⟩
theorem XeH (r:Int) (w:World) (hk:Xh r=true) (h:r<128) :
  Calls Tryz.prog 242 #[.int .i64 r] w fun e w'=>e=.returned (.string (strOfNums (Yg r)))/\Below w.heap.size w w':=by
 have hbd:=YO r hk;have hpl:Hid (Yg r=_):=XbJ r h;have hmk:=XhU;have hcv:=Xf1;go_enter Tryz.func242,Tryz.ntmps242;go_wp2_with (first|(go_at_call 119;refine (iRo _ _).mono ?_;rintro e w' ⟨rfl,rfl⟩)|(go_at_call 266;refine (Xge _ _ (by omega)).mono ?_;rintro e w' ⟨rfl,hb⟩));refine wp_loop_rounds 1 ?_;rw [rounds_succ]
 go_wp2;go_ret;exact ⟨Z0 (by rw [hpl.out]),((hb.alloc hb.size _).alloc (by have:=hb.size;simp;omega) _)⟩
theorem XeI (r:Int) (w:World) (hk:Xh r=true) (h0:128<=r) (h:r<2048) :
  Calls Tryz.prog 242 #[.int .i64 r] w fun e w'=>e=.returned (.string (strOfNums (Yg r)))/\Below w.heap.size w w':=by
 have hbd:=YO r hk;have hpl:Hid (Yg r=_):=XgS r h0 h;have hmk:=XhV;have hcv:=Xf2;go_enter Tryz.func242,Tryz.ntmps242;go_wp2_with (first|(go_at_call 119;refine (iRo _ _).mono ?_;rintro e w' ⟨rfl,rfl⟩)|(go_at_call 266;refine (Xgf _ _ (by omega) (by omega)).mono ?_;rintro e w' ⟨rfl,hb⟩));refine wp_loop_rounds 2 ?_;rw [rounds_succ]
 go_wp2;rw [rounds_succ]
 go_wp2;go_ret;exact ⟨Z0 (by rw [hpl.out]),((hb.alloc hb.size _).alloc (by have:=hb.size;simp;omega) _)⟩
theorem XeJ (r:Int) (w:World) (hk:Xh r=true) (h0:2048<=r) (h:r<65536) :
  Calls Tryz.prog 242 #[.int .i64 r] w fun e w'=>e=.returned (.string (strOfNums (Yg r)))/\Below w.heap.size w w':=by
 have hbd:=YO r hk;have hpl:Hid (Yg r=_):=Xh0 r h0 h;have hmk:=XhW;have hcv:=Xf3;go_enter Tryz.func242,Tryz.ntmps242;go_wp2_with (first|(go_at_call 119;refine (iRo _ _).mono ?_;rintro e w' ⟨rfl,rfl⟩)|(go_at_call 266;refine (Xgg _ _ (by omega) (by omega)).mono ?_;rintro e w' ⟨rfl,hb⟩));refine wp_loop_rounds 3 ?_;rw [rounds_succ]
 go_wp2;rw [rounds_succ]
 go_wp2;rw [rounds_succ]
 go_wp2;go_ret;exact ⟨Z0 (by rw [hpl.out]),((hb.alloc hb.size _).alloc (by have:=hb.size;simp;omega) _)⟩
theorem XeK (r:Int) (w:World) (hk:Xh r=true) (h0:65536<=r) :
  Calls Tryz.prog 242 #[.int .i64 r] w fun e w'=>e=.returned (.string (strOfNums (Yg r)))/\Below w.heap.size w w':=by
 have hbd:=YO r hk;have hpl:Hid (Yg r=_):=Xh1 r h0;have hmk:=XhX;have hcv:=Xf4;go_enter Tryz.func242,Tryz.ntmps242;go_wp2_with (first|(go_at_call 119;refine (iRo _ _).mono ?_;rintro e w' ⟨rfl,rfl⟩)|(go_at_call 266;refine (Xgh _ _ (by omega) (by omega)).mono ?_;rintro e w' ⟨rfl,hb⟩));refine wp_loop_rounds 4 ?_;rw [rounds_succ]
 go_wp2;rw [rounds_succ]
 go_wp2;rw [rounds_succ]
 go_wp2;rw [rounds_succ]
 go_wp2;go_ret;exact ⟨Z0 (by rw [hpl.out]),((hb.alloc hb.size _).alloc (by have:=hb.size;simp;omega) _)⟩
theorem Qg (r:Int) (w:World) :
  Calls Tryz.prog 242 #[.int .i64 r] w fun e w'=>e=.returned (.string (Zt r))/\Below w.heap.size w w':=by
 by_cases hk:Xh r=true
 ·rw [XbK r hk]
  by_cases h1:r<128
  ·exact XeH r w hk h1
  ·by_cases h2:r<2048
   ·exact XeI r w hk (by omega) h2
   ·by_cases h3:r<65536
    ·exact XeJ r w hk (by omega) h3
    ·exact XeK r w hk (by omega)
 ·have hk':Xh r=false:=by simpa using hk
  have hp:Hid (Zt r=⟨#[]⟩):=by show _=_;simp [Zt,hk']
  go_enter Tryz.func242,Tryz.ntmps242;go_wp2_with (go_at_call 119;refine (iRo _ _).mono ?_;rintro e w' ⟨rfl,rfl⟩);go_ret;exact ⟨Z0 hp.out.symm,Below.refl _ _⟩
theorem Xcl (s:St) (n:Int) (w:World) :
  Calls Tryz.prog 247 #[stV s,.int .i64 n] w fun e w'=>e=.returned (stV (Yf s n))/\Below w.heap.size w w':=by
 obtain ⟨f,b,bo,un,tu⟩:=s;unfold stV;simp only;go_enter Tryz.func247,Tryz.ntmps247;go_wp2_with (go_at_call 73;refine (XQ _ _ _ _).mono ?_;rintro e w' ⟨rfl,hw⟩;subst hw)
 all_goals
  refine bodyPost_ret (v:=stV (Yf ⟨f,b,bo,un,tu⟩ n)) ?_ rfl ⟨rfl,?_⟩
  ·(try simp only [beq_iff_eq,beq_eq_false_iff_ne,ne_eq] at *)
   unfold Yf
   repeat' split
   all_goals first
    | (exfalso;omega)
    | (simp [results,Tryz.results247,go_sem,stV,St.zero];done)
    | (simp [results,Tryz.results247,go_sem,stV, *];done)
    | (simp [results,Tryz.results247,go_sem,stV,St.zero];omega)
  ·exact ((Below.refl _ _).alloc (Nat.le_refl _) _).alloc (by simp) _
end Go.Proofs.YtfpopnkhmjkdlaaGreatDoor
namespace Go.Proofs.YtfpopnkhmjkdlaaGreatDoor
open Go.ChangeShapes Go.WideShapes Go.ChangeAt Go.RowKit
attribute [local go_sem ↓] Go.wp_at_zero Go.wp_at_succ
def KS (B2 B4 bb o:Nat) (n:Int) (s z:St) (w0 W:World):Prop:=XT W B2 s/\XT W B4 z/\(bb<w0.heap.size/\W.cell? ⟨bb,o,none⟩=some (.int .i64 n))/\Below w0.heap.size w0 W
theorem KS.below {B2 B4 bb o:Nat} {n:Int} {s z:St} {w0 W W':World} (k:KS B2 B4 bb o n s z w0 W) (hb:Below W.heap.size W W'):KS B2 B4 bb o n s z w0 W' :=
 ⟨k.1.below hb,k.2.1.below hb,⟨k.2.2.1.1,(hb.cell (p:=⟨bb,o,none⟩) (Nat.lt_of_lt_of_le k.2.2.1.1 k.2.2.2.size)).trans k.2.2.1.2⟩,k.2.2.2.trans (hb.mono k.2.2.2.size)⟩
theorem Xdi (B2 B4 bb o:Nat) (n:Int) (s z:St) (w0 W:World) (k:W.cell? ⟨B2,0,none⟩=some (.int .i64 s.fore)/\W.cell? ⟨B2,1,none⟩=some (.int .i64 s.back)/\W.cell? ⟨B2,2,none⟩=some (.bool s.bold)/\W.cell? ⟨B2,3,none⟩=some (.bool s.under)/\W.cell? ⟨B2,4,none⟩=some (.bool s.turned)/\W.cell? ⟨bb,o,none⟩=some (.int .i64 n)/\KS B2 B4 bb o n s z w0 W) :
  Calls Tryz.prog 247 #[stV s,.int .i64 n] W fun e w'=>e=.returned (.agg #[.int .i64 (Yf s n).fore,.int .i64 (Yf s n).back,.bool (Yf s n).bold,.bool (Yf s n).under,.bool (Yf s n).turned])/\(w'.cell? ⟨B2,0,none⟩=some (.int .i64 s.fore)/\w'.cell? ⟨B2,1,none⟩=some (.int .i64 s.back)/\w'.cell? ⟨B2,2,none⟩=some (.bool s.bold)/\w'.cell? ⟨B2,3,none⟩=some (.bool s.under)/\w'.cell? ⟨B2,4,none⟩=some (.bool s.turned)/\w'.cell? ⟨bb,o,none⟩=some (.int .i64 n)/\KS B2 B4 bb o n s z w0 w') :=
 (Xcl s n W).mono fun _ _ ⟨he,hb⟩=>by
  have kb:=k.2.2.2.2.2.2.below hb;exact ⟨he,kb.1.2.1.1,kb.1.2.1.2.1,kb.1.2.1.2.2.1,kb.1.2.1.2.2.2.1,kb.1.2.1.2.2.2.2,kb.2.2.1.2,kb⟩
theorem KS.all {B2 B4 bb o:Nat} {n:Int} {s z:St} {w0 W:World} (kb:KS B2 B4 bb o n s z w0 W):W.cell? ⟨B2,0,none⟩=some (.int .i64 s.fore)/\W.cell? ⟨B2,1,none⟩=some (.int .i64 s.back)/\W.cell? ⟨B2,2,none⟩=some (.bool s.bold)/\W.cell? ⟨B2,3,none⟩=some (.bool s.under)/\W.cell? ⟨B2,4,none⟩=some (.bool s.turned)/\W.cell? ⟨bb,o,none⟩=some (.int .i64 n)/\KS B2 B4 bb o n s z w0 W :=
 ⟨kb.1.2.1.1,kb.1.2.1.2.1,kb.1.2.1.2.2.1,kb.1.2.1.2.2.2.1,kb.1.2.1.2.2.2.2,kb.2.2.1.2,kb⟩
theorem Xbz (s:St) (v:Value) (xs:List Int) (w:World) (hv:SlI w v xs) (hl:xs.length<=1048576) (hne:xs≠[]) :
  Calls Tryz.prog 218 #[stV s,v] w fun e w'=>e=.returned (stV (X8 s xs))/\Below w.heap.size w w':=by
 obtain ⟨f,b,bo,un,tu⟩:=s;obtain ⟨_,c,rfl,e|⟨bb,off,rfl,hbb,hc⟩⟩:=hv
 ·exact absurd e hne
 ·have hx0:0<xs.length:=List.length_pos_iff.2 hne
  have hxz:((xs.length:Int)==0)=false:=by simp;exact hne
  unfold stV;simp only;go_enter Tryz.func218,Tryz.ntmps218;go_wp2;have h2:=XT.new w ⟨f,b,bo,un,tu⟩ 28;have h4:=XT.new (w.alloc (Obj.cells #[.int .i64 f,.int .i64 b,.bool bo,.bool un,.bool tu] 28)) St.zero 28;have h2':=h2.below (w':=(w.alloc (Obj.cells #[.int .i64 f,.int .i64 b,.bool bo,.bool un,.bool tu] 28)).alloc (Obj.cells #[.int .i64 0,.int .i64 0,.bool false,.bool false,.bool false] 28)) ((Below.refl _ _).alloc (Nat.le_refl _) _);have e4:(w.alloc (Obj.cells #[.int .i64 f,.int .i64 b,.bool bo,.bool un,.bool tu] 28)).heap.size=w.heap.size+1:=by simp
  rw [e4] at h4
  have hbA:Below w.heap.size w ((w.alloc (Obj.cells #[.int .i64 f,.int .i64 b,.bool bo,.bool un,.bool tu] 28)).alloc (Obj.cells #[.int .i64 0,.int .i64 0,.bool false,.bool false,.bool false] 28)):=((Below.refl _ _).alloc (Nat.le_refl _) _).alloc (by simp) _;go_loopw [5] (fun i wr=>∃ j:Nat,i=.int .i64 j/\j<=xs.length/\XT wr w.heap.size (X8 ⟨f,b,bo,un,tu⟩ (xs.take j))/\XT wr (w.heap.size+1) St.zero/\Below w.heap.size w wr) (fun i _=>xs.length-(intOf i).toNat)
  case atStart=>exact ⟨0,rfl,Nat.zero_le _,h2',h4,hbA⟩
  case round =>
   clear h2 h4 h2' e4 hbA;obtain ⟨j,rfl,hj,k2,k4,kb⟩:=hrel
   by_cases hlt:j<xs.length
   ·have hji:(j:Int)<(xs.length:Int):=by omega
    have hj0:(0:Int)<=(j:Int):=by omega
    have hst:Hid (X8 ⟨f,b,bo,un,tu⟩ (xs.take (j+1))=Yf (X8 ⟨f,b,bo,un,tu⟩ (xs.take j)) (xs.getD j 0)):=by
     show _=_
     rw [List.take_succ_eq_append_getElem hlt,X8,List.foldl_append]
     simp [X8,hlt]
    have hcj:=(kb.cell (p:=⟨bb,off+j,none⟩) hbb).trans (hc j hlt);generalize xs.getD j 0=n at *;generalize X8 ⟨f,b,bo,un,tu⟩ (xs.take j)=y at *;have k:KS w.heap.size (w.heap.size+1) bb (off+j) n y St.zero w wr:=⟨k2,k4,⟨hbb,hcj⟩,kb⟩;obtain ⟨_,⟨c0,c1,c2,c3,c4⟩,⟨z0,z1,z2,z3,z4⟩⟩:=k2;clear hc;go_wp2;go_region_with (first|(go_at_call 247;refine (Xdi w.heap.size (w.heap.size+1) bb (off+j) n y St.zero w _ ?_).mono ?_;(first|exact k.all|exact (k.below (bdr _)).all);rintro e wk ⟨rfl,hk⟩;obtain ⟨_,⟨d0,d1,d2,d3,d4⟩,⟨x0,x1,x2,x3,x4⟩⟩:=hk.2.2.2.2.2.2.1))
    all_goals
     have k2':=hk.2.2.2.2.2.2.1.put (Yf y n);have k4':=hk.2.2.2.2.2.2.2.1.grown (Zz wk w.heap.size (Yf y n)) (by simp);have kb':=UA hk.2.2.2.2.2.2.2.2.2 (Zz wk w.heap.size (Yf y n)) (Nat.le_refl _);simp only [UG] at k2' k4' kb';clear hk d0 d1 d2 d3 d4 x0 x1 x2 x3 x4 k c0 c1 c2 c3 c4 z0 z1 z2 z3 z4;generalize ((((wk.setCell ⟨w.heap.size,0,none⟩ (.int .i64 (Yf y n).fore)).setCell ⟨w.heap.size,1,none⟩ (.int .i64 (Yf y n).back)).setCell ⟨w.heap.size,2,none⟩ (.bool (Yf y n).bold)).setCell ⟨w.heap.size,3,none⟩ (.bool (Yf y n).under)).setCell ⟨w.heap.size,4,none⟩ (.bool (Yf y n).turned)=Wf at *;go_wp2;go_roundw
     case rel =>
      exact ⟨j+1,by go_num,by omega,by rw [hst.out];exact k2',k4',kb'⟩
     case measure=>simp [intOf];omega
   ·have hjn:j=xs.length:=by omega
    have hji:¬ (j:Int)<(xs.length:Int):=by omega
    rw [hjn,List.take_length] at k2
    clear hc;have hyy:Hid (∃ y,y=X8 ⟨f,b,bo,un,tu⟩ xs):=⟨_,rfl⟩;obtain ⟨y,hy⟩:=hyy.out;rw [<- hy] at k2
    have HY:Hid (y=X8 ⟨f,b,bo,un,tu⟩ xs):=hy;clear hy hyy;have kP:=k4.put y;have kbP:=UA kb (Zz wr (w.heap.size+1) y) (by omega);obtain ⟨_,⟨c0,c1,c2,c3,c4⟩,⟨z0,z1,z2,z3,z4⟩⟩:=k2;obtain ⟨_,⟨d0,d1,d2,d3,d4⟩,⟨x0,x1,x2,x3,x4⟩⟩:=k4;obtain ⟨_,⟨e0,e1,e2,e3,e4⟩,_⟩:=kP;simp only [UG] at kbP e0 e1 e2 e3 e4;go_wp2;exact bodyPost_ret (v:=.agg #[.int .i64 y.fore,.int .i64 y.back,.bool y.bold,.bool y.under,.bool y.turned]) (by simp [results,Tryz.results218,go_sem,e0,e1,e2,e3,e4]) rfl ⟨by rw [<- HY.out],kbP⟩
